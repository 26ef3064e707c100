/- Lemmas, part 4. -/
import Derived.Deep.RegionLaw
import Derived.Laws.OwnMore
import Derived.Deep.DeepCutAuto
import Derived.Test.YtkajmglpmdhmnaaGRe3
/- wide.DivMod. -/
namespace Go.Proofs.Ytkajmglpmdhmnaa
open Go.RowKit

/-- A call returns two numbers and an error. -/
def RWW (w : World) (n1 : Bool) (l1 : List Nat) (n2 : Bool) (l2 : List Nat) (err : Int) (e : Ending) (w' : World) : Prop :=
  ∃ A n c A' n' c', e = .returned (.tuple #[.agg #[.bool n1, .slice A n c], .agg #[.bool n2, .slice A' n' c'], .int .i64 err]) ∧ Lm w' w'.heap.size A n c l1 ∧ Lm w' w'.heap.size A' n' c' l2 ∧ Below w.heap.size w w'

set_option maxRecDepth 100000 in
set_option maxHeartbeats 1000000 in
theorem divmod_bad (w : World) (na nb : Bool) (A B : Option Addr) (n m ca cb : Nat) (xs ys : List Nat) (hA : Lm w w.heap.size A n ca xs) (hB : Lm w w.heap.size B m cb ys) (hv : chkB na xs nb ys = 8) :
    Calls Try.prog 12 #[.agg #[.bool na, .slice A n ca], .agg #[.bool nb, .slice B m cb]] w (RWW w false [] false [] 8) := by
  have HA := Lib.hid hA
  have HB := Lib.hid hB
  have HV := Lib.hid hv
  clear hv
  go_enter Try.func12, Try.ntmps12
  go_wp2_with fail
  refine (both_any _ _ _ _ _ _ _ _ _ _ _ 8 ((((HA.out.box _).box _).box _).box _) ((((HB.out.box _).box _).box _).box _) HV.out).mono ?_
  rintro e w1 ⟨rfl, hb1⟩
  have ⟨_, _, PQ, PR⟩ := boxes4 hb1
  have ⟨q0, q1, qf0, qf1, ql⟩ := PQ
  have ⟨r0, r1, rf0, rf1, rl⟩ := PR
  have HB1 := Lib.hid (bbox (bbox (bbox (bbox hb1))))
  clear hb1
  go_wp2
  refine post_ww Try.results12 rfl rfl rfl ((PQ.set (.bool false) (.slice none 0 0)).far (by omega) _ _) ((PR.far (by omega) _ _).set _ _) ⟨none, 0, 0, none, 0, 0, rfl, Lm.nil _ _, Lm.nil _ _, below_set2 (below_set2 HB1.out (by omega) _ _) (by omega) _ _⟩

set_option maxRecDepth 100000 in
set_option maxHeartbeats 1000000 in
theorem divmod_zero (w : World) (na nb : Bool) (A B : Option Addr) (n ca cb : Nat) (xs : List Nat) (hA : Lm w w.heap.size A n ca xs) (hB : Lm w w.heap.size B 0 cb []) (hv : chkB na xs nb [] = 0) :
    Calls Try.prog 12 #[.agg #[.bool na, .slice A n ca], .agg #[.bool nb, .slice B 0 cb]] w (RWW w false [] false [] 18) := by
  have HA := Lib.hid hA
  have HB := Lib.hid hB
  have HV := Lib.hid hv
  clear hv
  go_enter Try.func12, Try.ntmps12
  go_wp2_with fail
  refine (both_any _ _ _ _ _ _ _ _ _ _ _ 0 ((((HA.out.box _).box _).box _).box _) ((((HB.out.box _).box _).box _).box _) HV.out).mono ?_
  rintro e w1 ⟨rfl, hb1⟩
  have ⟨_, PB, PQ, PR⟩ := boxes4 hb1
  obtain ⟨b0, b1, bf0, bf1, bl⟩ := PB
  have ⟨q0, q1, qf0, qf1, ql⟩ := PQ
  have ⟨r0, r1, rf0, rf1, rl⟩ := PR
  have HB1 := Lib.hid (bbox (bbox (bbox (bbox hb1))))
  clear hb1
  go_wp2
  refine post_ww Try.results12 rfl rfl rfl ((Pr.set ⟨q0, q1, qf0, qf1, ql⟩ (.bool false) (.slice none 0 0)).far (by omega) _ _) ((Pr.far ⟨r0, r1, rf0, rf1, rl⟩ (by omega) _ _).set _ _) ⟨none, 0, 0, none, 0, 0, rfl, Lm.nil _ _, Lm.nil _ _, below_set2 (below_set2 HB1.out (by omega) _ _) (by omega) _ _⟩

/-! ### DivMod where the remainder is 0 or the signs agree, and where not -/
set_option maxRecDepth 100000 in
set_option maxHeartbeats 2000000 in
theorem divmod_same (w : World) (na nb : Bool) (A B : Option Addr) (n m ca cb a b : Nat) (hA : Lm w w.heap.size A n ca (digs a)) (hB : Lm w w.heap.size B m cb (digs b)) (hv : chkB na (digs a) nb (digs b) = 0) (hb : 0 < b) (hs : na = nb) :
    Calls Try.prog 12 #[.agg #[.bool na, .slice A n ca], .agg #[.bool nb, .slice B m cb]] w (RWW w (mkN false (a / b)) (digs (a / b)) (mkN nb (a % b)) (digs (a % b)) 0) := by
  have h41 := (chk_ok.1 (chkB_ok.1 hv).1).1
  have h42 := (chk_ok.1 (chkB_ok.1 hv).2).1
  have hq : (digs (a / b)).length ≤ 4096 := Nat.le_trans (digs_mono (Nat.div_le_self a b)) h41
  have hr : (digs (a % b)).length ≤ 4096 := Nat.le_trans (digs_mono (Nat.le_of_lt (Nat.mod_lt a hb))) h42
  have HLq : Hid (mkL (a / b) = digs (a / b)) := by show _ = _; unfold mkL; rw [if_pos hq]
  have HLr : Hid (mkL (a % b) = digs (a % b)) := by show _ = _; unfold mkL; rw [if_pos hr]
  rw [hA.len] at h41
  rw [hB.len] at h42
  have hm0 : 0 < m := by rw [← hB.len, digs_pos]; exact hb
  have hm1 : ((m : Int) == 0) = false := by simp; omega
  have hcB := hB.cap
  have hxB := hB.max
  have HA := Lib.hid hA
  have HB := Lib.hid hB
  have HV := Lib.hid hv
  have hrl : decide (0 < (digs (a % b)).length) = decide (0 < a % b) := decide_eq_decide.2 digs_pos
  clear hrl
  clear hv
  subst hs
  cases na
  · go_enter Try.func12, Try.ntmps12
    go_wp2_with fail
    refine (both_any _ _ _ _ _ _ _ _ _ _ _ 0 ((((HA.out.box _).box _).box _).box _) ((((HB.out.box _).box _).box _).box _) HV.out).mono ?_
    rintro e w1 ⟨rfl, hb1⟩
    have ⟨PA, PB, PQ, PR⟩ := boxes4 hb1
    have LA1 := Lib.hid (((((HA.out.box _).box _).box _).box _).via hb1)
    have LB1 := Lib.hid (((((HB.out.box _).box _).box _).box _).via hb1)
    have HB1 := Lib.hid (bbox (bbox (bbox (bbox hb1))))
    have ⟨a0, a1, _, _, _⟩ := PA
    have ⟨b0, b1, _, _, _⟩ := PB
    clear hb1
    go_wp2_with fail
    refine (divide_any w1 A B n m ca cb a b LA1.out LB1.out hb (by omega)).mono ?_
    rintro e w2 ⟨Q, cq, R, cr, rfl, hQ, hR, hb2⟩
    have PA2 := PA.via hb2
    have PB2 := PB.via hb2
    have PQ2 := PQ.via hb2
    have PR2 := PR.via hb2
    have HB2 := Lib.hid (HB1.out.trans (hb2.mono HB1.out.size))
    have HQ := Lib.hid hQ
    have HR := Lib.hid hR
    have LB2 := Lib.hid (LB1.out.via hb2)
    clear PA PB PQ PR LA1 LB1 HB1 a0 a1 b0 b1 hb2 hQ hR
    have ⟨a0, a1, _, _, _⟩ := PA2
    have ⟨b0, b1, _, _, _⟩ := PB2
    go_wp2_with fail
    refine (made_any _ _ _ _ _ (a / b) HQ.out).mono ?_
    rintro e w3 ⟨A3, n3, c3, rfl, hL3, hb3⟩
    rw [HLq.out] at hL3
    have PB3 := PB2.via hb3
    have PQ3 := PQ2.via hb3
    have PR3 := PR2.via hb3
    have HB3 := Lib.hid (HB2.out.trans (hb3.mono HB2.out.size))
    have HR3 := Lib.hid (HR.out.via hb3)
    have HL3 := Lib.hid hL3
    clear PA2 PB2 PQ2 PR2 HQ HR HB2 hb3 hL3 a0 a1 b0 b1
    have ⟨q0, q1, qf0, qf1, ql⟩ := PQ3
    have X4 := Lib.hid (PB3.far (h := w.heap.size + 1 + 1) (by omega) (.bool (mkN false (a / b))) (.slice A3 n3 c3))
    have PQ4 := PQ3.set (.bool (mkN false (a / b))) (.slice A3 n3 c3)
    have PR4 := PR3.far (h := w.heap.size + 1 + 1) (by omega) (.bool (mkN false (a / b))) (.slice A3 n3 c3)
    have HR4 := Lib.hid (HR3.out.setP PQ3 (.bool (mkN false (a / b))) (.slice A3 n3 c3))
    have HL4 := Lib.hid (HL3.out.setP PQ3 (.bool (mkN false (a / b))) (.slice A3 n3 c3))
    have PB4 := X4.out
    have ⟨b0, b1, _, _, _⟩ := PB4
    go_wp2_with fail
    refine (made_any _ _ _ _ _ (a % b) HR4.out).mono ?_
    rintro e w5 ⟨A5, n5, c5, rfl, hL5, hb5⟩
    rw [HLr.out] at hL5
    have PQ5 := PQ4.via hb5
    have PR5 := PR4.via hb5
    have HB5 := Lib.hid ((below_set2 HB3.out (by omega) (.bool (mkN false (a / b))) (.slice A3 n3 c3)).trans (hb5.mono (by rw [size_set2]; exact HB3.out.size)))
    have HL5 := Lib.hid (HL4.out.via hb5)
    have HM5 := Lib.hid hL5
    clear X4 HR3 HL3 HR4 HL4 PB3 PQ3 PR3 PQ4 PR4 PB4 hb5 hL5 q0 q1 qf0 qf1 b0 b1 HB3
    have ⟨r0, r1, rf0, rf1, rl⟩ := PR5
    have PQ6 := PQ5.far (h := w.heap.size + 1 + 1 + 1) (by omega) (.bool (mkN false (a % b))) (.slice A5 n5 c5)
    have PR6 := PR5.set (.bool (mkN false (a % b))) (.slice A5 n5 c5)
    have HL6 := Lib.hid (HL5.out.setP PR5 (.bool (mkN false (a % b))) (.slice A5 n5 c5))
    have HM6 := Lib.hid (HM5.out.setP PR5 (.bool (mkN false (a % b))) (.slice A5 n5 c5))
    have HB6 := Lib.hid (below_set2 HB5.out (by omega) (.bool (mkN false (a % b))) (.slice A5 n5 c5) (g := w.heap.size + 1 + 1 + 1))
    go_wp2_with fail
    generalize ((w5.setCell ⟨w.heap.size + 1 + 1 + 1, 0, none⟩ (.bool (mkN false (a % b)))).setCell ⟨w.heap.size + 1 + 1 + 1, 1, none⟩ (.slice A5 n5 c5)) = w6 at *
    clear PQ5 PR5 HL5 HM5 HB5 r0 r1 rf0 rf1 rl
    have ⟨q0, q1, qf0, qf1, ql⟩ := PQ6
    have ⟨r0, r1, rf0, rf1, rl⟩ := PR6
    go_region
    go_wp2
    refine post_ww Try.results12 rfl rfl rfl ((PQ6.set _ _).far (by omega) _ _).drew ((PR6.far (by omega) _ _).set _ _).drew ⟨A3, n3, c3, A5, n5, c5, rfl, ?_, ?_, ?_⟩
    · exact ((HL6.out.setP PQ6 _ _).setP (PR6.far (by omega) _ _) _ _).drew
    · exact ((HM6.out.setP PQ6 _ _).setP (PR6.far (by omega) _ _) _ _).drew
    · exact (below_set2 (below_set2 HB6.out (by omega) _ _) (by omega) _ _).drew
  · go_enter Try.func12, Try.ntmps12
    go_wp2_with fail
    refine (both_any _ _ _ _ _ _ _ _ _ _ _ 0 ((((HA.out.box _).box _).box _).box _) ((((HB.out.box _).box _).box _).box _) HV.out).mono ?_
    rintro e w1 ⟨rfl, hb1⟩
    have ⟨PA, PB, PQ, PR⟩ := boxes4 hb1
    have LA1 := Lib.hid (((((HA.out.box _).box _).box _).box _).via hb1)
    have LB1 := Lib.hid (((((HB.out.box _).box _).box _).box _).via hb1)
    have HB1 := Lib.hid (bbox (bbox (bbox (bbox hb1))))
    have ⟨a0, a1, _, _, _⟩ := PA
    have ⟨b0, b1, _, _, _⟩ := PB
    clear hb1
    go_wp2_with fail
    refine (divide_any w1 A B n m ca cb a b LA1.out LB1.out hb (by omega)).mono ?_
    rintro e w2 ⟨Q, cq, R, cr, rfl, hQ, hR, hb2⟩
    have PA2 := PA.via hb2
    have PB2 := PB.via hb2
    have PQ2 := PQ.via hb2
    have PR2 := PR.via hb2
    have HB2 := Lib.hid (HB1.out.trans (hb2.mono HB1.out.size))
    have HQ := Lib.hid hQ
    have HR := Lib.hid hR
    have LB2 := Lib.hid (LB1.out.via hb2)
    clear PA PB PQ PR LA1 LB1 HB1 a0 a1 b0 b1 hb2 hQ hR
    have ⟨a0, a1, _, _, _⟩ := PA2
    have ⟨b0, b1, _, _, _⟩ := PB2
    go_wp2_with fail
    refine (made_any _ _ _ _ _ (a / b) HQ.out).mono ?_
    rintro e w3 ⟨A3, n3, c3, rfl, hL3, hb3⟩
    rw [HLq.out] at hL3
    have PB3 := PB2.via hb3
    have PQ3 := PQ2.via hb3
    have PR3 := PR2.via hb3
    have HB3 := Lib.hid (HB2.out.trans (hb3.mono HB2.out.size))
    have HR3 := Lib.hid (HR.out.via hb3)
    have HL3 := Lib.hid hL3
    clear PA2 PB2 PQ2 PR2 HQ HR HB2 hb3 hL3 a0 a1 b0 b1
    have ⟨q0, q1, qf0, qf1, ql⟩ := PQ3
    have X4 := Lib.hid (PB3.far (h := w.heap.size + 1 + 1) (by omega) (.bool (mkN false (a / b))) (.slice A3 n3 c3))
    have PQ4 := PQ3.set (.bool (mkN false (a / b))) (.slice A3 n3 c3)
    have PR4 := PR3.far (h := w.heap.size + 1 + 1) (by omega) (.bool (mkN false (a / b))) (.slice A3 n3 c3)
    have HR4 := Lib.hid (HR3.out.setP PQ3 (.bool (mkN false (a / b))) (.slice A3 n3 c3))
    have HL4 := Lib.hid (HL3.out.setP PQ3 (.bool (mkN false (a / b))) (.slice A3 n3 c3))
    have PB4 := X4.out
    have ⟨b0, b1, _, _, _⟩ := PB4
    go_wp2_with fail
    refine (made_any _ _ _ _ _ (a % b) HR4.out).mono ?_
    rintro e w5 ⟨A5, n5, c5, rfl, hL5, hb5⟩
    rw [HLr.out] at hL5
    have PQ5 := PQ4.via hb5
    have PR5 := PR4.via hb5
    have HB5 := Lib.hid ((below_set2 HB3.out (by omega) (.bool (mkN false (a / b))) (.slice A3 n3 c3)).trans (hb5.mono (by rw [size_set2]; exact HB3.out.size)))
    have HL5 := Lib.hid (HL4.out.via hb5)
    have HM5 := Lib.hid hL5
    clear X4 HR3 HL3 HR4 HL4 PB3 PQ3 PR3 PQ4 PR4 PB4 hb5 hL5 q0 q1 qf0 qf1 b0 b1 HB3
    have ⟨r0, r1, rf0, rf1, rl⟩ := PR5
    have PQ6 := PQ5.far (h := w.heap.size + 1 + 1 + 1) (by omega) (.bool (mkN true (a % b))) (.slice A5 n5 c5)
    have PR6 := PR5.set (.bool (mkN true (a % b))) (.slice A5 n5 c5)
    have HL6 := Lib.hid (HL5.out.setP PR5 (.bool (mkN true (a % b))) (.slice A5 n5 c5))
    have HM6 := Lib.hid (HM5.out.setP PR5 (.bool (mkN true (a % b))) (.slice A5 n5 c5))
    have HB6 := Lib.hid (below_set2 HB5.out (by omega) (.bool (mkN true (a % b))) (.slice A5 n5 c5) (g := w.heap.size + 1 + 1 + 1))
    go_wp2_with fail
    generalize ((w5.setCell ⟨w.heap.size + 1 + 1 + 1, 0, none⟩ (.bool (mkN true (a % b)))).setCell ⟨w.heap.size + 1 + 1 + 1, 1, none⟩ (.slice A5 n5 c5)) = w6 at *
    clear PQ5 PR5 HL5 HM5 HB5 r0 r1 rf0 rf1 rl
    have ⟨q0, q1, qf0, qf1, ql⟩ := PQ6
    have ⟨r0, r1, rf0, rf1, rl⟩ := PR6
    go_region
    go_wp2
    refine post_ww Try.results12 rfl rfl rfl ((PQ6.set _ _).far (by omega) _ _).drew ((PR6.far (by omega) _ _).set _ _).drew ⟨A3, n3, c3, A5, n5, c5, rfl, ?_, ?_, ?_⟩
    · exact ((HL6.out.setP PQ6 _ _).setP (PR6.far (by omega) _ _) _ _).drew
    · exact ((HM6.out.setP PQ6 _ _).setP (PR6.far (by omega) _ _) _ _).drew
    · exact (below_set2 (below_set2 HB6.out (by omega) _ _) (by omega) _ _).drew
set_option maxRecDepth 100000 in
set_option maxHeartbeats 2000000 in
theorem divmod_exact (w : World) (na nb : Bool) (A B : Option Addr) (n m ca cb a b : Nat) (hA : Lm w w.heap.size A n ca (digs a)) (hB : Lm w w.heap.size B m cb (digs b)) (hv : chkB na (digs a) nb (digs b) = 0) (hb : 0 < b) (hs : na = true ∧ nb = false ∨ na = false ∧ nb = true) (h0 : a % b = 0) :
    Calls Try.prog 12 #[.agg #[.bool na, .slice A n ca], .agg #[.bool nb, .slice B m cb]] w (RWW w (mkN true (a / b)) (digs (a / b)) (mkN nb (a % b)) (digs (a % b)) 0) := by
  have h41 := (chk_ok.1 (chkB_ok.1 hv).1).1
  have h42 := (chk_ok.1 (chkB_ok.1 hv).2).1
  have hq : (digs (a / b)).length ≤ 4096 := Nat.le_trans (digs_mono (Nat.div_le_self a b)) h41
  have hr : (digs (a % b)).length ≤ 4096 := Nat.le_trans (digs_mono (Nat.le_of_lt (Nat.mod_lt a hb))) h42
  have HLq : Hid (mkL (a / b) = digs (a / b)) := by show _ = _; unfold mkL; rw [if_pos hq]
  have HLr : Hid (mkL (a % b) = digs (a % b)) := by show _ = _; unfold mkL; rw [if_pos hr]
  rw [hA.len] at h41
  rw [hB.len] at h42
  have hm0 : 0 < m := by rw [← hB.len, digs_pos]; exact hb
  have hm1 : ((m : Int) == 0) = false := by simp; omega
  have hcB := hB.cap
  have hxB := hB.max
  have HA := Lib.hid hA
  have HB := Lib.hid hB
  have HV := Lib.hid hv
  have hrl : decide (0 < (digs (a % b)).length) = decide (0 < a % b) := decide_eq_decide.2 digs_pos
  have hrz : decide (0 < (digs (a % b)).length) = false := by rw [hrl]; simp; omega
  have H0 := Lib.hid h0
  clear hrl h0
  clear hv
  rcases hs with ⟨rfl, rfl⟩ | ⟨rfl, rfl⟩
  · go_enter Try.func12, Try.ntmps12
    go_wp2_with fail
    refine (both_any _ _ _ _ _ _ _ _ _ _ _ 0 ((((HA.out.box _).box _).box _).box _) ((((HB.out.box _).box _).box _).box _) HV.out).mono ?_
    rintro e w1 ⟨rfl, hb1⟩
    have ⟨PA, PB, PQ, PR⟩ := boxes4 hb1
    have LA1 := Lib.hid (((((HA.out.box _).box _).box _).box _).via hb1)
    have LB1 := Lib.hid (((((HB.out.box _).box _).box _).box _).via hb1)
    have HB1 := Lib.hid (bbox (bbox (bbox (bbox hb1))))
    have ⟨a0, a1, _, _, _⟩ := PA
    have ⟨b0, b1, _, _, _⟩ := PB
    clear hb1
    go_wp2_with fail
    refine (divide_any w1 A B n m ca cb a b LA1.out LB1.out hb (by omega)).mono ?_
    rintro e w2 ⟨Q, cq, R, cr, rfl, hQ, hR, hb2⟩
    have PA2 := PA.via hb2
    have PB2 := PB.via hb2
    have PQ2 := PQ.via hb2
    have PR2 := PR.via hb2
    have HB2 := Lib.hid (HB1.out.trans (hb2.mono HB1.out.size))
    have HQ := Lib.hid hQ
    have HR := Lib.hid hR
    have LB2 := Lib.hid (LB1.out.via hb2)
    clear PA PB PQ PR LA1 LB1 HB1 a0 a1 b0 b1 hb2 hQ hR
    have ⟨a0, a1, _, _, _⟩ := PA2
    have ⟨b0, b1, _, _, _⟩ := PB2
    go_wp2_with fail
    refine (made_any _ _ _ _ _ (a / b) HQ.out).mono ?_
    rintro e w3 ⟨A3, n3, c3, rfl, hL3, hb3⟩
    rw [HLq.out] at hL3
    have PB3 := PB2.via hb3
    have PQ3 := PQ2.via hb3
    have PR3 := PR2.via hb3
    have HB3 := Lib.hid (HB2.out.trans (hb3.mono HB2.out.size))
    have HR3 := Lib.hid (HR.out.via hb3)
    have HL3 := Lib.hid hL3
    clear PA2 PB2 PQ2 PR2 HQ HR HB2 hb3 hL3 a0 a1 b0 b1
    have ⟨q0, q1, qf0, qf1, ql⟩ := PQ3
    have X4 := Lib.hid (PB3.far (h := w.heap.size + 1 + 1) (by omega) (.bool (mkN true (a / b))) (.slice A3 n3 c3))
    have PQ4 := PQ3.set (.bool (mkN true (a / b))) (.slice A3 n3 c3)
    have PR4 := PR3.far (h := w.heap.size + 1 + 1) (by omega) (.bool (mkN true (a / b))) (.slice A3 n3 c3)
    have HR4 := Lib.hid (HR3.out.setP PQ3 (.bool (mkN true (a / b))) (.slice A3 n3 c3))
    have HL4 := Lib.hid (HL3.out.setP PQ3 (.bool (mkN true (a / b))) (.slice A3 n3 c3))
    have PB4 := X4.out
    have ⟨b0, b1, _, _, _⟩ := PB4
    go_wp2_with fail
    refine (made_any _ _ _ _ _ (a % b) HR4.out).mono ?_
    rintro e w5 ⟨A5, n5, c5, rfl, hL5, hb5⟩
    rw [HLr.out] at hL5
    have PQ5 := PQ4.via hb5
    have PR5 := PR4.via hb5
    have HB5 := Lib.hid ((below_set2 HB3.out (by omega) (.bool (mkN true (a / b))) (.slice A3 n3 c3)).trans (hb5.mono (by rw [size_set2]; exact HB3.out.size)))
    have HL5 := Lib.hid (HL4.out.via hb5)
    have HM5 := Lib.hid hL5
    clear X4 HR3 HL3 HR4 HL4 PB3 PQ3 PR3 PQ4 PR4 PB4 hb5 hL5 q0 q1 qf0 qf1 b0 b1 HB3
    have ⟨r0, r1, rf0, rf1, rl⟩ := PR5
    have PQ6 := PQ5.far (h := w.heap.size + 1 + 1 + 1) (by omega) (.bool (mkN false (a % b))) (.slice A5 n5 c5)
    have PR6 := PR5.set (.bool (mkN false (a % b))) (.slice A5 n5 c5)
    have HL6 := Lib.hid (HL5.out.setP PR5 (.bool (mkN false (a % b))) (.slice A5 n5 c5))
    have HM6 := Lib.hid (HM5.out.setP PR5 (.bool (mkN false (a % b))) (.slice A5 n5 c5))
    have HB6 := Lib.hid (below_set2 HB5.out (by omega) (.bool (mkN false (a % b))) (.slice A5 n5 c5) (g := w.heap.size + 1 + 1 + 1))
    go_wp2_with fail
    generalize ((w5.setCell ⟨w.heap.size + 1 + 1 + 1, 0, none⟩ (.bool (mkN false (a % b)))).setCell ⟨w.heap.size + 1 + 1 + 1, 1, none⟩ (.slice A5 n5 c5)) = w6 at *
    clear PQ5 PR5 HL5 HM5 HB5 r0 r1 rf0 rf1 rl
    have ⟨q0, q1, qf0, qf1, ql⟩ := PQ6
    have ⟨r0, r1, rf0, rf1, rl⟩ := PR6
    go_region
    go_wp2
    refine post_ww Try.results12 rfl rfl rfl ((PQ6.set _ _).far (by omega) _ _).drew ((PR6.far (by omega) _ _).set _ _).drew ⟨A3, n3, c3, A5, n5, c5, rfl, ?_, ?_, ?_⟩
    · exact ((HL6.out.setP PQ6 _ _).setP (PR6.far (by omega) _ _) _ _).drew
    · exact ((HM6.out.setP PQ6 _ _).setP (PR6.far (by omega) _ _) _ _).drew
    · exact (below_set2 (below_set2 HB6.out (by omega) _ _) (by omega) _ _).drew
  · go_enter Try.func12, Try.ntmps12
    go_wp2_with fail
    refine (both_any _ _ _ _ _ _ _ _ _ _ _ 0 ((((HA.out.box _).box _).box _).box _) ((((HB.out.box _).box _).box _).box _) HV.out).mono ?_
    rintro e w1 ⟨rfl, hb1⟩
    have ⟨PA, PB, PQ, PR⟩ := boxes4 hb1
    have LA1 := Lib.hid (((((HA.out.box _).box _).box _).box _).via hb1)
    have LB1 := Lib.hid (((((HB.out.box _).box _).box _).box _).via hb1)
    have HB1 := Lib.hid (bbox (bbox (bbox (bbox hb1))))
    have ⟨a0, a1, _, _, _⟩ := PA
    have ⟨b0, b1, _, _, _⟩ := PB
    clear hb1
    go_wp2_with fail
    refine (divide_any w1 A B n m ca cb a b LA1.out LB1.out hb (by omega)).mono ?_
    rintro e w2 ⟨Q, cq, R, cr, rfl, hQ, hR, hb2⟩
    have PA2 := PA.via hb2
    have PB2 := PB.via hb2
    have PQ2 := PQ.via hb2
    have PR2 := PR.via hb2
    have HB2 := Lib.hid (HB1.out.trans (hb2.mono HB1.out.size))
    have HQ := Lib.hid hQ
    have HR := Lib.hid hR
    have LB2 := Lib.hid (LB1.out.via hb2)
    clear PA PB PQ PR LA1 LB1 HB1 a0 a1 b0 b1 hb2 hQ hR
    have ⟨a0, a1, _, _, _⟩ := PA2
    have ⟨b0, b1, _, _, _⟩ := PB2
    go_wp2_with fail
    refine (made_any _ _ _ _ _ (a / b) HQ.out).mono ?_
    rintro e w3 ⟨A3, n3, c3, rfl, hL3, hb3⟩
    rw [HLq.out] at hL3
    have PB3 := PB2.via hb3
    have PQ3 := PQ2.via hb3
    have PR3 := PR2.via hb3
    have HB3 := Lib.hid (HB2.out.trans (hb3.mono HB2.out.size))
    have HR3 := Lib.hid (HR.out.via hb3)
    have HL3 := Lib.hid hL3
    clear PA2 PB2 PQ2 PR2 HQ HR HB2 hb3 hL3 a0 a1 b0 b1
    have ⟨q0, q1, qf0, qf1, ql⟩ := PQ3
    have X4 := Lib.hid (PB3.far (h := w.heap.size + 1 + 1) (by omega) (.bool (mkN true (a / b))) (.slice A3 n3 c3))
    have PQ4 := PQ3.set (.bool (mkN true (a / b))) (.slice A3 n3 c3)
    have PR4 := PR3.far (h := w.heap.size + 1 + 1) (by omega) (.bool (mkN true (a / b))) (.slice A3 n3 c3)
    have HR4 := Lib.hid (HR3.out.setP PQ3 (.bool (mkN true (a / b))) (.slice A3 n3 c3))
    have HL4 := Lib.hid (HL3.out.setP PQ3 (.bool (mkN true (a / b))) (.slice A3 n3 c3))
    have PB4 := X4.out
    have ⟨b0, b1, _, _, _⟩ := PB4
    go_wp2_with fail
    refine (made_any _ _ _ _ _ (a % b) HR4.out).mono ?_
    rintro e w5 ⟨A5, n5, c5, rfl, hL5, hb5⟩
    rw [HLr.out] at hL5
    have PQ5 := PQ4.via hb5
    have PR5 := PR4.via hb5
    have HB5 := Lib.hid ((below_set2 HB3.out (by omega) (.bool (mkN true (a / b))) (.slice A3 n3 c3)).trans (hb5.mono (by rw [size_set2]; exact HB3.out.size)))
    have HL5 := Lib.hid (HL4.out.via hb5)
    have HM5 := Lib.hid hL5
    clear X4 HR3 HL3 HR4 HL4 PB3 PQ3 PR3 PQ4 PR4 PB4 hb5 hL5 q0 q1 qf0 qf1 b0 b1 HB3
    have ⟨r0, r1, rf0, rf1, rl⟩ := PR5
    have PQ6 := PQ5.far (h := w.heap.size + 1 + 1 + 1) (by omega) (.bool (mkN true (a % b))) (.slice A5 n5 c5)
    have PR6 := PR5.set (.bool (mkN true (a % b))) (.slice A5 n5 c5)
    have HL6 := Lib.hid (HL5.out.setP PR5 (.bool (mkN true (a % b))) (.slice A5 n5 c5))
    have HM6 := Lib.hid (HM5.out.setP PR5 (.bool (mkN true (a % b))) (.slice A5 n5 c5))
    have HB6 := Lib.hid (below_set2 HB5.out (by omega) (.bool (mkN true (a % b))) (.slice A5 n5 c5) (g := w.heap.size + 1 + 1 + 1))
    go_wp2_with fail
    generalize ((w5.setCell ⟨w.heap.size + 1 + 1 + 1, 0, none⟩ (.bool (mkN true (a % b)))).setCell ⟨w.heap.size + 1 + 1 + 1, 1, none⟩ (.slice A5 n5 c5)) = w6 at *
    clear PQ5 PR5 HL5 HM5 HB5 r0 r1 rf0 rf1 rl
    have ⟨q0, q1, qf0, qf1, ql⟩ := PQ6
    have ⟨r0, r1, rf0, rf1, rl⟩ := PR6
    go_region
    go_wp2
    refine post_ww Try.results12 rfl rfl rfl ((PQ6.set _ _).far (by omega) _ _).drew ((PR6.far (by omega) _ _).set _ _).drew ⟨A3, n3, c3, A5, n5, c5, rfl, ?_, ?_, ?_⟩
    · exact ((HL6.out.setP PQ6 _ _).setP (PR6.far (by omega) _ _) _ _).drew
    · exact ((HM6.out.setP PQ6 _ _).setP (PR6.far (by omega) _ _) _ _).drew
    · exact (below_set2 (below_set2 HB6.out (by omega) _ _) (by omega) _ _).drew
set_option maxRecDepth 100000 in
set_option maxHeartbeats 2000000 in
theorem divmod_down (w : World) (na nb : Bool) (A B : Option Addr) (n m ca cb a b : Nat) (hA : Lm w w.heap.size A n ca (digs a)) (hB : Lm w w.heap.size B m cb (digs b)) (hv : chkB na (digs a) nb (digs b) = 0) (hb : 0 < b) (hs : na = true ∧ nb = false ∨ na = false ∧ nb = true) (h0 : 0 < a % b) :
    Calls Try.prog 12 #[.agg #[.bool na, .slice A n ca], .agg #[.bool nb, .slice B m cb]] w (RWW w (mkN true (a / b + 1)) (digs (a / b + 1)) (mkN nb (b - a % b)) (digs (b - a % b)) 0) := by
  have h41 := (chk_ok.1 (chkB_ok.1 hv).1).1
  have h42 := (chk_ok.1 (chkB_ok.1 hv).2).1
  have hab : a / b + 1 ≤ a := by
    have h := Nat.div_add_mod a b
    have hb2 : 2 ≤ b := by have := Nat.mod_lt a hb; omega
    have h2 : 2 * (a / b) ≤ b * (a / b) := Nat.mul_le_mul_right _ hb2
    generalize a / b = z at *
    omega
  have hml := Nat.mod_lt a hb
  have hq0 : (digs (a / b)).length ≤ 4096 := Nat.le_trans (digs_mono (Nat.div_le_self a b)) h41
  have hr0 : (digs (a % b)).length ≤ m := Nat.le_trans (digs_mono (Nat.le_of_lt (Nat.mod_lt a hb))) (Nat.le_of_eq hB.len)
  have hq : (digs (a / b + 1)).length ≤ 4096 := Nat.le_trans (digs_mono hab) h41
  have hr : (digs (b - a % b)).length ≤ 4096 := Nat.le_trans (digs_mono (Nat.sub_le _ _)) h42
  have HLq : Hid (mkL (a / b + 1) = digs (a / b + 1)) := by show _ = _; unfold mkL; rw [if_pos hq]
  have HLr : Hid (mkL (b - a % b) = digs (b - a % b)) := by show _ = _; unfold mkL; rw [if_pos hr]
  rw [hA.len] at h41
  rw [hB.len] at h42
  have hm0 : 0 < m := by rw [← hB.len, digs_pos]; exact hb
  have hm1 : ((m : Int) == 0) = false := by simp; omega
  have hcB := hB.cap
  have hxB := hB.max
  have HA := Lib.hid hA
  have HB := Lib.hid hB
  have HV := Lib.hid hv
  have hrl : decide (0 < (digs (a % b)).length) = decide (0 < a % b) := decide_eq_decide.2 digs_pos
  have hrz : decide (0 < (digs (a % b)).length) = true := by rw [hrl]; simpa using h0
  clear hrl
  clear hv
  rcases hs with ⟨rfl, rfl⟩ | ⟨rfl, rfl⟩
  · go_enter Try.func12, Try.ntmps12
    go_wp2_with fail
    refine (both_any _ _ _ _ _ _ _ _ _ _ _ 0 ((((HA.out.box _).box _).box _).box _) ((((HB.out.box _).box _).box _).box _) HV.out).mono ?_
    rintro e w1 ⟨rfl, hb1⟩
    have ⟨PA, PB, PQ, PR⟩ := boxes4 hb1
    have LA1 := Lib.hid (((((HA.out.box _).box _).box _).box _).via hb1)
    have LB1 := Lib.hid (((((HB.out.box _).box _).box _).box _).via hb1)
    have HB1 := Lib.hid (bbox (bbox (bbox (bbox hb1))))
    have ⟨a0, a1, _, _, _⟩ := PA
    have ⟨b0, b1, _, _, _⟩ := PB
    clear hb1
    go_wp2_with fail
    refine (divide_any w1 A B n m ca cb a b LA1.out LB1.out hb (by omega)).mono ?_
    rintro e w2 ⟨Q, cq, R, cr, rfl, hQ, hR, hb2⟩
    have PA2 := PA.via hb2
    have PB2 := PB.via hb2
    have PQ2 := PQ.via hb2
    have PR2 := PR.via hb2
    have HB2 := Lib.hid (HB1.out.trans (hb2.mono HB1.out.size))
    have HQ := Lib.hid hQ
    have HR := Lib.hid hR
    have LB2 := Lib.hid (LB1.out.via hb2)
    clear PA PB PQ PR LA1 LB1 HB1 a0 a1 b0 b1 hb2 hQ hR
    have ⟨a0, a1, _, _, _⟩ := PA2
    have ⟨b0, b1, _, _, _⟩ := PB2
    go_wp2_with fail
    have HS : Hid (val (digs (a / b)) + val [1] = a / b + 1) := by show _ = _; rw [digs_val, val_one]
    have HD : Hid (val (digs (a % b)) ≤ val (digs b)) := by show _ ≤ _; rw [digs_val, digs_val]; exact Nat.le_of_lt (Nat.mod_lt a hb)
    have HE : Hid (val (digs b) - val (digs (a % b)) = b - a % b) := by show _ = _; rw [digs_val, digs_val]
    go_region_held3 (fun w' => w'.cell? ⟨w.heap.size + 1, 0, none⟩ = some (.bool false) ∧ w'.cell? ⟨w.heap.size + 1, 1, none⟩ = some (.slice B m cb))
      (first | exact ⟨b0, b1⟩ | exact ⟨PBs.c0, PBs.c1⟩ | exact ⟨PBt.c0, PBt.c1⟩ | go_keep)
      (first
       | (go_at_call 26; refine (sum_any _ _ _ _ _ _ _ (digs (a / b)) [1] (a / b + 1) (HQ.out.drew.box _) (Lm.one _ 1 _ rfl (by omega)) (by omega) (by omega) HS.out).mono ?_; rintro e ws ⟨As, cs, rfl, hLs, hbs⟩; have Bs := (Below.refl w2.heap.size w2).drew.trans (bbox hbs); have PBs := PB2.via Bs; have LBs := Lib.hid (LB2.out.via Bs); have HRs := Lib.hid (HR.out.via Bs))
       | (go_at_call 27; refine (difference_any _ B R m (digs (a % b)).length cb cr (digs b) (digs (a % b)) (b - a % b) LBs.out HRs.out hr0 (by omega) HD.out HE.out).mono ?_; rintro e wt ⟨At, ct, rfl, hLt, hbt⟩; have PBt := PBs.via hbt))
    have PQz := (PQ2.via Bs).via hbt
    have PAz := (PA2.via Bs).via hbt
    have PRz := (PR2.via Bs).via hbt
    have HQz := Lib.hid (hLs.via hbt)
    have HRz := Lib.hid hLt
    have HBz := Lib.hid (HB2.out.trans ((Bs.trans (hbt.mono Bs.size)).mono HB2.out.size))
    clear PA2 PB2 PQ2 PR2 HQ HR HB2 a0 a1 b0 b1 hbs hbt Bs hLs hLt LBs HRs LB2 HS HD HE
    have PB2 := PBt
    have PA2 := PAz
    have PQ2 := PQz
    have PR2 := PRz
    have HQ := HQz
    have HR := HRz
    have HB2 := HBz
    clear PAz PBt PQz PRz HQz HRz HBz PBs
    have ⟨b0, b1, _, _, _⟩ := PB2
    have ⟨a0, a1, _, _, _⟩ := PA2
    go_wp2_with fail
    refine (made_any _ _ _ _ _ (a / b + 1) HQ.out).mono ?_
    rintro e w3 ⟨A3, n3, c3, rfl, hL3, hb3⟩
    rw [HLq.out] at hL3
    have PB3 := PB2.via hb3
    have PQ3 := PQ2.via hb3
    have PR3 := PR2.via hb3
    have HB3 := Lib.hid (HB2.out.trans (hb3.mono HB2.out.size))
    have HR3 := Lib.hid (HR.out.via hb3)
    have HL3 := Lib.hid hL3
    clear PA2 PB2 PQ2 PR2 HQ HR HB2 hb3 hL3 a0 a1 b0 b1
    have ⟨q0, q1, qf0, qf1, ql⟩ := PQ3
    have X4 := Lib.hid (PB3.far (h := w.heap.size + 1 + 1) (by omega) (.bool (mkN true (a / b + 1))) (.slice A3 n3 c3))
    have PQ4 := PQ3.set (.bool (mkN true (a / b + 1))) (.slice A3 n3 c3)
    have PR4 := PR3.far (h := w.heap.size + 1 + 1) (by omega) (.bool (mkN true (a / b + 1))) (.slice A3 n3 c3)
    have HR4 := Lib.hid (HR3.out.setP PQ3 (.bool (mkN true (a / b + 1))) (.slice A3 n3 c3))
    have HL4 := Lib.hid (HL3.out.setP PQ3 (.bool (mkN true (a / b + 1))) (.slice A3 n3 c3))
    have PB4 := X4.out
    have ⟨b0, b1, _, _, _⟩ := PB4
    go_wp2_with fail
    refine (made_any _ _ _ _ _ (b - a % b) HR4.out).mono ?_
    rintro e w5 ⟨A5, n5, c5, rfl, hL5, hb5⟩
    rw [HLr.out] at hL5
    have PQ5 := PQ4.via hb5
    have PR5 := PR4.via hb5
    have HB5 := Lib.hid ((below_set2 HB3.out (by omega) (.bool (mkN true (a / b + 1))) (.slice A3 n3 c3)).trans (hb5.mono (by rw [size_set2]; exact HB3.out.size)))
    have HL5 := Lib.hid (HL4.out.via hb5)
    have HM5 := Lib.hid hL5
    clear X4 HR3 HL3 HR4 HL4 PB3 PQ3 PR3 PQ4 PR4 PB4 hb5 hL5 q0 q1 qf0 qf1 b0 b1 HB3
    have ⟨r0, r1, rf0, rf1, rl⟩ := PR5
    have PQ6 := PQ5.far (h := w.heap.size + 1 + 1 + 1) (by omega) (.bool (mkN false (b - a % b))) (.slice A5 n5 c5)
    have PR6 := PR5.set (.bool (mkN false (b - a % b))) (.slice A5 n5 c5)
    have HL6 := Lib.hid (HL5.out.setP PR5 (.bool (mkN false (b - a % b))) (.slice A5 n5 c5))
    have HM6 := Lib.hid (HM5.out.setP PR5 (.bool (mkN false (b - a % b))) (.slice A5 n5 c5))
    have HB6 := Lib.hid (below_set2 HB5.out (by omega) (.bool (mkN false (b - a % b))) (.slice A5 n5 c5) (g := w.heap.size + 1 + 1 + 1))
    go_wp2_with fail
    generalize ((w5.setCell ⟨w.heap.size + 1 + 1 + 1, 0, none⟩ (.bool (mkN false (b - a % b)))).setCell ⟨w.heap.size + 1 + 1 + 1, 1, none⟩ (.slice A5 n5 c5)) = w6 at *
    clear PQ5 PR5 HL5 HM5 HB5 r0 r1 rf0 rf1 rl
    have ⟨q0, q1, qf0, qf1, ql⟩ := PQ6
    have ⟨r0, r1, rf0, rf1, rl⟩ := PR6
    go_region
    go_wp2
    refine post_ww Try.results12 rfl rfl rfl ((PQ6.set _ _).far (by omega) _ _).drew ((PR6.far (by omega) _ _).set _ _).drew ⟨A3, n3, c3, A5, n5, c5, rfl, ?_, ?_, ?_⟩
    · exact ((HL6.out.setP PQ6 _ _).setP (PR6.far (by omega) _ _) _ _).drew
    · exact ((HM6.out.setP PQ6 _ _).setP (PR6.far (by omega) _ _) _ _).drew
    · exact (below_set2 (below_set2 HB6.out (by omega) _ _) (by omega) _ _).drew
  · go_enter Try.func12, Try.ntmps12
    go_wp2_with fail
    refine (both_any _ _ _ _ _ _ _ _ _ _ _ 0 ((((HA.out.box _).box _).box _).box _) ((((HB.out.box _).box _).box _).box _) HV.out).mono ?_
    rintro e w1 ⟨rfl, hb1⟩
    have ⟨PA, PB, PQ, PR⟩ := boxes4 hb1
    have LA1 := Lib.hid (((((HA.out.box _).box _).box _).box _).via hb1)
    have LB1 := Lib.hid (((((HB.out.box _).box _).box _).box _).via hb1)
    have HB1 := Lib.hid (bbox (bbox (bbox (bbox hb1))))
    have ⟨a0, a1, _, _, _⟩ := PA
    have ⟨b0, b1, _, _, _⟩ := PB
    clear hb1
    go_wp2_with fail
    refine (divide_any w1 A B n m ca cb a b LA1.out LB1.out hb (by omega)).mono ?_
    rintro e w2 ⟨Q, cq, R, cr, rfl, hQ, hR, hb2⟩
    have PA2 := PA.via hb2
    have PB2 := PB.via hb2
    have PQ2 := PQ.via hb2
    have PR2 := PR.via hb2
    have HB2 := Lib.hid (HB1.out.trans (hb2.mono HB1.out.size))
    have HQ := Lib.hid hQ
    have HR := Lib.hid hR
    have LB2 := Lib.hid (LB1.out.via hb2)
    clear PA PB PQ PR LA1 LB1 HB1 a0 a1 b0 b1 hb2 hQ hR
    have ⟨a0, a1, _, _, _⟩ := PA2
    have ⟨b0, b1, _, _, _⟩ := PB2
    go_wp2_with fail
    have HS : Hid (val (digs (a / b)) + val [1] = a / b + 1) := by show _ = _; rw [digs_val, val_one]
    have HD : Hid (val (digs (a % b)) ≤ val (digs b)) := by show _ ≤ _; rw [digs_val, digs_val]; exact Nat.le_of_lt (Nat.mod_lt a hb)
    have HE : Hid (val (digs b) - val (digs (a % b)) = b - a % b) := by show _ = _; rw [digs_val, digs_val]
    go_region_held3 (fun w' => w'.cell? ⟨w.heap.size + 1, 0, none⟩ = some (.bool true) ∧ w'.cell? ⟨w.heap.size + 1, 1, none⟩ = some (.slice B m cb))
      (first | exact ⟨b0, b1⟩ | exact ⟨PBs.c0, PBs.c1⟩ | exact ⟨PBt.c0, PBt.c1⟩ | go_keep)
      (first
       | (go_at_call 26; refine (sum_any _ _ _ _ _ _ _ (digs (a / b)) [1] (a / b + 1) (HQ.out.drew.box _) (Lm.one _ 1 _ rfl (by omega)) (by omega) (by omega) HS.out).mono ?_; rintro e ws ⟨As, cs, rfl, hLs, hbs⟩; have Bs := (Below.refl w2.heap.size w2).drew.trans (bbox hbs); have PBs := PB2.via Bs; have LBs := Lib.hid (LB2.out.via Bs); have HRs := Lib.hid (HR.out.via Bs))
       | (go_at_call 27; refine (difference_any _ B R m (digs (a % b)).length cb cr (digs b) (digs (a % b)) (b - a % b) LBs.out HRs.out hr0 (by omega) HD.out HE.out).mono ?_; rintro e wt ⟨At, ct, rfl, hLt, hbt⟩; have PBt := PBs.via hbt))
    have PQz := (PQ2.via Bs).via hbt
    have PAz := (PA2.via Bs).via hbt
    have PRz := (PR2.via Bs).via hbt
    have HQz := Lib.hid (hLs.via hbt)
    have HRz := Lib.hid hLt
    have HBz := Lib.hid (HB2.out.trans ((Bs.trans (hbt.mono Bs.size)).mono HB2.out.size))
    clear PA2 PB2 PQ2 PR2 HQ HR HB2 a0 a1 b0 b1 hbs hbt Bs hLs hLt LBs HRs LB2 HS HD HE
    have PB2 := PBt
    have PA2 := PAz
    have PQ2 := PQz
    have PR2 := PRz
    have HQ := HQz
    have HR := HRz
    have HB2 := HBz
    clear PAz PBt PQz PRz HQz HRz HBz PBs
    have ⟨b0, b1, _, _, _⟩ := PB2
    have ⟨a0, a1, _, _, _⟩ := PA2
    go_wp2_with fail
    refine (made_any _ _ _ _ _ (a / b + 1) HQ.out).mono ?_
    rintro e w3 ⟨A3, n3, c3, rfl, hL3, hb3⟩
    rw [HLq.out] at hL3
    have PB3 := PB2.via hb3
    have PQ3 := PQ2.via hb3
    have PR3 := PR2.via hb3
    have HB3 := Lib.hid (HB2.out.trans (hb3.mono HB2.out.size))
    have HR3 := Lib.hid (HR.out.via hb3)
    have HL3 := Lib.hid hL3
    clear PA2 PB2 PQ2 PR2 HQ HR HB2 hb3 hL3 a0 a1 b0 b1
    have ⟨q0, q1, qf0, qf1, ql⟩ := PQ3
    have X4 := Lib.hid (PB3.far (h := w.heap.size + 1 + 1) (by omega) (.bool (mkN true (a / b + 1))) (.slice A3 n3 c3))
    have PQ4 := PQ3.set (.bool (mkN true (a / b + 1))) (.slice A3 n3 c3)
    have PR4 := PR3.far (h := w.heap.size + 1 + 1) (by omega) (.bool (mkN true (a / b + 1))) (.slice A3 n3 c3)
    have HR4 := Lib.hid (HR3.out.setP PQ3 (.bool (mkN true (a / b + 1))) (.slice A3 n3 c3))
    have HL4 := Lib.hid (HL3.out.setP PQ3 (.bool (mkN true (a / b + 1))) (.slice A3 n3 c3))
    have PB4 := X4.out
    have ⟨b0, b1, _, _, _⟩ := PB4
    go_wp2_with fail
    refine (made_any _ _ _ _ _ (b - a % b) HR4.out).mono ?_
    rintro e w5 ⟨A5, n5, c5, rfl, hL5, hb5⟩
    rw [HLr.out] at hL5
    have PQ5 := PQ4.via hb5
    have PR5 := PR4.via hb5
    have HB5 := Lib.hid ((below_set2 HB3.out (by omega) (.bool (mkN true (a / b + 1))) (.slice A3 n3 c3)).trans (hb5.mono (by rw [size_set2]; exact HB3.out.size)))
    have HL5 := Lib.hid (HL4.out.via hb5)
    have HM5 := Lib.hid hL5
    clear X4 HR3 HL3 HR4 HL4 PB3 PQ3 PR3 PQ4 PR4 PB4 hb5 hL5 q0 q1 qf0 qf1 b0 b1 HB3
    have ⟨r0, r1, rf0, rf1, rl⟩ := PR5
    have PQ6 := PQ5.far (h := w.heap.size + 1 + 1 + 1) (by omega) (.bool (mkN true (b - a % b))) (.slice A5 n5 c5)
    have PR6 := PR5.set (.bool (mkN true (b - a % b))) (.slice A5 n5 c5)
    have HL6 := Lib.hid (HL5.out.setP PR5 (.bool (mkN true (b - a % b))) (.slice A5 n5 c5))
    have HM6 := Lib.hid (HM5.out.setP PR5 (.bool (mkN true (b - a % b))) (.slice A5 n5 c5))
    have HB6 := Lib.hid (below_set2 HB5.out (by omega) (.bool (mkN true (b - a % b))) (.slice A5 n5 c5) (g := w.heap.size + 1 + 1 + 1))
    go_wp2_with fail
    generalize ((w5.setCell ⟨w.heap.size + 1 + 1 + 1, 0, none⟩ (.bool (mkN true (b - a % b)))).setCell ⟨w.heap.size + 1 + 1 + 1, 1, none⟩ (.slice A5 n5 c5)) = w6 at *
    clear PQ5 PR5 HL5 HM5 HB5 r0 r1 rf0 rf1 rl
    have ⟨q0, q1, qf0, qf1, ql⟩ := PQ6
    have ⟨r0, r1, rf0, rf1, rl⟩ := PR6
    go_region
    go_wp2
    refine post_ww Try.results12 rfl rfl rfl ((PQ6.set _ _).far (by omega) _ _).drew ((PR6.far (by omega) _ _).set _ _).drew ⟨A3, n3, c3, A5, n5, c5, rfl, ?_, ?_, ?_⟩
    · exact ((HL6.out.setP PQ6 _ _).setP (PR6.far (by omega) _ _) _ _).drew
    · exact ((HM6.out.setP PQ6 _ _).setP (PR6.far (by omega) _ _) _ _).drew
    · exact (below_set2 (below_set2 HB6.out (by omega) _ _) (by omega) _ _).drew
end Go.Proofs.Ytkajmglpmdhmnaa

/- The reference's DivMod. -/
namespace Go.Proofs.Ytkajmglpmdhmnaa
open Go.RowKit

set_option maxRecDepth 100000 in
set_option maxHeartbeats 2000000 in
theorem rdivmod_bad (w : World) (na nb : Bool) (A B : Option Addr) (n m ca cb : Nat) (xs ys : List Nat) (hA : Lm w w.heap.size A n ca xs) (hB : Lm w w.heap.size B m cb ys) (hv : chkB na xs nb ys = 8) :
    Calls Try.prog 13 #[.agg #[.bool na, .slice A n ca], .agg #[.bool nb, .slice B m cb]] w (RWW w false [] false [] 8) := by
  have HA := Lib.hid hA
  have HB := Lib.hid hB
  have HV := Lib.hid hv
  clear hv
  go_enter Try.func13, Try.ntmps13
  go_wp2_with fail
  refine (rboth_any _ _ _ _ _ _ _ _ _ _ _ ((((HA.out.box _).box _).box _).box _) ((((HB.out.box _).box _).box _).box _) 8 HV.out).mono ?_
  rintro e w1 ⟨rfl, hb1⟩
  have ⟨PA, PB, PQ, PR⟩ := boxes4 hb1
  have LA1 := Lib.hid (((((HA.out.box _).box _).box _).box _).via hb1)
  have LB1 := Lib.hid (((((HB.out.box _).box _).box _).box _).via hb1)
  have HB1 := Lib.hid (bbox (bbox (bbox (bbox hb1))))
  have ⟨a0, a1, _, _, _⟩ := PA
  have ⟨b0, b1, _, _, _⟩ := PB
  clear hb1
  go_wp2_with fail
  refine (rboth_any _ _ _ _ _ _ _ _ _ _ _ LA1.out LB1.out 8 HV.out).mono ?_
  rintro e w2 ⟨rfl, hb2⟩
  have PQ2 := PQ.via hb2
  have PR2 := PR.via hb2
  have HB2 := Lib.hid (HB1.out.trans (hb2.mono HB1.out.size))
  clear PQ PR hb2
  have ⟨q0, q1, qf0, qf1, ql⟩ := PQ2
  have ⟨r0, r1, rf0, rf1, rl⟩ := PR2
  go_wp2
  refine post_ww Try.results13 rfl rfl rfl ((PQ2.set _ _).far (by omega) _ _) ((PR2.far (by omega) _ _).set _ _) ⟨none, 0, 0, none, 0, 0, rfl, Lm.nil _ _, Lm.nil _ _, below_set2 (below_set2 HB2.out (by omega) _ _) (by omega) _ _⟩

set_option maxRecDepth 100000 in
set_option maxHeartbeats 2000000 in
theorem rdivmod_zero (w : World) (na nb : Bool) (A B : Option Addr) (n ca cb : Nat) (xs : List Nat) (hA : Lm w w.heap.size A n ca xs) (hB : Lm w w.heap.size B 0 cb []) (hv : chkB na xs nb [] = 0) :
    Calls Try.prog 13 #[.agg #[.bool na, .slice A n ca], .agg #[.bool nb, .slice B 0 cb]] w (RWW w false [] false [] 18) := by
  have HA := Lib.hid hA
  have HB := Lib.hid hB
  have HV := Lib.hid hv
  clear hv
  go_enter Try.func13, Try.ntmps13
  go_wp2_with fail
  refine (rboth_any _ _ _ _ _ _ _ _ _ _ _ ((((HA.out.box _).box _).box _).box _) ((((HB.out.box _).box _).box _).box _) 0 HV.out).mono ?_
  rintro e w1 ⟨rfl, hb1⟩
  have ⟨_, PB, PQ, PR⟩ := boxes4 hb1
  have HB1 := Lib.hid (bbox (bbox (bbox (bbox hb1))))
  have ⟨b0, b1, _, _, _⟩ := PB
  have ⟨q0, q1, qf0, qf1, ql⟩ := PQ
  have ⟨r0, r1, rf0, rf1, rl⟩ := PR
  clear hb1
  go_wp2
  refine post_ww Try.results13 rfl rfl rfl ((PQ.set _ _).far (by omega) _ _) ((PR.far (by omega) _ _).set _ _) ⟨none, 0, 0, none, 0, 0, rfl, Lm.nil _ _, Lm.nil _ _, below_set2 (below_set2 HB1.out (by omega) _ _) (by omega) _ _⟩

set_option maxRecDepth 100000 in
set_option maxHeartbeats 2000000 in
theorem rdivmod_same (w : World) (na nb : Bool) (A B : Option Addr) (n m ca cb a b : Nat) (hA : Lm w w.heap.size A n ca (digs a)) (hB : Lm w w.heap.size B m cb (digs b)) (hv : chkB na (digs a) nb (digs b) = 0) (hb : 0 < b) (hs : na = nb) (z : Bool) (hz : decide (0 < a % b) = z) :
    Calls Try.prog 13 #[.agg #[.bool na, .slice A n ca], .agg #[.bool nb, .slice B m cb]] w (RWW w (mkN false (a / b)) (digs (a / b)) (mkN nb (a % b)) (digs (a % b)) 0) := by
  have h41 := (chk_ok.1 (chkB_ok.1 hv).1).1
  have h42 := (chk_ok.1 (chkB_ok.1 hv).2).1
  have hml := Nat.mod_lt a hb
  have hq0 : (digs (a / b)).length ≤ 4096 := Nat.le_trans (digs_mono (Nat.div_le_self a b)) h41
  have hr0 : (digs (a % b)).length ≤ 4096 := Nat.le_trans (digs_mono (Nat.le_of_lt hml)) h42
  have HLq : Hid (mkL (a / b) = digs (a / b)) := by show _ = _; unfold mkL; rw [if_pos hq0]
  have HLr : Hid (mkL (a % b) = digs (a % b)) := by show _ = _; unfold mkL; rw [if_pos hr0]
  have HEq : Hid (mkE (a / b) = 0) := by show _ = _; unfold mkE; rw [if_pos hq0]
  have HEr : Hid (mkE (a % b) = 0) := by show _ = _; unfold mkE; rw [if_pos hr0]
  rw [hA.len] at h41
  rw [hB.len] at h42
  have hm0 : 0 < m := by rw [← hB.len, digs_pos]; exact hb
  have hm1 : ((m : Int) == 0) = false := by simp; omega
  have hcB := hB.cap
  have hxB := hB.max
  have HA := Lib.hid hA
  have HB := Lib.hid hB
  have HV := Lib.hid hv
  have HVq : Hid (val (digs (a / b)) = a / b) := digs_val _
  have HVr : Hid (val (digs (a % b)) = a % b) := digs_val _
  have hrl : decide (0 < (digs (a % b)).length) = decide (0 < a % b) := decide_eq_decide.2 digs_pos
  rw [hz] at hrl
  clear hz
  clear hv hA hB hml
  subst hs
  cases na <;> cases z
  · go_enter Try.func13, Try.ntmps13
    go_wp2_with fail
    refine (rboth_any _ _ _ _ _ _ _ _ _ _ _ ((((HA.out.box _).box _).box _).box _) ((((HB.out.box _).box _).box _).box _) 0 HV.out).mono ?_
    rintro e w1 ⟨rfl, hb1⟩
    have ⟨PA, PB, PQ, PR⟩ := boxes4 hb1
    have LA1 := Lib.hid (((((HA.out.box _).box _).box _).box _).via hb1)
    have LB1 := Lib.hid (((((HB.out.box _).box _).box _).box _).via hb1)
    have HB1 := Lib.hid (bbox (bbox (bbox (bbox hb1))))
    have ⟨a0, a1, _, _, _⟩ := PA
    have ⟨b0, b1, _, _, _⟩ := PB
    clear hb1
    go_wp2_with fail
    refine (rover_any w1 A B n m ca cb a b LA1.out LB1.out hb (by omega)).mono ?_
    rintro e w2 ⟨Q, cq, R, cr, rfl, hQ, hR, hb2⟩
    have PA2 := PA.via hb2
    have PB2 := PB.via hb2
    have PQ2 := PQ.via hb2
    have PR2 := PR.via hb2
    have HB2 := Lib.hid (HB1.out.trans (hb2.mono HB1.out.size))
    have HQ := Lib.hid hQ
    have HR := Lib.hid hR
    have LB2 := Lib.hid (LB1.out.via hb2)
    clear PA PB PQ PR LA1 LB1 HB1 a0 a1 b0 b1 hb2 hQ hR
    have ⟨a0, a1, _, _, _⟩ := PA2
    have ⟨b0, b1, _, _, _⟩ := PB2
    go_wp2_with fail
    refine (rmade_any w2 _ _ _ _ _ (a / b) HQ.out HVq.out (by omega)).mono ?_
    rintro e w3 ⟨A3, n3, c3, rfl, hL3, hb3⟩
    rw [HLq.out] at hL3
    rw [HEq.out]
    have PA4 := (PA2.via hb3).alloc (.cells #[.bool (mkN false (a / b)), .slice A3 n3 c3] 24)
    have PB4 := (PB2.via hb3).alloc (.cells #[.bool (mkN false (a / b)), .slice A3 n3 c3] 24)
    have PQ4 := (PQ2.via hb3).alloc (.cells #[.bool (mkN false (a / b)), .slice A3 n3 c3] 24)
    have PR4 := (PR2.via hb3).alloc (.cells #[.bool (mkN false (a / b)), .slice A3 n3 c3] 24)
    have HB4 := Lib.hid ((HB2.out.trans (hb3.mono HB2.out.size)).alloc (HB2.out.trans (hb3.mono HB2.out.size)).size (.cells #[.bool (mkN false (a / b)), .slice A3 n3 c3] 24))
    have HR4 := Lib.hid ((HR.out.via hb3).box (.cells #[.bool (mkN false (a / b)), .slice A3 n3 c3] 24))
    have LB4 := Lib.hid ((LB2.out.via hb3).box (.cells #[.bool (mkN false (a / b)), .slice A3 n3 c3] 24))
    have HL4 := Lib.hid (hL3.box (.cells #[.bool (mkN false (a / b)), .slice A3 n3 c3] 24))
    have PX4 := Pr.new w3 w3.heap.size rfl (.bool (mkN false (a / b))) (.slice A3 n3 c3) 24
    have hlt3 : w.heap.size + 1 + 1 + 1 < w3.heap.size := (PR2.via hb3).lt
    clear PA2 PB2 PQ2 PR2 HQ HR HB2 LB2 hb3 hL3 a0 a1 b0 b1
    have ⟨a0, a1, _, _, _⟩ := PA4
    have ⟨b0, b1, _, _, _⟩ := PB4
    go_wp2_with fail
    generalize w3.alloc (.cells #[.bool (mkN false (a / b)), .slice A3 n3 c3] 24) = w4 at *
    generalize w3.heap.size = g3 at *
    refine (rmade_any w4 _ _ _ _ _ (a % b) HR4.out HVr.out (by omega)).mono ?_
    rintro e w5 ⟨A5, n5, c5, rfl, hL5, hb5⟩
    rw [HLr.out] at hL5
    rw [HEr.out]
    have PA6 := (PA4.via hb5).alloc (.cells #[.bool (mkN false (a % b)), .slice A5 n5 c5] 24)
    have PB6 := (PB4.via hb5).alloc (.cells #[.bool (mkN false (a % b)), .slice A5 n5 c5] 24)
    have PQ6 := (PQ4.via hb5).alloc (.cells #[.bool (mkN false (a % b)), .slice A5 n5 c5] 24)
    have PR6 := (PR4.via hb5).alloc (.cells #[.bool (mkN false (a % b)), .slice A5 n5 c5] 24)
    have PX6 := (PX4.via hb5).alloc (.cells #[.bool (mkN false (a % b)), .slice A5 n5 c5] 24)
    have HB6 := Lib.hid ((HB4.out.trans (hb5.mono HB4.out.size)).alloc (HB4.out.trans (hb5.mono HB4.out.size)).size (.cells #[.bool (mkN false (a % b)), .slice A5 n5 c5] 24))
    have LB6 := Lib.hid ((LB4.out.via hb5).box (.cells #[.bool (mkN false (a % b)), .slice A5 n5 c5] 24))
    have HL6 := Lib.hid ((HL4.out.via hb5).box (.cells #[.bool (mkN false (a % b)), .slice A5 n5 c5] 24))
    have HM6 := Lib.hid (hL5.box (.cells #[.bool (mkN false (a % b)), .slice A5 n5 c5] 24))
    have PY6 := Pr.new w5 w5.heap.size rfl (.bool (mkN false (a % b))) (.slice A5 n5 c5) 24
    have hlt5 : g3 < w5.heap.size := (PX4.via hb5).lt
    clear PA4 PB4 PQ4 PR4 PX4 HB4 HR4 LB4 HL4 hb5 hL5 a0 a1 b0 b1
    have ⟨a0, a1, _, _, _⟩ := PA6
    have ⟨b0, b1, _, _, _⟩ := PB6
    go_wp2_with fail
    generalize w5.alloc (.cells #[.bool (mkN false (a % b)), .slice A5 n5 c5] 24) = w6 at *
    generalize w5.heap.size = g5 at *
    have ⟨q0, q1, qf0, qf1, ql⟩ := PQ6
    have ⟨r0, r1, rf0, rf1, rl⟩ := PR6
    have ⟨x0, x1, xf0, xf1, xl⟩ := PX6
    have ⟨y0, y1, yf0, yf1, yl⟩ := PY6
    go_region
    all_goals
      go_wp2
      refine post_ww Try.results13 rfl rfl rfl ((PQ6.set _ _).far (by omega) _ _).drew ((PR6.far (by omega) _ _).set _ _).drew ⟨A3, n3, c3, A5, n5, c5, rfl, ?_, ?_, ?_⟩
      · exact ((HL6.out.setP PQ6 _ _).setP (PR6.far (by omega) _ _) _ _).drew
      · exact ((HM6.out.setP PQ6 _ _).setP (PR6.far (by omega) _ _) _ _).drew
      · exact (below_set2 (below_set2 HB6.out (by omega) _ _) (by omega) _ _).drew
  · go_enter Try.func13, Try.ntmps13
    go_wp2_with fail
    refine (rboth_any _ _ _ _ _ _ _ _ _ _ _ ((((HA.out.box _).box _).box _).box _) ((((HB.out.box _).box _).box _).box _) 0 HV.out).mono ?_
    rintro e w1 ⟨rfl, hb1⟩
    have ⟨PA, PB, PQ, PR⟩ := boxes4 hb1
    have LA1 := Lib.hid (((((HA.out.box _).box _).box _).box _).via hb1)
    have LB1 := Lib.hid (((((HB.out.box _).box _).box _).box _).via hb1)
    have HB1 := Lib.hid (bbox (bbox (bbox (bbox hb1))))
    have ⟨a0, a1, _, _, _⟩ := PA
    have ⟨b0, b1, _, _, _⟩ := PB
    clear hb1
    go_wp2_with fail
    refine (rover_any w1 A B n m ca cb a b LA1.out LB1.out hb (by omega)).mono ?_
    rintro e w2 ⟨Q, cq, R, cr, rfl, hQ, hR, hb2⟩
    have PA2 := PA.via hb2
    have PB2 := PB.via hb2
    have PQ2 := PQ.via hb2
    have PR2 := PR.via hb2
    have HB2 := Lib.hid (HB1.out.trans (hb2.mono HB1.out.size))
    have HQ := Lib.hid hQ
    have HR := Lib.hid hR
    have LB2 := Lib.hid (LB1.out.via hb2)
    clear PA PB PQ PR LA1 LB1 HB1 a0 a1 b0 b1 hb2 hQ hR
    have ⟨a0, a1, _, _, _⟩ := PA2
    have ⟨b0, b1, _, _, _⟩ := PB2
    go_wp2_with fail
    refine (rmade_any w2 _ _ _ _ _ (a / b) HQ.out HVq.out (by omega)).mono ?_
    rintro e w3 ⟨A3, n3, c3, rfl, hL3, hb3⟩
    rw [HLq.out] at hL3
    rw [HEq.out]
    have PA4 := (PA2.via hb3).alloc (.cells #[.bool (mkN false (a / b)), .slice A3 n3 c3] 24)
    have PB4 := (PB2.via hb3).alloc (.cells #[.bool (mkN false (a / b)), .slice A3 n3 c3] 24)
    have PQ4 := (PQ2.via hb3).alloc (.cells #[.bool (mkN false (a / b)), .slice A3 n3 c3] 24)
    have PR4 := (PR2.via hb3).alloc (.cells #[.bool (mkN false (a / b)), .slice A3 n3 c3] 24)
    have HB4 := Lib.hid ((HB2.out.trans (hb3.mono HB2.out.size)).alloc (HB2.out.trans (hb3.mono HB2.out.size)).size (.cells #[.bool (mkN false (a / b)), .slice A3 n3 c3] 24))
    have HR4 := Lib.hid ((HR.out.via hb3).box (.cells #[.bool (mkN false (a / b)), .slice A3 n3 c3] 24))
    have LB4 := Lib.hid ((LB2.out.via hb3).box (.cells #[.bool (mkN false (a / b)), .slice A3 n3 c3] 24))
    have HL4 := Lib.hid (hL3.box (.cells #[.bool (mkN false (a / b)), .slice A3 n3 c3] 24))
    have PX4 := Pr.new w3 w3.heap.size rfl (.bool (mkN false (a / b))) (.slice A3 n3 c3) 24
    have hlt3 : w.heap.size + 1 + 1 + 1 < w3.heap.size := (PR2.via hb3).lt
    clear PA2 PB2 PQ2 PR2 HQ HR HB2 LB2 hb3 hL3 a0 a1 b0 b1
    have ⟨a0, a1, _, _, _⟩ := PA4
    have ⟨b0, b1, _, _, _⟩ := PB4
    go_wp2_with fail
    generalize w3.alloc (.cells #[.bool (mkN false (a / b)), .slice A3 n3 c3] 24) = w4 at *
    generalize w3.heap.size = g3 at *
    refine (rmade_any w4 _ _ _ _ _ (a % b) HR4.out HVr.out (by omega)).mono ?_
    rintro e w5 ⟨A5, n5, c5, rfl, hL5, hb5⟩
    rw [HLr.out] at hL5
    rw [HEr.out]
    have PA6 := (PA4.via hb5).alloc (.cells #[.bool (mkN false (a % b)), .slice A5 n5 c5] 24)
    have PB6 := (PB4.via hb5).alloc (.cells #[.bool (mkN false (a % b)), .slice A5 n5 c5] 24)
    have PQ6 := (PQ4.via hb5).alloc (.cells #[.bool (mkN false (a % b)), .slice A5 n5 c5] 24)
    have PR6 := (PR4.via hb5).alloc (.cells #[.bool (mkN false (a % b)), .slice A5 n5 c5] 24)
    have PX6 := (PX4.via hb5).alloc (.cells #[.bool (mkN false (a % b)), .slice A5 n5 c5] 24)
    have HB6 := Lib.hid ((HB4.out.trans (hb5.mono HB4.out.size)).alloc (HB4.out.trans (hb5.mono HB4.out.size)).size (.cells #[.bool (mkN false (a % b)), .slice A5 n5 c5] 24))
    have LB6 := Lib.hid ((LB4.out.via hb5).box (.cells #[.bool (mkN false (a % b)), .slice A5 n5 c5] 24))
    have HL6 := Lib.hid ((HL4.out.via hb5).box (.cells #[.bool (mkN false (a % b)), .slice A5 n5 c5] 24))
    have HM6 := Lib.hid (hL5.box (.cells #[.bool (mkN false (a % b)), .slice A5 n5 c5] 24))
    have PY6 := Pr.new w5 w5.heap.size rfl (.bool (mkN false (a % b))) (.slice A5 n5 c5) 24
    have hlt5 : g3 < w5.heap.size := (PX4.via hb5).lt
    clear PA4 PB4 PQ4 PR4 PX4 HB4 HR4 LB4 HL4 hb5 hL5 a0 a1 b0 b1
    have ⟨a0, a1, _, _, _⟩ := PA6
    have ⟨b0, b1, _, _, _⟩ := PB6
    go_wp2_with fail
    generalize w5.alloc (.cells #[.bool (mkN false (a % b)), .slice A5 n5 c5] 24) = w6 at *
    generalize w5.heap.size = g5 at *
    have ⟨q0, q1, qf0, qf1, ql⟩ := PQ6
    have ⟨r0, r1, rf0, rf1, rl⟩ := PR6
    have ⟨x0, x1, xf0, xf1, xl⟩ := PX6
    have ⟨y0, y1, yf0, yf1, yl⟩ := PY6
    go_region
    all_goals
      go_wp2
      refine post_ww Try.results13 rfl rfl rfl ((PQ6.set _ _).far (by omega) _ _).drew ((PR6.far (by omega) _ _).set _ _).drew ⟨A3, n3, c3, A5, n5, c5, rfl, ?_, ?_, ?_⟩
      · exact ((HL6.out.setP PQ6 _ _).setP (PR6.far (by omega) _ _) _ _).drew
      · exact ((HM6.out.setP PQ6 _ _).setP (PR6.far (by omega) _ _) _ _).drew
      · exact (below_set2 (below_set2 HB6.out (by omega) _ _) (by omega) _ _).drew
  · go_enter Try.func13, Try.ntmps13
    go_wp2_with fail
    refine (rboth_any _ _ _ _ _ _ _ _ _ _ _ ((((HA.out.box _).box _).box _).box _) ((((HB.out.box _).box _).box _).box _) 0 HV.out).mono ?_
    rintro e w1 ⟨rfl, hb1⟩
    have ⟨PA, PB, PQ, PR⟩ := boxes4 hb1
    have LA1 := Lib.hid (((((HA.out.box _).box _).box _).box _).via hb1)
    have LB1 := Lib.hid (((((HB.out.box _).box _).box _).box _).via hb1)
    have HB1 := Lib.hid (bbox (bbox (bbox (bbox hb1))))
    have ⟨a0, a1, _, _, _⟩ := PA
    have ⟨b0, b1, _, _, _⟩ := PB
    clear hb1
    go_wp2_with fail
    refine (rover_any w1 A B n m ca cb a b LA1.out LB1.out hb (by omega)).mono ?_
    rintro e w2 ⟨Q, cq, R, cr, rfl, hQ, hR, hb2⟩
    have PA2 := PA.via hb2
    have PB2 := PB.via hb2
    have PQ2 := PQ.via hb2
    have PR2 := PR.via hb2
    have HB2 := Lib.hid (HB1.out.trans (hb2.mono HB1.out.size))
    have HQ := Lib.hid hQ
    have HR := Lib.hid hR
    have LB2 := Lib.hid (LB1.out.via hb2)
    clear PA PB PQ PR LA1 LB1 HB1 a0 a1 b0 b1 hb2 hQ hR
    have ⟨a0, a1, _, _, _⟩ := PA2
    have ⟨b0, b1, _, _, _⟩ := PB2
    go_wp2_with fail
    refine (rmade_any w2 _ _ _ _ _ (a / b) HQ.out HVq.out (by omega)).mono ?_
    rintro e w3 ⟨A3, n3, c3, rfl, hL3, hb3⟩
    rw [HLq.out] at hL3
    rw [HEq.out]
    have PA4 := (PA2.via hb3).alloc (.cells #[.bool (mkN false (a / b)), .slice A3 n3 c3] 24)
    have PB4 := (PB2.via hb3).alloc (.cells #[.bool (mkN false (a / b)), .slice A3 n3 c3] 24)
    have PQ4 := (PQ2.via hb3).alloc (.cells #[.bool (mkN false (a / b)), .slice A3 n3 c3] 24)
    have PR4 := (PR2.via hb3).alloc (.cells #[.bool (mkN false (a / b)), .slice A3 n3 c3] 24)
    have HB4 := Lib.hid ((HB2.out.trans (hb3.mono HB2.out.size)).alloc (HB2.out.trans (hb3.mono HB2.out.size)).size (.cells #[.bool (mkN false (a / b)), .slice A3 n3 c3] 24))
    have HR4 := Lib.hid ((HR.out.via hb3).box (.cells #[.bool (mkN false (a / b)), .slice A3 n3 c3] 24))
    have LB4 := Lib.hid ((LB2.out.via hb3).box (.cells #[.bool (mkN false (a / b)), .slice A3 n3 c3] 24))
    have HL4 := Lib.hid (hL3.box (.cells #[.bool (mkN false (a / b)), .slice A3 n3 c3] 24))
    have PX4 := Pr.new w3 w3.heap.size rfl (.bool (mkN false (a / b))) (.slice A3 n3 c3) 24
    have hlt3 : w.heap.size + 1 + 1 + 1 < w3.heap.size := (PR2.via hb3).lt
    clear PA2 PB2 PQ2 PR2 HQ HR HB2 LB2 hb3 hL3 a0 a1 b0 b1
    have ⟨a0, a1, _, _, _⟩ := PA4
    have ⟨b0, b1, _, _, _⟩ := PB4
    go_wp2_with fail
    generalize w3.alloc (.cells #[.bool (mkN false (a / b)), .slice A3 n3 c3] 24) = w4 at *
    generalize w3.heap.size = g3 at *
    refine (rmade_any w4 _ _ _ _ _ (a % b) HR4.out HVr.out (by omega)).mono ?_
    rintro e w5 ⟨A5, n5, c5, rfl, hL5, hb5⟩
    rw [HLr.out] at hL5
    rw [HEr.out]
    have PA6 := (PA4.via hb5).alloc (.cells #[.bool (mkN true (a % b)), .slice A5 n5 c5] 24)
    have PB6 := (PB4.via hb5).alloc (.cells #[.bool (mkN true (a % b)), .slice A5 n5 c5] 24)
    have PQ6 := (PQ4.via hb5).alloc (.cells #[.bool (mkN true (a % b)), .slice A5 n5 c5] 24)
    have PR6 := (PR4.via hb5).alloc (.cells #[.bool (mkN true (a % b)), .slice A5 n5 c5] 24)
    have PX6 := (PX4.via hb5).alloc (.cells #[.bool (mkN true (a % b)), .slice A5 n5 c5] 24)
    have HB6 := Lib.hid ((HB4.out.trans (hb5.mono HB4.out.size)).alloc (HB4.out.trans (hb5.mono HB4.out.size)).size (.cells #[.bool (mkN true (a % b)), .slice A5 n5 c5] 24))
    have LB6 := Lib.hid ((LB4.out.via hb5).box (.cells #[.bool (mkN true (a % b)), .slice A5 n5 c5] 24))
    have HL6 := Lib.hid ((HL4.out.via hb5).box (.cells #[.bool (mkN true (a % b)), .slice A5 n5 c5] 24))
    have HM6 := Lib.hid (hL5.box (.cells #[.bool (mkN true (a % b)), .slice A5 n5 c5] 24))
    have PY6 := Pr.new w5 w5.heap.size rfl (.bool (mkN true (a % b))) (.slice A5 n5 c5) 24
    have hlt5 : g3 < w5.heap.size := (PX4.via hb5).lt
    clear PA4 PB4 PQ4 PR4 PX4 HB4 HR4 LB4 HL4 hb5 hL5 a0 a1 b0 b1
    have ⟨a0, a1, _, _, _⟩ := PA6
    have ⟨b0, b1, _, _, _⟩ := PB6
    go_wp2_with fail
    generalize w5.alloc (.cells #[.bool (mkN true (a % b)), .slice A5 n5 c5] 24) = w6 at *
    generalize w5.heap.size = g5 at *
    have ⟨q0, q1, qf0, qf1, ql⟩ := PQ6
    have ⟨r0, r1, rf0, rf1, rl⟩ := PR6
    have ⟨x0, x1, xf0, xf1, xl⟩ := PX6
    have ⟨y0, y1, yf0, yf1, yl⟩ := PY6
    go_region
    all_goals
      go_wp2
      refine post_ww Try.results13 rfl rfl rfl ((PQ6.set _ _).far (by omega) _ _).drew ((PR6.far (by omega) _ _).set _ _).drew ⟨A3, n3, c3, A5, n5, c5, rfl, ?_, ?_, ?_⟩
      · exact ((HL6.out.setP PQ6 _ _).setP (PR6.far (by omega) _ _) _ _).drew
      · exact ((HM6.out.setP PQ6 _ _).setP (PR6.far (by omega) _ _) _ _).drew
      · exact (below_set2 (below_set2 HB6.out (by omega) _ _) (by omega) _ _).drew
  · go_enter Try.func13, Try.ntmps13
    go_wp2_with fail
    refine (rboth_any _ _ _ _ _ _ _ _ _ _ _ ((((HA.out.box _).box _).box _).box _) ((((HB.out.box _).box _).box _).box _) 0 HV.out).mono ?_
    rintro e w1 ⟨rfl, hb1⟩
    have ⟨PA, PB, PQ, PR⟩ := boxes4 hb1
    have LA1 := Lib.hid (((((HA.out.box _).box _).box _).box _).via hb1)
    have LB1 := Lib.hid (((((HB.out.box _).box _).box _).box _).via hb1)
    have HB1 := Lib.hid (bbox (bbox (bbox (bbox hb1))))
    have ⟨a0, a1, _, _, _⟩ := PA
    have ⟨b0, b1, _, _, _⟩ := PB
    clear hb1
    go_wp2_with fail
    refine (rover_any w1 A B n m ca cb a b LA1.out LB1.out hb (by omega)).mono ?_
    rintro e w2 ⟨Q, cq, R, cr, rfl, hQ, hR, hb2⟩
    have PA2 := PA.via hb2
    have PB2 := PB.via hb2
    have PQ2 := PQ.via hb2
    have PR2 := PR.via hb2
    have HB2 := Lib.hid (HB1.out.trans (hb2.mono HB1.out.size))
    have HQ := Lib.hid hQ
    have HR := Lib.hid hR
    have LB2 := Lib.hid (LB1.out.via hb2)
    clear PA PB PQ PR LA1 LB1 HB1 a0 a1 b0 b1 hb2 hQ hR
    have ⟨a0, a1, _, _, _⟩ := PA2
    have ⟨b0, b1, _, _, _⟩ := PB2
    go_wp2_with fail
    refine (rmade_any w2 _ _ _ _ _ (a / b) HQ.out HVq.out (by omega)).mono ?_
    rintro e w3 ⟨A3, n3, c3, rfl, hL3, hb3⟩
    rw [HLq.out] at hL3
    rw [HEq.out]
    have PA4 := (PA2.via hb3).alloc (.cells #[.bool (mkN false (a / b)), .slice A3 n3 c3] 24)
    have PB4 := (PB2.via hb3).alloc (.cells #[.bool (mkN false (a / b)), .slice A3 n3 c3] 24)
    have PQ4 := (PQ2.via hb3).alloc (.cells #[.bool (mkN false (a / b)), .slice A3 n3 c3] 24)
    have PR4 := (PR2.via hb3).alloc (.cells #[.bool (mkN false (a / b)), .slice A3 n3 c3] 24)
    have HB4 := Lib.hid ((HB2.out.trans (hb3.mono HB2.out.size)).alloc (HB2.out.trans (hb3.mono HB2.out.size)).size (.cells #[.bool (mkN false (a / b)), .slice A3 n3 c3] 24))
    have HR4 := Lib.hid ((HR.out.via hb3).box (.cells #[.bool (mkN false (a / b)), .slice A3 n3 c3] 24))
    have LB4 := Lib.hid ((LB2.out.via hb3).box (.cells #[.bool (mkN false (a / b)), .slice A3 n3 c3] 24))
    have HL4 := Lib.hid (hL3.box (.cells #[.bool (mkN false (a / b)), .slice A3 n3 c3] 24))
    have PX4 := Pr.new w3 w3.heap.size rfl (.bool (mkN false (a / b))) (.slice A3 n3 c3) 24
    have hlt3 : w.heap.size + 1 + 1 + 1 < w3.heap.size := (PR2.via hb3).lt
    clear PA2 PB2 PQ2 PR2 HQ HR HB2 LB2 hb3 hL3 a0 a1 b0 b1
    have ⟨a0, a1, _, _, _⟩ := PA4
    have ⟨b0, b1, _, _, _⟩ := PB4
    go_wp2_with fail
    generalize w3.alloc (.cells #[.bool (mkN false (a / b)), .slice A3 n3 c3] 24) = w4 at *
    generalize w3.heap.size = g3 at *
    refine (rmade_any w4 _ _ _ _ _ (a % b) HR4.out HVr.out (by omega)).mono ?_
    rintro e w5 ⟨A5, n5, c5, rfl, hL5, hb5⟩
    rw [HLr.out] at hL5
    rw [HEr.out]
    have PA6 := (PA4.via hb5).alloc (.cells #[.bool (mkN true (a % b)), .slice A5 n5 c5] 24)
    have PB6 := (PB4.via hb5).alloc (.cells #[.bool (mkN true (a % b)), .slice A5 n5 c5] 24)
    have PQ6 := (PQ4.via hb5).alloc (.cells #[.bool (mkN true (a % b)), .slice A5 n5 c5] 24)
    have PR6 := (PR4.via hb5).alloc (.cells #[.bool (mkN true (a % b)), .slice A5 n5 c5] 24)
    have PX6 := (PX4.via hb5).alloc (.cells #[.bool (mkN true (a % b)), .slice A5 n5 c5] 24)
    have HB6 := Lib.hid ((HB4.out.trans (hb5.mono HB4.out.size)).alloc (HB4.out.trans (hb5.mono HB4.out.size)).size (.cells #[.bool (mkN true (a % b)), .slice A5 n5 c5] 24))
    have LB6 := Lib.hid ((LB4.out.via hb5).box (.cells #[.bool (mkN true (a % b)), .slice A5 n5 c5] 24))
    have HL6 := Lib.hid ((HL4.out.via hb5).box (.cells #[.bool (mkN true (a % b)), .slice A5 n5 c5] 24))
    have HM6 := Lib.hid (hL5.box (.cells #[.bool (mkN true (a % b)), .slice A5 n5 c5] 24))
    have PY6 := Pr.new w5 w5.heap.size rfl (.bool (mkN true (a % b))) (.slice A5 n5 c5) 24
    have hlt5 : g3 < w5.heap.size := (PX4.via hb5).lt
    clear PA4 PB4 PQ4 PR4 PX4 HB4 HR4 LB4 HL4 hb5 hL5 a0 a1 b0 b1
    have ⟨a0, a1, _, _, _⟩ := PA6
    have ⟨b0, b1, _, _, _⟩ := PB6
    go_wp2_with fail
    generalize w5.alloc (.cells #[.bool (mkN true (a % b)), .slice A5 n5 c5] 24) = w6 at *
    generalize w5.heap.size = g5 at *
    have ⟨q0, q1, qf0, qf1, ql⟩ := PQ6
    have ⟨r0, r1, rf0, rf1, rl⟩ := PR6
    have ⟨x0, x1, xf0, xf1, xl⟩ := PX6
    have ⟨y0, y1, yf0, yf1, yl⟩ := PY6
    go_region
    all_goals
      go_wp2
      refine post_ww Try.results13 rfl rfl rfl ((PQ6.set _ _).far (by omega) _ _).drew ((PR6.far (by omega) _ _).set _ _).drew ⟨A3, n3, c3, A5, n5, c5, rfl, ?_, ?_, ?_⟩
      · exact ((HL6.out.setP PQ6 _ _).setP (PR6.far (by omega) _ _) _ _).drew
      · exact ((HM6.out.setP PQ6 _ _).setP (PR6.far (by omega) _ _) _ _).drew
      · exact (below_set2 (below_set2 HB6.out (by omega) _ _) (by omega) _ _).drew
set_option maxRecDepth 100000 in
set_option maxHeartbeats 2000000 in
theorem rdivmod_exact (w : World) (na nb : Bool) (A B : Option Addr) (n m ca cb a b : Nat) (hA : Lm w w.heap.size A n ca (digs a)) (hB : Lm w w.heap.size B m cb (digs b)) (hv : chkB na (digs a) nb (digs b) = 0) (hb : 0 < b) (hs : na = true ∧ nb = false ∨ na = false ∧ nb = true) (h0 : a % b = 0) :
    Calls Try.prog 13 #[.agg #[.bool na, .slice A n ca], .agg #[.bool nb, .slice B m cb]] w (RWW w (mkN true (a / b)) (digs (a / b)) (mkN na (a % b)) (digs (a % b)) 0) := by
  have h41 := (chk_ok.1 (chkB_ok.1 hv).1).1
  have h42 := (chk_ok.1 (chkB_ok.1 hv).2).1
  have hml := Nat.mod_lt a hb
  have hq0 : (digs (a / b)).length ≤ 4096 := Nat.le_trans (digs_mono (Nat.div_le_self a b)) h41
  have hr0 : (digs (a % b)).length ≤ 4096 := Nat.le_trans (digs_mono (Nat.le_of_lt hml)) h42
  have HLq : Hid (mkL (a / b) = digs (a / b)) := by show _ = _; unfold mkL; rw [if_pos hq0]
  have HLr : Hid (mkL (a % b) = digs (a % b)) := by show _ = _; unfold mkL; rw [if_pos hr0]
  have HEq : Hid (mkE (a / b) = 0) := by show _ = _; unfold mkE; rw [if_pos hq0]
  have HEr : Hid (mkE (a % b) = 0) := by show _ = _; unfold mkE; rw [if_pos hr0]
  rw [hA.len] at h41
  rw [hB.len] at h42
  have hm0 : 0 < m := by rw [← hB.len, digs_pos]; exact hb
  have hm1 : ((m : Int) == 0) = false := by simp; omega
  have hcB := hB.cap
  have hxB := hB.max
  have HA := Lib.hid hA
  have HB := Lib.hid hB
  have HV := Lib.hid hv
  have HVq : Hid (val (digs (a / b)) = a / b) := digs_val _
  have HVr : Hid (val (digs (a % b)) = a % b) := digs_val _
  have hrl : decide (0 < (digs (a % b)).length) = decide (0 < a % b) := decide_eq_decide.2 digs_pos
  have hrz : decide (0 < (digs (a % b)).length) = false := by rw [hrl]; simp; omega
  have H0 := Lib.hid h0
  clear hrl h0
  clear hv hA hB hml
  rcases hs with ⟨rfl, rfl⟩ | ⟨rfl, rfl⟩
  · go_enter Try.func13, Try.ntmps13
    go_wp2_with fail
    refine (rboth_any _ _ _ _ _ _ _ _ _ _ _ ((((HA.out.box _).box _).box _).box _) ((((HB.out.box _).box _).box _).box _) 0 HV.out).mono ?_
    rintro e w1 ⟨rfl, hb1⟩
    have ⟨PA, PB, PQ, PR⟩ := boxes4 hb1
    have LA1 := Lib.hid (((((HA.out.box _).box _).box _).box _).via hb1)
    have LB1 := Lib.hid (((((HB.out.box _).box _).box _).box _).via hb1)
    have HB1 := Lib.hid (bbox (bbox (bbox (bbox hb1))))
    have ⟨a0, a1, _, _, _⟩ := PA
    have ⟨b0, b1, _, _, _⟩ := PB
    clear hb1
    go_wp2_with fail
    refine (rover_any w1 A B n m ca cb a b LA1.out LB1.out hb (by omega)).mono ?_
    rintro e w2 ⟨Q, cq, R, cr, rfl, hQ, hR, hb2⟩
    have PA2 := PA.via hb2
    have PB2 := PB.via hb2
    have PQ2 := PQ.via hb2
    have PR2 := PR.via hb2
    have HB2 := Lib.hid (HB1.out.trans (hb2.mono HB1.out.size))
    have HQ := Lib.hid hQ
    have HR := Lib.hid hR
    have LB2 := Lib.hid (LB1.out.via hb2)
    clear PA PB PQ PR LA1 LB1 HB1 a0 a1 b0 b1 hb2 hQ hR
    have ⟨a0, a1, _, _, _⟩ := PA2
    have ⟨b0, b1, _, _, _⟩ := PB2
    go_wp2_with fail
    refine (rmade_any w2 _ _ _ _ _ (a / b) HQ.out HVq.out (by omega)).mono ?_
    rintro e w3 ⟨A3, n3, c3, rfl, hL3, hb3⟩
    rw [HLq.out] at hL3
    rw [HEq.out]
    have PA4 := (PA2.via hb3).alloc (.cells #[.bool (mkN true (a / b)), .slice A3 n3 c3] 24)
    have PB4 := (PB2.via hb3).alloc (.cells #[.bool (mkN true (a / b)), .slice A3 n3 c3] 24)
    have PQ4 := (PQ2.via hb3).alloc (.cells #[.bool (mkN true (a / b)), .slice A3 n3 c3] 24)
    have PR4 := (PR2.via hb3).alloc (.cells #[.bool (mkN true (a / b)), .slice A3 n3 c3] 24)
    have HB4 := Lib.hid ((HB2.out.trans (hb3.mono HB2.out.size)).alloc (HB2.out.trans (hb3.mono HB2.out.size)).size (.cells #[.bool (mkN true (a / b)), .slice A3 n3 c3] 24))
    have HR4 := Lib.hid ((HR.out.via hb3).box (.cells #[.bool (mkN true (a / b)), .slice A3 n3 c3] 24))
    have LB4 := Lib.hid ((LB2.out.via hb3).box (.cells #[.bool (mkN true (a / b)), .slice A3 n3 c3] 24))
    have HL4 := Lib.hid (hL3.box (.cells #[.bool (mkN true (a / b)), .slice A3 n3 c3] 24))
    have PX4 := Pr.new w3 w3.heap.size rfl (.bool (mkN true (a / b))) (.slice A3 n3 c3) 24
    have hlt3 : w.heap.size + 1 + 1 + 1 < w3.heap.size := (PR2.via hb3).lt
    clear PA2 PB2 PQ2 PR2 HQ HR HB2 LB2 hb3 hL3 a0 a1 b0 b1
    have ⟨a0, a1, _, _, _⟩ := PA4
    have ⟨b0, b1, _, _, _⟩ := PB4
    go_wp2_with fail
    generalize w3.alloc (.cells #[.bool (mkN true (a / b)), .slice A3 n3 c3] 24) = w4 at *
    generalize w3.heap.size = g3 at *
    refine (rmade_any w4 _ _ _ _ _ (a % b) HR4.out HVr.out (by omega)).mono ?_
    rintro e w5 ⟨A5, n5, c5, rfl, hL5, hb5⟩
    rw [HLr.out] at hL5
    rw [HEr.out]
    have PA6 := (PA4.via hb5).alloc (.cells #[.bool (mkN true (a % b)), .slice A5 n5 c5] 24)
    have PB6 := (PB4.via hb5).alloc (.cells #[.bool (mkN true (a % b)), .slice A5 n5 c5] 24)
    have PQ6 := (PQ4.via hb5).alloc (.cells #[.bool (mkN true (a % b)), .slice A5 n5 c5] 24)
    have PR6 := (PR4.via hb5).alloc (.cells #[.bool (mkN true (a % b)), .slice A5 n5 c5] 24)
    have PX6 := (PX4.via hb5).alloc (.cells #[.bool (mkN true (a % b)), .slice A5 n5 c5] 24)
    have HB6 := Lib.hid ((HB4.out.trans (hb5.mono HB4.out.size)).alloc (HB4.out.trans (hb5.mono HB4.out.size)).size (.cells #[.bool (mkN true (a % b)), .slice A5 n5 c5] 24))
    have LB6 := Lib.hid ((LB4.out.via hb5).box (.cells #[.bool (mkN true (a % b)), .slice A5 n5 c5] 24))
    have HL6 := Lib.hid ((HL4.out.via hb5).box (.cells #[.bool (mkN true (a % b)), .slice A5 n5 c5] 24))
    have HM6 := Lib.hid (hL5.box (.cells #[.bool (mkN true (a % b)), .slice A5 n5 c5] 24))
    have PY6 := Pr.new w5 w5.heap.size rfl (.bool (mkN true (a % b))) (.slice A5 n5 c5) 24
    have hlt5 : g3 < w5.heap.size := (PX4.via hb5).lt
    clear PA4 PB4 PQ4 PR4 PX4 HB4 HR4 LB4 HL4 hb5 hL5 a0 a1 b0 b1
    have ⟨a0, a1, _, _, _⟩ := PA6
    have ⟨b0, b1, _, _, _⟩ := PB6
    go_wp2_with fail
    generalize w5.alloc (.cells #[.bool (mkN true (a % b)), .slice A5 n5 c5] 24) = w6 at *
    generalize w5.heap.size = g5 at *
    have ⟨q0, q1, qf0, qf1, ql⟩ := PQ6
    have ⟨r0, r1, rf0, rf1, rl⟩ := PR6
    have ⟨x0, x1, xf0, xf1, xl⟩ := PX6
    have ⟨y0, y1, yf0, yf1, yl⟩ := PY6
    go_region
    all_goals
      go_wp2
      refine post_ww Try.results13 rfl rfl rfl ((PQ6.set _ _).far (by omega) _ _).drew ((PR6.far (by omega) _ _).set _ _).drew ⟨A3, n3, c3, A5, n5, c5, rfl, ?_, ?_, ?_⟩
      · exact ((HL6.out.setP PQ6 _ _).setP (PR6.far (by omega) _ _) _ _).drew
      · exact ((HM6.out.setP PQ6 _ _).setP (PR6.far (by omega) _ _) _ _).drew
      · exact (below_set2 (below_set2 HB6.out (by omega) _ _) (by omega) _ _).drew
  · go_enter Try.func13, Try.ntmps13
    go_wp2_with fail
    refine (rboth_any _ _ _ _ _ _ _ _ _ _ _ ((((HA.out.box _).box _).box _).box _) ((((HB.out.box _).box _).box _).box _) 0 HV.out).mono ?_
    rintro e w1 ⟨rfl, hb1⟩
    have ⟨PA, PB, PQ, PR⟩ := boxes4 hb1
    have LA1 := Lib.hid (((((HA.out.box _).box _).box _).box _).via hb1)
    have LB1 := Lib.hid (((((HB.out.box _).box _).box _).box _).via hb1)
    have HB1 := Lib.hid (bbox (bbox (bbox (bbox hb1))))
    have ⟨a0, a1, _, _, _⟩ := PA
    have ⟨b0, b1, _, _, _⟩ := PB
    clear hb1
    go_wp2_with fail
    refine (rover_any w1 A B n m ca cb a b LA1.out LB1.out hb (by omega)).mono ?_
    rintro e w2 ⟨Q, cq, R, cr, rfl, hQ, hR, hb2⟩
    have PA2 := PA.via hb2
    have PB2 := PB.via hb2
    have PQ2 := PQ.via hb2
    have PR2 := PR.via hb2
    have HB2 := Lib.hid (HB1.out.trans (hb2.mono HB1.out.size))
    have HQ := Lib.hid hQ
    have HR := Lib.hid hR
    have LB2 := Lib.hid (LB1.out.via hb2)
    clear PA PB PQ PR LA1 LB1 HB1 a0 a1 b0 b1 hb2 hQ hR
    have ⟨a0, a1, _, _, _⟩ := PA2
    have ⟨b0, b1, _, _, _⟩ := PB2
    go_wp2_with fail
    refine (rmade_any w2 _ _ _ _ _ (a / b) HQ.out HVq.out (by omega)).mono ?_
    rintro e w3 ⟨A3, n3, c3, rfl, hL3, hb3⟩
    rw [HLq.out] at hL3
    rw [HEq.out]
    have PA4 := (PA2.via hb3).alloc (.cells #[.bool (mkN true (a / b)), .slice A3 n3 c3] 24)
    have PB4 := (PB2.via hb3).alloc (.cells #[.bool (mkN true (a / b)), .slice A3 n3 c3] 24)
    have PQ4 := (PQ2.via hb3).alloc (.cells #[.bool (mkN true (a / b)), .slice A3 n3 c3] 24)
    have PR4 := (PR2.via hb3).alloc (.cells #[.bool (mkN true (a / b)), .slice A3 n3 c3] 24)
    have HB4 := Lib.hid ((HB2.out.trans (hb3.mono HB2.out.size)).alloc (HB2.out.trans (hb3.mono HB2.out.size)).size (.cells #[.bool (mkN true (a / b)), .slice A3 n3 c3] 24))
    have HR4 := Lib.hid ((HR.out.via hb3).box (.cells #[.bool (mkN true (a / b)), .slice A3 n3 c3] 24))
    have LB4 := Lib.hid ((LB2.out.via hb3).box (.cells #[.bool (mkN true (a / b)), .slice A3 n3 c3] 24))
    have HL4 := Lib.hid (hL3.box (.cells #[.bool (mkN true (a / b)), .slice A3 n3 c3] 24))
    have PX4 := Pr.new w3 w3.heap.size rfl (.bool (mkN true (a / b))) (.slice A3 n3 c3) 24
    have hlt3 : w.heap.size + 1 + 1 + 1 < w3.heap.size := (PR2.via hb3).lt
    clear PA2 PB2 PQ2 PR2 HQ HR HB2 LB2 hb3 hL3 a0 a1 b0 b1
    have ⟨a0, a1, _, _, _⟩ := PA4
    have ⟨b0, b1, _, _, _⟩ := PB4
    go_wp2_with fail
    generalize w3.alloc (.cells #[.bool (mkN true (a / b)), .slice A3 n3 c3] 24) = w4 at *
    generalize w3.heap.size = g3 at *
    refine (rmade_any w4 _ _ _ _ _ (a % b) HR4.out HVr.out (by omega)).mono ?_
    rintro e w5 ⟨A5, n5, c5, rfl, hL5, hb5⟩
    rw [HLr.out] at hL5
    rw [HEr.out]
    have PA6 := (PA4.via hb5).alloc (.cells #[.bool (mkN false (a % b)), .slice A5 n5 c5] 24)
    have PB6 := (PB4.via hb5).alloc (.cells #[.bool (mkN false (a % b)), .slice A5 n5 c5] 24)
    have PQ6 := (PQ4.via hb5).alloc (.cells #[.bool (mkN false (a % b)), .slice A5 n5 c5] 24)
    have PR6 := (PR4.via hb5).alloc (.cells #[.bool (mkN false (a % b)), .slice A5 n5 c5] 24)
    have PX6 := (PX4.via hb5).alloc (.cells #[.bool (mkN false (a % b)), .slice A5 n5 c5] 24)
    have HB6 := Lib.hid ((HB4.out.trans (hb5.mono HB4.out.size)).alloc (HB4.out.trans (hb5.mono HB4.out.size)).size (.cells #[.bool (mkN false (a % b)), .slice A5 n5 c5] 24))
    have LB6 := Lib.hid ((LB4.out.via hb5).box (.cells #[.bool (mkN false (a % b)), .slice A5 n5 c5] 24))
    have HL6 := Lib.hid ((HL4.out.via hb5).box (.cells #[.bool (mkN false (a % b)), .slice A5 n5 c5] 24))
    have HM6 := Lib.hid (hL5.box (.cells #[.bool (mkN false (a % b)), .slice A5 n5 c5] 24))
    have PY6 := Pr.new w5 w5.heap.size rfl (.bool (mkN false (a % b))) (.slice A5 n5 c5) 24
    have hlt5 : g3 < w5.heap.size := (PX4.via hb5).lt
    clear PA4 PB4 PQ4 PR4 PX4 HB4 HR4 LB4 HL4 hb5 hL5 a0 a1 b0 b1
    have ⟨a0, a1, _, _, _⟩ := PA6
    have ⟨b0, b1, _, _, _⟩ := PB6
    go_wp2_with fail
    generalize w5.alloc (.cells #[.bool (mkN false (a % b)), .slice A5 n5 c5] 24) = w6 at *
    generalize w5.heap.size = g5 at *
    have ⟨q0, q1, qf0, qf1, ql⟩ := PQ6
    have ⟨r0, r1, rf0, rf1, rl⟩ := PR6
    have ⟨x0, x1, xf0, xf1, xl⟩ := PX6
    have ⟨y0, y1, yf0, yf1, yl⟩ := PY6
    go_region
    all_goals
      go_wp2
      refine post_ww Try.results13 rfl rfl rfl ((PQ6.set _ _).far (by omega) _ _).drew ((PR6.far (by omega) _ _).set _ _).drew ⟨A3, n3, c3, A5, n5, c5, rfl, ?_, ?_, ?_⟩
      · exact ((HL6.out.setP PQ6 _ _).setP (PR6.far (by omega) _ _) _ _).drew
      · exact ((HM6.out.setP PQ6 _ _).setP (PR6.far (by omega) _ _) _ _).drew
      · exact (below_set2 (below_set2 HB6.out (by omega) _ _) (by omega) _ _).drew
end Go.Proofs.Ytkajmglpmdhmnaa

/- The reference's DivMod, rounded down. -/
namespace Go.Proofs.Ytkajmglpmdhmnaa
open Go.RowKit

theorem rfrom_m1 (w : World) : Calls Try.prog 29 #[.int .i64 (-1)] w fun e w' => ∃ A n c, e = .returned (.agg #[.bool true, .slice A n c]) ∧ Lm w' w'.heap.size A n c (digs 1) ∧ Below w.heap.size w w' :=
  (rfrom_any w (-1) (by omega) (by omega)).mono fun _ _ ⟨A, n, c, he, hL, hb⟩ => ⟨A, n, c, he, hL, hb⟩
theorem toI_mkN {v : Nat} (h : (digs v).length ≤ 4096) (neg : Bool) : toI (mkN neg v) v = toI neg v := by
  unfold mkN toI
  rw [decide_eq_true h, Bool.true_and]
  by_cases h0 : v = 0
  · subst h0; cases neg <;> rfl
  · rw [decide_eq_true h0, Bool.and_true]
theorem mkL_digs {v : Nat} (h : (digs v).length ≤ 4096) : mkL v = digs v := by unfold mkL; rw [if_pos h]
theorem mkE_zero {v : Nat} (h : (digs v).length ≤ 4096) : mkE v = 0 := by unfold mkE; rw [if_pos h]
theorem down_le {a b : Nat} (hb : 0 < b) (h0 : 0 < a % b) : a / b + 1 ≤ a := by
  have h := Nat.div_add_mod a b
  have hb2 : 2 ≤ b := by have := Nat.mod_lt a hb; omega
  have h2 : 2 * (a / b) ≤ b * (a / b) := Nat.mul_le_mul_right _ hb2
  generalize a / b = z at *
  omega

set_option maxRecDepth 100000 in
set_option maxHeartbeats 2000000 in
theorem rdivmod_down (w : World) (na nb : Bool) (A B : Option Addr) (n m ca cb a b : Nat) (hA : Lm w w.heap.size A n ca (digs a)) (hB : Lm w w.heap.size B m cb (digs b)) (hv : chkB na (digs a) nb (digs b) = 0) (hb : 0 < b) (hs : na = true ∧ nb = false ∨ na = false ∧ nb = true) (h0 : 0 < a % b) :
    Calls Try.prog 13 #[.agg #[.bool na, .slice A n ca], .agg #[.bool nb, .slice B m cb]] w (RWW w (mkN true (a / b + 1)) (digs (a / b + 1)) (mkN nb (b - a % b)) (digs (b - a % b)) 0) := by
  have h41 := (chk_ok.1 (chkB_ok.1 hv).1).1
  have h42 := (chk_ok.1 (chkB_ok.1 hv).2).1
  have hml := Nat.mod_lt a hb
  have hq0 : (digs (a / b)).length ≤ 4096 := Nat.le_trans (digs_mono (Nat.div_le_self a b)) h41
  have hr0 : (digs (a % b)).length ≤ 4096 := Nat.le_trans (digs_mono (Nat.le_of_lt hml)) h42
  have HLq : Hid (mkL (a / b) = digs (a / b)) := by show _ = _; unfold mkL; rw [if_pos hq0]
  have HLr : Hid (mkL (a % b) = digs (a % b)) := by show _ = _; unfold mkL; rw [if_pos hr0]
  have HEq : Hid (mkE (a / b) = 0) := by show _ = _; unfold mkE; rw [if_pos hq0]
  have HEr : Hid (mkE (a % b) = 0) := by show _ = _; unfold mkE; rw [if_pos hr0]
  have hq1 : (digs (a / b + 1)).length ≤ 4096 := Nat.le_trans (digs_mono (down_le hb h0)) h41
  have hr1 : (digs (b - a % b)).length ≤ 4096 := Nat.le_trans (digs_mono (Nat.sub_le _ _)) h42
  have HS1 : Hid (∀ (W : World) (A' A'' : Option Addr) (n' c' n'' c'' : Nat), Lm W W.heap.size A' n' c' (digs (a / b)) → Lm W W.heap.size A'' n'' c'' (digs 1) → Calls Try.prog 18 #[.agg #[.bool (mkN true (a / b)), .slice A' n' c'], .agg #[.bool true, .slice A'' n'' c'']] W (RW W (mkN true (a / b + 1)) (digs (a / b + 1)) 0)) := by
    intro W A' A'' n' c' n'' c'' h1 h2
    have h3 := rsum_any W (mkN true (a / b)) true A' A'' n' n'' c' c'' (a / b) 1 h1 h2 (by rw [← h1.len]; omega) (by rw [← h2.len]; have : (digs 1).length ≤ 1 := digs_len.2 (by omega); omega)
    rw [← rz_of W true (a / b + 1) (by rw [toI_mkN hq0]; unfold toI; simp; omega), mkL_digs hq1, mkE_zero hq1] at h3
    exact h3
  have HS2 : Hid (∀ (W : World) (A' : Option Addr) (n' c' : Nat), Lm W W.heap.size A' n' c' (digs (a % b)) → Lm W W.heap.size B m cb (digs b) → Calls Try.prog 18 #[.agg #[.bool (mkN na (a % b)), .slice A' n' c'], .agg #[.bool nb, .slice B m cb]] W (RW W (mkN nb (b - a % b)) (digs (b - a % b)) 0)) := by
    intro W A' n' c' h1 h2
    have h3 := rsum_any W (mkN na (a % b)) nb A' B n' m c' cb (a % b) b h1 h2 (by rw [← h1.len]; omega) (by rw [← h2.len]; omega)
    rw [← rz_of W nb (b - a % b) (by rw [toI_mkN hr0]; rcases hs with ⟨e1, e2⟩ | ⟨e1, e2⟩ <;> subst e1 <;> subst e2 <;> simp only [toI, Bool.false_eq_true, if_true, if_false] <;> omega), mkL_digs hr1, mkE_zero hr1] at h3
    exact h3
  rw [hA.len] at h41
  rw [hB.len] at h42
  have hm0 : 0 < m := by rw [← hB.len, digs_pos]; exact hb
  have hm1 : ((m : Int) == 0) = false := by simp; omega
  have hcB := hB.cap
  have hxB := hB.max
  have HA := Lib.hid hA
  have HB := Lib.hid hB
  have HV := Lib.hid hv
  have HVq : Hid (val (digs (a / b)) = a / b) := digs_val _
  have HVr : Hid (val (digs (a % b)) = a % b) := digs_val _
  have hrl : decide (0 < (digs (a % b)).length) = decide (0 < a % b) := decide_eq_decide.2 digs_pos
  have hrz : decide (0 < (digs (a % b)).length) = true := by rw [hrl]; simpa using h0
  clear hrl
  clear hv hA hB hml
  rcases hs with ⟨rfl, rfl⟩ | ⟨rfl, rfl⟩
  · go_enter Try.func13, Try.ntmps13
    go_wp2_with fail
    refine (rboth_any _ _ _ _ _ _ _ _ _ _ _ ((((HA.out.box _).box _).box _).box _) ((((HB.out.box _).box _).box _).box _) 0 HV.out).mono ?_
    rintro e w1 ⟨rfl, hb1⟩
    have ⟨PA, PB, PQ, PR⟩ := boxes4 hb1
    have LA1 := Lib.hid (((((HA.out.box _).box _).box _).box _).via hb1)
    have LB1 := Lib.hid (((((HB.out.box _).box _).box _).box _).via hb1)
    have HB1 := Lib.hid (bbox (bbox (bbox (bbox hb1))))
    have ⟨a0, a1, _, _, _⟩ := PA
    have ⟨b0, b1, _, _, _⟩ := PB
    clear hb1
    go_wp2_with fail
    refine (rover_any w1 A B n m ca cb a b LA1.out LB1.out hb (by omega)).mono ?_
    rintro e w2 ⟨Q, cq, R, cr, rfl, hQ, hR, hb2⟩
    have PA2 := PA.via hb2
    have PB2 := PB.via hb2
    have PQ2 := PQ.via hb2
    have PR2 := PR.via hb2
    have HB2 := Lib.hid (HB1.out.trans (hb2.mono HB1.out.size))
    have HQ := Lib.hid hQ
    have HR := Lib.hid hR
    have LB2 := Lib.hid (LB1.out.via hb2)
    clear PA PB PQ PR LA1 LB1 HB1 a0 a1 b0 b1 hb2 hQ hR
    have ⟨a0, a1, _, _, _⟩ := PA2
    have ⟨b0, b1, _, _, _⟩ := PB2
    go_wp2_with fail
    refine (rmade_any w2 _ _ _ _ _ (a / b) HQ.out HVq.out (by omega)).mono ?_
    rintro e w3 ⟨A3, n3, c3, rfl, hL3, hb3⟩
    rw [HLq.out] at hL3
    rw [HEq.out]
    have PA4 := (PA2.via hb3).alloc (.cells #[.bool (mkN true (a / b)), .slice A3 n3 c3] 24)
    have PB4 := (PB2.via hb3).alloc (.cells #[.bool (mkN true (a / b)), .slice A3 n3 c3] 24)
    have PQ4 := (PQ2.via hb3).alloc (.cells #[.bool (mkN true (a / b)), .slice A3 n3 c3] 24)
    have PR4 := (PR2.via hb3).alloc (.cells #[.bool (mkN true (a / b)), .slice A3 n3 c3] 24)
    have HB4 := Lib.hid ((HB2.out.trans (hb3.mono HB2.out.size)).alloc (HB2.out.trans (hb3.mono HB2.out.size)).size (.cells #[.bool (mkN true (a / b)), .slice A3 n3 c3] 24))
    have HR4 := Lib.hid ((HR.out.via hb3).box (.cells #[.bool (mkN true (a / b)), .slice A3 n3 c3] 24))
    have LB4 := Lib.hid ((LB2.out.via hb3).box (.cells #[.bool (mkN true (a / b)), .slice A3 n3 c3] 24))
    have HL4 := Lib.hid (hL3.box (.cells #[.bool (mkN true (a / b)), .slice A3 n3 c3] 24))
    have PX4 := Pr.new w3 w3.heap.size rfl (.bool (mkN true (a / b))) (.slice A3 n3 c3) 24
    have hlt3 : w.heap.size + 1 + 1 + 1 < w3.heap.size := (PR2.via hb3).lt
    clear PA2 PB2 PQ2 PR2 HQ HR HB2 LB2 hb3 hL3 a0 a1 b0 b1
    have ⟨a0, a1, _, _, _⟩ := PA4
    have ⟨b0, b1, _, _, _⟩ := PB4
    go_wp2_with fail
    generalize w3.alloc (.cells #[.bool (mkN true (a / b)), .slice A3 n3 c3] 24) = w4 at *
    generalize w3.heap.size = g3 at *
    refine (rmade_any w4 _ _ _ _ _ (a % b) HR4.out HVr.out (by omega)).mono ?_
    rintro e w5 ⟨A5, n5, c5, rfl, hL5, hb5⟩
    rw [HLr.out] at hL5
    rw [HEr.out]
    have PA6 := (PA4.via hb5).alloc (.cells #[.bool (mkN true (a % b)), .slice A5 n5 c5] 24)
    have PB6 := (PB4.via hb5).alloc (.cells #[.bool (mkN true (a % b)), .slice A5 n5 c5] 24)
    have PQ6 := (PQ4.via hb5).alloc (.cells #[.bool (mkN true (a % b)), .slice A5 n5 c5] 24)
    have PR6 := (PR4.via hb5).alloc (.cells #[.bool (mkN true (a % b)), .slice A5 n5 c5] 24)
    have PX6 := (PX4.via hb5).alloc (.cells #[.bool (mkN true (a % b)), .slice A5 n5 c5] 24)
    have HB6 := Lib.hid ((HB4.out.trans (hb5.mono HB4.out.size)).alloc (HB4.out.trans (hb5.mono HB4.out.size)).size (.cells #[.bool (mkN true (a % b)), .slice A5 n5 c5] 24))
    have LB6 := Lib.hid ((LB4.out.via hb5).box (.cells #[.bool (mkN true (a % b)), .slice A5 n5 c5] 24))
    have HL6 := Lib.hid ((HL4.out.via hb5).box (.cells #[.bool (mkN true (a % b)), .slice A5 n5 c5] 24))
    have HM6 := Lib.hid (hL5.box (.cells #[.bool (mkN true (a % b)), .slice A5 n5 c5] 24))
    have PY6 := Pr.new w5 w5.heap.size rfl (.bool (mkN true (a % b))) (.slice A5 n5 c5) 24
    have hlt5 : g3 < w5.heap.size := (PX4.via hb5).lt
    clear PA4 PB4 PQ4 PR4 PX4 HB4 HR4 LB4 HL4 hb5 hL5 a0 a1 b0 b1
    have ⟨a0, a1, _, _, _⟩ := PA6
    have ⟨b0, b1, _, _, _⟩ := PB6
    go_wp2_with fail
    generalize w5.alloc (.cells #[.bool (mkN true (a % b)), .slice A5 n5 c5] 24) = w6 at *
    generalize w5.heap.size = g5 at *
    have ⟨q0, q1, qf0, qf1, ql⟩ := PQ6
    have ⟨r0, r1, rf0, rf1, rl⟩ := PR6
    have ⟨x0, x1, xf0, xf1, xl⟩ := PX6
    have ⟨y0, y1, yf0, yf1, yl⟩ := PY6
    go_region_with
      (first
       | (go_at_call 29; refine (rfrom_m1 _).mono ?_; rintro e ws ⟨As, ns, cs, rfl, hLs, hbs⟩; have Bs := (Below.refl w6.heap.size w6).drew.trans hbs; have PXs := PX6.via Bs; have ⟨xs0, xs1, xsf0, xsf1, xsl⟩ := PXs)
       | (go_at_call 18; refine (HS1.out ws A3 As n3 c3 ns cs (HL6.out.via Bs) hLs).mono ?_; rintro e wt ⟨At, nt, ct, rfl, hLt, hbt⟩; have PXt := PXs.via hbt; have ⟨xt0, xt1, xtf0, xtf1, xtl⟩ := PXt))
    all_goals
      have Bt := Bs.trans (hbt.mono Bs.size)
      have PA7 := (PA6.via Bt).far (h := g3) (by omega) (.bool (mkN true (a / b + 1))) (.slice At nt ct)
      have PB7 := (PB6.via Bt).far (h := g3) (by omega) (.bool (mkN true (a / b + 1))) (.slice At nt ct)
      have PQ7 := (PQ6.via Bt).far (h := g3) (by omega) (.bool (mkN true (a / b + 1))) (.slice At nt ct)
      have PR7 := (PR6.via Bt).far (h := g3) (by omega) (.bool (mkN true (a / b + 1))) (.slice At nt ct)
      have PY7 := (PY6.via Bt).far (h := g3) (by omega) (.bool (mkN true (a / b + 1))) (.slice At nt ct)
      have PX7 := PXt.set (.bool (mkN true (a / b + 1))) (.slice At nt ct)
      have HL7 := Lib.hid (hLt.setP PXt (.bool (mkN true (a / b + 1))) (.slice At nt ct))
      have HM7 := Lib.hid ((HM6.out.via Bt).setP PXt (.bool (mkN true (a / b + 1))) (.slice At nt ct))
      have LB7 := Lib.hid ((LB6.out.via Bt).setP PXt (.bool (mkN true (a / b + 1))) (.slice At nt ct))
      have HB7 := Lib.hid (below_set2 (HB6.out.trans (Bt.mono HB6.out.size)) (g := g3) (by omega) (.bool (mkN true (a / b + 1))) (.slice At nt ct))
      have ⟨y70, y71, _, _, _⟩ := PY7
      have ⟨b70, b71, _, _, _⟩ := PB7
      go_wp2_with fail
      generalize (wt.setCell ⟨g3, 0, none⟩ (.bool (mkN true (a / b + 1)))).setCell ⟨g3, 1, none⟩ (.slice At nt ct) = w7 at *
      refine (HS2.out w7 A5 n5 c5 HM7.out LB7.out).mono ?_
      rintro e w8 ⟨A8, n8, c8, rfl, hL8, hb8⟩
      have PY8 := PY7.via hb8
      have ⟨y80, y81, yf80, yf81, _⟩ := PY8
      have PQ9 := (PQ7.via hb8).far (h := g5) (by omega) (.bool (mkN false (b - a % b))) (.slice A8 n8 c8)
      have PR9 := (PR7.via hb8).far (h := g5) (by omega) (.bool (mkN false (b - a % b))) (.slice A8 n8 c8)
      have PX9 := (PX7.via hb8).far (h := g5) (by omega) (.bool (mkN false (b - a % b))) (.slice A8 n8 c8)
      have PY9 := PY8.set (.bool (mkN false (b - a % b))) (.slice A8 n8 c8)
      have HM9 := Lib.hid (hL8.setP PY8 (.bool (mkN false (b - a % b))) (.slice A8 n8 c8))
      have HL9 := Lib.hid ((HL7.out.via hb8).setP PY8 (.bool (mkN false (b - a % b))) (.slice A8 n8 c8))
      have HB9 := Lib.hid (below_set2 (HB7.out.trans (hb8.mono HB7.out.size)) (g := g5) (by omega) (.bool (mkN false (b - a % b))) (.slice A8 n8 c8))
      go_wp2_with fail
      generalize (w8.setCell ⟨g5, 0, none⟩ (.bool (mkN false (b - a % b)))).setCell ⟨g5, 1, none⟩ (.slice A8 n8 c8) = w9 at *
      have ⟨q90, q91, qf90, qf91, ql9⟩ := PQ9
      have ⟨r90, r91, rf90, rf91, rl9⟩ := PR9
      have ⟨x90, x91, xf90, xf91, xl9⟩ := PX9
      have ⟨y90, y91, yf90, yf91, yl9⟩ := PY9
      go_region
      all_goals
        go_wp2
        refine post_ww Try.results13 rfl rfl rfl ((PQ9.set _ _).far (by omega) _ _).drew ((PR9.far (by omega) _ _).set _ _).drew ⟨At, nt, ct, A8, n8, c8, rfl, ?_, ?_, ?_⟩
        · exact ((HL9.out.setP PQ9 _ _).setP (PR9.far (by omega) _ _) _ _).drew
        · exact ((HM9.out.setP PQ9 _ _).setP (PR9.far (by omega) _ _) _ _).drew
        · exact (below_set2 (below_set2 HB9.out (by omega) _ _) (by omega) _ _).drew
  · go_enter Try.func13, Try.ntmps13
    go_wp2_with fail
    refine (rboth_any _ _ _ _ _ _ _ _ _ _ _ ((((HA.out.box _).box _).box _).box _) ((((HB.out.box _).box _).box _).box _) 0 HV.out).mono ?_
    rintro e w1 ⟨rfl, hb1⟩
    have ⟨PA, PB, PQ, PR⟩ := boxes4 hb1
    have LA1 := Lib.hid (((((HA.out.box _).box _).box _).box _).via hb1)
    have LB1 := Lib.hid (((((HB.out.box _).box _).box _).box _).via hb1)
    have HB1 := Lib.hid (bbox (bbox (bbox (bbox hb1))))
    have ⟨a0, a1, _, _, _⟩ := PA
    have ⟨b0, b1, _, _, _⟩ := PB
    clear hb1
    go_wp2_with fail
    refine (rover_any w1 A B n m ca cb a b LA1.out LB1.out hb (by omega)).mono ?_
    rintro e w2 ⟨Q, cq, R, cr, rfl, hQ, hR, hb2⟩
    have PA2 := PA.via hb2
    have PB2 := PB.via hb2
    have PQ2 := PQ.via hb2
    have PR2 := PR.via hb2
    have HB2 := Lib.hid (HB1.out.trans (hb2.mono HB1.out.size))
    have HQ := Lib.hid hQ
    have HR := Lib.hid hR
    have LB2 := Lib.hid (LB1.out.via hb2)
    clear PA PB PQ PR LA1 LB1 HB1 a0 a1 b0 b1 hb2 hQ hR
    have ⟨a0, a1, _, _, _⟩ := PA2
    have ⟨b0, b1, _, _, _⟩ := PB2
    go_wp2_with fail
    refine (rmade_any w2 _ _ _ _ _ (a / b) HQ.out HVq.out (by omega)).mono ?_
    rintro e w3 ⟨A3, n3, c3, rfl, hL3, hb3⟩
    rw [HLq.out] at hL3
    rw [HEq.out]
    have PA4 := (PA2.via hb3).alloc (.cells #[.bool (mkN true (a / b)), .slice A3 n3 c3] 24)
    have PB4 := (PB2.via hb3).alloc (.cells #[.bool (mkN true (a / b)), .slice A3 n3 c3] 24)
    have PQ4 := (PQ2.via hb3).alloc (.cells #[.bool (mkN true (a / b)), .slice A3 n3 c3] 24)
    have PR4 := (PR2.via hb3).alloc (.cells #[.bool (mkN true (a / b)), .slice A3 n3 c3] 24)
    have HB4 := Lib.hid ((HB2.out.trans (hb3.mono HB2.out.size)).alloc (HB2.out.trans (hb3.mono HB2.out.size)).size (.cells #[.bool (mkN true (a / b)), .slice A3 n3 c3] 24))
    have HR4 := Lib.hid ((HR.out.via hb3).box (.cells #[.bool (mkN true (a / b)), .slice A3 n3 c3] 24))
    have LB4 := Lib.hid ((LB2.out.via hb3).box (.cells #[.bool (mkN true (a / b)), .slice A3 n3 c3] 24))
    have HL4 := Lib.hid (hL3.box (.cells #[.bool (mkN true (a / b)), .slice A3 n3 c3] 24))
    have PX4 := Pr.new w3 w3.heap.size rfl (.bool (mkN true (a / b))) (.slice A3 n3 c3) 24
    have hlt3 : w.heap.size + 1 + 1 + 1 < w3.heap.size := (PR2.via hb3).lt
    clear PA2 PB2 PQ2 PR2 HQ HR HB2 LB2 hb3 hL3 a0 a1 b0 b1
    have ⟨a0, a1, _, _, _⟩ := PA4
    have ⟨b0, b1, _, _, _⟩ := PB4
    go_wp2_with fail
    generalize w3.alloc (.cells #[.bool (mkN true (a / b)), .slice A3 n3 c3] 24) = w4 at *
    generalize w3.heap.size = g3 at *
    refine (rmade_any w4 _ _ _ _ _ (a % b) HR4.out HVr.out (by omega)).mono ?_
    rintro e w5 ⟨A5, n5, c5, rfl, hL5, hb5⟩
    rw [HLr.out] at hL5
    rw [HEr.out]
    have PA6 := (PA4.via hb5).alloc (.cells #[.bool (mkN false (a % b)), .slice A5 n5 c5] 24)
    have PB6 := (PB4.via hb5).alloc (.cells #[.bool (mkN false (a % b)), .slice A5 n5 c5] 24)
    have PQ6 := (PQ4.via hb5).alloc (.cells #[.bool (mkN false (a % b)), .slice A5 n5 c5] 24)
    have PR6 := (PR4.via hb5).alloc (.cells #[.bool (mkN false (a % b)), .slice A5 n5 c5] 24)
    have PX6 := (PX4.via hb5).alloc (.cells #[.bool (mkN false (a % b)), .slice A5 n5 c5] 24)
    have HB6 := Lib.hid ((HB4.out.trans (hb5.mono HB4.out.size)).alloc (HB4.out.trans (hb5.mono HB4.out.size)).size (.cells #[.bool (mkN false (a % b)), .slice A5 n5 c5] 24))
    have LB6 := Lib.hid ((LB4.out.via hb5).box (.cells #[.bool (mkN false (a % b)), .slice A5 n5 c5] 24))
    have HL6 := Lib.hid ((HL4.out.via hb5).box (.cells #[.bool (mkN false (a % b)), .slice A5 n5 c5] 24))
    have HM6 := Lib.hid (hL5.box (.cells #[.bool (mkN false (a % b)), .slice A5 n5 c5] 24))
    have PY6 := Pr.new w5 w5.heap.size rfl (.bool (mkN false (a % b))) (.slice A5 n5 c5) 24
    have hlt5 : g3 < w5.heap.size := (PX4.via hb5).lt
    clear PA4 PB4 PQ4 PR4 PX4 HB4 HR4 LB4 HL4 hb5 hL5 a0 a1 b0 b1
    have ⟨a0, a1, _, _, _⟩ := PA6
    have ⟨b0, b1, _, _, _⟩ := PB6
    go_wp2_with fail
    generalize w5.alloc (.cells #[.bool (mkN false (a % b)), .slice A5 n5 c5] 24) = w6 at *
    generalize w5.heap.size = g5 at *
    have ⟨q0, q1, qf0, qf1, ql⟩ := PQ6
    have ⟨r0, r1, rf0, rf1, rl⟩ := PR6
    have ⟨x0, x1, xf0, xf1, xl⟩ := PX6
    have ⟨y0, y1, yf0, yf1, yl⟩ := PY6
    go_region_with
      (first
       | (go_at_call 29; refine (rfrom_m1 _).mono ?_; rintro e ws ⟨As, ns, cs, rfl, hLs, hbs⟩; have Bs := (Below.refl w6.heap.size w6).drew.trans hbs; have PXs := PX6.via Bs; have ⟨xs0, xs1, xsf0, xsf1, xsl⟩ := PXs)
       | (go_at_call 18; refine (HS1.out ws A3 As n3 c3 ns cs (HL6.out.via Bs) hLs).mono ?_; rintro e wt ⟨At, nt, ct, rfl, hLt, hbt⟩; have PXt := PXs.via hbt; have ⟨xt0, xt1, xtf0, xtf1, xtl⟩ := PXt))
    all_goals
      have Bt := Bs.trans (hbt.mono Bs.size)
      have PA7 := (PA6.via Bt).far (h := g3) (by omega) (.bool (mkN true (a / b + 1))) (.slice At nt ct)
      have PB7 := (PB6.via Bt).far (h := g3) (by omega) (.bool (mkN true (a / b + 1))) (.slice At nt ct)
      have PQ7 := (PQ6.via Bt).far (h := g3) (by omega) (.bool (mkN true (a / b + 1))) (.slice At nt ct)
      have PR7 := (PR6.via Bt).far (h := g3) (by omega) (.bool (mkN true (a / b + 1))) (.slice At nt ct)
      have PY7 := (PY6.via Bt).far (h := g3) (by omega) (.bool (mkN true (a / b + 1))) (.slice At nt ct)
      have PX7 := PXt.set (.bool (mkN true (a / b + 1))) (.slice At nt ct)
      have HL7 := Lib.hid (hLt.setP PXt (.bool (mkN true (a / b + 1))) (.slice At nt ct))
      have HM7 := Lib.hid ((HM6.out.via Bt).setP PXt (.bool (mkN true (a / b + 1))) (.slice At nt ct))
      have LB7 := Lib.hid ((LB6.out.via Bt).setP PXt (.bool (mkN true (a / b + 1))) (.slice At nt ct))
      have HB7 := Lib.hid (below_set2 (HB6.out.trans (Bt.mono HB6.out.size)) (g := g3) (by omega) (.bool (mkN true (a / b + 1))) (.slice At nt ct))
      have ⟨y70, y71, _, _, _⟩ := PY7
      have ⟨b70, b71, _, _, _⟩ := PB7
      go_wp2_with fail
      generalize (wt.setCell ⟨g3, 0, none⟩ (.bool (mkN true (a / b + 1)))).setCell ⟨g3, 1, none⟩ (.slice At nt ct) = w7 at *
      refine (HS2.out w7 A5 n5 c5 HM7.out LB7.out).mono ?_
      rintro e w8 ⟨A8, n8, c8, rfl, hL8, hb8⟩
      have PY8 := PY7.via hb8
      have ⟨y80, y81, yf80, yf81, _⟩ := PY8
      have PQ9 := (PQ7.via hb8).far (h := g5) (by omega) (.bool (mkN true (b - a % b))) (.slice A8 n8 c8)
      have PR9 := (PR7.via hb8).far (h := g5) (by omega) (.bool (mkN true (b - a % b))) (.slice A8 n8 c8)
      have PX9 := (PX7.via hb8).far (h := g5) (by omega) (.bool (mkN true (b - a % b))) (.slice A8 n8 c8)
      have PY9 := PY8.set (.bool (mkN true (b - a % b))) (.slice A8 n8 c8)
      have HM9 := Lib.hid (hL8.setP PY8 (.bool (mkN true (b - a % b))) (.slice A8 n8 c8))
      have HL9 := Lib.hid ((HL7.out.via hb8).setP PY8 (.bool (mkN true (b - a % b))) (.slice A8 n8 c8))
      have HB9 := Lib.hid (below_set2 (HB7.out.trans (hb8.mono HB7.out.size)) (g := g5) (by omega) (.bool (mkN true (b - a % b))) (.slice A8 n8 c8))
      go_wp2_with fail
      generalize (w8.setCell ⟨g5, 0, none⟩ (.bool (mkN true (b - a % b)))).setCell ⟨g5, 1, none⟩ (.slice A8 n8 c8) = w9 at *
      have ⟨q90, q91, qf90, qf91, ql9⟩ := PQ9
      have ⟨r90, r91, rf90, rf91, rl9⟩ := PR9
      have ⟨x90, x91, xf90, xf91, xl9⟩ := PX9
      have ⟨y90, y91, yf90, yf91, yl9⟩ := PY9
      go_region
      all_goals
        go_wp2
        refine post_ww Try.results13 rfl rfl rfl ((PQ9.set _ _).far (by omega) _ _).drew ((PR9.far (by omega) _ _).set _ _).drew ⟨At, nt, ct, A8, n8, c8, rfl, ?_, ?_, ?_⟩
        · exact ((HL9.out.setP PQ9 _ _).setP (PR9.far (by omega) _ _) _ _).drew
        · exact ((HM9.out.setP PQ9 _ _).setP (PR9.far (by omega) _ _) _ _).drew
        · exact (below_set2 (below_set2 HB9.out (by omega) _ _) (by omega) _ _).drew
end Go.Proofs.Ytkajmglpmdhmnaa

/-
  The contracts of both sides for any number, valid or not: what the functions of the chapter return, as functions of the number's reading.
-/
namespace Go.Proofs.Ytkajmglpmdhmnaa
open Go.RowKit

def intVT (neg : Bool) (xs : List Nat) : Int := if chk neg xs = 0 then intV neg (val xs) else 0
def intET (neg : Bool) (xs : List Nat) : Int := if chk neg xs = 0 then intE neg (val xs) else 8
def unN (neg' neg : Bool) (xs : List Nat) : Bool := if chk neg xs = 0 then mkN neg' (val xs) else false
def unL (neg : Bool) (xs : List Nat) : List Nat := if chk neg xs = 0 then mkL (val xs) else []
def unE (neg : Bool) (xs : List Nat) : Int := if chk neg xs = 0 then mkE (val xs) else 8
def cmpVT (na : Bool) (xs : List Nat) (nb : Bool) (ys : List Nat) : Int := if chkB na xs nb ys = 0 then cmpZ (toI na (val xs)) (toI nb (val ys)) else 0
def cmpET (na : Bool) (xs : List Nat) (nb : Bool) (ys : List Nat) : Int := if chkB na xs nb ys = 0 then 0 else 8
def signVT (neg : Bool) (xs : List Nat) : Int := if chk neg xs = 0 then signZ neg (val xs) else 0
def errT (neg : Bool) (xs : List Nat) : Int := if chk neg xs = 0 then 0 else 8
def bitsVT (neg : Bool) (xs : List Nat) : Int := if chk neg xs = 0 then (lenS xs : Int) else 0
theorem not_zero {x : Int} (h : x = 8) : ¬ x = 0 := by omega

theorem rsame_self (w : World) (na : Bool) (A B : Option Addr) (n m ca cb : Nat) (xs : List Nat) (hA : Lm w w.heap.size A n ca xs) (hB : Lm w w.heap.size B m cb xs) :
    Calls Try.prog 14 #[.agg #[.bool na, .slice A n ca], .agg #[.bool na, .slice B m cb]] w fun e w' => e = .returned (.bool true) ∧ Below w.heap.size w w' :=
  (rsame_any w na na A B n m ca cb xs xs hA hB).mono fun _ _ ⟨he, hb⟩ => ⟨by rw [he, sameB_self], hb⟩

end Go.Proofs.Ytkajmglpmdhmnaa

/- Contracts of both sides for any two numbers, valid or not: Add, Sub, Mul, DivMod. -/
namespace Go.Proofs.Ytkajmglpmdhmnaa
open Go.RowKit

def rtN (c z : Int) : Bool := if c = 0 then mkN (decide (z < 0)) z.natAbs else false
def rtL (c z : Int) : List Nat := if c = 0 then mkL z.natAbs else []
def rtE (c z : Int) : Int := if c = 0 then mkE z.natAbs else 8
theorem rt_ok (w : World) {c z : Int} (h : c = 0) : RW w (rtN c z) (rtL c z) (rtE c z) = RZ w z := by
  unfold rtN rtL rtE
  rw [if_pos h, if_pos h, if_pos h]
  rfl
theorem rt_bad (w : World) {c z : Int} (h : c = 8) : RW w (rtN c z) (rtL c z) (rtE c z) = RW w false [] 8 := by
  unfold rtN rtL rtE
  rw [if_neg (not_zero h), if_neg (not_zero h), if_neg (not_zero h)]

section
variable (w : World) (na nb : Bool) (A B : Option Addr) (n m ca cb : Nat) (xs ys : List Nat) (hA : Lm w w.heap.size A n ca xs) (hB : Lm w w.heap.size B m cb ys)
include hA hB
theorem add_t : Calls Try.prog 6 #[.agg #[.bool na, .slice A n ca], .agg #[.bool nb, .slice B m cb]] w (RW w (rtN (chkB na xs nb ys) (toI na (val xs) + toI nb (val ys))) (rtL (chkB na xs nb ys) (toI na (val xs) + toI nb (val ys))) (rtE (chkB na xs nb ys) (toI na (val xs) + toI nb (val ys)))) := by
  rcases chkB_cases na xs nb ys with hc | hc
  · rw [rt_ok w hc]
    have e1 := chk_digs (chkB_ok.1 hc).1 hA.good
    have e2 := chk_digs (chkB_ok.1 hc).2 hB.good
    rw [e1] at hA hc
    rw [e2] at hB hc
    exact add_ok w na nb A B n m ca cb _ _ hA hB hc
  · rw [rt_bad w hc]
    exact add_bad w na nb A B n m ca cb xs ys hA hB hc
theorem radd_t : Calls Try.prog 7 #[.agg #[.bool na, .slice A n ca], .agg #[.bool nb, .slice B m cb]] w (RW w (rtN (chkB na xs nb ys) (toI na (val xs) + toI nb (val ys))) (rtL (chkB na xs nb ys) (toI na (val xs) + toI nb (val ys))) (rtE (chkB na xs nb ys) (toI na (val xs) + toI nb (val ys)))) := by
  rcases chkB_cases na xs nb ys with hc | hc
  · rw [rt_ok w hc]
    have e1 := chk_digs (chkB_ok.1 hc).1 hA.good
    have e2 := chk_digs (chkB_ok.1 hc).2 hB.good
    rw [e1] at hA hc
    rw [e2] at hB hc
    exact radd_ok w na nb A B n m ca cb _ _ hA hB hc
  · rw [rt_bad w hc]
    exact radd_bad w na nb A B n m ca cb xs ys hA hB hc
theorem sub_t : Calls Try.prog 8 #[.agg #[.bool na, .slice A n ca], .agg #[.bool nb, .slice B m cb]] w (RW w (rtN (chkB na xs nb ys) (toI na (val xs) - toI nb (val ys))) (rtL (chkB na xs nb ys) (toI na (val xs) - toI nb (val ys))) (rtE (chkB na xs nb ys) (toI na (val xs) - toI nb (val ys)))) := by
  rcases chkB_cases na xs nb ys with hc | hc
  · rw [rt_ok w hc]
    have e1 := chk_digs (chkB_ok.1 hc).1 hA.good
    have e2 := chk_digs (chkB_ok.1 hc).2 hB.good
    rw [e1] at hA hc
    rw [e2] at hB hc
    exact sub_ok w na nb A B n m ca cb _ _ hA hB hc
  · rw [rt_bad w hc]
    exact sub_bad w na nb A B n m ca cb xs ys hA hB hc
theorem rsub_t : Calls Try.prog 9 #[.agg #[.bool na, .slice A n ca], .agg #[.bool nb, .slice B m cb]] w (RW w (rtN (chkB na xs nb ys) (toI na (val xs) - toI nb (val ys))) (rtL (chkB na xs nb ys) (toI na (val xs) - toI nb (val ys))) (rtE (chkB na xs nb ys) (toI na (val xs) - toI nb (val ys)))) := by
  rcases chkB_cases na xs nb ys with hc | hc
  · rw [rt_ok w hc]
    have e1 := chk_digs (chkB_ok.1 hc).1 hA.good
    have e2 := chk_digs (chkB_ok.1 hc).2 hB.good
    rw [e1] at hA hc
    rw [e2] at hB hc
    exact rsub_ok w na nb A B n m ca cb _ _ hA hB hc
  · rw [rt_bad w hc]
    exact rsub_bad w na nb A B n m ca cb xs ys hA hB hc
theorem mul_t : Calls Try.prog 10 #[.agg #[.bool na, .slice A n ca], .agg #[.bool nb, .slice B m cb]] w (RW w (rtN (chkB na xs nb ys) (toI na (val xs) * toI nb (val ys))) (rtL (chkB na xs nb ys) (toI na (val xs) * toI nb (val ys))) (rtE (chkB na xs nb ys) (toI na (val xs) * toI nb (val ys)))) := by
  rcases chkB_cases na xs nb ys with hc | hc
  · rw [rt_ok w hc, ← rz_of w (na != nb) (val xs * val ys) (toI_mul _ _ _ _)]
    have e1 := chk_digs (chkB_ok.1 hc).1 hA.good
    have e2 := chk_digs (chkB_ok.1 hc).2 hB.good
    rw [e1] at hA hc
    rw [e2] at hB hc
    exact mul_ok w na nb A B n m ca cb _ _ hA hB hc
  · rw [rt_bad w hc]
    exact mul_bad w na nb A B n m ca cb xs ys hA hB hc
theorem rmul_t : Calls Try.prog 11 #[.agg #[.bool na, .slice A n ca], .agg #[.bool nb, .slice B m cb]] w (RW w (rtN (chkB na xs nb ys) (toI na (val xs) * toI nb (val ys))) (rtL (chkB na xs nb ys) (toI na (val xs) * toI nb (val ys))) (rtE (chkB na xs nb ys) (toI na (val xs) * toI nb (val ys)))) := by
  rcases chkB_cases na xs nb ys with hc | hc
  · rw [rt_ok w hc, ← rz_of w (na != nb) (val xs * val ys) (toI_mul _ _ _ _)]
    have e1 := chk_digs (chkB_ok.1 hc).1 hA.good
    have e2 := chk_digs (chkB_ok.1 hc).2 hB.good
    rw [e1] at hA hc
    rw [e2] at hB hc
    exact rmul_ok w na nb A B n m ca cb _ _ hA hB hc
  · rw [rt_bad w hc]
    exact rmul_bad w na nb A B n m ca cb xs ys hA hB hc
end

/-- What DivMod returns: the quotient's sign and limbs, the remainder's, the error. -/
def dmT (na : Bool) (xs : List Nat) (nb : Bool) (ys : List Nat) : Bool × List Nat × Bool × List Nat × Int :=
  if chkB na xs nb ys = 0 then
    if val ys = 0 then (false, [], false, [], 18)
    else if na = nb then (mkN false (val xs / val ys), digs (val xs / val ys), mkN nb (val xs % val ys), digs (val xs % val ys), 0)
    else if val xs % val ys = 0 then (mkN true (val xs / val ys), digs (val xs / val ys), mkN nb 0, digs 0, 0)
    else (mkN true (val xs / val ys + 1), digs (val xs / val ys + 1), mkN nb (val ys - val xs % val ys), digs (val ys - val xs % val ys), 0)
  else (false, [], false, [], 8)
theorem signs_ne {na nb : Bool} (h : ¬ na = nb) : na = true ∧ nb = false ∨ na = false ∧ nb = true := by cases na <;> cases nb <;> simp at h ⊢
theorem mkN_zero (neg : Bool) : mkN neg 0 = false := by unfold mkN; simp

section
variable (w : World) (na nb : Bool) (A B : Option Addr) (n m ca cb : Nat) (xs ys : List Nat) (hA : Lm w w.heap.size A n ca xs) (hB : Lm w w.heap.size B m cb ys)
include hA hB
theorem divmod_t : Calls Try.prog 12 #[.agg #[.bool na, .slice A n ca], .agg #[.bool nb, .slice B m cb]] w (RWW w (dmT na xs nb ys).1 (dmT na xs nb ys).2.1 (dmT na xs nb ys).2.2.1 (dmT na xs nb ys).2.2.2.1 (dmT na xs nb ys).2.2.2.2) := by
  unfold dmT
  rcases chkB_cases na xs nb ys with hc | hc
  · rw [if_pos hc]
    have e1 := chk_digs (chkB_ok.1 hc).1 hA.good
    have e2 := chk_digs (chkB_ok.1 hc).2 hB.good
    by_cases h0 : val ys = 0
    · rw [if_pos h0]
      have hy : ys = [] := by rw [e2, h0]; rfl
      subst hy
      obtain rfl : m = 0 := hB.len.symm
      exact divmod_zero w na nb A B n ca cb xs hA hB hc
    · rw [if_neg h0]
      generalize val xs = a at *
      generalize val ys = b at *
      subst e1 e2
      have hb : 0 < b := by omega
      by_cases hs : na = nb
      · rw [if_pos hs]
        exact divmod_same w na nb A B n m ca cb a b hA hB hc hb hs
      · rw [if_neg hs]
        by_cases hr : a % b = 0
        · rw [if_pos hr]
          have h := divmod_exact w na nb A B n m ca cb a b hA hB hc hb (signs_ne hs) hr
          rwa [hr] at h
        · rw [if_neg hr]
          exact divmod_down w na nb A B n m ca cb a b hA hB hc hb (signs_ne hs) (by omega)
  · rw [if_neg (not_zero hc)]
    exact divmod_bad w na nb A B n m ca cb xs ys hA hB hc
theorem rdivmod_t : Calls Try.prog 13 #[.agg #[.bool na, .slice A n ca], .agg #[.bool nb, .slice B m cb]] w (RWW w (dmT na xs nb ys).1 (dmT na xs nb ys).2.1 (dmT na xs nb ys).2.2.1 (dmT na xs nb ys).2.2.2.1 (dmT na xs nb ys).2.2.2.2) := by
  unfold dmT
  rcases chkB_cases na xs nb ys with hc | hc
  · rw [if_pos hc]
    have e1 := chk_digs (chkB_ok.1 hc).1 hA.good
    have e2 := chk_digs (chkB_ok.1 hc).2 hB.good
    by_cases h0 : val ys = 0
    · rw [if_pos h0]
      have hy : ys = [] := by rw [e2, h0]; rfl
      subst hy
      obtain rfl : m = 0 := hB.len.symm
      exact rdivmod_zero w na nb A B n ca cb xs hA hB hc
    · rw [if_neg h0]
      generalize val xs = a at *
      generalize val ys = b at *
      subst e1 e2
      have hb : 0 < b := by omega
      by_cases hs : na = nb
      · rw [if_pos hs]
        exact rdivmod_same w na nb A B n m ca cb a b hA hB hc hb hs _ rfl
      · rw [if_neg hs]
        by_cases hr : a % b = 0
        · rw [if_pos hr]
          have h := rdivmod_exact w na nb A B n m ca cb a b hA hB hc hb (signs_ne hs) hr
          rwa [hr, mkN_zero, ← mkN_zero nb] at h
        · rw [if_neg hr]
          exact rdivmod_down w na nb A B n m ca cb a b hA hB hc hb (signs_ne hs) (by omega)
  · rw [if_neg (not_zero hc)]
    exact rdivmod_bad w na nb A B n m ca cb xs ys hA hB hc
end
end Go.Proofs.Ytkajmglpmdhmnaa

/- Both sides return the same, whatever it is. -/
namespace Go.Proofs.Ytkajmglpmdhmnaa
open Go.RowKit

def Twos (f : FuncId) (na nb : Bool) (xs ys : List Nat) (N : Bool) (l : List Nat) (E : Int) : Prop := ∀ (W : World) (A B : Option Addr) (n m ca cb : Nat), Lm W W.heap.size A n ca xs → Lm W W.heap.size B m cb ys →
  Calls Try.prog f #[.agg #[.bool na, .slice A n ca], .agg #[.bool nb, .slice B m cb]] W (RW W N l E)
def Twos2 (f : FuncId) (na nb : Bool) (xs ys : List Nat) (N : Bool) (l : List Nat) (N' : Bool) (l' : List Nat) (E : Int) : Prop := ∀ (W : World) (A B : Option Addr) (n m ca cb : Nat), Lm W W.heap.size A n ca xs → Lm W W.heap.size B m cb ys →
  Calls Try.prog f #[.agg #[.bool na, .slice A n ca], .agg #[.bool nb, .slice B m cb]] W (RWW W N l N' l' E)
theorem add_pair (na nb : Bool) (xs ys : List Nat) : ∃ N l E, Twos 6 na nb xs ys N l E ∧ Twos 7 na nb xs ys N l E :=
  ⟨_, _, _, fun W A B n m ca cb h1 h2 => add_t W na nb A B n m ca cb xs ys h1 h2, fun W A B n m ca cb h1 h2 => radd_t W na nb A B n m ca cb xs ys h1 h2⟩
theorem sub_pair (na nb : Bool) (xs ys : List Nat) : ∃ N l E, Twos 8 na nb xs ys N l E ∧ Twos 9 na nb xs ys N l E :=
  ⟨_, _, _, fun W A B n m ca cb h1 h2 => sub_t W na nb A B n m ca cb xs ys h1 h2, fun W A B n m ca cb h1 h2 => rsub_t W na nb A B n m ca cb xs ys h1 h2⟩
theorem mul_pair (na nb : Bool) (xs ys : List Nat) : ∃ N l E, Twos 10 na nb xs ys N l E ∧ Twos 11 na nb xs ys N l E :=
  ⟨_, _, _, fun W A B n m ca cb h1 h2 => mul_t W na nb A B n m ca cb xs ys h1 h2, fun W A B n m ca cb h1 h2 => rmul_t W na nb A B n m ca cb xs ys h1 h2⟩
theorem divmod_pair (na nb : Bool) (xs ys : List Nat) : ∃ N l N' l' E, Twos2 12 na nb xs ys N l N' l' E ∧ Twos2 13 na nb xs ys N l N' l' E :=
  ⟨_, _, _, _, _, fun W A B n m ca cb h1 h2 => divmod_t W na nb A B n m ca cb xs ys h1 h2, fun W A B n m ca cb h1 h2 => rdivmod_t W na nb A B n m ca cb xs ys h1 h2⟩
end Go.Proofs.Ytkajmglpmdhmnaa

/- The reference Twin: a copy of a number. -/
namespace Go.Proofs.Ytkajmglpmdhmnaa
open Go.RowKit

/-- 'append(out, xs...)' where out is the call's own, and xs reads as limbs, inside a region that draws. -/
theorem step_append_lm {P : Program} {ops : Array Oper} {o : Oper} {a : Act} {w : World} {K : Act → World → Prop} {Q : Exit → Act → World → Prop} {E : Prop}
    (hg : o.guard = none) (s x : Operand) (t : TypeId) (hop : o.op = Op.call { callee := Callee.builtin Builtin.append, args := #[s, x], argTypes := #[t, t] })
    (base : Nat) (e : TypeId) (i : TypeInfo) (ht : P.underlying t = some (.slice e)) (hi : P.info? e = some i) (hz : i.zero = some (.int .u32 0)) (hsize : i.size = 1) (hby : i.bytes = 4)
    (v : Value) (n : Nat) (ts : List Value) (hs : a.eval s = v) (hown : w.ownsRow base e 1 v n ts)
    (B : Nat) (A : Option Addr) (m c : Nat) (xs : List Nat) (hx : a.eval x = .slice A m c) (hr : Lm w B A m c xs)
    (h63 : n + m ≤ maxLen) (hbytes : (n + m) * 4 ≤ 140737488355328) (hbase : base ≤ w.heap.size)
    (hK : ∀ v' w', w'.ownsRow base e 1 v' (n + m) (ts ++ xs.map u32c) → w.grownBy w' v.ownBlock → K (a.put o.dst v') w') :
    if Region.wanted o (yielded ops a.tmps) = true then Oper.wp P o a w K Q else E := by
  have hw : Region.wanted o (yielded ops a.tmps) = true := by simp [Region.wanted, hg]
  rw [if_pos hw]
  rcases A with _ | ad
  · have hm : m = 0 := by
      rcases Nat.eq_zero_or_pos m with h0 | h0
      · exact h0
      · obtain ⟨b, off, e, _⟩ := hr.at_ h0
        cases e
    subst hm
    obtain rfl := hr.nil_ rfl
    obtain rfl : xs = [] := List.eq_nil_of_length_eq_zero hr.len
    have hrun := run_append_owned_none (P := P) (w := w) base t o.type e i 1 ht hi v n ts hown
    unfold Oper.wp
    simp [execOp, hop, resolve, invoke, builtin, hs, hx, hrun, Result.andThen]
    exact hK v w (by simpa using hown) (World.grownBy.refl w _)
  · obtain ⟨v', w', hrun, r1, r2, _⟩ := run_append_own (P := P) w base t o.type e i (.int .u32 0) 1 4 ht hi hz hsize hby rfl (by decide) v n ts hown ad m c (xs.map u32c) (by simp [hr.len]) hr.cells (u32c_one xs) h63 hbytes hbase
    unfold Oper.wp
    simp [execOp, hop, resolve, invoke, builtin, hs, hx, hrun, Result.andThen]
    exact hK v' w' r1 r2

theorem own_empty (w : World) (k : Nat) (hk : w.heap.size = k) : ((w.alloc (.cells #[] 47)).drew).ownsRow k 47 1 (.slice (some ⟨k, 0, none⟩) 0 0) 0 [] := by
  subst hk
  have h : (w.alloc (.cells #[] 47)).ownsRow w.heap.size 47 1 (.slice (some ⟨w.heap.size, 0, none⟩) 0 0) 0 [] := World.ownsRow_made w #[] _ (Nat.le_refl _) (by simp [maxLen]) rfl
  exact h

set_option maxRecDepth 100000 in
set_option maxHeartbeats 1000000 in
theorem twin_any (w : World) (neg : Bool) (A : Option Addr) (n c : Nat) (xs : List Nat) (h : Lm w w.heap.size A n c xs) (hn : n ≤ 1000000000) :
    Calls Try.prog 5 #[.agg #[.bool neg, .slice A n c]] w fun e w' => ∃ A' c', e = .returned (.agg #[.bool neg, .slice A' n c']) ∧ Lm w' w'.heap.size A' n c' xs ∧ Below w.heap.size w w' := by
  obtain ⟨i0, hi0, hz0, hz1, hz2⟩ := info_parts u32_info
  have hr := h.max
  have hcn := h.cap
  have HH := Lib.hid h
  go_enter Try.func5, Try.ntmps5
  go_wp2
  go_region_law (refine step_append_lm rfl (.tmp 5) (.tmp 7) _ rfl (w.heap.size + 1 + 1) _ i0 slice_u32 hi0 hz0 hz1 hz2 _ 0 [] (by simp [Act.eval]) (own_empty _ _ (by simp)) _ A n c xs (by simp [Act.eval]) ((((HH.out.box _).box _).box _).drew) (by simp only [maxLen]; omega) (by omega) (by simp) ?_; intro v1 w1 hown1 hg1; rw [Nat.zero_add, List.nil_append] at hown1; obtain ⟨A1, c1, rfl, hL1⟩ := Lm.own hown1 HH.out.good; have hB1 := (Below.refl (w.heap.size + 1 + 1) (((w.alloc (.cells #[.bool neg, .slice A n c] 24)).alloc (.cells #[.bool false, .slice none 0 0] 24)).alloc (.cells #[] 47)).drew).grown hg1 (by simp) (fun k e => by have e2 : w.heap.size + 1 + 1 = k := Option.some.inj e; omega); have PR := (((Pr.new (w.alloc (.cells #[.bool neg, .slice A n c] 24)) (w.heap.size + 1) (by simp) (.bool false) (.slice none 0 0) 24).alloc (.cells #[] 47)).drew).below hB1 (by omega); have hHB : Hid (Below w.heap.size w w1) := ((((Below.refl _ _).alloc (Nat.le_refl _) _).alloc (by simp) _).alloc (by simp; omega) _).drew.trans (hB1.mono (by omega)); have PA := (((Pr.new w w.heap.size rfl (.bool neg) (.slice A n c) 24).alloc (.cells #[.bool false, .slice none 0 0] 24)).alloc (.cells #[] 47)).drew.below hB1 (by omega); have ⟨a0, a1, _, _, _⟩ := PA; have ⟨r0, r1, rf0, rf1, rl⟩ := PR)
  all_goals
    go_wp2
    refine post_w1 Try.results5 rfl rfl (PR.set _ _).c0 (PR.set _ _).c1 ⟨A1, c1, rfl, hL1.setP PR _ _, below_set2 hHB.out (by omega) _ _⟩
end Go.Proofs.Ytkajmglpmdhmnaa

/- Two copies laid in new boxes, in whatever order. -/
namespace Go.Proofs.Ytkajmglpmdhmnaa
open Go.RowKit

/-- Two slots point to copies of both numbers. -/
def TwinsAt (w2 : World) (na : Bool) (n : Nat) (xs : List Nat) (nb : Bool) (m : Nat) (ys : List Nat) (s5 s6 : Value) (wc : World) : Prop :=
  ∃ gx gy A' c' A'' c'', s5 = .pointer (some ⟨gx, 0, none⟩) ∧ s6 = .pointer (some ⟨gy, 0, none⟩) ∧ Pr wc gx (.bool na) (.slice A' n c') ∧ Pr wc gy (.bool nb) (.slice A'' m c'') ∧ Lm wc wc.heap.size A' n c' xs ∧ Lm wc wc.heap.size A'' m c'' ys ∧ Below w2.heap.size w2 wc

section
variable {w2 w4 : World} {na nb : Bool} {n m : Nat} {xs ys : List Nat} {A3 A4 : Option Addr} {c3 c4 : Nat} {t : TypeId}
theorem fin1 (hB : Below w2.heap.size w2 w4) (L3 : Lm w4 w4.heap.size A3 n c3 xs) (L4 : Lm w4 w4.heap.size A4 m c4 ys) :
    TwinsAt w2 na n xs nb m ys (.pointer (some ⟨w4.heap.size, 0, none⟩)) (.pointer (some ⟨w4.heap.size + 1, 0, none⟩)) ((w4.alloc (.cells #[.bool na, .slice A3 n c3] t)).alloc (.cells #[.bool nb, .slice A4 m c4] t)) :=
  ⟨_, _, A3, c3, A4, c4, rfl, rfl, (Pr.new w4 _ rfl _ _ t).alloc _, Pr.new (w4.alloc _) _ (by simp) _ _ t, (L3.box _).box _, (L4.box _).box _, (hB.alloc hB.size _).alloc (hB.alloc hB.size _).size _⟩
theorem fin2 (hB : Below w2.heap.size w2 w4) (L3 : Lm w4 w4.heap.size A3 n c3 xs) (L4 : Lm w4 w4.heap.size A4 m c4 ys) :
    TwinsAt w2 na n xs nb m ys (.pointer (some ⟨w4.heap.size + 1, 0, none⟩)) (.pointer (some ⟨w4.heap.size, 0, none⟩)) ((w4.alloc (.cells #[.bool nb, .slice A4 m c4] t)).alloc (.cells #[.bool na, .slice A3 n c3] t)) :=
  ⟨_, _, A3, c3, A4, c4, rfl, rfl, Pr.new (w4.alloc _) _ (by simp) _ _ t, (Pr.new w4 _ rfl _ _ t).alloc _, (L3.box _).box _, (L4.box _).box _, (hB.alloc hB.size _).alloc (hB.alloc hB.size _).size _⟩
theorem fin3 {g : Nat} (hB : Below w2.heap.size w2 w4) (L3 : Lm w4 w4.heap.size A3 n c3 xs) (L4 : Lm w4 w4.heap.size A4 m c4 ys) (P : Pr w4 g (.bool false) (.slice none 0 0)) (hg : w2.heap.size ≤ g) :
    TwinsAt w2 na n xs nb m ys (.pointer (some ⟨g, 0, none⟩)) (.pointer (some ⟨w4.heap.size, 0, none⟩)) (((w4.setCell ⟨g, 0, none⟩ (.bool na)).setCell ⟨g, 1, none⟩ (.slice A3 n c3)).alloc (.cells #[.bool nb, .slice A4 m c4] t)) :=
  ⟨_, _, A3, c3, A4, c4, rfl, rfl, (P.set _ _).alloc _, Pr.new _ _ (size_set2 _ _ _ _) _ _ t, (L3.setP P _ _).box _, (L4.setP P _ _).box _, (below_set2 hB hg _ _).alloc (below_set2 hB hg _ _).size _⟩
theorem fin4 {g : Nat} (hB : Below w2.heap.size w2 w4) (L3 : Lm w4 w4.heap.size A3 n c3 xs) (L4 : Lm w4 w4.heap.size A4 m c4 ys) (P : Pr w4 g (.bool false) (.slice none 0 0)) (hg : w2.heap.size ≤ g) :
    TwinsAt w2 na n xs nb m ys (.pointer (some ⟨w4.heap.size, 0, none⟩)) (.pointer (some ⟨g, 0, none⟩)) (((w4.setCell ⟨g, 0, none⟩ (.bool nb)).setCell ⟨g, 1, none⟩ (.slice A4 m c4)).alloc (.cells #[.bool na, .slice A3 n c3] t)) :=
  ⟨_, _, A3, c3, A4, c4, rfl, rfl, Pr.new _ _ (size_set2 _ _ _ _) _ _ t, (P.set _ _).alloc _, (L3.setP P _ _).box _, (L4.setP P _ _).box _, (below_set2 hB hg _ _).alloc (below_set2 hB hg _ _).size _⟩
theorem fin5 {g h : Nat} (hB : Below w2.heap.size w2 w4) (L3 : Lm w4 w4.heap.size A3 n c3 xs) (L4 : Lm w4 w4.heap.size A4 m c4 ys) (P : Pr w4 g (.bool false) (.slice none 0 0)) (Q : Pr w4 h (.bool false) (.slice none 0 0)) (hg : w2.heap.size ≤ g) (hh : w2.heap.size ≤ h) (hne : g ≠ h) :
    TwinsAt w2 na n xs nb m ys (.pointer (some ⟨g, 0, none⟩)) (.pointer (some ⟨h, 0, none⟩)) ((((w4.setCell ⟨g, 0, none⟩ (.bool na)).setCell ⟨g, 1, none⟩ (.slice A3 n c3)).setCell ⟨h, 0, none⟩ (.bool nb)).setCell ⟨h, 1, none⟩ (.slice A4 m c4)) :=
  have Q' := Q.far (h := g) (fun e => hne e.symm) (.bool na) (.slice A3 n c3)
  ⟨_, _, A3, c3, A4, c4, rfl, rfl, (P.set _ _).far hne _ _, Q'.set _ _, (L3.setP P _ _).setP Q' _ _, (L4.setP P _ _).setP Q' _ _, below_set2 (below_set2 hB hg _ _) hh _ _⟩
end
theorem b_one {w w' : World} {o : Obj} (h : Below (w.alloc o).heap.size (w.alloc o) w') : Below w.heap.size w w' := bbox h
theorem b_two {w w' : World} {o o' : Obj} (h : Below ((w.alloc o).alloc o').heap.size ((w.alloc o).alloc o') w') : Below w.heap.size w w' := bbox (bbox h)
theorem b_one_d {w w' : World} {o : Obj} (h : Below (w.alloc o).drew.heap.size (w.alloc o).drew w') : Below w.heap.size w w' :=
  ((Below.refl w.heap.size w).alloc (Nat.le_refl _) o).drew.trans (h.mono (((Below.refl w.heap.size w).alloc (Nat.le_refl _) o).drew.size))
theorem b_two_d {w w' : World} {o o' : Obj} (h : Below ((w.alloc o).alloc o').drew.heap.size ((w.alloc o).alloc o').drew w') : Below w.heap.size w w' :=
  have q := (((Below.refl w.heap.size w).alloc (Nat.le_refl _) o).alloc ((Below.refl w.heap.size w).alloc (Nat.le_refl _) o).size o').drew
  q.trans (h.mono q.size)
end Go.Proofs.Ytkajmglpmdhmnaa

/- The walk of the law WideReckons. -/
namespace Go.Proofs.Ytkajmglpmdhmnaa
open Go.RowKit

set_option maxRecDepth 100000 in
set_option maxHeartbeats 12000000 in
theorem reckons_small (w : World) (na nb : Bool) (A B : Option Addr) (n m ca cb : Nat) (xs ys : List Nat) (hA : Lm w w.heap.size A n ca xs) (hB : Lm w w.heap.size B m cb ys)
    (hga : greatB n = false) (hgb : greatB m = false) :
    Calls Try.prog 3 #[.agg #[.bool na, .slice A n ca], .agg #[.bool nb, .slice B m cb]] w fun e w' => e = .returned (.bool true) ∧ Below w.heap.size w w' := by
  obtain ⟨N1, l1, E1, hA1, hR1⟩ := add_pair na nb xs ys
  obtain ⟨N2, l2, E2, hA2, hR2⟩ := sub_pair na nb xs ys
  obtain ⟨N3, l3, E3, hA3, hR3⟩ := mul_pair na nb xs ys
  obtain ⟨N4, l4, N5, l5, E4, hA4, hR4⟩ := divmod_pair na nb xs ys
  have HA1 := Lib.hid hA1
  have HR1 := Lib.hid hR1
  have HA2 := Lib.hid hA2
  have HR2 := Lib.hid hR2
  have HA3 := Lib.hid hA3
  have HR3 := Lib.hid hR3
  have HA4 := Lib.hid hA4
  have HR4 := Lib.hid hR4
  clear hA1 hR1 hA2 hR2 hA3 hR3 hA4 hR4
  have HA := Lib.hid hA
  have HB := Lib.hid hB
  have h1 := hA.cap
  have h2 := hA.max
  have h3 := hB.cap
  have h4 := hB.max
  have hn9 : n ≤ 1000000 := by unfold greatB at hga; simp at hga; omega
  have hm9 : m ≤ 1000000 := by unfold greatB at hgb; simp at hgb; omega
  have HGA := Lib.hid hga
  have HGB := Lib.hid hgb
  clear hA hB hga hgb
  go_enter Try.func3, Try.ntmps3
  go_wp2_with fail
  refine (great_any _ _ _ _ _ h1 h2).mono ?_
  rintro e w1 ⟨rfl, hb1⟩
  have PA := ((Pr.new w w.heap.size rfl (.bool na) (.slice A n ca) 24).alloc (.cells #[.bool nb, .slice B m cb] 24)).via hb1
  have PB := (Pr.new (w.alloc (.cells #[.bool na, .slice A n ca] 24)) (w.heap.size + 1) (by simp) (.bool nb) (.slice B m cb) 24).via hb1
  have LA := Lib.hid (((HA.out.box _).box _).via hb1)
  have LB := Lib.hid (((HB.out.box _).box _).via hb1)
  have BB := Lib.hid (bbox (bbox hb1))
  rw [HGA.out]
  have ⟨a0, a1, _, _, _⟩ := PA
  have ⟨b0, b1, _, _, _⟩ := PB
  clear hb1 HA HB
  go_wp2_with fail
  refine (great_any _ _ _ _ _ h3 h4).mono ?_
  rintro e w2 ⟨rfl, hb2⟩
  rw [HGB.out]
  have PA2 := PA.via hb2
  have PB2 := PB.via hb2
  have LA2 := Lib.hid (LA.out.via hb2)
  have LB2 := Lib.hid (LB.out.via hb2)
  have BB2 := Lib.hid (BB.out.trans (hb2.mono BB.out.size))
  clear PA PB LA LB BB a0 a1 b0 b1 hb2
  have ⟨a0, a1, _, _, al⟩ := PA2
  have ⟨b0, b1, _, _, bl⟩ := PB2
  go_wp2_with fail
  have HKS : Hid (∀ W : World, Below w2.heap.size w2 W → (W.cell? ⟨w.heap.size, 0, none⟩ = some (.bool na) ∧ W.cell? ⟨w.heap.size, 1, none⟩ = some (.slice A n ca)) ∧ (W.cell? ⟨w.heap.size + 1, 0, none⟩ = some (.bool nb) ∧ W.cell? ⟨w.heap.size + 1, 1, none⟩ = some (.slice B m cb))) :=
    fun W h => ⟨⟨(PA2.below h al).c0, (PA2.below h al).c1⟩, ⟨(PB2.below h bl).c0, (PB2.below h bl).c1⟩⟩
  go_cut [5, 6] (fun s5 s6 wx => TwinsAt w2 na n xs nb m ys s5 s6 wx)
  case first =>
    go_region_held3 (fun w' => (w'.cell? ⟨w.heap.size, 0, none⟩ = some (.bool na) ∧ w'.cell? ⟨w.heap.size, 1, none⟩ = some (.slice A n ca)) ∧ (w'.cell? ⟨w.heap.size + 1, 0, none⟩ = some (.bool nb) ∧ w'.cell? ⟨w.heap.size + 1, 1, none⟩ = some (.slice B m cb)))
      (first | exact ⟨⟨a0, a1⟩, ⟨b0, b1⟩⟩ | exact ⟨⟨a30, a31⟩, ⟨b30, b31⟩⟩ | exact ⟨⟨a40, a41⟩, ⟨b40, b41⟩⟩ | (refine HKS.out _ ?_; (repeat' (first | exact B24 | exact B3 | exact (Below.refl _ _).drew | exact Below.refl _ _ | refine Below.drew ?_ | refine Below.setCell ?_ ?_ _ | refine Below.alloc ?_ ?_ _)); all_goals (first | omega | (simp [World.size_setCell]; done) | (simp [World.size_setCell]; omega))))
      (first
       | (go_at_call_of 5 (Value.agg #[Value.bool na, Value.slice A n ca]); refine (twin_any _ na A n ca xs (by first | exact LA2.out.drew | exact (LA2.out.box _).drew | exact ((LA2.out.box _).box _).drew) (by omega)).mono ?_; rintro e w3 ⟨A3, c3, rfl, L3, hb3⟩; have B3 : Below w2.heap.size w2 w3 := (by first | exact (Below.refl _ _).drew.trans hb3 | exact b_one_d hb3 | exact b_two_d hb3); have PA3 := PA2.via B3; have PB3 := PB2.via B3; have ⟨a30, a31, _, _, al3⟩ := PA3; have ⟨b30, b31, _, _, bl3⟩ := PB3; have hs23 := B3.size; (try (have PZ := (Pr.new w2 w2.heap.size rfl (.bool false) (.slice none 0 0) 24).drew.via hb3; have ⟨z0, z1, zf0, zf1, zl⟩ := PZ)); (try (have PZ2 := (((Pr.new w2 w2.heap.size rfl (.bool false) (.slice none 0 0) 24).alloc (.cells #[.bool false, .slice none 0 0] 24)).drew).via hb3; have PZ3 := (Pr.new (w2.alloc (.cells #[.bool false, .slice none 0 0] 24)) (w2.heap.size + 1) (by simp) (.bool false) (.slice none 0 0) 24).drew.via hb3; have ⟨z20, z21, z2f0, z2f1, z2l⟩ := PZ2; have ⟨z30, z31, z3f0, z3f1, z3l⟩ := PZ3)))
       | (go_at_call_of 5 (Value.agg #[Value.bool nb, Value.slice B m cb]); refine (twin_any _ nb B m cb ys (by first | exact LB2.out.via B3 | exact (LB2.out.via B3).box _ | exact ((LB2.out.via B3).box _).box _) (by omega)).mono ?_; rintro e w4 ⟨A4, c4, rfl, L4, hb4⟩; have B34 : Below w3.heap.size w3 w4 := (by first | exact hb4 | exact b_one hb4 | exact b_two hb4); have PA4 := PA3.via B34; have PB4 := PB3.via B34; have ⟨a40, a41, _, _, al4⟩ := PA4; have ⟨b40, b41, _, _, bl4⟩ := PB4; have hs34 := B34.size; have B24 := B3.trans (B34.mono hs23); (try (have PW := PZ.via B34; have ⟨v0, v1, vf0, vf1, vl⟩ := PW; have va0 := fun o => (PW.alloc o).c0; have va1 := fun o => (PW.alloc o).c1; have vaf0 := fun o => (PW.alloc o).f0; have vaf1 := fun o => (PW.alloc o).f1; have vn1 := Nat.ne_of_lt vl; have vn2 := Nat.ne_of_gt vl; have vn3 := Nat.ne_of_lt zl; have vn4 := Nat.ne_of_gt zl)); (try (have PW2 := PZ2.via B34; have PW3 := PZ3.via B34; have ⟨v20, v21, v2f0, v2f1, v2l⟩ := PW2; have ⟨v30, v31, v3f0, v3f1, v3l⟩ := PW3)); (try (have PY := (Pr.new w3 w3.heap.size rfl (.bool false) (.slice none 0 0) 24).via hb4; have ⟨y0, y1, yf0, yf1, yl⟩ := PY; have ya0 := fun o => (PY.alloc o).c0; have ya1 := fun o => (PY.alloc o).c1; have yaf0 := fun o => (PY.alloc o).f0; have yaf1 := fun o => (PY.alloc o).f1; have yn1 := Nat.ne_of_lt yl; have yn2 := Nat.ne_of_gt yl)); (try (have PY2 := ((Pr.new w3 w3.heap.size rfl (.bool false) (.slice none 0 0) 24).alloc (.cells #[.bool false, .slice none 0 0] 24)).via hb4; have PY3 := (Pr.new (w3.alloc (.cells #[.bool false, .slice none 0 0] 24)) (w3.heap.size + 1) (by simp) (.bool false) (.slice none 0 0) 24).via hb4; have ⟨y20, y21, y2f0, y2f1, y2l⟩ := PY2; have ⟨y30, y31, y3f0, y3f1, y3l⟩ := PY3))))
    all_goals
      have L34 := L3.via B34
      go_wp2_with fail
      go_meet
      first
      | exact fin1 B24 L34 L4
      | exact fin2 B24 L34 L4
      | exact fin3 B24 L34 L4 PY hs23
      | exact fin3 B24 L34 L4 PW (Nat.le_refl _)
      | exact fin4 B24 L34 L4 PY hs23
      | exact fin4 B24 L34 L4 PW (Nat.le_refl _)
      | (refine fin5 B24 L34 L4 PY2 PY3 ?_ ?_ ?_ <;> omega)
      | (refine fin5 B24 L34 L4 PY3 PY2 ?_ ?_ ?_ <;> omega)
      | (refine fin5 B24 L34 L4 PW2 PW3 ?_ ?_ ?_ <;> omega)
      | (refine fin5 B24 L34 L4 PW3 PW2 ?_ ?_ ?_ <;> omega)
      | (refine fin5 B24 L34 L4 PW PY ?_ ?_ ?_ <;> omega)
      | (refine fin5 B24 L34 L4 PY PW ?_ ?_ ?_ <;> omega)
  case rest =>
    obtain ⟨gx, gy, A3, c3, A4, c4, rfl, rfl, Px_0, Py_0, LX, LY, BT⟩ := hcut
    have Pa_0 := PA2.below BT al
    have Pb_0 := PB2.below BT bl
    have La_0 := Lib.hid (LA2.out.via BT)
    have Lb_0 := Lib.hid (LB2.out.via BT)
    have Lx_0 := Lib.hid LX
    have Ly_0 := Lib.hid LY
    have BB_0 := Lib.hid (BB2.out.trans (BT.mono BB2.out.size))
    clear PA2 PB2 LA2 LB2 BB2 a0 a1 b0 b1 al bl LX LY BT HKS
    have ⟨a0, a1, _, _, _⟩ := Pa_0
    have ⟨b0, b1, _, _, _⟩ := Pb_0
    go_wp2_with fail
    clear a0 a1 b0 b1
    refine (HA1.out _ _ _ _ _ _ _ La_0.out Lb_0.out).mono ?_
    rintro e v1 ⟨A1, n1, c1, rfl, hL1, hb1⟩
    have Pa_1 := ((Pa_0.via hb1).alloc (.cells #[.bool N1, .slice A1 n1 c1] 24))
    have Pb_1 := ((Pb_0.via hb1).alloc (.cells #[.bool N1, .slice A1 n1 c1] 24))
    have Px_1 := ((Px_0.via hb1).alloc (.cells #[.bool N1, .slice A1 n1 c1] 24))
    have Py_1 := ((Py_0.via hb1).alloc (.cells #[.bool N1, .slice A1 n1 c1] 24))
    have La_1 := Lib.hid ((La_0.out.via hb1).box (.cells #[.bool N1, .slice A1 n1 c1] 24))
    have Lb_1 := Lib.hid ((Lb_0.out.via hb1).box (.cells #[.bool N1, .slice A1 n1 c1] 24))
    have Lx_1 := Lib.hid ((Lx_0.out.via hb1).box (.cells #[.bool N1, .slice A1 n1 c1] 24))
    have Ly_1 := Lib.hid ((Ly_0.out.via hb1).box (.cells #[.bool N1, .slice A1 n1 c1] 24))
    have BB_1 := Lib.hid ((BB_0.out.trans (hb1.mono BB_0.out.size)).alloc (BB_0.out.trans (hb1.mono BB_0.out.size)).size (.cells #[.bool N1, .slice A1 n1 c1] 24))
    have Ps_1 := Pr.new v1 v1.heap.size rfl (.bool N1) (.slice A1 n1 c1) 24
    have Ls_1 := Lib.hid (hL1.box (.cells #[.bool N1, .slice A1 n1 c1] 24))
    clear Pa_0 Pb_0 Px_0 Py_0 La_0 Lb_0 Lx_0 Ly_0 BB_0 hb1 hL1
    have ⟨x0, x1, _, _, _⟩ := Px_1
    have ⟨y0, y1, _, _, _⟩ := Py_1
    go_wp2_with fail
    generalize (v1.alloc (.cells #[.bool N1, .slice A1 n1 c1] 24)) = w_1 at *
    generalize v1.heap.size = g_1 at *
    clear x0 x1 y0 y1
    refine (HR1.out _ _ _ _ _ _ _ Lx_1.out Ly_1.out).mono ?_
    rintro e v2 ⟨A2, n2, c2, rfl, hL2, hb2⟩
    have Pa_2 := ((Pa_1.via hb2).alloc (.cells #[.bool N1, .slice A2 n2 c2] 24))
    have Pb_2 := ((Pb_1.via hb2).alloc (.cells #[.bool N1, .slice A2 n2 c2] 24))
    have Px_2 := ((Px_1.via hb2).alloc (.cells #[.bool N1, .slice A2 n2 c2] 24))
    have Py_2 := ((Py_1.via hb2).alloc (.cells #[.bool N1, .slice A2 n2 c2] 24))
    have Ps_2 := ((Ps_1.via hb2).alloc (.cells #[.bool N1, .slice A2 n2 c2] 24))
    have La_2 := Lib.hid ((La_1.out.via hb2).box (.cells #[.bool N1, .slice A2 n2 c2] 24))
    have Lb_2 := Lib.hid ((Lb_1.out.via hb2).box (.cells #[.bool N1, .slice A2 n2 c2] 24))
    have Lx_2 := Lib.hid ((Lx_1.out.via hb2).box (.cells #[.bool N1, .slice A2 n2 c2] 24))
    have Ly_2 := Lib.hid ((Ly_1.out.via hb2).box (.cells #[.bool N1, .slice A2 n2 c2] 24))
    have Ls_2 := Lib.hid ((Ls_1.out.via hb2).box (.cells #[.bool N1, .slice A2 n2 c2] 24))
    have BB_2 := Lib.hid ((BB_1.out.trans (hb2.mono BB_1.out.size)).alloc (BB_1.out.trans (hb2.mono BB_1.out.size)).size (.cells #[.bool N1, .slice A2 n2 c2] 24))
    have Pt_2 := Pr.new v2 v2.heap.size rfl (.bool N1) (.slice A2 n2 c2) 24
    have Lt_2 := Lib.hid (hL2.box (.cells #[.bool N1, .slice A2 n2 c2] 24))
    clear Pa_1 Pb_1 Px_1 Py_1 Ps_1 La_1 Lb_1 Lx_1 Ly_1 Ls_1 BB_1 hb2 hL2
    have ⟨a0, a1, _, _, _⟩ := Pa_2
    have ⟨b0, b1, _, _, _⟩ := Pb_2
    go_wp2_with fail
    generalize (v2.alloc (.cells #[.bool N1, .slice A2 n2 c2] 24)) = w_2 at *
    generalize v2.heap.size = g_2 at *
    clear a0 a1 b0 b1
    refine (HA2.out _ _ _ _ _ _ _ La_2.out Lb_2.out).mono ?_
    rintro e v3 ⟨A3, n3, c3, rfl, hL3, hb3⟩
    have Pa_3 := ((Pa_2.via hb3).alloc (.cells #[.bool N2, .slice A3 n3 c3] 24))
    have Pb_3 := ((Pb_2.via hb3).alloc (.cells #[.bool N2, .slice A3 n3 c3] 24))
    have Px_3 := ((Px_2.via hb3).alloc (.cells #[.bool N2, .slice A3 n3 c3] 24))
    have Py_3 := ((Py_2.via hb3).alloc (.cells #[.bool N2, .slice A3 n3 c3] 24))
    have Ps_3 := ((Ps_2.via hb3).alloc (.cells #[.bool N2, .slice A3 n3 c3] 24))
    have Pt_3 := ((Pt_2.via hb3).alloc (.cells #[.bool N2, .slice A3 n3 c3] 24))
    have La_3 := Lib.hid ((La_2.out.via hb3).box (.cells #[.bool N2, .slice A3 n3 c3] 24))
    have Lb_3 := Lib.hid ((Lb_2.out.via hb3).box (.cells #[.bool N2, .slice A3 n3 c3] 24))
    have Lx_3 := Lib.hid ((Lx_2.out.via hb3).box (.cells #[.bool N2, .slice A3 n3 c3] 24))
    have Ly_3 := Lib.hid ((Ly_2.out.via hb3).box (.cells #[.bool N2, .slice A3 n3 c3] 24))
    have Ls_3 := Lib.hid ((Ls_2.out.via hb3).box (.cells #[.bool N2, .slice A3 n3 c3] 24))
    have Lt_3 := Lib.hid ((Lt_2.out.via hb3).box (.cells #[.bool N2, .slice A3 n3 c3] 24))
    have BB_3 := Lib.hid ((BB_2.out.trans (hb3.mono BB_2.out.size)).alloc (BB_2.out.trans (hb3.mono BB_2.out.size)).size (.cells #[.bool N2, .slice A3 n3 c3] 24))
    have Pd_3 := Pr.new v3 v3.heap.size rfl (.bool N2) (.slice A3 n3 c3) 24
    have Ld_3 := Lib.hid (hL3.box (.cells #[.bool N2, .slice A3 n3 c3] 24))
    clear Pa_2 Pb_2 Px_2 Py_2 Ps_2 Pt_2 La_2 Lb_2 Lx_2 Ly_2 Ls_2 Lt_2 BB_2 hb3 hL3
    have ⟨x0, x1, _, _, _⟩ := Px_3
    have ⟨y0, y1, _, _, _⟩ := Py_3
    go_wp2_with fail
    generalize (v3.alloc (.cells #[.bool N2, .slice A3 n3 c3] 24)) = w_3 at *
    generalize v3.heap.size = g_3 at *
    clear x0 x1 y0 y1
    refine (HR2.out _ _ _ _ _ _ _ Lx_3.out Ly_3.out).mono ?_
    rintro e v4 ⟨A4, n4, c4, rfl, hL4, hb4⟩
    have Pa_4 := ((Pa_3.via hb4).alloc (.cells #[.bool N2, .slice A4 n4 c4] 24))
    have Pb_4 := ((Pb_3.via hb4).alloc (.cells #[.bool N2, .slice A4 n4 c4] 24))
    have Px_4 := ((Px_3.via hb4).alloc (.cells #[.bool N2, .slice A4 n4 c4] 24))
    have Py_4 := ((Py_3.via hb4).alloc (.cells #[.bool N2, .slice A4 n4 c4] 24))
    have Ps_4 := ((Ps_3.via hb4).alloc (.cells #[.bool N2, .slice A4 n4 c4] 24))
    have Pt_4 := ((Pt_3.via hb4).alloc (.cells #[.bool N2, .slice A4 n4 c4] 24))
    have Pd_4 := ((Pd_3.via hb4).alloc (.cells #[.bool N2, .slice A4 n4 c4] 24))
    have La_4 := Lib.hid ((La_3.out.via hb4).box (.cells #[.bool N2, .slice A4 n4 c4] 24))
    have Lb_4 := Lib.hid ((Lb_3.out.via hb4).box (.cells #[.bool N2, .slice A4 n4 c4] 24))
    have Lx_4 := Lib.hid ((Lx_3.out.via hb4).box (.cells #[.bool N2, .slice A4 n4 c4] 24))
    have Ly_4 := Lib.hid ((Ly_3.out.via hb4).box (.cells #[.bool N2, .slice A4 n4 c4] 24))
    have Ls_4 := Lib.hid ((Ls_3.out.via hb4).box (.cells #[.bool N2, .slice A4 n4 c4] 24))
    have Lt_4 := Lib.hid ((Lt_3.out.via hb4).box (.cells #[.bool N2, .slice A4 n4 c4] 24))
    have Ld_4 := Lib.hid ((Ld_3.out.via hb4).box (.cells #[.bool N2, .slice A4 n4 c4] 24))
    have BB_4 := Lib.hid ((BB_3.out.trans (hb4.mono BB_3.out.size)).alloc (BB_3.out.trans (hb4.mono BB_3.out.size)).size (.cells #[.bool N2, .slice A4 n4 c4] 24))
    have Pc_4 := Pr.new v4 v4.heap.size rfl (.bool N2) (.slice A4 n4 c4) 24
    have Lc_4 := Lib.hid (hL4.box (.cells #[.bool N2, .slice A4 n4 c4] 24))
    clear Pa_3 Pb_3 Px_3 Py_3 Ps_3 Pt_3 Pd_3 La_3 Lb_3 Lx_3 Ly_3 Ls_3 Lt_3 Ld_3 BB_3 hb4 hL4
    have ⟨a0, a1, _, _, _⟩ := Pa_4
    have ⟨b0, b1, _, _, _⟩ := Pb_4
    go_wp2_with fail
    generalize (v4.alloc (.cells #[.bool N2, .slice A4 n4 c4] 24)) = w_4 at *
    generalize v4.heap.size = g_4 at *
    clear a0 a1 b0 b1
    refine (HA3.out _ _ _ _ _ _ _ La_4.out Lb_4.out).mono ?_
    rintro e v5 ⟨A5, n5, c5, rfl, hL5, hb5⟩
    have Pa_5 := ((Pa_4.via hb5).alloc (.cells #[.bool N3, .slice A5 n5 c5] 24))
    have Pb_5 := ((Pb_4.via hb5).alloc (.cells #[.bool N3, .slice A5 n5 c5] 24))
    have Px_5 := ((Px_4.via hb5).alloc (.cells #[.bool N3, .slice A5 n5 c5] 24))
    have Py_5 := ((Py_4.via hb5).alloc (.cells #[.bool N3, .slice A5 n5 c5] 24))
    have Ps_5 := ((Ps_4.via hb5).alloc (.cells #[.bool N3, .slice A5 n5 c5] 24))
    have Pt_5 := ((Pt_4.via hb5).alloc (.cells #[.bool N3, .slice A5 n5 c5] 24))
    have Pd_5 := ((Pd_4.via hb5).alloc (.cells #[.bool N3, .slice A5 n5 c5] 24))
    have Pc_5 := ((Pc_4.via hb5).alloc (.cells #[.bool N3, .slice A5 n5 c5] 24))
    have La_5 := Lib.hid ((La_4.out.via hb5).box (.cells #[.bool N3, .slice A5 n5 c5] 24))
    have Lb_5 := Lib.hid ((Lb_4.out.via hb5).box (.cells #[.bool N3, .slice A5 n5 c5] 24))
    have Lx_5 := Lib.hid ((Lx_4.out.via hb5).box (.cells #[.bool N3, .slice A5 n5 c5] 24))
    have Ly_5 := Lib.hid ((Ly_4.out.via hb5).box (.cells #[.bool N3, .slice A5 n5 c5] 24))
    have Ls_5 := Lib.hid ((Ls_4.out.via hb5).box (.cells #[.bool N3, .slice A5 n5 c5] 24))
    have Lt_5 := Lib.hid ((Lt_4.out.via hb5).box (.cells #[.bool N3, .slice A5 n5 c5] 24))
    have Ld_5 := Lib.hid ((Ld_4.out.via hb5).box (.cells #[.bool N3, .slice A5 n5 c5] 24))
    have Lc_5 := Lib.hid ((Lc_4.out.via hb5).box (.cells #[.bool N3, .slice A5 n5 c5] 24))
    have BB_5 := Lib.hid ((BB_4.out.trans (hb5.mono BB_4.out.size)).alloc (BB_4.out.trans (hb5.mono BB_4.out.size)).size (.cells #[.bool N3, .slice A5 n5 c5] 24))
    have Pp_5 := Pr.new v5 v5.heap.size rfl (.bool N3) (.slice A5 n5 c5) 24
    have Lp_5 := Lib.hid (hL5.box (.cells #[.bool N3, .slice A5 n5 c5] 24))
    clear Pa_4 Pb_4 Px_4 Py_4 Ps_4 Pt_4 Pd_4 Pc_4 La_4 Lb_4 Lx_4 Ly_4 Ls_4 Lt_4 Ld_4 Lc_4 BB_4 hb5 hL5
    have ⟨x0, x1, _, _, _⟩ := Px_5
    have ⟨y0, y1, _, _, _⟩ := Py_5
    go_wp2_with fail
    generalize (v5.alloc (.cells #[.bool N3, .slice A5 n5 c5] 24)) = w_5 at *
    generalize v5.heap.size = g_5 at *
    clear x0 x1 y0 y1
    refine (HR3.out _ _ _ _ _ _ _ Lx_5.out Ly_5.out).mono ?_
    rintro e v6 ⟨A6, n6, c6, rfl, hL6, hb6⟩
    have Pa_6 := ((Pa_5.via hb6).alloc (.cells #[.bool N3, .slice A6 n6 c6] 24))
    have Pb_6 := ((Pb_5.via hb6).alloc (.cells #[.bool N3, .slice A6 n6 c6] 24))
    have Px_6 := ((Px_5.via hb6).alloc (.cells #[.bool N3, .slice A6 n6 c6] 24))
    have Py_6 := ((Py_5.via hb6).alloc (.cells #[.bool N3, .slice A6 n6 c6] 24))
    have Ps_6 := ((Ps_5.via hb6).alloc (.cells #[.bool N3, .slice A6 n6 c6] 24))
    have Pt_6 := ((Pt_5.via hb6).alloc (.cells #[.bool N3, .slice A6 n6 c6] 24))
    have Pd_6 := ((Pd_5.via hb6).alloc (.cells #[.bool N3, .slice A6 n6 c6] 24))
    have Pc_6 := ((Pc_5.via hb6).alloc (.cells #[.bool N3, .slice A6 n6 c6] 24))
    have Pp_6 := ((Pp_5.via hb6).alloc (.cells #[.bool N3, .slice A6 n6 c6] 24))
    have La_6 := Lib.hid ((La_5.out.via hb6).box (.cells #[.bool N3, .slice A6 n6 c6] 24))
    have Lb_6 := Lib.hid ((Lb_5.out.via hb6).box (.cells #[.bool N3, .slice A6 n6 c6] 24))
    have Lx_6 := Lib.hid ((Lx_5.out.via hb6).box (.cells #[.bool N3, .slice A6 n6 c6] 24))
    have Ly_6 := Lib.hid ((Ly_5.out.via hb6).box (.cells #[.bool N3, .slice A6 n6 c6] 24))
    have Ls_6 := Lib.hid ((Ls_5.out.via hb6).box (.cells #[.bool N3, .slice A6 n6 c6] 24))
    have Lt_6 := Lib.hid ((Lt_5.out.via hb6).box (.cells #[.bool N3, .slice A6 n6 c6] 24))
    have Ld_6 := Lib.hid ((Ld_5.out.via hb6).box (.cells #[.bool N3, .slice A6 n6 c6] 24))
    have Lc_6 := Lib.hid ((Lc_5.out.via hb6).box (.cells #[.bool N3, .slice A6 n6 c6] 24))
    have Lp_6 := Lib.hid ((Lp_5.out.via hb6).box (.cells #[.bool N3, .slice A6 n6 c6] 24))
    have BB_6 := Lib.hid ((BB_5.out.trans (hb6.mono BB_5.out.size)).alloc (BB_5.out.trans (hb6.mono BB_5.out.size)).size (.cells #[.bool N3, .slice A6 n6 c6] 24))
    have Po_6 := Pr.new v6 v6.heap.size rfl (.bool N3) (.slice A6 n6 c6) 24
    have Lo_6 := Lib.hid (hL6.box (.cells #[.bool N3, .slice A6 n6 c6] 24))
    clear Pa_5 Pb_5 Px_5 Py_5 Ps_5 Pt_5 Pd_5 Pc_5 Pp_5 La_5 Lb_5 Lx_5 Ly_5 Ls_5 Lt_5 Ld_5 Lc_5 Lp_5 BB_5 hb6 hL6
    have ⟨a0, a1, _, _, _⟩ := Pa_6
    have ⟨b0, b1, _, _, _⟩ := Pb_6
    go_wp2_with fail
    generalize (v6.alloc (.cells #[.bool N3, .slice A6 n6 c6] 24)) = w_6 at *
    generalize v6.heap.size = g_6 at *
    clear a0 a1 b0 b1
    refine (HA4.out _ _ _ _ _ _ _ La_6.out Lb_6.out).mono ?_
    rintro e v7 ⟨A7, n7, c7, A7', n7', c7', rfl, hL7, hL7', hb7⟩
    have Pa_7 := (((Pa_6.via hb7).alloc (.cells #[.bool N4, .slice A7 n7 c7] 24)).alloc (.cells #[.bool N5, .slice A7' n7' c7'] 24))
    have Pb_7 := (((Pb_6.via hb7).alloc (.cells #[.bool N4, .slice A7 n7 c7] 24)).alloc (.cells #[.bool N5, .slice A7' n7' c7'] 24))
    have Px_7 := (((Px_6.via hb7).alloc (.cells #[.bool N4, .slice A7 n7 c7] 24)).alloc (.cells #[.bool N5, .slice A7' n7' c7'] 24))
    have Py_7 := (((Py_6.via hb7).alloc (.cells #[.bool N4, .slice A7 n7 c7] 24)).alloc (.cells #[.bool N5, .slice A7' n7' c7'] 24))
    have Ps_7 := (((Ps_6.via hb7).alloc (.cells #[.bool N4, .slice A7 n7 c7] 24)).alloc (.cells #[.bool N5, .slice A7' n7' c7'] 24))
    have Pt_7 := (((Pt_6.via hb7).alloc (.cells #[.bool N4, .slice A7 n7 c7] 24)).alloc (.cells #[.bool N5, .slice A7' n7' c7'] 24))
    have Pd_7 := (((Pd_6.via hb7).alloc (.cells #[.bool N4, .slice A7 n7 c7] 24)).alloc (.cells #[.bool N5, .slice A7' n7' c7'] 24))
    have Pc_7 := (((Pc_6.via hb7).alloc (.cells #[.bool N4, .slice A7 n7 c7] 24)).alloc (.cells #[.bool N5, .slice A7' n7' c7'] 24))
    have Pp_7 := (((Pp_6.via hb7).alloc (.cells #[.bool N4, .slice A7 n7 c7] 24)).alloc (.cells #[.bool N5, .slice A7' n7' c7'] 24))
    have Po_7 := (((Po_6.via hb7).alloc (.cells #[.bool N4, .slice A7 n7 c7] 24)).alloc (.cells #[.bool N5, .slice A7' n7' c7'] 24))
    have La_7 := Lib.hid (((La_6.out.via hb7).box (.cells #[.bool N4, .slice A7 n7 c7] 24)).box (.cells #[.bool N5, .slice A7' n7' c7'] 24))
    have Lb_7 := Lib.hid (((Lb_6.out.via hb7).box (.cells #[.bool N4, .slice A7 n7 c7] 24)).box (.cells #[.bool N5, .slice A7' n7' c7'] 24))
    have Lx_7 := Lib.hid (((Lx_6.out.via hb7).box (.cells #[.bool N4, .slice A7 n7 c7] 24)).box (.cells #[.bool N5, .slice A7' n7' c7'] 24))
    have Ly_7 := Lib.hid (((Ly_6.out.via hb7).box (.cells #[.bool N4, .slice A7 n7 c7] 24)).box (.cells #[.bool N5, .slice A7' n7' c7'] 24))
    have Ls_7 := Lib.hid (((Ls_6.out.via hb7).box (.cells #[.bool N4, .slice A7 n7 c7] 24)).box (.cells #[.bool N5, .slice A7' n7' c7'] 24))
    have Lt_7 := Lib.hid (((Lt_6.out.via hb7).box (.cells #[.bool N4, .slice A7 n7 c7] 24)).box (.cells #[.bool N5, .slice A7' n7' c7'] 24))
    have Ld_7 := Lib.hid (((Ld_6.out.via hb7).box (.cells #[.bool N4, .slice A7 n7 c7] 24)).box (.cells #[.bool N5, .slice A7' n7' c7'] 24))
    have Lc_7 := Lib.hid (((Lc_6.out.via hb7).box (.cells #[.bool N4, .slice A7 n7 c7] 24)).box (.cells #[.bool N5, .slice A7' n7' c7'] 24))
    have Lp_7 := Lib.hid (((Lp_6.out.via hb7).box (.cells #[.bool N4, .slice A7 n7 c7] 24)).box (.cells #[.bool N5, .slice A7' n7' c7'] 24))
    have Lo_7 := Lib.hid (((Lo_6.out.via hb7).box (.cells #[.bool N4, .slice A7 n7 c7] 24)).box (.cells #[.bool N5, .slice A7' n7' c7'] 24))
    have BB_7 := Lib.hid (((BB_6.out.trans (hb7.mono BB_6.out.size)).alloc (BB_6.out.trans (hb7.mono BB_6.out.size)).size (.cells #[.bool N4, .slice A7 n7 c7] 24)).alloc ((BB_6.out.trans (hb7.mono BB_6.out.size)).alloc (BB_6.out.trans (hb7.mono BB_6.out.size)).size (.cells #[.bool N4, .slice A7 n7 c7] 24)).size (.cells #[.bool N5, .slice A7' n7' c7'] 24))
    have Pq_7 := (Pr.new v7 v7.heap.size rfl (.bool N4) (.slice A7 n7 c7) 24).alloc (.cells #[.bool N5, .slice A7' n7' c7'] 24)
    have Pr_7 := Pr.new (v7.alloc (.cells #[.bool N4, .slice A7 n7 c7] 24)) (v7.heap.size + 1) (by simp) (.bool N5) (.slice A7' n7' c7') 24
    have Lq_7 := Lib.hid ((hL7.box (.cells #[.bool N4, .slice A7 n7 c7] 24)).box (.cells #[.bool N5, .slice A7' n7' c7'] 24))
    have Lr_7 := Lib.hid ((hL7'.box (.cells #[.bool N4, .slice A7 n7 c7] 24)).box (.cells #[.bool N5, .slice A7' n7' c7'] 24))
    clear Pa_6 Pb_6 Px_6 Py_6 Ps_6 Pt_6 Pd_6 Pc_6 Pp_6 Po_6 La_6 Lb_6 Lx_6 Ly_6 Ls_6 Lt_6 Ld_6 Lc_6 Lp_6 Lo_6 BB_6 hb7 hL7 hL7'
    have ⟨x0, x1, _, _, _⟩ := Px_7
    have ⟨y0, y1, _, _, _⟩ := Py_7
    go_wp2_with fail
    generalize ((v7.alloc (.cells #[.bool N4, .slice A7 n7 c7] 24)).alloc (.cells #[.bool N5, .slice A7' n7' c7'] 24)) = w_7 at *
    generalize v7.heap.size = g_7 at *
    clear x0 x1 y0 y1
    refine (HR4.out _ _ _ _ _ _ _ Lx_7.out Ly_7.out).mono ?_
    rintro e v8 ⟨A8, n8, c8, A8', n8', c8', rfl, hL8, hL8', hb8⟩
    have Pa_8 := (((Pa_7.via hb8).alloc (.cells #[.bool N4, .slice A8 n8 c8] 24)).alloc (.cells #[.bool N5, .slice A8' n8' c8'] 24))
    have Pb_8 := (((Pb_7.via hb8).alloc (.cells #[.bool N4, .slice A8 n8 c8] 24)).alloc (.cells #[.bool N5, .slice A8' n8' c8'] 24))
    have Px_8 := (((Px_7.via hb8).alloc (.cells #[.bool N4, .slice A8 n8 c8] 24)).alloc (.cells #[.bool N5, .slice A8' n8' c8'] 24))
    have Py_8 := (((Py_7.via hb8).alloc (.cells #[.bool N4, .slice A8 n8 c8] 24)).alloc (.cells #[.bool N5, .slice A8' n8' c8'] 24))
    have Ps_8 := (((Ps_7.via hb8).alloc (.cells #[.bool N4, .slice A8 n8 c8] 24)).alloc (.cells #[.bool N5, .slice A8' n8' c8'] 24))
    have Pt_8 := (((Pt_7.via hb8).alloc (.cells #[.bool N4, .slice A8 n8 c8] 24)).alloc (.cells #[.bool N5, .slice A8' n8' c8'] 24))
    have Pd_8 := (((Pd_7.via hb8).alloc (.cells #[.bool N4, .slice A8 n8 c8] 24)).alloc (.cells #[.bool N5, .slice A8' n8' c8'] 24))
    have Pc_8 := (((Pc_7.via hb8).alloc (.cells #[.bool N4, .slice A8 n8 c8] 24)).alloc (.cells #[.bool N5, .slice A8' n8' c8'] 24))
    have Pp_8 := (((Pp_7.via hb8).alloc (.cells #[.bool N4, .slice A8 n8 c8] 24)).alloc (.cells #[.bool N5, .slice A8' n8' c8'] 24))
    have Po_8 := (((Po_7.via hb8).alloc (.cells #[.bool N4, .slice A8 n8 c8] 24)).alloc (.cells #[.bool N5, .slice A8' n8' c8'] 24))
    have Pq_8 := (((Pq_7.via hb8).alloc (.cells #[.bool N4, .slice A8 n8 c8] 24)).alloc (.cells #[.bool N5, .slice A8' n8' c8'] 24))
    have Pr_8 := (((Pr_7.via hb8).alloc (.cells #[.bool N4, .slice A8 n8 c8] 24)).alloc (.cells #[.bool N5, .slice A8' n8' c8'] 24))
    have La_8 := Lib.hid (((La_7.out.via hb8).box (.cells #[.bool N4, .slice A8 n8 c8] 24)).box (.cells #[.bool N5, .slice A8' n8' c8'] 24))
    have Lb_8 := Lib.hid (((Lb_7.out.via hb8).box (.cells #[.bool N4, .slice A8 n8 c8] 24)).box (.cells #[.bool N5, .slice A8' n8' c8'] 24))
    have Lx_8 := Lib.hid (((Lx_7.out.via hb8).box (.cells #[.bool N4, .slice A8 n8 c8] 24)).box (.cells #[.bool N5, .slice A8' n8' c8'] 24))
    have Ly_8 := Lib.hid (((Ly_7.out.via hb8).box (.cells #[.bool N4, .slice A8 n8 c8] 24)).box (.cells #[.bool N5, .slice A8' n8' c8'] 24))
    have Ls_8 := Lib.hid (((Ls_7.out.via hb8).box (.cells #[.bool N4, .slice A8 n8 c8] 24)).box (.cells #[.bool N5, .slice A8' n8' c8'] 24))
    have Lt_8 := Lib.hid (((Lt_7.out.via hb8).box (.cells #[.bool N4, .slice A8 n8 c8] 24)).box (.cells #[.bool N5, .slice A8' n8' c8'] 24))
    have Ld_8 := Lib.hid (((Ld_7.out.via hb8).box (.cells #[.bool N4, .slice A8 n8 c8] 24)).box (.cells #[.bool N5, .slice A8' n8' c8'] 24))
    have Lc_8 := Lib.hid (((Lc_7.out.via hb8).box (.cells #[.bool N4, .slice A8 n8 c8] 24)).box (.cells #[.bool N5, .slice A8' n8' c8'] 24))
    have Lp_8 := Lib.hid (((Lp_7.out.via hb8).box (.cells #[.bool N4, .slice A8 n8 c8] 24)).box (.cells #[.bool N5, .slice A8' n8' c8'] 24))
    have Lo_8 := Lib.hid (((Lo_7.out.via hb8).box (.cells #[.bool N4, .slice A8 n8 c8] 24)).box (.cells #[.bool N5, .slice A8' n8' c8'] 24))
    have Lq_8 := Lib.hid (((Lq_7.out.via hb8).box (.cells #[.bool N4, .slice A8 n8 c8] 24)).box (.cells #[.bool N5, .slice A8' n8' c8'] 24))
    have Lr_8 := Lib.hid (((Lr_7.out.via hb8).box (.cells #[.bool N4, .slice A8 n8 c8] 24)).box (.cells #[.bool N5, .slice A8' n8' c8'] 24))
    have BB_8 := Lib.hid (((BB_7.out.trans (hb8.mono BB_7.out.size)).alloc (BB_7.out.trans (hb8.mono BB_7.out.size)).size (.cells #[.bool N4, .slice A8 n8 c8] 24)).alloc ((BB_7.out.trans (hb8.mono BB_7.out.size)).alloc (BB_7.out.trans (hb8.mono BB_7.out.size)).size (.cells #[.bool N4, .slice A8 n8 c8] 24)).size (.cells #[.bool N5, .slice A8' n8' c8'] 24))
    have Pu_8 := (Pr.new v8 v8.heap.size rfl (.bool N4) (.slice A8 n8 c8) 24).alloc (.cells #[.bool N5, .slice A8' n8' c8'] 24)
    have Pv_8 := Pr.new (v8.alloc (.cells #[.bool N4, .slice A8 n8 c8] 24)) (v8.heap.size + 1) (by simp) (.bool N5) (.slice A8' n8' c8') 24
    have Lu_8 := Lib.hid ((hL8.box (.cells #[.bool N4, .slice A8 n8 c8] 24)).box (.cells #[.bool N5, .slice A8' n8' c8'] 24))
    have Lv_8 := Lib.hid ((hL8'.box (.cells #[.bool N4, .slice A8 n8 c8] 24)).box (.cells #[.bool N5, .slice A8' n8' c8'] 24))
    clear Pa_7 Pb_7 Px_7 Py_7 Ps_7 Pt_7 Pd_7 Pc_7 Pp_7 Po_7 Pq_7 Pr_7 La_7 Lb_7 Lx_7 Ly_7 Ls_7 Lt_7 Ld_7 Lc_7 Lp_7 Lo_7 Lq_7 Lr_7 BB_7 hb8 hL8 hL8'
    have ⟨s0, s1, _, _, _⟩ := Ps_8
    have ⟨t0, t1, _, _, _⟩ := Pt_8
    go_wp2_with fail
    generalize ((v8.alloc (.cells #[.bool N4, .slice A8 n8 c8] 24)).alloc (.cells #[.bool N5, .slice A8' n8' c8'] 24)) = w_8 at *
    generalize v8.heap.size = g_8 at *
    clear s0 s1 t0 t1
    refine (rsame_self _ _ _ _ _ _ _ _ _ Ls_8.out Lt_8.out).mono ?_
    rintro e v9 ⟨rfl, hb9⟩
    have Pa_9 := (Pa_8.via hb9)
    have Pb_9 := (Pb_8.via hb9)
    have Px_9 := (Px_8.via hb9)
    have Py_9 := (Py_8.via hb9)
    have Ps_9 := (Ps_8.via hb9)
    have Pt_9 := (Pt_8.via hb9)
    have Pd_9 := (Pd_8.via hb9)
    have Pc_9 := (Pc_8.via hb9)
    have Pp_9 := (Pp_8.via hb9)
    have Po_9 := (Po_8.via hb9)
    have Pq_9 := (Pq_8.via hb9)
    have Pr_9 := (Pr_8.via hb9)
    have Pu_9 := (Pu_8.via hb9)
    have Pv_9 := (Pv_8.via hb9)
    have La_9 := Lib.hid (La_8.out.via hb9)
    have Lb_9 := Lib.hid (Lb_8.out.via hb9)
    have Lx_9 := Lib.hid (Lx_8.out.via hb9)
    have Ly_9 := Lib.hid (Ly_8.out.via hb9)
    have Ls_9 := Lib.hid (Ls_8.out.via hb9)
    have Lt_9 := Lib.hid (Lt_8.out.via hb9)
    have Ld_9 := Lib.hid (Ld_8.out.via hb9)
    have Lc_9 := Lib.hid (Lc_8.out.via hb9)
    have Lp_9 := Lib.hid (Lp_8.out.via hb9)
    have Lo_9 := Lib.hid (Lo_8.out.via hb9)
    have Lq_9 := Lib.hid (Lq_8.out.via hb9)
    have Lr_9 := Lib.hid (Lr_8.out.via hb9)
    have Lu_9 := Lib.hid (Lu_8.out.via hb9)
    have Lv_9 := Lib.hid (Lv_8.out.via hb9)
    have BB_9 := Lib.hid (BB_8.out.trans (hb9.mono BB_8.out.size))
    clear Pa_8 Pb_8 Px_8 Py_8 Ps_8 Pt_8 Pd_8 Pc_8 Pp_8 Po_8 Pq_8 Pr_8 Pu_8 Pv_8 La_8 Lb_8 Lx_8 Ly_8 Ls_8 Lt_8 Ld_8 Lc_8 Lp_8 Lo_8 Lq_8 Lr_8 Lu_8 Lv_8 BB_8 hb9
    have ⟨d0, d1, _, _, _⟩ := Pd_9
    have ⟨c0, c1, _, _, _⟩ := Pc_9
    go_wp2_with fail
    clear d0 d1 c0 c1
    refine (rsame_self _ _ _ _ _ _ _ _ _ Ld_9.out Lc_9.out).mono ?_
    rintro e v10 ⟨rfl, hb10⟩
    have Pa_10 := (Pa_9.via hb10)
    have Pb_10 := (Pb_9.via hb10)
    have Px_10 := (Px_9.via hb10)
    have Py_10 := (Py_9.via hb10)
    have Ps_10 := (Ps_9.via hb10)
    have Pt_10 := (Pt_9.via hb10)
    have Pd_10 := (Pd_9.via hb10)
    have Pc_10 := (Pc_9.via hb10)
    have Pp_10 := (Pp_9.via hb10)
    have Po_10 := (Po_9.via hb10)
    have Pq_10 := (Pq_9.via hb10)
    have Pr_10 := (Pr_9.via hb10)
    have Pu_10 := (Pu_9.via hb10)
    have Pv_10 := (Pv_9.via hb10)
    have La_10 := Lib.hid (La_9.out.via hb10)
    have Lb_10 := Lib.hid (Lb_9.out.via hb10)
    have Lx_10 := Lib.hid (Lx_9.out.via hb10)
    have Ly_10 := Lib.hid (Ly_9.out.via hb10)
    have Ls_10 := Lib.hid (Ls_9.out.via hb10)
    have Lt_10 := Lib.hid (Lt_9.out.via hb10)
    have Ld_10 := Lib.hid (Ld_9.out.via hb10)
    have Lc_10 := Lib.hid (Lc_9.out.via hb10)
    have Lp_10 := Lib.hid (Lp_9.out.via hb10)
    have Lo_10 := Lib.hid (Lo_9.out.via hb10)
    have Lq_10 := Lib.hid (Lq_9.out.via hb10)
    have Lr_10 := Lib.hid (Lr_9.out.via hb10)
    have Lu_10 := Lib.hid (Lu_9.out.via hb10)
    have Lv_10 := Lib.hid (Lv_9.out.via hb10)
    have BB_10 := Lib.hid (BB_9.out.trans (hb10.mono BB_9.out.size))
    clear Pa_9 Pb_9 Px_9 Py_9 Ps_9 Pt_9 Pd_9 Pc_9 Pp_9 Po_9 Pq_9 Pr_9 Pu_9 Pv_9 La_9 Lb_9 Lx_9 Ly_9 Ls_9 Lt_9 Ld_9 Lc_9 Lp_9 Lo_9 Lq_9 Lr_9 Lu_9 Lv_9 BB_9 hb10
    have ⟨p0, p1, _, _, _⟩ := Pp_10
    have ⟨o0, o1, _, _, _⟩ := Po_10
    go_wp2_with fail
    clear p0 p1 o0 o1
    refine (rsame_self _ _ _ _ _ _ _ _ _ Lp_10.out Lo_10.out).mono ?_
    rintro e v11 ⟨rfl, hb11⟩
    have Pa_11 := (Pa_10.via hb11)
    have Pb_11 := (Pb_10.via hb11)
    have Px_11 := (Px_10.via hb11)
    have Py_11 := (Py_10.via hb11)
    have Ps_11 := (Ps_10.via hb11)
    have Pt_11 := (Pt_10.via hb11)
    have Pd_11 := (Pd_10.via hb11)
    have Pc_11 := (Pc_10.via hb11)
    have Pp_11 := (Pp_10.via hb11)
    have Po_11 := (Po_10.via hb11)
    have Pq_11 := (Pq_10.via hb11)
    have Pr_11 := (Pr_10.via hb11)
    have Pu_11 := (Pu_10.via hb11)
    have Pv_11 := (Pv_10.via hb11)
    have La_11 := Lib.hid (La_10.out.via hb11)
    have Lb_11 := Lib.hid (Lb_10.out.via hb11)
    have Lx_11 := Lib.hid (Lx_10.out.via hb11)
    have Ly_11 := Lib.hid (Ly_10.out.via hb11)
    have Ls_11 := Lib.hid (Ls_10.out.via hb11)
    have Lt_11 := Lib.hid (Lt_10.out.via hb11)
    have Ld_11 := Lib.hid (Ld_10.out.via hb11)
    have Lc_11 := Lib.hid (Lc_10.out.via hb11)
    have Lp_11 := Lib.hid (Lp_10.out.via hb11)
    have Lo_11 := Lib.hid (Lo_10.out.via hb11)
    have Lq_11 := Lib.hid (Lq_10.out.via hb11)
    have Lr_11 := Lib.hid (Lr_10.out.via hb11)
    have Lu_11 := Lib.hid (Lu_10.out.via hb11)
    have Lv_11 := Lib.hid (Lv_10.out.via hb11)
    have BB_11 := Lib.hid (BB_10.out.trans (hb11.mono BB_10.out.size))
    clear Pa_10 Pb_10 Px_10 Py_10 Ps_10 Pt_10 Pd_10 Pc_10 Pp_10 Po_10 Pq_10 Pr_10 Pu_10 Pv_10 La_10 Lb_10 Lx_10 Ly_10 Ls_10 Lt_10 Ld_10 Lc_10 Lp_10 Lo_10 Lq_10 Lr_10 Lu_10 Lv_10 BB_10 hb11
    have ⟨q0, q1, _, _, _⟩ := Pq_11
    have ⟨u0, u1, _, _, _⟩ := Pu_11
    go_wp2_with fail
    clear q0 q1 u0 u1
    refine (rsame_self _ _ _ _ _ _ _ _ _ Lq_11.out Lu_11.out).mono ?_
    rintro e v12 ⟨rfl, hb12⟩
    have Pa_12 := (Pa_11.via hb12)
    have Pb_12 := (Pb_11.via hb12)
    have Px_12 := (Px_11.via hb12)
    have Py_12 := (Py_11.via hb12)
    have Ps_12 := (Ps_11.via hb12)
    have Pt_12 := (Pt_11.via hb12)
    have Pd_12 := (Pd_11.via hb12)
    have Pc_12 := (Pc_11.via hb12)
    have Pp_12 := (Pp_11.via hb12)
    have Po_12 := (Po_11.via hb12)
    have Pq_12 := (Pq_11.via hb12)
    have Pr_12 := (Pr_11.via hb12)
    have Pu_12 := (Pu_11.via hb12)
    have Pv_12 := (Pv_11.via hb12)
    have La_12 := Lib.hid (La_11.out.via hb12)
    have Lb_12 := Lib.hid (Lb_11.out.via hb12)
    have Lx_12 := Lib.hid (Lx_11.out.via hb12)
    have Ly_12 := Lib.hid (Ly_11.out.via hb12)
    have Ls_12 := Lib.hid (Ls_11.out.via hb12)
    have Lt_12 := Lib.hid (Lt_11.out.via hb12)
    have Ld_12 := Lib.hid (Ld_11.out.via hb12)
    have Lc_12 := Lib.hid (Lc_11.out.via hb12)
    have Lp_12 := Lib.hid (Lp_11.out.via hb12)
    have Lo_12 := Lib.hid (Lo_11.out.via hb12)
    have Lq_12 := Lib.hid (Lq_11.out.via hb12)
    have Lr_12 := Lib.hid (Lr_11.out.via hb12)
    have Lu_12 := Lib.hid (Lu_11.out.via hb12)
    have Lv_12 := Lib.hid (Lv_11.out.via hb12)
    have BB_12 := Lib.hid (BB_11.out.trans (hb12.mono BB_11.out.size))
    clear Pa_11 Pb_11 Px_11 Py_11 Ps_11 Pt_11 Pd_11 Pc_11 Pp_11 Po_11 Pq_11 Pr_11 Pu_11 Pv_11 La_11 Lb_11 Lx_11 Ly_11 Ls_11 Lt_11 Ld_11 Lc_11 Lp_11 Lo_11 Lq_11 Lr_11 Lu_11 Lv_11 BB_11 hb12
    have ⟨r0, r1, _, _, _⟩ := Pr_12
    have ⟨v0, v1, _, _, _⟩ := Pv_12
    go_wp2_with fail
    clear r0 r1 v0 v1
    refine (rsame_self _ _ _ _ _ _ _ _ _ Lr_12.out Lv_12.out).mono ?_
    rintro e v13 ⟨rfl, hb13⟩
    have Pa_13 := (Pa_12.via hb13)
    have Pb_13 := (Pb_12.via hb13)
    have Px_13 := (Px_12.via hb13)
    have Py_13 := (Py_12.via hb13)
    have Ps_13 := (Ps_12.via hb13)
    have Pt_13 := (Pt_12.via hb13)
    have Pd_13 := (Pd_12.via hb13)
    have Pc_13 := (Pc_12.via hb13)
    have Pp_13 := (Pp_12.via hb13)
    have Po_13 := (Po_12.via hb13)
    have Pq_13 := (Pq_12.via hb13)
    have Pr_13 := (Pr_12.via hb13)
    have Pu_13 := (Pu_12.via hb13)
    have Pv_13 := (Pv_12.via hb13)
    have La_13 := Lib.hid (La_12.out.via hb13)
    have Lb_13 := Lib.hid (Lb_12.out.via hb13)
    have Lx_13 := Lib.hid (Lx_12.out.via hb13)
    have Ly_13 := Lib.hid (Ly_12.out.via hb13)
    have Ls_13 := Lib.hid (Ls_12.out.via hb13)
    have Lt_13 := Lib.hid (Lt_12.out.via hb13)
    have Ld_13 := Lib.hid (Ld_12.out.via hb13)
    have Lc_13 := Lib.hid (Lc_12.out.via hb13)
    have Lp_13 := Lib.hid (Lp_12.out.via hb13)
    have Lo_13 := Lib.hid (Lo_12.out.via hb13)
    have Lq_13 := Lib.hid (Lq_12.out.via hb13)
    have Lr_13 := Lib.hid (Lr_12.out.via hb13)
    have Lu_13 := Lib.hid (Lu_12.out.via hb13)
    have Lv_13 := Lib.hid (Lv_12.out.via hb13)
    have BB_13 := Lib.hid (BB_12.out.trans (hb13.mono BB_12.out.size))
    clear Pa_12 Pb_12 Px_12 Py_12 Ps_12 Pt_12 Pd_12 Pc_12 Pp_12 Po_12 Pq_12 Pr_12 Pu_12 Pv_12 La_12 Lb_12 Lx_12 Ly_12 Ls_12 Lt_12 Ld_12 Lc_12 Lp_12 Lo_12 Lq_12 Lr_12 Lu_12 Lv_12 BB_12 hb13
    have ⟨a0, a1, _, _, _⟩ := Pa_13
    have ⟨x0, x1, _, _, _⟩ := Px_13
    go_wp2_with fail
    clear a0 a1 x0 x1
    refine (rsame_self _ _ _ _ _ _ _ _ _ La_13.out Lx_13.out).mono ?_
    rintro e v14 ⟨rfl, hb14⟩
    have Pa_14 := (Pa_13.via hb14)
    have Pb_14 := (Pb_13.via hb14)
    have Px_14 := (Px_13.via hb14)
    have Py_14 := (Py_13.via hb14)
    have Ps_14 := (Ps_13.via hb14)
    have Pt_14 := (Pt_13.via hb14)
    have Pd_14 := (Pd_13.via hb14)
    have Pc_14 := (Pc_13.via hb14)
    have Pp_14 := (Pp_13.via hb14)
    have Po_14 := (Po_13.via hb14)
    have Pq_14 := (Pq_13.via hb14)
    have Pr_14 := (Pr_13.via hb14)
    have Pu_14 := (Pu_13.via hb14)
    have Pv_14 := (Pv_13.via hb14)
    have La_14 := Lib.hid (La_13.out.via hb14)
    have Lb_14 := Lib.hid (Lb_13.out.via hb14)
    have Lx_14 := Lib.hid (Lx_13.out.via hb14)
    have Ly_14 := Lib.hid (Ly_13.out.via hb14)
    have Ls_14 := Lib.hid (Ls_13.out.via hb14)
    have Lt_14 := Lib.hid (Lt_13.out.via hb14)
    have Ld_14 := Lib.hid (Ld_13.out.via hb14)
    have Lc_14 := Lib.hid (Lc_13.out.via hb14)
    have Lp_14 := Lib.hid (Lp_13.out.via hb14)
    have Lo_14 := Lib.hid (Lo_13.out.via hb14)
    have Lq_14 := Lib.hid (Lq_13.out.via hb14)
    have Lr_14 := Lib.hid (Lr_13.out.via hb14)
    have Lu_14 := Lib.hid (Lu_13.out.via hb14)
    have Lv_14 := Lib.hid (Lv_13.out.via hb14)
    have BB_14 := Lib.hid (BB_13.out.trans (hb14.mono BB_13.out.size))
    clear Pa_13 Pb_13 Px_13 Py_13 Ps_13 Pt_13 Pd_13 Pc_13 Pp_13 Po_13 Pq_13 Pr_13 Pu_13 Pv_13 La_13 Lb_13 Lx_13 Ly_13 Ls_13 Lt_13 Ld_13 Lc_13 Lp_13 Lo_13 Lq_13 Lr_13 Lu_13 Lv_13 BB_13 hb14
    have ⟨b0, b1, _, _, _⟩ := Pb_14
    have ⟨y0, y1, _, _, _⟩ := Py_14
    go_wp2_with fail
    clear b0 b1 y0 y1
    refine (rsame_self _ _ _ _ _ _ _ _ _ Lb_14.out Ly_14.out).mono ?_
    rintro e v15 ⟨rfl, hb15⟩
    have Pa_15 := (Pa_14.via hb15)
    have Pb_15 := (Pb_14.via hb15)
    have Px_15 := (Px_14.via hb15)
    have Py_15 := (Py_14.via hb15)
    have Ps_15 := (Ps_14.via hb15)
    have Pt_15 := (Pt_14.via hb15)
    have Pd_15 := (Pd_14.via hb15)
    have Pc_15 := (Pc_14.via hb15)
    have Pp_15 := (Pp_14.via hb15)
    have Po_15 := (Po_14.via hb15)
    have Pq_15 := (Pq_14.via hb15)
    have Pr_15 := (Pr_14.via hb15)
    have Pu_15 := (Pu_14.via hb15)
    have Pv_15 := (Pv_14.via hb15)
    have La_15 := Lib.hid (La_14.out.via hb15)
    have Lb_15 := Lib.hid (Lb_14.out.via hb15)
    have Lx_15 := Lib.hid (Lx_14.out.via hb15)
    have Ly_15 := Lib.hid (Ly_14.out.via hb15)
    have Ls_15 := Lib.hid (Ls_14.out.via hb15)
    have Lt_15 := Lib.hid (Lt_14.out.via hb15)
    have Ld_15 := Lib.hid (Ld_14.out.via hb15)
    have Lc_15 := Lib.hid (Lc_14.out.via hb15)
    have Lp_15 := Lib.hid (Lp_14.out.via hb15)
    have Lo_15 := Lib.hid (Lo_14.out.via hb15)
    have Lq_15 := Lib.hid (Lq_14.out.via hb15)
    have Lr_15 := Lib.hid (Lr_14.out.via hb15)
    have Lu_15 := Lib.hid (Lu_14.out.via hb15)
    have Lv_15 := Lib.hid (Lv_14.out.via hb15)
    have BB_15 := Lib.hid (BB_14.out.trans (hb15.mono BB_14.out.size))
    clear Pa_14 Pb_14 Px_14 Py_14 Ps_14 Pt_14 Pd_14 Pc_14 Pp_14 Po_14 Pq_14 Pr_14 Pu_14 Pv_14 La_14 Lb_14 Lx_14 Ly_14 Ls_14 Lt_14 Ld_14 Lc_14 Lp_14 Lo_14 Lq_14 Lr_14 Lu_14 Lv_14 BB_14 hb15
    go_wp2
    go_ret
    exact ⟨rfl, BB_15.out⟩
end Go.Proofs.Ytkajmglpmdhmnaa

