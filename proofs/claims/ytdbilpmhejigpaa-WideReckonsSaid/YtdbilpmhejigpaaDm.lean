/- wide.DivMod. -/
import Derived.Test.YtdbilpmhejigpaaPr
import Derived.Test.YtdbilpmhejigpaaDvd
import Derived.Test.YtdbilpmhejigpaaJoin
namespace Go.Proofs.Ytdbilpmhejigpaa
open Go.RowKit

/-- A call returns two numbers and an error. -/
def RWW (w : World) (n1 : Bool) (l1 : List Nat) (n2 : Bool) (l2 : List Nat) (err : Int) (e : Ending) (w' : World) : Prop :=
  ∃ A n c A' n' c', e = .returned (.tuple #[.agg #[.bool n1, .slice A n c], .agg #[.bool n2, .slice A' n' c'], .int .i64 err]) ∧ Lm w' w'.heap.size A n c l1 ∧ Lm w' w'.heap.size A' n' c' l2 ∧ Below w.heap.size w w'

set_option maxRecDepth 100000 in
set_option maxHeartbeats 1000000 in
theorem divmod_bad (w : World) (na nb : Bool) (A B : Option Addr) (n m ca cb : Nat) (xs ys : List Nat) (hA : Lm w w.heap.size A n ca xs) (hB : Lm w w.heap.size B m cb ys) (hv : chkB na xs nb ys = 8) :
    Calls Try.prog 13 #[.agg #[.bool na, .slice A n ca], .agg #[.bool nb, .slice B m cb]] w (RWW w false [] false [] 8) := by
  have HA := Lib.hid hA
  have HB := Lib.hid hB
  have HV := Lib.hid hv
  clear hv
  go_enter Try.func13, Try.ntmps13
  go_wp2_with fail
  refine (both_any _ _ _ _ _ _ _ _ _ _ _ 8 ((((HA.out.box _).box _).box _).box _) ((((HB.out.box _).box _).box _).box _) HV.out).mono ?_
  rintro e w1 ⟨rfl, hb1⟩
  have ⟨_, _, PQ, PR⟩ := boxes4 hb1
  have ⟨q0, q1, qf0, qf1, ql⟩ := PQ
  have ⟨r0, r1, rf0, rf1, rl⟩ := PR
  have HB1 := Lib.hid (bbox (bbox (bbox (bbox hb1))))
  clear hb1
  go_wp2
  refine post_ww Try.results13 rfl rfl rfl ((PQ.set (.bool false) (.slice none 0 0)).far (by omega) _ _) ((PR.far (by omega) _ _).set _ _) ⟨none, 0, 0, none, 0, 0, rfl, Lm.nil _ _, Lm.nil _ _, below_set2 (below_set2 HB1.out (by omega) _ _) (by omega) _ _⟩

set_option maxRecDepth 100000 in
set_option maxHeartbeats 1000000 in
theorem divmod_zero (w : World) (na nb : Bool) (A B : Option Addr) (n ca cb : Nat) (xs : List Nat) (hA : Lm w w.heap.size A n ca xs) (hB : Lm w w.heap.size B 0 cb []) (hv : chkB na xs nb [] = 0) :
    Calls Try.prog 13 #[.agg #[.bool na, .slice A n ca], .agg #[.bool nb, .slice B 0 cb]] w (RWW w false [] false [] 18) := by
  have HA := Lib.hid hA
  have HB := Lib.hid hB
  have HV := Lib.hid hv
  clear hv
  go_enter Try.func13, Try.ntmps13
  go_wp2_with fail
  refine (both_any _ _ _ _ _ _ _ _ _ _ _ 0 ((((HA.out.box _).box _).box _).box _) ((((HB.out.box _).box _).box _).box _) HV.out).mono ?_
  rintro e w1 ⟨rfl, hb1⟩
  have ⟨_, PB, PQ, PR⟩ := boxes4 hb1
  obtain ⟨b0, b1, bf0, bf1, bl⟩ := PB
  have ⟨q0, q1, qf0, qf1, ql⟩ := PQ
  have ⟨r0, r1, rf0, rf1, rl⟩ := PR
  have HB1 := Lib.hid (bbox (bbox (bbox (bbox hb1))))
  clear hb1
  go_wp2
  refine post_ww Try.results13 rfl rfl rfl ((Pr.set ⟨q0, q1, qf0, qf1, ql⟩ (.bool false) (.slice none 0 0)).far (by omega) _ _) ((Pr.far ⟨r0, r1, rf0, rf1, rl⟩ (by omega) _ _).set _ _) ⟨none, 0, 0, none, 0, 0, rfl, Lm.nil _ _, Lm.nil _ _, below_set2 (below_set2 HB1.out (by omega) _ _) (by omega) _ _⟩

/-! ### DivMod where the remainder is 0 or the signs agree, and where not -/
set_option maxRecDepth 100000 in
set_option maxHeartbeats 2000000 in
theorem divmod_same (w : World) (na nb : Bool) (A B : Option Addr) (n m ca cb a b : Nat) (hA : Lm w w.heap.size A n ca (digs a)) (hB : Lm w w.heap.size B m cb (digs b)) (hv : chkB na (digs a) nb (digs b) = 0) (hb : 0 < b) (hs : na = nb) :
    Calls Try.prog 13 #[.agg #[.bool na, .slice A n ca], .agg #[.bool nb, .slice B m cb]] w (RWW w (mkN false (a / b)) (digs (a / b)) (mkN nb (a % b)) (digs (a % b)) 0) := by
  have h41 := (chk_ok.1 (chkB_ok.1 hv).1).1
  have h42 := (chk_ok.1 (chkB_ok.1 hv).2).1
  have hq : (digs (a / b)).length ≤ 4096 := Nat.le_trans (digs_mono (Nat.div_le_self a b)) h41
  have hr : (digs (a % b)).length ≤ 4096 := Nat.le_trans (digs_mono (Nat.le_of_lt (Nat.mod_lt a hb))) h42
  have HLq : Hid (mkL (a / b) = digs (a / b)) := by show _ = _; unfold mkL; rw [if_pos hq]
  have HLr : Hid (mkL (a % b) = digs (a % b)) := by show _ = _; unfold mkL; rw [if_pos hr]
  rw [hA.len] at h41
  rw [hB.len] at h42
  have hm0 : 0 < m := by rw [← hB.len, digs_pos]; exact hb
  have hm1 : ((m : Int) == 0) = false := by simp; omega
  have hcB := hB.cap
  have hxB := hB.max
  have HA := Lib.hid hA
  have HB := Lib.hid hB
  have HV := Lib.hid hv
  have hrl : decide (0 < (digs (a % b)).length) = decide (0 < a % b) := decide_eq_decide.2 digs_pos
  clear hrl
  clear hv
  subst hs
  cases na
  · go_enter Try.func13, Try.ntmps13
    go_wp2_with fail
    refine (both_any _ _ _ _ _ _ _ _ _ _ _ 0 ((((HA.out.box _).box _).box _).box _) ((((HB.out.box _).box _).box _).box _) HV.out).mono ?_
    rintro e w1 ⟨rfl, hb1⟩
    have ⟨PA, PB, PQ, PR⟩ := boxes4 hb1
    have LA1 := Lib.hid (((((HA.out.box _).box _).box _).box _).via hb1)
    have LB1 := Lib.hid (((((HB.out.box _).box _).box _).box _).via hb1)
    have HB1 := Lib.hid (bbox (bbox (bbox (bbox hb1))))
    have ⟨a0, a1, _, _, _⟩ := PA
    have ⟨b0, b1, _, _, _⟩ := PB
    clear hb1
    go_wp2_with fail
    refine (divide_any w1 A B n m ca cb a b LA1.out LB1.out hb (by omega)).mono ?_
    rintro e w2 ⟨Q, cq, R, cr, rfl, hQ, hR, hb2⟩
    have PA2 := PA.via hb2
    have PB2 := PB.via hb2
    have PQ2 := PQ.via hb2
    have PR2 := PR.via hb2
    have HB2 := Lib.hid (HB1.out.trans (hb2.mono HB1.out.size))
    have HQ := Lib.hid hQ
    have HR := Lib.hid hR
    have LB2 := Lib.hid (LB1.out.via hb2)
    clear PA PB PQ PR LA1 LB1 HB1 a0 a1 b0 b1 hb2 hQ hR
    have ⟨a0, a1, _, _, _⟩ := PA2
    have ⟨b0, b1, _, _, _⟩ := PB2
    go_wp2_with fail
    refine (made_any _ _ _ _ _ (a / b) HQ.out).mono ?_
    rintro e w3 ⟨A3, n3, c3, rfl, hL3, hb3⟩
    rw [HLq.out] at hL3
    have PB3 := PB2.via hb3
    have PQ3 := PQ2.via hb3
    have PR3 := PR2.via hb3
    have HB3 := Lib.hid (HB2.out.trans (hb3.mono HB2.out.size))
    have HR3 := Lib.hid (HR.out.via hb3)
    have HL3 := Lib.hid hL3
    clear PA2 PB2 PQ2 PR2 HQ HR HB2 hb3 hL3 a0 a1 b0 b1
    have ⟨q0, q1, qf0, qf1, ql⟩ := PQ3
    have X4 := Lib.hid (PB3.far (h := w.heap.size + 1 + 1) (by omega) (.bool (mkN false (a / b))) (.slice A3 n3 c3))
    have PQ4 := PQ3.set (.bool (mkN false (a / b))) (.slice A3 n3 c3)
    have PR4 := PR3.far (h := w.heap.size + 1 + 1) (by omega) (.bool (mkN false (a / b))) (.slice A3 n3 c3)
    have HR4 := Lib.hid (HR3.out.setP PQ3 (.bool (mkN false (a / b))) (.slice A3 n3 c3))
    have HL4 := Lib.hid (HL3.out.setP PQ3 (.bool (mkN false (a / b))) (.slice A3 n3 c3))
    have PB4 := X4.out
    have ⟨b0, b1, _, _, _⟩ := PB4
    go_wp2_with fail
    refine (made_any _ _ _ _ _ (a % b) HR4.out).mono ?_
    rintro e w5 ⟨A5, n5, c5, rfl, hL5, hb5⟩
    rw [HLr.out] at hL5
    have PQ5 := PQ4.via hb5
    have PR5 := PR4.via hb5
    have HB5 := Lib.hid ((below_set2 HB3.out (by omega) (.bool (mkN false (a / b))) (.slice A3 n3 c3)).trans (hb5.mono (by rw [size_set2]; exact HB3.out.size)))
    have HL5 := Lib.hid (HL4.out.via hb5)
    have HM5 := Lib.hid hL5
    clear X4 HR3 HL3 HR4 HL4 PB3 PQ3 PR3 PQ4 PR4 PB4 hb5 hL5 q0 q1 qf0 qf1 b0 b1 HB3
    have ⟨r0, r1, rf0, rf1, rl⟩ := PR5
    have PQ6 := PQ5.far (h := w.heap.size + 1 + 1 + 1) (by omega) (.bool (mkN false (a % b))) (.slice A5 n5 c5)
    have PR6 := PR5.set (.bool (mkN false (a % b))) (.slice A5 n5 c5)
    have HL6 := Lib.hid (HL5.out.setP PR5 (.bool (mkN false (a % b))) (.slice A5 n5 c5))
    have HM6 := Lib.hid (HM5.out.setP PR5 (.bool (mkN false (a % b))) (.slice A5 n5 c5))
    have HB6 := Lib.hid (below_set2 HB5.out (by omega) (.bool (mkN false (a % b))) (.slice A5 n5 c5) (g := w.heap.size + 1 + 1 + 1))
    go_wp2_with fail
    generalize ((w5.setCell ⟨w.heap.size + 1 + 1 + 1, 0, none⟩ (.bool (mkN false (a % b)))).setCell ⟨w.heap.size + 1 + 1 + 1, 1, none⟩ (.slice A5 n5 c5)) = w6 at *
    clear PQ5 PR5 HL5 HM5 HB5 r0 r1 rf0 rf1 rl
    have ⟨q0, q1, qf0, qf1, ql⟩ := PQ6
    have ⟨r0, r1, rf0, rf1, rl⟩ := PR6
    go_region
    go_wp2
    refine post_ww Try.results13 rfl rfl rfl ((PQ6.set _ _).far (by omega) _ _).drew ((PR6.far (by omega) _ _).set _ _).drew ⟨A3, n3, c3, A5, n5, c5, rfl, ?_, ?_, ?_⟩
    · exact ((HL6.out.setP PQ6 _ _).setP (PR6.far (by omega) _ _) _ _).drew
    · exact ((HM6.out.setP PQ6 _ _).setP (PR6.far (by omega) _ _) _ _).drew
    · exact (below_set2 (below_set2 HB6.out (by omega) _ _) (by omega) _ _).drew
  · go_enter Try.func13, Try.ntmps13
    go_wp2_with fail
    refine (both_any _ _ _ _ _ _ _ _ _ _ _ 0 ((((HA.out.box _).box _).box _).box _) ((((HB.out.box _).box _).box _).box _) HV.out).mono ?_
    rintro e w1 ⟨rfl, hb1⟩
    have ⟨PA, PB, PQ, PR⟩ := boxes4 hb1
    have LA1 := Lib.hid (((((HA.out.box _).box _).box _).box _).via hb1)
    have LB1 := Lib.hid (((((HB.out.box _).box _).box _).box _).via hb1)
    have HB1 := Lib.hid (bbox (bbox (bbox (bbox hb1))))
    have ⟨a0, a1, _, _, _⟩ := PA
    have ⟨b0, b1, _, _, _⟩ := PB
    clear hb1
    go_wp2_with fail
    refine (divide_any w1 A B n m ca cb a b LA1.out LB1.out hb (by omega)).mono ?_
    rintro e w2 ⟨Q, cq, R, cr, rfl, hQ, hR, hb2⟩
    have PA2 := PA.via hb2
    have PB2 := PB.via hb2
    have PQ2 := PQ.via hb2
    have PR2 := PR.via hb2
    have HB2 := Lib.hid (HB1.out.trans (hb2.mono HB1.out.size))
    have HQ := Lib.hid hQ
    have HR := Lib.hid hR
    have LB2 := Lib.hid (LB1.out.via hb2)
    clear PA PB PQ PR LA1 LB1 HB1 a0 a1 b0 b1 hb2 hQ hR
    have ⟨a0, a1, _, _, _⟩ := PA2
    have ⟨b0, b1, _, _, _⟩ := PB2
    go_wp2_with fail
    refine (made_any _ _ _ _ _ (a / b) HQ.out).mono ?_
    rintro e w3 ⟨A3, n3, c3, rfl, hL3, hb3⟩
    rw [HLq.out] at hL3
    have PB3 := PB2.via hb3
    have PQ3 := PQ2.via hb3
    have PR3 := PR2.via hb3
    have HB3 := Lib.hid (HB2.out.trans (hb3.mono HB2.out.size))
    have HR3 := Lib.hid (HR.out.via hb3)
    have HL3 := Lib.hid hL3
    clear PA2 PB2 PQ2 PR2 HQ HR HB2 hb3 hL3 a0 a1 b0 b1
    have ⟨q0, q1, qf0, qf1, ql⟩ := PQ3
    have X4 := Lib.hid (PB3.far (h := w.heap.size + 1 + 1) (by omega) (.bool (mkN false (a / b))) (.slice A3 n3 c3))
    have PQ4 := PQ3.set (.bool (mkN false (a / b))) (.slice A3 n3 c3)
    have PR4 := PR3.far (h := w.heap.size + 1 + 1) (by omega) (.bool (mkN false (a / b))) (.slice A3 n3 c3)
    have HR4 := Lib.hid (HR3.out.setP PQ3 (.bool (mkN false (a / b))) (.slice A3 n3 c3))
    have HL4 := Lib.hid (HL3.out.setP PQ3 (.bool (mkN false (a / b))) (.slice A3 n3 c3))
    have PB4 := X4.out
    have ⟨b0, b1, _, _, _⟩ := PB4
    go_wp2_with fail
    refine (made_any _ _ _ _ _ (a % b) HR4.out).mono ?_
    rintro e w5 ⟨A5, n5, c5, rfl, hL5, hb5⟩
    rw [HLr.out] at hL5
    have PQ5 := PQ4.via hb5
    have PR5 := PR4.via hb5
    have HB5 := Lib.hid ((below_set2 HB3.out (by omega) (.bool (mkN false (a / b))) (.slice A3 n3 c3)).trans (hb5.mono (by rw [size_set2]; exact HB3.out.size)))
    have HL5 := Lib.hid (HL4.out.via hb5)
    have HM5 := Lib.hid hL5
    clear X4 HR3 HL3 HR4 HL4 PB3 PQ3 PR3 PQ4 PR4 PB4 hb5 hL5 q0 q1 qf0 qf1 b0 b1 HB3
    have ⟨r0, r1, rf0, rf1, rl⟩ := PR5
    have PQ6 := PQ5.far (h := w.heap.size + 1 + 1 + 1) (by omega) (.bool (mkN true (a % b))) (.slice A5 n5 c5)
    have PR6 := PR5.set (.bool (mkN true (a % b))) (.slice A5 n5 c5)
    have HL6 := Lib.hid (HL5.out.setP PR5 (.bool (mkN true (a % b))) (.slice A5 n5 c5))
    have HM6 := Lib.hid (HM5.out.setP PR5 (.bool (mkN true (a % b))) (.slice A5 n5 c5))
    have HB6 := Lib.hid (below_set2 HB5.out (by omega) (.bool (mkN true (a % b))) (.slice A5 n5 c5) (g := w.heap.size + 1 + 1 + 1))
    go_wp2_with fail
    generalize ((w5.setCell ⟨w.heap.size + 1 + 1 + 1, 0, none⟩ (.bool (mkN true (a % b)))).setCell ⟨w.heap.size + 1 + 1 + 1, 1, none⟩ (.slice A5 n5 c5)) = w6 at *
    clear PQ5 PR5 HL5 HM5 HB5 r0 r1 rf0 rf1 rl
    have ⟨q0, q1, qf0, qf1, ql⟩ := PQ6
    have ⟨r0, r1, rf0, rf1, rl⟩ := PR6
    go_region
    go_wp2
    refine post_ww Try.results13 rfl rfl rfl ((PQ6.set _ _).far (by omega) _ _).drew ((PR6.far (by omega) _ _).set _ _).drew ⟨A3, n3, c3, A5, n5, c5, rfl, ?_, ?_, ?_⟩
    · exact ((HL6.out.setP PQ6 _ _).setP (PR6.far (by omega) _ _) _ _).drew
    · exact ((HM6.out.setP PQ6 _ _).setP (PR6.far (by omega) _ _) _ _).drew
    · exact (below_set2 (below_set2 HB6.out (by omega) _ _) (by omega) _ _).drew
set_option maxRecDepth 100000 in
set_option maxHeartbeats 2000000 in
theorem divmod_exact (w : World) (na nb : Bool) (A B : Option Addr) (n m ca cb a b : Nat) (hA : Lm w w.heap.size A n ca (digs a)) (hB : Lm w w.heap.size B m cb (digs b)) (hv : chkB na (digs a) nb (digs b) = 0) (hb : 0 < b) (hs : na = true ∧ nb = false ∨ na = false ∧ nb = true) (h0 : a % b = 0) :
    Calls Try.prog 13 #[.agg #[.bool na, .slice A n ca], .agg #[.bool nb, .slice B m cb]] w (RWW w (mkN true (a / b)) (digs (a / b)) (mkN nb (a % b)) (digs (a % b)) 0) := by
  have h41 := (chk_ok.1 (chkB_ok.1 hv).1).1
  have h42 := (chk_ok.1 (chkB_ok.1 hv).2).1
  have hq : (digs (a / b)).length ≤ 4096 := Nat.le_trans (digs_mono (Nat.div_le_self a b)) h41
  have hr : (digs (a % b)).length ≤ 4096 := Nat.le_trans (digs_mono (Nat.le_of_lt (Nat.mod_lt a hb))) h42
  have HLq : Hid (mkL (a / b) = digs (a / b)) := by show _ = _; unfold mkL; rw [if_pos hq]
  have HLr : Hid (mkL (a % b) = digs (a % b)) := by show _ = _; unfold mkL; rw [if_pos hr]
  rw [hA.len] at h41
  rw [hB.len] at h42
  have hm0 : 0 < m := by rw [← hB.len, digs_pos]; exact hb
  have hm1 : ((m : Int) == 0) = false := by simp; omega
  have hcB := hB.cap
  have hxB := hB.max
  have HA := Lib.hid hA
  have HB := Lib.hid hB
  have HV := Lib.hid hv
  have hrl : decide (0 < (digs (a % b)).length) = decide (0 < a % b) := decide_eq_decide.2 digs_pos
  have hrz : decide (0 < (digs (a % b)).length) = false := by rw [hrl]; simp; omega
  have H0 := Lib.hid h0
  clear hrl h0
  clear hv
  rcases hs with ⟨rfl, rfl⟩ | ⟨rfl, rfl⟩
  · go_enter Try.func13, Try.ntmps13
    go_wp2_with fail
    refine (both_any _ _ _ _ _ _ _ _ _ _ _ 0 ((((HA.out.box _).box _).box _).box _) ((((HB.out.box _).box _).box _).box _) HV.out).mono ?_
    rintro e w1 ⟨rfl, hb1⟩
    have ⟨PA, PB, PQ, PR⟩ := boxes4 hb1
    have LA1 := Lib.hid (((((HA.out.box _).box _).box _).box _).via hb1)
    have LB1 := Lib.hid (((((HB.out.box _).box _).box _).box _).via hb1)
    have HB1 := Lib.hid (bbox (bbox (bbox (bbox hb1))))
    have ⟨a0, a1, _, _, _⟩ := PA
    have ⟨b0, b1, _, _, _⟩ := PB
    clear hb1
    go_wp2_with fail
    refine (divide_any w1 A B n m ca cb a b LA1.out LB1.out hb (by omega)).mono ?_
    rintro e w2 ⟨Q, cq, R, cr, rfl, hQ, hR, hb2⟩
    have PA2 := PA.via hb2
    have PB2 := PB.via hb2
    have PQ2 := PQ.via hb2
    have PR2 := PR.via hb2
    have HB2 := Lib.hid (HB1.out.trans (hb2.mono HB1.out.size))
    have HQ := Lib.hid hQ
    have HR := Lib.hid hR
    have LB2 := Lib.hid (LB1.out.via hb2)
    clear PA PB PQ PR LA1 LB1 HB1 a0 a1 b0 b1 hb2 hQ hR
    have ⟨a0, a1, _, _, _⟩ := PA2
    have ⟨b0, b1, _, _, _⟩ := PB2
    go_wp2_with fail
    refine (made_any _ _ _ _ _ (a / b) HQ.out).mono ?_
    rintro e w3 ⟨A3, n3, c3, rfl, hL3, hb3⟩
    rw [HLq.out] at hL3
    have PB3 := PB2.via hb3
    have PQ3 := PQ2.via hb3
    have PR3 := PR2.via hb3
    have HB3 := Lib.hid (HB2.out.trans (hb3.mono HB2.out.size))
    have HR3 := Lib.hid (HR.out.via hb3)
    have HL3 := Lib.hid hL3
    clear PA2 PB2 PQ2 PR2 HQ HR HB2 hb3 hL3 a0 a1 b0 b1
    have ⟨q0, q1, qf0, qf1, ql⟩ := PQ3
    have X4 := Lib.hid (PB3.far (h := w.heap.size + 1 + 1) (by omega) (.bool (mkN true (a / b))) (.slice A3 n3 c3))
    have PQ4 := PQ3.set (.bool (mkN true (a / b))) (.slice A3 n3 c3)
    have PR4 := PR3.far (h := w.heap.size + 1 + 1) (by omega) (.bool (mkN true (a / b))) (.slice A3 n3 c3)
    have HR4 := Lib.hid (HR3.out.setP PQ3 (.bool (mkN true (a / b))) (.slice A3 n3 c3))
    have HL4 := Lib.hid (HL3.out.setP PQ3 (.bool (mkN true (a / b))) (.slice A3 n3 c3))
    have PB4 := X4.out
    have ⟨b0, b1, _, _, _⟩ := PB4
    go_wp2_with fail
    refine (made_any _ _ _ _ _ (a % b) HR4.out).mono ?_
    rintro e w5 ⟨A5, n5, c5, rfl, hL5, hb5⟩
    rw [HLr.out] at hL5
    have PQ5 := PQ4.via hb5
    have PR5 := PR4.via hb5
    have HB5 := Lib.hid ((below_set2 HB3.out (by omega) (.bool (mkN true (a / b))) (.slice A3 n3 c3)).trans (hb5.mono (by rw [size_set2]; exact HB3.out.size)))
    have HL5 := Lib.hid (HL4.out.via hb5)
    have HM5 := Lib.hid hL5
    clear X4 HR3 HL3 HR4 HL4 PB3 PQ3 PR3 PQ4 PR4 PB4 hb5 hL5 q0 q1 qf0 qf1 b0 b1 HB3
    have ⟨r0, r1, rf0, rf1, rl⟩ := PR5
    have PQ6 := PQ5.far (h := w.heap.size + 1 + 1 + 1) (by omega) (.bool (mkN false (a % b))) (.slice A5 n5 c5)
    have PR6 := PR5.set (.bool (mkN false (a % b))) (.slice A5 n5 c5)
    have HL6 := Lib.hid (HL5.out.setP PR5 (.bool (mkN false (a % b))) (.slice A5 n5 c5))
    have HM6 := Lib.hid (HM5.out.setP PR5 (.bool (mkN false (a % b))) (.slice A5 n5 c5))
    have HB6 := Lib.hid (below_set2 HB5.out (by omega) (.bool (mkN false (a % b))) (.slice A5 n5 c5) (g := w.heap.size + 1 + 1 + 1))
    go_wp2_with fail
    generalize ((w5.setCell ⟨w.heap.size + 1 + 1 + 1, 0, none⟩ (.bool (mkN false (a % b)))).setCell ⟨w.heap.size + 1 + 1 + 1, 1, none⟩ (.slice A5 n5 c5)) = w6 at *
    clear PQ5 PR5 HL5 HM5 HB5 r0 r1 rf0 rf1 rl
    have ⟨q0, q1, qf0, qf1, ql⟩ := PQ6
    have ⟨r0, r1, rf0, rf1, rl⟩ := PR6
    go_region
    go_wp2
    refine post_ww Try.results13 rfl rfl rfl ((PQ6.set _ _).far (by omega) _ _).drew ((PR6.far (by omega) _ _).set _ _).drew ⟨A3, n3, c3, A5, n5, c5, rfl, ?_, ?_, ?_⟩
    · exact ((HL6.out.setP PQ6 _ _).setP (PR6.far (by omega) _ _) _ _).drew
    · exact ((HM6.out.setP PQ6 _ _).setP (PR6.far (by omega) _ _) _ _).drew
    · exact (below_set2 (below_set2 HB6.out (by omega) _ _) (by omega) _ _).drew
  · go_enter Try.func13, Try.ntmps13
    go_wp2_with fail
    refine (both_any _ _ _ _ _ _ _ _ _ _ _ 0 ((((HA.out.box _).box _).box _).box _) ((((HB.out.box _).box _).box _).box _) HV.out).mono ?_
    rintro e w1 ⟨rfl, hb1⟩
    have ⟨PA, PB, PQ, PR⟩ := boxes4 hb1
    have LA1 := Lib.hid (((((HA.out.box _).box _).box _).box _).via hb1)
    have LB1 := Lib.hid (((((HB.out.box _).box _).box _).box _).via hb1)
    have HB1 := Lib.hid (bbox (bbox (bbox (bbox hb1))))
    have ⟨a0, a1, _, _, _⟩ := PA
    have ⟨b0, b1, _, _, _⟩ := PB
    clear hb1
    go_wp2_with fail
    refine (divide_any w1 A B n m ca cb a b LA1.out LB1.out hb (by omega)).mono ?_
    rintro e w2 ⟨Q, cq, R, cr, rfl, hQ, hR, hb2⟩
    have PA2 := PA.via hb2
    have PB2 := PB.via hb2
    have PQ2 := PQ.via hb2
    have PR2 := PR.via hb2
    have HB2 := Lib.hid (HB1.out.trans (hb2.mono HB1.out.size))
    have HQ := Lib.hid hQ
    have HR := Lib.hid hR
    have LB2 := Lib.hid (LB1.out.via hb2)
    clear PA PB PQ PR LA1 LB1 HB1 a0 a1 b0 b1 hb2 hQ hR
    have ⟨a0, a1, _, _, _⟩ := PA2
    have ⟨b0, b1, _, _, _⟩ := PB2
    go_wp2_with fail
    refine (made_any _ _ _ _ _ (a / b) HQ.out).mono ?_
    rintro e w3 ⟨A3, n3, c3, rfl, hL3, hb3⟩
    rw [HLq.out] at hL3
    have PB3 := PB2.via hb3
    have PQ3 := PQ2.via hb3
    have PR3 := PR2.via hb3
    have HB3 := Lib.hid (HB2.out.trans (hb3.mono HB2.out.size))
    have HR3 := Lib.hid (HR.out.via hb3)
    have HL3 := Lib.hid hL3
    clear PA2 PB2 PQ2 PR2 HQ HR HB2 hb3 hL3 a0 a1 b0 b1
    have ⟨q0, q1, qf0, qf1, ql⟩ := PQ3
    have X4 := Lib.hid (PB3.far (h := w.heap.size + 1 + 1) (by omega) (.bool (mkN true (a / b))) (.slice A3 n3 c3))
    have PQ4 := PQ3.set (.bool (mkN true (a / b))) (.slice A3 n3 c3)
    have PR4 := PR3.far (h := w.heap.size + 1 + 1) (by omega) (.bool (mkN true (a / b))) (.slice A3 n3 c3)
    have HR4 := Lib.hid (HR3.out.setP PQ3 (.bool (mkN true (a / b))) (.slice A3 n3 c3))
    have HL4 := Lib.hid (HL3.out.setP PQ3 (.bool (mkN true (a / b))) (.slice A3 n3 c3))
    have PB4 := X4.out
    have ⟨b0, b1, _, _, _⟩ := PB4
    go_wp2_with fail
    refine (made_any _ _ _ _ _ (a % b) HR4.out).mono ?_
    rintro e w5 ⟨A5, n5, c5, rfl, hL5, hb5⟩
    rw [HLr.out] at hL5
    have PQ5 := PQ4.via hb5
    have PR5 := PR4.via hb5
    have HB5 := Lib.hid ((below_set2 HB3.out (by omega) (.bool (mkN true (a / b))) (.slice A3 n3 c3)).trans (hb5.mono (by rw [size_set2]; exact HB3.out.size)))
    have HL5 := Lib.hid (HL4.out.via hb5)
    have HM5 := Lib.hid hL5
    clear X4 HR3 HL3 HR4 HL4 PB3 PQ3 PR3 PQ4 PR4 PB4 hb5 hL5 q0 q1 qf0 qf1 b0 b1 HB3
    have ⟨r0, r1, rf0, rf1, rl⟩ := PR5
    have PQ6 := PQ5.far (h := w.heap.size + 1 + 1 + 1) (by omega) (.bool (mkN true (a % b))) (.slice A5 n5 c5)
    have PR6 := PR5.set (.bool (mkN true (a % b))) (.slice A5 n5 c5)
    have HL6 := Lib.hid (HL5.out.setP PR5 (.bool (mkN true (a % b))) (.slice A5 n5 c5))
    have HM6 := Lib.hid (HM5.out.setP PR5 (.bool (mkN true (a % b))) (.slice A5 n5 c5))
    have HB6 := Lib.hid (below_set2 HB5.out (by omega) (.bool (mkN true (a % b))) (.slice A5 n5 c5) (g := w.heap.size + 1 + 1 + 1))
    go_wp2_with fail
    generalize ((w5.setCell ⟨w.heap.size + 1 + 1 + 1, 0, none⟩ (.bool (mkN true (a % b)))).setCell ⟨w.heap.size + 1 + 1 + 1, 1, none⟩ (.slice A5 n5 c5)) = w6 at *
    clear PQ5 PR5 HL5 HM5 HB5 r0 r1 rf0 rf1 rl
    have ⟨q0, q1, qf0, qf1, ql⟩ := PQ6
    have ⟨r0, r1, rf0, rf1, rl⟩ := PR6
    go_region
    go_wp2
    refine post_ww Try.results13 rfl rfl rfl ((PQ6.set _ _).far (by omega) _ _).drew ((PR6.far (by omega) _ _).set _ _).drew ⟨A3, n3, c3, A5, n5, c5, rfl, ?_, ?_, ?_⟩
    · exact ((HL6.out.setP PQ6 _ _).setP (PR6.far (by omega) _ _) _ _).drew
    · exact ((HM6.out.setP PQ6 _ _).setP (PR6.far (by omega) _ _) _ _).drew
    · exact (below_set2 (below_set2 HB6.out (by omega) _ _) (by omega) _ _).drew
set_option maxRecDepth 100000 in
set_option maxHeartbeats 2000000 in
theorem divmod_down (w : World) (na nb : Bool) (A B : Option Addr) (n m ca cb a b : Nat) (hA : Lm w w.heap.size A n ca (digs a)) (hB : Lm w w.heap.size B m cb (digs b)) (hv : chkB na (digs a) nb (digs b) = 0) (hb : 0 < b) (hs : na = true ∧ nb = false ∨ na = false ∧ nb = true) (h0 : 0 < a % b) :
    Calls Try.prog 13 #[.agg #[.bool na, .slice A n ca], .agg #[.bool nb, .slice B m cb]] w (RWW w (mkN true (a / b + 1)) (digs (a / b + 1)) (mkN nb (b - a % b)) (digs (b - a % b)) 0) := by
  have h41 := (chk_ok.1 (chkB_ok.1 hv).1).1
  have h42 := (chk_ok.1 (chkB_ok.1 hv).2).1
  have hab : a / b + 1 ≤ a := by
    have h := Nat.div_add_mod a b
    have hb2 : 2 ≤ b := by have := Nat.mod_lt a hb; omega
    have h2 : 2 * (a / b) ≤ b * (a / b) := Nat.mul_le_mul_right _ hb2
    generalize a / b = z at *
    omega
  have hml := Nat.mod_lt a hb
  have hq0 : (digs (a / b)).length ≤ 4096 := Nat.le_trans (digs_mono (Nat.div_le_self a b)) h41
  have hr0 : (digs (a % b)).length ≤ m := Nat.le_trans (digs_mono (Nat.le_of_lt (Nat.mod_lt a hb))) (Nat.le_of_eq hB.len)
  have hq : (digs (a / b + 1)).length ≤ 4096 := Nat.le_trans (digs_mono hab) h41
  have hr : (digs (b - a % b)).length ≤ 4096 := Nat.le_trans (digs_mono (Nat.sub_le _ _)) h42
  have HLq : Hid (mkL (a / b + 1) = digs (a / b + 1)) := by show _ = _; unfold mkL; rw [if_pos hq]
  have HLr : Hid (mkL (b - a % b) = digs (b - a % b)) := by show _ = _; unfold mkL; rw [if_pos hr]
  rw [hA.len] at h41
  rw [hB.len] at h42
  have hm0 : 0 < m := by rw [← hB.len, digs_pos]; exact hb
  have hm1 : ((m : Int) == 0) = false := by simp; omega
  have hcB := hB.cap
  have hxB := hB.max
  have HA := Lib.hid hA
  have HB := Lib.hid hB
  have HV := Lib.hid hv
  have hrl : decide (0 < (digs (a % b)).length) = decide (0 < a % b) := decide_eq_decide.2 digs_pos
  have hrz : decide (0 < (digs (a % b)).length) = true := by rw [hrl]; simpa using h0
  clear hrl
  clear hv
  rcases hs with ⟨rfl, rfl⟩ | ⟨rfl, rfl⟩
  · go_enter Try.func13, Try.ntmps13
    go_wp2_with fail
    refine (both_any _ _ _ _ _ _ _ _ _ _ _ 0 ((((HA.out.box _).box _).box _).box _) ((((HB.out.box _).box _).box _).box _) HV.out).mono ?_
    rintro e w1 ⟨rfl, hb1⟩
    have ⟨PA, PB, PQ, PR⟩ := boxes4 hb1
    have LA1 := Lib.hid (((((HA.out.box _).box _).box _).box _).via hb1)
    have LB1 := Lib.hid (((((HB.out.box _).box _).box _).box _).via hb1)
    have HB1 := Lib.hid (bbox (bbox (bbox (bbox hb1))))
    have ⟨a0, a1, _, _, _⟩ := PA
    have ⟨b0, b1, _, _, _⟩ := PB
    clear hb1
    go_wp2_with fail
    refine (divide_any w1 A B n m ca cb a b LA1.out LB1.out hb (by omega)).mono ?_
    rintro e w2 ⟨Q, cq, R, cr, rfl, hQ, hR, hb2⟩
    have PA2 := PA.via hb2
    have PB2 := PB.via hb2
    have PQ2 := PQ.via hb2
    have PR2 := PR.via hb2
    have HB2 := Lib.hid (HB1.out.trans (hb2.mono HB1.out.size))
    have HQ := Lib.hid hQ
    have HR := Lib.hid hR
    have LB2 := Lib.hid (LB1.out.via hb2)
    clear PA PB PQ PR LA1 LB1 HB1 a0 a1 b0 b1 hb2 hQ hR
    have ⟨a0, a1, _, _, _⟩ := PA2
    have ⟨b0, b1, _, _, _⟩ := PB2
    go_wp2_with fail
    have HS : Hid (val (digs (a / b)) + val [1] = a / b + 1) := by show _ = _; rw [digs_val, val_one]
    have HD : Hid (val (digs (a % b)) ≤ val (digs b)) := by show _ ≤ _; rw [digs_val, digs_val]; exact Nat.le_of_lt (Nat.mod_lt a hb)
    have HE : Hid (val (digs b) - val (digs (a % b)) = b - a % b) := by show _ = _; rw [digs_val, digs_val]
    go_region_held3 (fun w' => w'.cell? ⟨w.heap.size + 1, 0, none⟩ = some (.bool false) ∧ w'.cell? ⟨w.heap.size + 1, 1, none⟩ = some (.slice B m cb))
      (first | exact ⟨b0, b1⟩ | exact ⟨PBs.c0, PBs.c1⟩ | exact ⟨PBt.c0, PBt.c1⟩ | go_keep)
      (first
       | (go_at_call 43; refine (sum_any _ _ _ _ _ _ _ (digs (a / b)) [1] (a / b + 1) (HQ.out.drew.box _) (Lm.one _ 1 _ rfl (by omega)) (by omega) (by omega) HS.out).mono ?_; rintro e ws ⟨As, cs, rfl, hLs, hbs⟩; have Bs := (Below.refl w2.heap.size w2).drew.trans (bbox hbs); have PBs := PB2.via Bs; have LBs := Lib.hid (LB2.out.via Bs); have HRs := Lib.hid (HR.out.via Bs))
       | (go_at_call 44; refine (difference_any _ B R m (digs (a % b)).length cb cr (digs b) (digs (a % b)) (b - a % b) LBs.out HRs.out hr0 (by omega) HD.out HE.out).mono ?_; rintro e wt ⟨At, ct, rfl, hLt, hbt⟩; have PBt := PBs.via hbt))
    have PQz := (PQ2.via Bs).via hbt
    have PAz := (PA2.via Bs).via hbt
    have PRz := (PR2.via Bs).via hbt
    have HQz := Lib.hid (hLs.via hbt)
    have HRz := Lib.hid hLt
    have HBz := Lib.hid (HB2.out.trans ((Bs.trans (hbt.mono Bs.size)).mono HB2.out.size))
    clear PA2 PB2 PQ2 PR2 HQ HR HB2 a0 a1 b0 b1 hbs hbt Bs hLs hLt LBs HRs LB2 HS HD HE
    have PB2 := PBt
    have PA2 := PAz
    have PQ2 := PQz
    have PR2 := PRz
    have HQ := HQz
    have HR := HRz
    have HB2 := HBz
    clear PAz PBt PQz PRz HQz HRz HBz PBs
    have ⟨b0, b1, _, _, _⟩ := PB2
    have ⟨a0, a1, _, _, _⟩ := PA2
    go_wp2_with fail
    refine (made_any _ _ _ _ _ (a / b + 1) HQ.out).mono ?_
    rintro e w3 ⟨A3, n3, c3, rfl, hL3, hb3⟩
    rw [HLq.out] at hL3
    have PB3 := PB2.via hb3
    have PQ3 := PQ2.via hb3
    have PR3 := PR2.via hb3
    have HB3 := Lib.hid (HB2.out.trans (hb3.mono HB2.out.size))
    have HR3 := Lib.hid (HR.out.via hb3)
    have HL3 := Lib.hid hL3
    clear PA2 PB2 PQ2 PR2 HQ HR HB2 hb3 hL3 a0 a1 b0 b1
    have ⟨q0, q1, qf0, qf1, ql⟩ := PQ3
    have X4 := Lib.hid (PB3.far (h := w.heap.size + 1 + 1) (by omega) (.bool (mkN true (a / b + 1))) (.slice A3 n3 c3))
    have PQ4 := PQ3.set (.bool (mkN true (a / b + 1))) (.slice A3 n3 c3)
    have PR4 := PR3.far (h := w.heap.size + 1 + 1) (by omega) (.bool (mkN true (a / b + 1))) (.slice A3 n3 c3)
    have HR4 := Lib.hid (HR3.out.setP PQ3 (.bool (mkN true (a / b + 1))) (.slice A3 n3 c3))
    have HL4 := Lib.hid (HL3.out.setP PQ3 (.bool (mkN true (a / b + 1))) (.slice A3 n3 c3))
    have PB4 := X4.out
    have ⟨b0, b1, _, _, _⟩ := PB4
    go_wp2_with fail
    refine (made_any _ _ _ _ _ (b - a % b) HR4.out).mono ?_
    rintro e w5 ⟨A5, n5, c5, rfl, hL5, hb5⟩
    rw [HLr.out] at hL5
    have PQ5 := PQ4.via hb5
    have PR5 := PR4.via hb5
    have HB5 := Lib.hid ((below_set2 HB3.out (by omega) (.bool (mkN true (a / b + 1))) (.slice A3 n3 c3)).trans (hb5.mono (by rw [size_set2]; exact HB3.out.size)))
    have HL5 := Lib.hid (HL4.out.via hb5)
    have HM5 := Lib.hid hL5
    clear X4 HR3 HL3 HR4 HL4 PB3 PQ3 PR3 PQ4 PR4 PB4 hb5 hL5 q0 q1 qf0 qf1 b0 b1 HB3
    have ⟨r0, r1, rf0, rf1, rl⟩ := PR5
    have PQ6 := PQ5.far (h := w.heap.size + 1 + 1 + 1) (by omega) (.bool (mkN false (b - a % b))) (.slice A5 n5 c5)
    have PR6 := PR5.set (.bool (mkN false (b - a % b))) (.slice A5 n5 c5)
    have HL6 := Lib.hid (HL5.out.setP PR5 (.bool (mkN false (b - a % b))) (.slice A5 n5 c5))
    have HM6 := Lib.hid (HM5.out.setP PR5 (.bool (mkN false (b - a % b))) (.slice A5 n5 c5))
    have HB6 := Lib.hid (below_set2 HB5.out (by omega) (.bool (mkN false (b - a % b))) (.slice A5 n5 c5) (g := w.heap.size + 1 + 1 + 1))
    go_wp2_with fail
    generalize ((w5.setCell ⟨w.heap.size + 1 + 1 + 1, 0, none⟩ (.bool (mkN false (b - a % b)))).setCell ⟨w.heap.size + 1 + 1 + 1, 1, none⟩ (.slice A5 n5 c5)) = w6 at *
    clear PQ5 PR5 HL5 HM5 HB5 r0 r1 rf0 rf1 rl
    have ⟨q0, q1, qf0, qf1, ql⟩ := PQ6
    have ⟨r0, r1, rf0, rf1, rl⟩ := PR6
    go_region
    go_wp2
    refine post_ww Try.results13 rfl rfl rfl ((PQ6.set _ _).far (by omega) _ _).drew ((PR6.far (by omega) _ _).set _ _).drew ⟨A3, n3, c3, A5, n5, c5, rfl, ?_, ?_, ?_⟩
    · exact ((HL6.out.setP PQ6 _ _).setP (PR6.far (by omega) _ _) _ _).drew
    · exact ((HM6.out.setP PQ6 _ _).setP (PR6.far (by omega) _ _) _ _).drew
    · exact (below_set2 (below_set2 HB6.out (by omega) _ _) (by omega) _ _).drew
  · go_enter Try.func13, Try.ntmps13
    go_wp2_with fail
    refine (both_any _ _ _ _ _ _ _ _ _ _ _ 0 ((((HA.out.box _).box _).box _).box _) ((((HB.out.box _).box _).box _).box _) HV.out).mono ?_
    rintro e w1 ⟨rfl, hb1⟩
    have ⟨PA, PB, PQ, PR⟩ := boxes4 hb1
    have LA1 := Lib.hid (((((HA.out.box _).box _).box _).box _).via hb1)
    have LB1 := Lib.hid (((((HB.out.box _).box _).box _).box _).via hb1)
    have HB1 := Lib.hid (bbox (bbox (bbox (bbox hb1))))
    have ⟨a0, a1, _, _, _⟩ := PA
    have ⟨b0, b1, _, _, _⟩ := PB
    clear hb1
    go_wp2_with fail
    refine (divide_any w1 A B n m ca cb a b LA1.out LB1.out hb (by omega)).mono ?_
    rintro e w2 ⟨Q, cq, R, cr, rfl, hQ, hR, hb2⟩
    have PA2 := PA.via hb2
    have PB2 := PB.via hb2
    have PQ2 := PQ.via hb2
    have PR2 := PR.via hb2
    have HB2 := Lib.hid (HB1.out.trans (hb2.mono HB1.out.size))
    have HQ := Lib.hid hQ
    have HR := Lib.hid hR
    have LB2 := Lib.hid (LB1.out.via hb2)
    clear PA PB PQ PR LA1 LB1 HB1 a0 a1 b0 b1 hb2 hQ hR
    have ⟨a0, a1, _, _, _⟩ := PA2
    have ⟨b0, b1, _, _, _⟩ := PB2
    go_wp2_with fail
    have HS : Hid (val (digs (a / b)) + val [1] = a / b + 1) := by show _ = _; rw [digs_val, val_one]
    have HD : Hid (val (digs (a % b)) ≤ val (digs b)) := by show _ ≤ _; rw [digs_val, digs_val]; exact Nat.le_of_lt (Nat.mod_lt a hb)
    have HE : Hid (val (digs b) - val (digs (a % b)) = b - a % b) := by show _ = _; rw [digs_val, digs_val]
    go_region_held3 (fun w' => w'.cell? ⟨w.heap.size + 1, 0, none⟩ = some (.bool true) ∧ w'.cell? ⟨w.heap.size + 1, 1, none⟩ = some (.slice B m cb))
      (first | exact ⟨b0, b1⟩ | exact ⟨PBs.c0, PBs.c1⟩ | exact ⟨PBt.c0, PBt.c1⟩ | go_keep)
      (first
       | (go_at_call 43; refine (sum_any _ _ _ _ _ _ _ (digs (a / b)) [1] (a / b + 1) (HQ.out.drew.box _) (Lm.one _ 1 _ rfl (by omega)) (by omega) (by omega) HS.out).mono ?_; rintro e ws ⟨As, cs, rfl, hLs, hbs⟩; have Bs := (Below.refl w2.heap.size w2).drew.trans (bbox hbs); have PBs := PB2.via Bs; have LBs := Lib.hid (LB2.out.via Bs); have HRs := Lib.hid (HR.out.via Bs))
       | (go_at_call 44; refine (difference_any _ B R m (digs (a % b)).length cb cr (digs b) (digs (a % b)) (b - a % b) LBs.out HRs.out hr0 (by omega) HD.out HE.out).mono ?_; rintro e wt ⟨At, ct, rfl, hLt, hbt⟩; have PBt := PBs.via hbt))
    have PQz := (PQ2.via Bs).via hbt
    have PAz := (PA2.via Bs).via hbt
    have PRz := (PR2.via Bs).via hbt
    have HQz := Lib.hid (hLs.via hbt)
    have HRz := Lib.hid hLt
    have HBz := Lib.hid (HB2.out.trans ((Bs.trans (hbt.mono Bs.size)).mono HB2.out.size))
    clear PA2 PB2 PQ2 PR2 HQ HR HB2 a0 a1 b0 b1 hbs hbt Bs hLs hLt LBs HRs LB2 HS HD HE
    have PB2 := PBt
    have PA2 := PAz
    have PQ2 := PQz
    have PR2 := PRz
    have HQ := HQz
    have HR := HRz
    have HB2 := HBz
    clear PAz PBt PQz PRz HQz HRz HBz PBs
    have ⟨b0, b1, _, _, _⟩ := PB2
    have ⟨a0, a1, _, _, _⟩ := PA2
    go_wp2_with fail
    refine (made_any _ _ _ _ _ (a / b + 1) HQ.out).mono ?_
    rintro e w3 ⟨A3, n3, c3, rfl, hL3, hb3⟩
    rw [HLq.out] at hL3
    have PB3 := PB2.via hb3
    have PQ3 := PQ2.via hb3
    have PR3 := PR2.via hb3
    have HB3 := Lib.hid (HB2.out.trans (hb3.mono HB2.out.size))
    have HR3 := Lib.hid (HR.out.via hb3)
    have HL3 := Lib.hid hL3
    clear PA2 PB2 PQ2 PR2 HQ HR HB2 hb3 hL3 a0 a1 b0 b1
    have ⟨q0, q1, qf0, qf1, ql⟩ := PQ3
    have X4 := Lib.hid (PB3.far (h := w.heap.size + 1 + 1) (by omega) (.bool (mkN true (a / b + 1))) (.slice A3 n3 c3))
    have PQ4 := PQ3.set (.bool (mkN true (a / b + 1))) (.slice A3 n3 c3)
    have PR4 := PR3.far (h := w.heap.size + 1 + 1) (by omega) (.bool (mkN true (a / b + 1))) (.slice A3 n3 c3)
    have HR4 := Lib.hid (HR3.out.setP PQ3 (.bool (mkN true (a / b + 1))) (.slice A3 n3 c3))
    have HL4 := Lib.hid (HL3.out.setP PQ3 (.bool (mkN true (a / b + 1))) (.slice A3 n3 c3))
    have PB4 := X4.out
    have ⟨b0, b1, _, _, _⟩ := PB4
    go_wp2_with fail
    refine (made_any _ _ _ _ _ (b - a % b) HR4.out).mono ?_
    rintro e w5 ⟨A5, n5, c5, rfl, hL5, hb5⟩
    rw [HLr.out] at hL5
    have PQ5 := PQ4.via hb5
    have PR5 := PR4.via hb5
    have HB5 := Lib.hid ((below_set2 HB3.out (by omega) (.bool (mkN true (a / b + 1))) (.slice A3 n3 c3)).trans (hb5.mono (by rw [size_set2]; exact HB3.out.size)))
    have HL5 := Lib.hid (HL4.out.via hb5)
    have HM5 := Lib.hid hL5
    clear X4 HR3 HL3 HR4 HL4 PB3 PQ3 PR3 PQ4 PR4 PB4 hb5 hL5 q0 q1 qf0 qf1 b0 b1 HB3
    have ⟨r0, r1, rf0, rf1, rl⟩ := PR5
    have PQ6 := PQ5.far (h := w.heap.size + 1 + 1 + 1) (by omega) (.bool (mkN true (b - a % b))) (.slice A5 n5 c5)
    have PR6 := PR5.set (.bool (mkN true (b - a % b))) (.slice A5 n5 c5)
    have HL6 := Lib.hid (HL5.out.setP PR5 (.bool (mkN true (b - a % b))) (.slice A5 n5 c5))
    have HM6 := Lib.hid (HM5.out.setP PR5 (.bool (mkN true (b - a % b))) (.slice A5 n5 c5))
    have HB6 := Lib.hid (below_set2 HB5.out (by omega) (.bool (mkN true (b - a % b))) (.slice A5 n5 c5) (g := w.heap.size + 1 + 1 + 1))
    go_wp2_with fail
    generalize ((w5.setCell ⟨w.heap.size + 1 + 1 + 1, 0, none⟩ (.bool (mkN true (b - a % b)))).setCell ⟨w.heap.size + 1 + 1 + 1, 1, none⟩ (.slice A5 n5 c5)) = w6 at *
    clear PQ5 PR5 HL5 HM5 HB5 r0 r1 rf0 rf1 rl
    have ⟨q0, q1, qf0, qf1, ql⟩ := PQ6
    have ⟨r0, r1, rf0, rf1, rl⟩ := PR6
    go_region
    go_wp2
    refine post_ww Try.results13 rfl rfl rfl ((PQ6.set _ _).far (by omega) _ _).drew ((PR6.far (by omega) _ _).set _ _).drew ⟨A3, n3, c3, A5, n5, c5, rfl, ?_, ?_, ?_⟩
    · exact ((HL6.out.setP PQ6 _ _).setP (PR6.far (by omega) _ _) _ _).drew
    · exact ((HM6.out.setP PQ6 _ _).setP (PR6.far (by omega) _ _) _ _).drew
    · exact (below_set2 (below_set2 HB6.out (by omega) _ _) (by omega) _ _).drew
end Go.Proofs.Ytdbilpmhejigpaa
