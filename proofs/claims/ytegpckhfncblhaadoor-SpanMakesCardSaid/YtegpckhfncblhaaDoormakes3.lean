/- Lemmas, part 3. -/
import Derived.IntWalk
import Derived.Laws.MathBits
import Derived.Deep.DeepCutAuto
import Derived.Deep.CutBlock
import Derived.Test.YtegpckhfncblhaaDoormakes2
/- wide.DivMod. -/
namespace Go.Proofs.YtegpckhfncblhaaDoor
open Go.RowKit

/-- A call returns two numbers and an error. -/
def RWW (w : World) (n1 : Bool) (l1 : List Nat) (n2 : Bool) (l2 : List Nat) (err : Int) (e : Ending) (w' : World) : Prop :=
  ∃ A n c A' n' c', e = .returned (.tuple #[.agg #[.bool n1, .slice A n c], .agg #[.bool n2, .slice A' n' c'], .int .i64 err]) ∧ Lm w' w'.heap.size A n c l1 ∧ Lm w' w'.heap.size A' n' c' l2 ∧ Below w.heap.size w w'

set_option maxRecDepth 100000 in
set_option maxHeartbeats 1000000 in
theorem divmod_bad (w : World) (na nb : Bool) (A B : Option Addr) (n m ca cb : Nat) (xs ys : List Nat) (hA : Lm w w.heap.size A n ca xs) (hB : Lm w w.heap.size B m cb ys) (hv : chkB na xs nb ys = 8) :
    Calls Tryd.prog 9 #[.agg #[.bool na, .slice A n ca], .agg #[.bool nb, .slice B m cb]] w (RWW w false [] false [] 8) := by
  have HA := Lib.hid hA
  have HB := Lib.hid hB
  have HV := Lib.hid hv
  clear hv
  go_enter Tryd.func9, Tryd.ntmps9
  go_wp2_with fail
  refine (both_any _ _ _ _ _ _ _ _ _ _ _ 8 ((((HA.out.box _).box _).box _).box _) ((((HB.out.box _).box _).box _).box _) HV.out).mono ?_
  rintro e w1 ⟨rfl, hb1⟩
  have ⟨_, _, PQ, PR⟩ := boxes4 hb1
  have ⟨q0, q1, qf0, qf1, ql⟩ := PQ
  have ⟨r0, r1, rf0, rf1, rl⟩ := PR
  have HB1 := Lib.hid (bbox (bbox (bbox (bbox hb1))))
  clear hb1
  go_wp2
  refine post_ww Tryd.results9 rfl rfl rfl ((PQ.set (.bool false) (.slice none 0 0)).far (by omega) _ _) ((PR.far (by omega) _ _).set _ _) ⟨none, 0, 0, none, 0, 0, rfl, Lm.nil _ _, Lm.nil _ _, below_set2 (below_set2 HB1.out (by omega) _ _) (by omega) _ _⟩

set_option maxRecDepth 100000 in
set_option maxHeartbeats 1000000 in
theorem divmod_zero (w : World) (na nb : Bool) (A B : Option Addr) (n ca cb : Nat) (xs : List Nat) (hA : Lm w w.heap.size A n ca xs) (hB : Lm w w.heap.size B 0 cb []) (hv : chkB na xs nb [] = 0) :
    Calls Tryd.prog 9 #[.agg #[.bool na, .slice A n ca], .agg #[.bool nb, .slice B 0 cb]] w (RWW w false [] false [] 18) := by
  have HA := Lib.hid hA
  have HB := Lib.hid hB
  have HV := Lib.hid hv
  clear hv
  go_enter Tryd.func9, Tryd.ntmps9
  go_wp2_with fail
  refine (both_any _ _ _ _ _ _ _ _ _ _ _ 0 ((((HA.out.box _).box _).box _).box _) ((((HB.out.box _).box _).box _).box _) HV.out).mono ?_
  rintro e w1 ⟨rfl, hb1⟩
  have ⟨_, PB, PQ, PR⟩ := boxes4 hb1
  obtain ⟨b0, b1, bf0, bf1, bl⟩ := PB
  have ⟨q0, q1, qf0, qf1, ql⟩ := PQ
  have ⟨r0, r1, rf0, rf1, rl⟩ := PR
  have HB1 := Lib.hid (bbox (bbox (bbox (bbox hb1))))
  clear hb1
  go_wp2
  refine post_ww Tryd.results9 rfl rfl rfl ((Pr.set ⟨q0, q1, qf0, qf1, ql⟩ (.bool false) (.slice none 0 0)).far (by omega) _ _) ((Pr.far ⟨r0, r1, rf0, rf1, rl⟩ (by omega) _ _).set _ _) ⟨none, 0, 0, none, 0, 0, rfl, Lm.nil _ _, Lm.nil _ _, below_set2 (below_set2 HB1.out (by omega) _ _) (by omega) _ _⟩

/-! ### DivMod where the remainder is 0 or the signs agree, and where not -/
set_option maxRecDepth 100000 in
set_option maxHeartbeats 2000000 in
theorem divmod_same (w : World) (na nb : Bool) (A B : Option Addr) (n m ca cb a b : Nat) (hA : Lm w w.heap.size A n ca (digs a)) (hB : Lm w w.heap.size B m cb (digs b)) (hv : chkB na (digs a) nb (digs b) = 0) (hb : 0 < b) (hs : na = nb) :
    Calls Tryd.prog 9 #[.agg #[.bool na, .slice A n ca], .agg #[.bool nb, .slice B m cb]] w (RWW w (mkN false (a / b)) (digs (a / b)) (mkN nb (a % b)) (digs (a % b)) 0) := by
  have h41 := (chk_ok.1 (chkB_ok.1 hv).1).1
  have h42 := (chk_ok.1 (chkB_ok.1 hv).2).1
  have hq : (digs (a / b)).length ≤ 4096 := Nat.le_trans (digs_mono (Nat.div_le_self a b)) h41
  have hr : (digs (a % b)).length ≤ 4096 := Nat.le_trans (digs_mono (Nat.le_of_lt (Nat.mod_lt a hb))) h42
  have HLq : Hid (mkL (a / b) = digs (a / b)) := by show _ = _; unfold mkL; rw [if_pos hq]
  have HLr : Hid (mkL (a % b) = digs (a % b)) := by show _ = _; unfold mkL; rw [if_pos hr]
  rw [hA.len] at h41
  rw [hB.len] at h42
  have hm0 : 0 < m := by rw [← hB.len, digs_pos]; exact hb
  have hm1 : ((m : Int) == 0) = false := by simp; omega
  have hcB := hB.cap
  have hxB := hB.max
  have HA := Lib.hid hA
  have HB := Lib.hid hB
  have HV := Lib.hid hv
  have hrl : decide (0 < (digs (a % b)).length) = decide (0 < a % b) := decide_eq_decide.2 digs_pos
  clear hrl
  clear hv
  subst hs
  cases na
  · go_enter Tryd.func9, Tryd.ntmps9
    go_wp2_with fail
    refine (both_any _ _ _ _ _ _ _ _ _ _ _ 0 ((((HA.out.box _).box _).box _).box _) ((((HB.out.box _).box _).box _).box _) HV.out).mono ?_
    rintro e w1 ⟨rfl, hb1⟩
    have ⟨PA, PB, PQ, PR⟩ := boxes4 hb1
    have LA1 := Lib.hid (((((HA.out.box _).box _).box _).box _).via hb1)
    have LB1 := Lib.hid (((((HB.out.box _).box _).box _).box _).via hb1)
    have HB1 := Lib.hid (bbox (bbox (bbox (bbox hb1))))
    have ⟨a0, a1, _, _, _⟩ := PA
    have ⟨b0, b1, _, _, _⟩ := PB
    clear hb1
    go_wp2_with fail
    refine (divide_any w1 A B n m ca cb a b LA1.out LB1.out hb (by omega)).mono ?_
    rintro e w2 ⟨Q, cq, R, cr, rfl, hQ, hR, hb2⟩
    have PA2 := PA.via hb2
    have PB2 := PB.via hb2
    have PQ2 := PQ.via hb2
    have PR2 := PR.via hb2
    have HB2 := Lib.hid (HB1.out.trans (hb2.mono HB1.out.size))
    have HQ := Lib.hid hQ
    have HR := Lib.hid hR
    have LB2 := Lib.hid (LB1.out.via hb2)
    clear PA PB PQ PR LA1 LB1 HB1 a0 a1 b0 b1 hb2 hQ hR
    have ⟨a0, a1, _, _, _⟩ := PA2
    have ⟨b0, b1, _, _, _⟩ := PB2
    go_wp2_with fail
    refine (made_any _ _ _ _ _ (a / b) HQ.out).mono ?_
    rintro e w3 ⟨A3, n3, c3, rfl, hL3, hb3⟩
    rw [HLq.out] at hL3
    have PB3 := PB2.via hb3
    have PQ3 := PQ2.via hb3
    have PR3 := PR2.via hb3
    have HB3 := Lib.hid (HB2.out.trans (hb3.mono HB2.out.size))
    have HR3 := Lib.hid (HR.out.via hb3)
    have HL3 := Lib.hid hL3
    clear PA2 PB2 PQ2 PR2 HQ HR HB2 hb3 hL3 a0 a1 b0 b1
    have ⟨q0, q1, qf0, qf1, ql⟩ := PQ3
    have X4 := Lib.hid (PB3.far (h := w.heap.size + 1 + 1) (by omega) (.bool (mkN false (a / b))) (.slice A3 n3 c3))
    have PQ4 := PQ3.set (.bool (mkN false (a / b))) (.slice A3 n3 c3)
    have PR4 := PR3.far (h := w.heap.size + 1 + 1) (by omega) (.bool (mkN false (a / b))) (.slice A3 n3 c3)
    have HR4 := Lib.hid (HR3.out.setP PQ3 (.bool (mkN false (a / b))) (.slice A3 n3 c3))
    have HL4 := Lib.hid (HL3.out.setP PQ3 (.bool (mkN false (a / b))) (.slice A3 n3 c3))
    have PB4 := X4.out
    have ⟨b0, b1, _, _, _⟩ := PB4
    go_wp2_with fail
    refine (made_any _ _ _ _ _ (a % b) HR4.out).mono ?_
    rintro e w5 ⟨A5, n5, c5, rfl, hL5, hb5⟩
    rw [HLr.out] at hL5
    have PQ5 := PQ4.via hb5
    have PR5 := PR4.via hb5
    have HB5 := Lib.hid ((below_set2 HB3.out (by omega) (.bool (mkN false (a / b))) (.slice A3 n3 c3)).trans (hb5.mono (by rw [size_set2]; exact HB3.out.size)))
    have HL5 := Lib.hid (HL4.out.via hb5)
    have HM5 := Lib.hid hL5
    clear X4 HR3 HL3 HR4 HL4 PB3 PQ3 PR3 PQ4 PR4 PB4 hb5 hL5 q0 q1 qf0 qf1 b0 b1 HB3
    have ⟨r0, r1, rf0, rf1, rl⟩ := PR5
    have PQ6 := PQ5.far (h := w.heap.size + 1 + 1 + 1) (by omega) (.bool (mkN false (a % b))) (.slice A5 n5 c5)
    have PR6 := PR5.set (.bool (mkN false (a % b))) (.slice A5 n5 c5)
    have HL6 := Lib.hid (HL5.out.setP PR5 (.bool (mkN false (a % b))) (.slice A5 n5 c5))
    have HM6 := Lib.hid (HM5.out.setP PR5 (.bool (mkN false (a % b))) (.slice A5 n5 c5))
    have HB6 := Lib.hid (below_set2 HB5.out (by omega) (.bool (mkN false (a % b))) (.slice A5 n5 c5) (g := w.heap.size + 1 + 1 + 1))
    go_wp2_with fail
    generalize ((w5.setCell ⟨w.heap.size + 1 + 1 + 1, 0, none⟩ (.bool (mkN false (a % b)))).setCell ⟨w.heap.size + 1 + 1 + 1, 1, none⟩ (.slice A5 n5 c5)) = w6 at *
    clear PQ5 PR5 HL5 HM5 HB5 r0 r1 rf0 rf1 rl
    have ⟨q0, q1, qf0, qf1, ql⟩ := PQ6
    have ⟨r0, r1, rf0, rf1, rl⟩ := PR6
    go_region
    go_wp2
    refine post_ww Tryd.results9 rfl rfl rfl ((PQ6.set _ _).far (by omega) _ _).drew ((PR6.far (by omega) _ _).set _ _).drew ⟨A3, n3, c3, A5, n5, c5, rfl, ?_, ?_, ?_⟩
    · exact ((HL6.out.setP PQ6 _ _).setP (PR6.far (by omega) _ _) _ _).drew
    · exact ((HM6.out.setP PQ6 _ _).setP (PR6.far (by omega) _ _) _ _).drew
    · exact (below_set2 (below_set2 HB6.out (by omega) _ _) (by omega) _ _).drew
  · go_enter Tryd.func9, Tryd.ntmps9
    go_wp2_with fail
    refine (both_any _ _ _ _ _ _ _ _ _ _ _ 0 ((((HA.out.box _).box _).box _).box _) ((((HB.out.box _).box _).box _).box _) HV.out).mono ?_
    rintro e w1 ⟨rfl, hb1⟩
    have ⟨PA, PB, PQ, PR⟩ := boxes4 hb1
    have LA1 := Lib.hid (((((HA.out.box _).box _).box _).box _).via hb1)
    have LB1 := Lib.hid (((((HB.out.box _).box _).box _).box _).via hb1)
    have HB1 := Lib.hid (bbox (bbox (bbox (bbox hb1))))
    have ⟨a0, a1, _, _, _⟩ := PA
    have ⟨b0, b1, _, _, _⟩ := PB
    clear hb1
    go_wp2_with fail
    refine (divide_any w1 A B n m ca cb a b LA1.out LB1.out hb (by omega)).mono ?_
    rintro e w2 ⟨Q, cq, R, cr, rfl, hQ, hR, hb2⟩
    have PA2 := PA.via hb2
    have PB2 := PB.via hb2
    have PQ2 := PQ.via hb2
    have PR2 := PR.via hb2
    have HB2 := Lib.hid (HB1.out.trans (hb2.mono HB1.out.size))
    have HQ := Lib.hid hQ
    have HR := Lib.hid hR
    have LB2 := Lib.hid (LB1.out.via hb2)
    clear PA PB PQ PR LA1 LB1 HB1 a0 a1 b0 b1 hb2 hQ hR
    have ⟨a0, a1, _, _, _⟩ := PA2
    have ⟨b0, b1, _, _, _⟩ := PB2
    go_wp2_with fail
    refine (made_any _ _ _ _ _ (a / b) HQ.out).mono ?_
    rintro e w3 ⟨A3, n3, c3, rfl, hL3, hb3⟩
    rw [HLq.out] at hL3
    have PB3 := PB2.via hb3
    have PQ3 := PQ2.via hb3
    have PR3 := PR2.via hb3
    have HB3 := Lib.hid (HB2.out.trans (hb3.mono HB2.out.size))
    have HR3 := Lib.hid (HR.out.via hb3)
    have HL3 := Lib.hid hL3
    clear PA2 PB2 PQ2 PR2 HQ HR HB2 hb3 hL3 a0 a1 b0 b1
    have ⟨q0, q1, qf0, qf1, ql⟩ := PQ3
    have X4 := Lib.hid (PB3.far (h := w.heap.size + 1 + 1) (by omega) (.bool (mkN false (a / b))) (.slice A3 n3 c3))
    have PQ4 := PQ3.set (.bool (mkN false (a / b))) (.slice A3 n3 c3)
    have PR4 := PR3.far (h := w.heap.size + 1 + 1) (by omega) (.bool (mkN false (a / b))) (.slice A3 n3 c3)
    have HR4 := Lib.hid (HR3.out.setP PQ3 (.bool (mkN false (a / b))) (.slice A3 n3 c3))
    have HL4 := Lib.hid (HL3.out.setP PQ3 (.bool (mkN false (a / b))) (.slice A3 n3 c3))
    have PB4 := X4.out
    have ⟨b0, b1, _, _, _⟩ := PB4
    go_wp2_with fail
    refine (made_any _ _ _ _ _ (a % b) HR4.out).mono ?_
    rintro e w5 ⟨A5, n5, c5, rfl, hL5, hb5⟩
    rw [HLr.out] at hL5
    have PQ5 := PQ4.via hb5
    have PR5 := PR4.via hb5
    have HB5 := Lib.hid ((below_set2 HB3.out (by omega) (.bool (mkN false (a / b))) (.slice A3 n3 c3)).trans (hb5.mono (by rw [size_set2]; exact HB3.out.size)))
    have HL5 := Lib.hid (HL4.out.via hb5)
    have HM5 := Lib.hid hL5
    clear X4 HR3 HL3 HR4 HL4 PB3 PQ3 PR3 PQ4 PR4 PB4 hb5 hL5 q0 q1 qf0 qf1 b0 b1 HB3
    have ⟨r0, r1, rf0, rf1, rl⟩ := PR5
    have PQ6 := PQ5.far (h := w.heap.size + 1 + 1 + 1) (by omega) (.bool (mkN true (a % b))) (.slice A5 n5 c5)
    have PR6 := PR5.set (.bool (mkN true (a % b))) (.slice A5 n5 c5)
    have HL6 := Lib.hid (HL5.out.setP PR5 (.bool (mkN true (a % b))) (.slice A5 n5 c5))
    have HM6 := Lib.hid (HM5.out.setP PR5 (.bool (mkN true (a % b))) (.slice A5 n5 c5))
    have HB6 := Lib.hid (below_set2 HB5.out (by omega) (.bool (mkN true (a % b))) (.slice A5 n5 c5) (g := w.heap.size + 1 + 1 + 1))
    go_wp2_with fail
    generalize ((w5.setCell ⟨w.heap.size + 1 + 1 + 1, 0, none⟩ (.bool (mkN true (a % b)))).setCell ⟨w.heap.size + 1 + 1 + 1, 1, none⟩ (.slice A5 n5 c5)) = w6 at *
    clear PQ5 PR5 HL5 HM5 HB5 r0 r1 rf0 rf1 rl
    have ⟨q0, q1, qf0, qf1, ql⟩ := PQ6
    have ⟨r0, r1, rf0, rf1, rl⟩ := PR6
    go_region
    go_wp2
    refine post_ww Tryd.results9 rfl rfl rfl ((PQ6.set _ _).far (by omega) _ _).drew ((PR6.far (by omega) _ _).set _ _).drew ⟨A3, n3, c3, A5, n5, c5, rfl, ?_, ?_, ?_⟩
    · exact ((HL6.out.setP PQ6 _ _).setP (PR6.far (by omega) _ _) _ _).drew
    · exact ((HM6.out.setP PQ6 _ _).setP (PR6.far (by omega) _ _) _ _).drew
    · exact (below_set2 (below_set2 HB6.out (by omega) _ _) (by omega) _ _).drew
set_option maxRecDepth 100000 in
set_option maxHeartbeats 2000000 in
theorem divmod_exact (w : World) (na nb : Bool) (A B : Option Addr) (n m ca cb a b : Nat) (hA : Lm w w.heap.size A n ca (digs a)) (hB : Lm w w.heap.size B m cb (digs b)) (hv : chkB na (digs a) nb (digs b) = 0) (hb : 0 < b) (hs : na = true ∧ nb = false ∨ na = false ∧ nb = true) (h0 : a % b = 0) :
    Calls Tryd.prog 9 #[.agg #[.bool na, .slice A n ca], .agg #[.bool nb, .slice B m cb]] w (RWW w (mkN true (a / b)) (digs (a / b)) (mkN nb (a % b)) (digs (a % b)) 0) := by
  have h41 := (chk_ok.1 (chkB_ok.1 hv).1).1
  have h42 := (chk_ok.1 (chkB_ok.1 hv).2).1
  have hq : (digs (a / b)).length ≤ 4096 := Nat.le_trans (digs_mono (Nat.div_le_self a b)) h41
  have hr : (digs (a % b)).length ≤ 4096 := Nat.le_trans (digs_mono (Nat.le_of_lt (Nat.mod_lt a hb))) h42
  have HLq : Hid (mkL (a / b) = digs (a / b)) := by show _ = _; unfold mkL; rw [if_pos hq]
  have HLr : Hid (mkL (a % b) = digs (a % b)) := by show _ = _; unfold mkL; rw [if_pos hr]
  rw [hA.len] at h41
  rw [hB.len] at h42
  have hm0 : 0 < m := by rw [← hB.len, digs_pos]; exact hb
  have hm1 : ((m : Int) == 0) = false := by simp; omega
  have hcB := hB.cap
  have hxB := hB.max
  have HA := Lib.hid hA
  have HB := Lib.hid hB
  have HV := Lib.hid hv
  have hrl : decide (0 < (digs (a % b)).length) = decide (0 < a % b) := decide_eq_decide.2 digs_pos
  have hrz : decide (0 < (digs (a % b)).length) = false := by rw [hrl]; simp; omega
  have H0 := Lib.hid h0
  clear hrl h0
  clear hv
  rcases hs with ⟨rfl, rfl⟩ | ⟨rfl, rfl⟩
  · go_enter Tryd.func9, Tryd.ntmps9
    go_wp2_with fail
    refine (both_any _ _ _ _ _ _ _ _ _ _ _ 0 ((((HA.out.box _).box _).box _).box _) ((((HB.out.box _).box _).box _).box _) HV.out).mono ?_
    rintro e w1 ⟨rfl, hb1⟩
    have ⟨PA, PB, PQ, PR⟩ := boxes4 hb1
    have LA1 := Lib.hid (((((HA.out.box _).box _).box _).box _).via hb1)
    have LB1 := Lib.hid (((((HB.out.box _).box _).box _).box _).via hb1)
    have HB1 := Lib.hid (bbox (bbox (bbox (bbox hb1))))
    have ⟨a0, a1, _, _, _⟩ := PA
    have ⟨b0, b1, _, _, _⟩ := PB
    clear hb1
    go_wp2_with fail
    refine (divide_any w1 A B n m ca cb a b LA1.out LB1.out hb (by omega)).mono ?_
    rintro e w2 ⟨Q, cq, R, cr, rfl, hQ, hR, hb2⟩
    have PA2 := PA.via hb2
    have PB2 := PB.via hb2
    have PQ2 := PQ.via hb2
    have PR2 := PR.via hb2
    have HB2 := Lib.hid (HB1.out.trans (hb2.mono HB1.out.size))
    have HQ := Lib.hid hQ
    have HR := Lib.hid hR
    have LB2 := Lib.hid (LB1.out.via hb2)
    clear PA PB PQ PR LA1 LB1 HB1 a0 a1 b0 b1 hb2 hQ hR
    have ⟨a0, a1, _, _, _⟩ := PA2
    have ⟨b0, b1, _, _, _⟩ := PB2
    go_wp2_with fail
    refine (made_any _ _ _ _ _ (a / b) HQ.out).mono ?_
    rintro e w3 ⟨A3, n3, c3, rfl, hL3, hb3⟩
    rw [HLq.out] at hL3
    have PB3 := PB2.via hb3
    have PQ3 := PQ2.via hb3
    have PR3 := PR2.via hb3
    have HB3 := Lib.hid (HB2.out.trans (hb3.mono HB2.out.size))
    have HR3 := Lib.hid (HR.out.via hb3)
    have HL3 := Lib.hid hL3
    clear PA2 PB2 PQ2 PR2 HQ HR HB2 hb3 hL3 a0 a1 b0 b1
    have ⟨q0, q1, qf0, qf1, ql⟩ := PQ3
    have X4 := Lib.hid (PB3.far (h := w.heap.size + 1 + 1) (by omega) (.bool (mkN true (a / b))) (.slice A3 n3 c3))
    have PQ4 := PQ3.set (.bool (mkN true (a / b))) (.slice A3 n3 c3)
    have PR4 := PR3.far (h := w.heap.size + 1 + 1) (by omega) (.bool (mkN true (a / b))) (.slice A3 n3 c3)
    have HR4 := Lib.hid (HR3.out.setP PQ3 (.bool (mkN true (a / b))) (.slice A3 n3 c3))
    have HL4 := Lib.hid (HL3.out.setP PQ3 (.bool (mkN true (a / b))) (.slice A3 n3 c3))
    have PB4 := X4.out
    have ⟨b0, b1, _, _, _⟩ := PB4
    go_wp2_with fail
    refine (made_any _ _ _ _ _ (a % b) HR4.out).mono ?_
    rintro e w5 ⟨A5, n5, c5, rfl, hL5, hb5⟩
    rw [HLr.out] at hL5
    have PQ5 := PQ4.via hb5
    have PR5 := PR4.via hb5
    have HB5 := Lib.hid ((below_set2 HB3.out (by omega) (.bool (mkN true (a / b))) (.slice A3 n3 c3)).trans (hb5.mono (by rw [size_set2]; exact HB3.out.size)))
    have HL5 := Lib.hid (HL4.out.via hb5)
    have HM5 := Lib.hid hL5
    clear X4 HR3 HL3 HR4 HL4 PB3 PQ3 PR3 PQ4 PR4 PB4 hb5 hL5 q0 q1 qf0 qf1 b0 b1 HB3
    have ⟨r0, r1, rf0, rf1, rl⟩ := PR5
    have PQ6 := PQ5.far (h := w.heap.size + 1 + 1 + 1) (by omega) (.bool (mkN false (a % b))) (.slice A5 n5 c5)
    have PR6 := PR5.set (.bool (mkN false (a % b))) (.slice A5 n5 c5)
    have HL6 := Lib.hid (HL5.out.setP PR5 (.bool (mkN false (a % b))) (.slice A5 n5 c5))
    have HM6 := Lib.hid (HM5.out.setP PR5 (.bool (mkN false (a % b))) (.slice A5 n5 c5))
    have HB6 := Lib.hid (below_set2 HB5.out (by omega) (.bool (mkN false (a % b))) (.slice A5 n5 c5) (g := w.heap.size + 1 + 1 + 1))
    go_wp2_with fail
    generalize ((w5.setCell ⟨w.heap.size + 1 + 1 + 1, 0, none⟩ (.bool (mkN false (a % b)))).setCell ⟨w.heap.size + 1 + 1 + 1, 1, none⟩ (.slice A5 n5 c5)) = w6 at *
    clear PQ5 PR5 HL5 HM5 HB5 r0 r1 rf0 rf1 rl
    have ⟨q0, q1, qf0, qf1, ql⟩ := PQ6
    have ⟨r0, r1, rf0, rf1, rl⟩ := PR6
    go_region
    go_wp2
    refine post_ww Tryd.results9 rfl rfl rfl ((PQ6.set _ _).far (by omega) _ _).drew ((PR6.far (by omega) _ _).set _ _).drew ⟨A3, n3, c3, A5, n5, c5, rfl, ?_, ?_, ?_⟩
    · exact ((HL6.out.setP PQ6 _ _).setP (PR6.far (by omega) _ _) _ _).drew
    · exact ((HM6.out.setP PQ6 _ _).setP (PR6.far (by omega) _ _) _ _).drew
    · exact (below_set2 (below_set2 HB6.out (by omega) _ _) (by omega) _ _).drew
  · go_enter Tryd.func9, Tryd.ntmps9
    go_wp2_with fail
    refine (both_any _ _ _ _ _ _ _ _ _ _ _ 0 ((((HA.out.box _).box _).box _).box _) ((((HB.out.box _).box _).box _).box _) HV.out).mono ?_
    rintro e w1 ⟨rfl, hb1⟩
    have ⟨PA, PB, PQ, PR⟩ := boxes4 hb1
    have LA1 := Lib.hid (((((HA.out.box _).box _).box _).box _).via hb1)
    have LB1 := Lib.hid (((((HB.out.box _).box _).box _).box _).via hb1)
    have HB1 := Lib.hid (bbox (bbox (bbox (bbox hb1))))
    have ⟨a0, a1, _, _, _⟩ := PA
    have ⟨b0, b1, _, _, _⟩ := PB
    clear hb1
    go_wp2_with fail
    refine (divide_any w1 A B n m ca cb a b LA1.out LB1.out hb (by omega)).mono ?_
    rintro e w2 ⟨Q, cq, R, cr, rfl, hQ, hR, hb2⟩
    have PA2 := PA.via hb2
    have PB2 := PB.via hb2
    have PQ2 := PQ.via hb2
    have PR2 := PR.via hb2
    have HB2 := Lib.hid (HB1.out.trans (hb2.mono HB1.out.size))
    have HQ := Lib.hid hQ
    have HR := Lib.hid hR
    have LB2 := Lib.hid (LB1.out.via hb2)
    clear PA PB PQ PR LA1 LB1 HB1 a0 a1 b0 b1 hb2 hQ hR
    have ⟨a0, a1, _, _, _⟩ := PA2
    have ⟨b0, b1, _, _, _⟩ := PB2
    go_wp2_with fail
    refine (made_any _ _ _ _ _ (a / b) HQ.out).mono ?_
    rintro e w3 ⟨A3, n3, c3, rfl, hL3, hb3⟩
    rw [HLq.out] at hL3
    have PB3 := PB2.via hb3
    have PQ3 := PQ2.via hb3
    have PR3 := PR2.via hb3
    have HB3 := Lib.hid (HB2.out.trans (hb3.mono HB2.out.size))
    have HR3 := Lib.hid (HR.out.via hb3)
    have HL3 := Lib.hid hL3
    clear PA2 PB2 PQ2 PR2 HQ HR HB2 hb3 hL3 a0 a1 b0 b1
    have ⟨q0, q1, qf0, qf1, ql⟩ := PQ3
    have X4 := Lib.hid (PB3.far (h := w.heap.size + 1 + 1) (by omega) (.bool (mkN true (a / b))) (.slice A3 n3 c3))
    have PQ4 := PQ3.set (.bool (mkN true (a / b))) (.slice A3 n3 c3)
    have PR4 := PR3.far (h := w.heap.size + 1 + 1) (by omega) (.bool (mkN true (a / b))) (.slice A3 n3 c3)
    have HR4 := Lib.hid (HR3.out.setP PQ3 (.bool (mkN true (a / b))) (.slice A3 n3 c3))
    have HL4 := Lib.hid (HL3.out.setP PQ3 (.bool (mkN true (a / b))) (.slice A3 n3 c3))
    have PB4 := X4.out
    have ⟨b0, b1, _, _, _⟩ := PB4
    go_wp2_with fail
    refine (made_any _ _ _ _ _ (a % b) HR4.out).mono ?_
    rintro e w5 ⟨A5, n5, c5, rfl, hL5, hb5⟩
    rw [HLr.out] at hL5
    have PQ5 := PQ4.via hb5
    have PR5 := PR4.via hb5
    have HB5 := Lib.hid ((below_set2 HB3.out (by omega) (.bool (mkN true (a / b))) (.slice A3 n3 c3)).trans (hb5.mono (by rw [size_set2]; exact HB3.out.size)))
    have HL5 := Lib.hid (HL4.out.via hb5)
    have HM5 := Lib.hid hL5
    clear X4 HR3 HL3 HR4 HL4 PB3 PQ3 PR3 PQ4 PR4 PB4 hb5 hL5 q0 q1 qf0 qf1 b0 b1 HB3
    have ⟨r0, r1, rf0, rf1, rl⟩ := PR5
    have PQ6 := PQ5.far (h := w.heap.size + 1 + 1 + 1) (by omega) (.bool (mkN true (a % b))) (.slice A5 n5 c5)
    have PR6 := PR5.set (.bool (mkN true (a % b))) (.slice A5 n5 c5)
    have HL6 := Lib.hid (HL5.out.setP PR5 (.bool (mkN true (a % b))) (.slice A5 n5 c5))
    have HM6 := Lib.hid (HM5.out.setP PR5 (.bool (mkN true (a % b))) (.slice A5 n5 c5))
    have HB6 := Lib.hid (below_set2 HB5.out (by omega) (.bool (mkN true (a % b))) (.slice A5 n5 c5) (g := w.heap.size + 1 + 1 + 1))
    go_wp2_with fail
    generalize ((w5.setCell ⟨w.heap.size + 1 + 1 + 1, 0, none⟩ (.bool (mkN true (a % b)))).setCell ⟨w.heap.size + 1 + 1 + 1, 1, none⟩ (.slice A5 n5 c5)) = w6 at *
    clear PQ5 PR5 HL5 HM5 HB5 r0 r1 rf0 rf1 rl
    have ⟨q0, q1, qf0, qf1, ql⟩ := PQ6
    have ⟨r0, r1, rf0, rf1, rl⟩ := PR6
    go_region
    go_wp2
    refine post_ww Tryd.results9 rfl rfl rfl ((PQ6.set _ _).far (by omega) _ _).drew ((PR6.far (by omega) _ _).set _ _).drew ⟨A3, n3, c3, A5, n5, c5, rfl, ?_, ?_, ?_⟩
    · exact ((HL6.out.setP PQ6 _ _).setP (PR6.far (by omega) _ _) _ _).drew
    · exact ((HM6.out.setP PQ6 _ _).setP (PR6.far (by omega) _ _) _ _).drew
    · exact (below_set2 (below_set2 HB6.out (by omega) _ _) (by omega) _ _).drew
set_option maxRecDepth 100000 in
set_option maxHeartbeats 2000000 in
theorem divmod_down (w : World) (na nb : Bool) (A B : Option Addr) (n m ca cb a b : Nat) (hA : Lm w w.heap.size A n ca (digs a)) (hB : Lm w w.heap.size B m cb (digs b)) (hv : chkB na (digs a) nb (digs b) = 0) (hb : 0 < b) (hs : na = true ∧ nb = false ∨ na = false ∧ nb = true) (h0 : 0 < a % b) :
    Calls Tryd.prog 9 #[.agg #[.bool na, .slice A n ca], .agg #[.bool nb, .slice B m cb]] w (RWW w (mkN true (a / b + 1)) (digs (a / b + 1)) (mkN nb (b - a % b)) (digs (b - a % b)) 0) := by
  have h41 := (chk_ok.1 (chkB_ok.1 hv).1).1
  have h42 := (chk_ok.1 (chkB_ok.1 hv).2).1
  have hab : a / b + 1 ≤ a := by
    have h := Nat.div_add_mod a b
    have hb2 : 2 ≤ b := by have := Nat.mod_lt a hb; omega
    have h2 : 2 * (a / b) ≤ b * (a / b) := Nat.mul_le_mul_right _ hb2
    generalize a / b = z at *
    omega
  have hml := Nat.mod_lt a hb
  have hq0 : (digs (a / b)).length ≤ 4096 := Nat.le_trans (digs_mono (Nat.div_le_self a b)) h41
  have hr0 : (digs (a % b)).length ≤ m := Nat.le_trans (digs_mono (Nat.le_of_lt (Nat.mod_lt a hb))) (Nat.le_of_eq hB.len)
  have hq : (digs (a / b + 1)).length ≤ 4096 := Nat.le_trans (digs_mono hab) h41
  have hr : (digs (b - a % b)).length ≤ 4096 := Nat.le_trans (digs_mono (Nat.sub_le _ _)) h42
  have HLq : Hid (mkL (a / b + 1) = digs (a / b + 1)) := by show _ = _; unfold mkL; rw [if_pos hq]
  have HLr : Hid (mkL (b - a % b) = digs (b - a % b)) := by show _ = _; unfold mkL; rw [if_pos hr]
  rw [hA.len] at h41
  rw [hB.len] at h42
  have hm0 : 0 < m := by rw [← hB.len, digs_pos]; exact hb
  have hm1 : ((m : Int) == 0) = false := by simp; omega
  have hcB := hB.cap
  have hxB := hB.max
  have HA := Lib.hid hA
  have HB := Lib.hid hB
  have HV := Lib.hid hv
  have hrl : decide (0 < (digs (a % b)).length) = decide (0 < a % b) := decide_eq_decide.2 digs_pos
  have hrz : decide (0 < (digs (a % b)).length) = true := by rw [hrl]; simpa using h0
  clear hrl
  clear hv
  rcases hs with ⟨rfl, rfl⟩ | ⟨rfl, rfl⟩
  · go_enter Tryd.func9, Tryd.ntmps9
    go_wp2_with fail
    refine (both_any _ _ _ _ _ _ _ _ _ _ _ 0 ((((HA.out.box _).box _).box _).box _) ((((HB.out.box _).box _).box _).box _) HV.out).mono ?_
    rintro e w1 ⟨rfl, hb1⟩
    have ⟨PA, PB, PQ, PR⟩ := boxes4 hb1
    have LA1 := Lib.hid (((((HA.out.box _).box _).box _).box _).via hb1)
    have LB1 := Lib.hid (((((HB.out.box _).box _).box _).box _).via hb1)
    have HB1 := Lib.hid (bbox (bbox (bbox (bbox hb1))))
    have ⟨a0, a1, _, _, _⟩ := PA
    have ⟨b0, b1, _, _, _⟩ := PB
    clear hb1
    go_wp2_with fail
    refine (divide_any w1 A B n m ca cb a b LA1.out LB1.out hb (by omega)).mono ?_
    rintro e w2 ⟨Q, cq, R, cr, rfl, hQ, hR, hb2⟩
    have PA2 := PA.via hb2
    have PB2 := PB.via hb2
    have PQ2 := PQ.via hb2
    have PR2 := PR.via hb2
    have HB2 := Lib.hid (HB1.out.trans (hb2.mono HB1.out.size))
    have HQ := Lib.hid hQ
    have HR := Lib.hid hR
    have LB2 := Lib.hid (LB1.out.via hb2)
    clear PA PB PQ PR LA1 LB1 HB1 a0 a1 b0 b1 hb2 hQ hR
    have ⟨a0, a1, _, _, _⟩ := PA2
    have ⟨b0, b1, _, _, _⟩ := PB2
    go_wp2_with fail
    have HS : Hid (val (digs (a / b)) + val [1] = a / b + 1) := by show _ = _; rw [digs_val, val_one]
    have HD : Hid (val (digs (a % b)) ≤ val (digs b)) := by show _ ≤ _; rw [digs_val, digs_val]; exact Nat.le_of_lt (Nat.mod_lt a hb)
    have HE : Hid (val (digs b) - val (digs (a % b)) = b - a % b) := by show _ = _; rw [digs_val, digs_val]
    go_region_held3 (fun w' => w'.cell? ⟨w.heap.size + 1, 0, none⟩ = some (.bool false) ∧ w'.cell? ⟨w.heap.size + 1, 1, none⟩ = some (.slice B m cb))
      (first | exact ⟨b0, b1⟩ | exact ⟨PBs.c0, PBs.c1⟩ | exact ⟨PBt.c0, PBt.c1⟩ | go_keep)
      (first
       | (go_at_call 25; refine (sum_any _ _ _ _ _ _ _ (digs (a / b)) [1] (a / b + 1) (HQ.out.drew.box _) (Lm.one _ 1 _ rfl (by omega)) (by omega) (by omega) HS.out).mono ?_; rintro e ws ⟨As, cs, rfl, hLs, hbs⟩; have Bs := (Below.refl w2.heap.size w2).drew.trans (bbox hbs); have PBs := PB2.via Bs; have LBs := Lib.hid (LB2.out.via Bs); have HRs := Lib.hid (HR.out.via Bs))
       | (go_at_call 26; refine (difference_any _ B R m (digs (a % b)).length cb cr (digs b) (digs (a % b)) (b - a % b) LBs.out HRs.out hr0 (by omega) HD.out HE.out).mono ?_; rintro e wt ⟨At, ct, rfl, hLt, hbt⟩; have PBt := PBs.via hbt))
    have PQz := (PQ2.via Bs).via hbt
    have PAz := (PA2.via Bs).via hbt
    have PRz := (PR2.via Bs).via hbt
    have HQz := Lib.hid (hLs.via hbt)
    have HRz := Lib.hid hLt
    have HBz := Lib.hid (HB2.out.trans ((Bs.trans (hbt.mono Bs.size)).mono HB2.out.size))
    clear PA2 PB2 PQ2 PR2 HQ HR HB2 a0 a1 b0 b1 hbs hbt Bs hLs hLt LBs HRs LB2 HS HD HE
    have PB2 := PBt
    have PA2 := PAz
    have PQ2 := PQz
    have PR2 := PRz
    have HQ := HQz
    have HR := HRz
    have HB2 := HBz
    clear PAz PBt PQz PRz HQz HRz HBz PBs
    have ⟨b0, b1, _, _, _⟩ := PB2
    have ⟨a0, a1, _, _, _⟩ := PA2
    go_wp2_with fail
    refine (made_any _ _ _ _ _ (a / b + 1) HQ.out).mono ?_
    rintro e w3 ⟨A3, n3, c3, rfl, hL3, hb3⟩
    rw [HLq.out] at hL3
    have PB3 := PB2.via hb3
    have PQ3 := PQ2.via hb3
    have PR3 := PR2.via hb3
    have HB3 := Lib.hid (HB2.out.trans (hb3.mono HB2.out.size))
    have HR3 := Lib.hid (HR.out.via hb3)
    have HL3 := Lib.hid hL3
    clear PA2 PB2 PQ2 PR2 HQ HR HB2 hb3 hL3 a0 a1 b0 b1
    have ⟨q0, q1, qf0, qf1, ql⟩ := PQ3
    have X4 := Lib.hid (PB3.far (h := w.heap.size + 1 + 1) (by omega) (.bool (mkN true (a / b + 1))) (.slice A3 n3 c3))
    have PQ4 := PQ3.set (.bool (mkN true (a / b + 1))) (.slice A3 n3 c3)
    have PR4 := PR3.far (h := w.heap.size + 1 + 1) (by omega) (.bool (mkN true (a / b + 1))) (.slice A3 n3 c3)
    have HR4 := Lib.hid (HR3.out.setP PQ3 (.bool (mkN true (a / b + 1))) (.slice A3 n3 c3))
    have HL4 := Lib.hid (HL3.out.setP PQ3 (.bool (mkN true (a / b + 1))) (.slice A3 n3 c3))
    have PB4 := X4.out
    have ⟨b0, b1, _, _, _⟩ := PB4
    go_wp2_with fail
    refine (made_any _ _ _ _ _ (b - a % b) HR4.out).mono ?_
    rintro e w5 ⟨A5, n5, c5, rfl, hL5, hb5⟩
    rw [HLr.out] at hL5
    have PQ5 := PQ4.via hb5
    have PR5 := PR4.via hb5
    have HB5 := Lib.hid ((below_set2 HB3.out (by omega) (.bool (mkN true (a / b + 1))) (.slice A3 n3 c3)).trans (hb5.mono (by rw [size_set2]; exact HB3.out.size)))
    have HL5 := Lib.hid (HL4.out.via hb5)
    have HM5 := Lib.hid hL5
    clear X4 HR3 HL3 HR4 HL4 PB3 PQ3 PR3 PQ4 PR4 PB4 hb5 hL5 q0 q1 qf0 qf1 b0 b1 HB3
    have ⟨r0, r1, rf0, rf1, rl⟩ := PR5
    have PQ6 := PQ5.far (h := w.heap.size + 1 + 1 + 1) (by omega) (.bool (mkN false (b - a % b))) (.slice A5 n5 c5)
    have PR6 := PR5.set (.bool (mkN false (b - a % b))) (.slice A5 n5 c5)
    have HL6 := Lib.hid (HL5.out.setP PR5 (.bool (mkN false (b - a % b))) (.slice A5 n5 c5))
    have HM6 := Lib.hid (HM5.out.setP PR5 (.bool (mkN false (b - a % b))) (.slice A5 n5 c5))
    have HB6 := Lib.hid (below_set2 HB5.out (by omega) (.bool (mkN false (b - a % b))) (.slice A5 n5 c5) (g := w.heap.size + 1 + 1 + 1))
    go_wp2_with fail
    generalize ((w5.setCell ⟨w.heap.size + 1 + 1 + 1, 0, none⟩ (.bool (mkN false (b - a % b)))).setCell ⟨w.heap.size + 1 + 1 + 1, 1, none⟩ (.slice A5 n5 c5)) = w6 at *
    clear PQ5 PR5 HL5 HM5 HB5 r0 r1 rf0 rf1 rl
    have ⟨q0, q1, qf0, qf1, ql⟩ := PQ6
    have ⟨r0, r1, rf0, rf1, rl⟩ := PR6
    go_region
    go_wp2
    refine post_ww Tryd.results9 rfl rfl rfl ((PQ6.set _ _).far (by omega) _ _).drew ((PR6.far (by omega) _ _).set _ _).drew ⟨A3, n3, c3, A5, n5, c5, rfl, ?_, ?_, ?_⟩
    · exact ((HL6.out.setP PQ6 _ _).setP (PR6.far (by omega) _ _) _ _).drew
    · exact ((HM6.out.setP PQ6 _ _).setP (PR6.far (by omega) _ _) _ _).drew
    · exact (below_set2 (below_set2 HB6.out (by omega) _ _) (by omega) _ _).drew
  · go_enter Tryd.func9, Tryd.ntmps9
    go_wp2_with fail
    refine (both_any _ _ _ _ _ _ _ _ _ _ _ 0 ((((HA.out.box _).box _).box _).box _) ((((HB.out.box _).box _).box _).box _) HV.out).mono ?_
    rintro e w1 ⟨rfl, hb1⟩
    have ⟨PA, PB, PQ, PR⟩ := boxes4 hb1
    have LA1 := Lib.hid (((((HA.out.box _).box _).box _).box _).via hb1)
    have LB1 := Lib.hid (((((HB.out.box _).box _).box _).box _).via hb1)
    have HB1 := Lib.hid (bbox (bbox (bbox (bbox hb1))))
    have ⟨a0, a1, _, _, _⟩ := PA
    have ⟨b0, b1, _, _, _⟩ := PB
    clear hb1
    go_wp2_with fail
    refine (divide_any w1 A B n m ca cb a b LA1.out LB1.out hb (by omega)).mono ?_
    rintro e w2 ⟨Q, cq, R, cr, rfl, hQ, hR, hb2⟩
    have PA2 := PA.via hb2
    have PB2 := PB.via hb2
    have PQ2 := PQ.via hb2
    have PR2 := PR.via hb2
    have HB2 := Lib.hid (HB1.out.trans (hb2.mono HB1.out.size))
    have HQ := Lib.hid hQ
    have HR := Lib.hid hR
    have LB2 := Lib.hid (LB1.out.via hb2)
    clear PA PB PQ PR LA1 LB1 HB1 a0 a1 b0 b1 hb2 hQ hR
    have ⟨a0, a1, _, _, _⟩ := PA2
    have ⟨b0, b1, _, _, _⟩ := PB2
    go_wp2_with fail
    have HS : Hid (val (digs (a / b)) + val [1] = a / b + 1) := by show _ = _; rw [digs_val, val_one]
    have HD : Hid (val (digs (a % b)) ≤ val (digs b)) := by show _ ≤ _; rw [digs_val, digs_val]; exact Nat.le_of_lt (Nat.mod_lt a hb)
    have HE : Hid (val (digs b) - val (digs (a % b)) = b - a % b) := by show _ = _; rw [digs_val, digs_val]
    go_region_held3 (fun w' => w'.cell? ⟨w.heap.size + 1, 0, none⟩ = some (.bool true) ∧ w'.cell? ⟨w.heap.size + 1, 1, none⟩ = some (.slice B m cb))
      (first | exact ⟨b0, b1⟩ | exact ⟨PBs.c0, PBs.c1⟩ | exact ⟨PBt.c0, PBt.c1⟩ | go_keep)
      (first
       | (go_at_call 25; refine (sum_any _ _ _ _ _ _ _ (digs (a / b)) [1] (a / b + 1) (HQ.out.drew.box _) (Lm.one _ 1 _ rfl (by omega)) (by omega) (by omega) HS.out).mono ?_; rintro e ws ⟨As, cs, rfl, hLs, hbs⟩; have Bs := (Below.refl w2.heap.size w2).drew.trans (bbox hbs); have PBs := PB2.via Bs; have LBs := Lib.hid (LB2.out.via Bs); have HRs := Lib.hid (HR.out.via Bs))
       | (go_at_call 26; refine (difference_any _ B R m (digs (a % b)).length cb cr (digs b) (digs (a % b)) (b - a % b) LBs.out HRs.out hr0 (by omega) HD.out HE.out).mono ?_; rintro e wt ⟨At, ct, rfl, hLt, hbt⟩; have PBt := PBs.via hbt))
    have PQz := (PQ2.via Bs).via hbt
    have PAz := (PA2.via Bs).via hbt
    have PRz := (PR2.via Bs).via hbt
    have HQz := Lib.hid (hLs.via hbt)
    have HRz := Lib.hid hLt
    have HBz := Lib.hid (HB2.out.trans ((Bs.trans (hbt.mono Bs.size)).mono HB2.out.size))
    clear PA2 PB2 PQ2 PR2 HQ HR HB2 a0 a1 b0 b1 hbs hbt Bs hLs hLt LBs HRs LB2 HS HD HE
    have PB2 := PBt
    have PA2 := PAz
    have PQ2 := PQz
    have PR2 := PRz
    have HQ := HQz
    have HR := HRz
    have HB2 := HBz
    clear PAz PBt PQz PRz HQz HRz HBz PBs
    have ⟨b0, b1, _, _, _⟩ := PB2
    have ⟨a0, a1, _, _, _⟩ := PA2
    go_wp2_with fail
    refine (made_any _ _ _ _ _ (a / b + 1) HQ.out).mono ?_
    rintro e w3 ⟨A3, n3, c3, rfl, hL3, hb3⟩
    rw [HLq.out] at hL3
    have PB3 := PB2.via hb3
    have PQ3 := PQ2.via hb3
    have PR3 := PR2.via hb3
    have HB3 := Lib.hid (HB2.out.trans (hb3.mono HB2.out.size))
    have HR3 := Lib.hid (HR.out.via hb3)
    have HL3 := Lib.hid hL3
    clear PA2 PB2 PQ2 PR2 HQ HR HB2 hb3 hL3 a0 a1 b0 b1
    have ⟨q0, q1, qf0, qf1, ql⟩ := PQ3
    have X4 := Lib.hid (PB3.far (h := w.heap.size + 1 + 1) (by omega) (.bool (mkN true (a / b + 1))) (.slice A3 n3 c3))
    have PQ4 := PQ3.set (.bool (mkN true (a / b + 1))) (.slice A3 n3 c3)
    have PR4 := PR3.far (h := w.heap.size + 1 + 1) (by omega) (.bool (mkN true (a / b + 1))) (.slice A3 n3 c3)
    have HR4 := Lib.hid (HR3.out.setP PQ3 (.bool (mkN true (a / b + 1))) (.slice A3 n3 c3))
    have HL4 := Lib.hid (HL3.out.setP PQ3 (.bool (mkN true (a / b + 1))) (.slice A3 n3 c3))
    have PB4 := X4.out
    have ⟨b0, b1, _, _, _⟩ := PB4
    go_wp2_with fail
    refine (made_any _ _ _ _ _ (b - a % b) HR4.out).mono ?_
    rintro e w5 ⟨A5, n5, c5, rfl, hL5, hb5⟩
    rw [HLr.out] at hL5
    have PQ5 := PQ4.via hb5
    have PR5 := PR4.via hb5
    have HB5 := Lib.hid ((below_set2 HB3.out (by omega) (.bool (mkN true (a / b + 1))) (.slice A3 n3 c3)).trans (hb5.mono (by rw [size_set2]; exact HB3.out.size)))
    have HL5 := Lib.hid (HL4.out.via hb5)
    have HM5 := Lib.hid hL5
    clear X4 HR3 HL3 HR4 HL4 PB3 PQ3 PR3 PQ4 PR4 PB4 hb5 hL5 q0 q1 qf0 qf1 b0 b1 HB3
    have ⟨r0, r1, rf0, rf1, rl⟩ := PR5
    have PQ6 := PQ5.far (h := w.heap.size + 1 + 1 + 1) (by omega) (.bool (mkN true (b - a % b))) (.slice A5 n5 c5)
    have PR6 := PR5.set (.bool (mkN true (b - a % b))) (.slice A5 n5 c5)
    have HL6 := Lib.hid (HL5.out.setP PR5 (.bool (mkN true (b - a % b))) (.slice A5 n5 c5))
    have HM6 := Lib.hid (HM5.out.setP PR5 (.bool (mkN true (b - a % b))) (.slice A5 n5 c5))
    have HB6 := Lib.hid (below_set2 HB5.out (by omega) (.bool (mkN true (b - a % b))) (.slice A5 n5 c5) (g := w.heap.size + 1 + 1 + 1))
    go_wp2_with fail
    generalize ((w5.setCell ⟨w.heap.size + 1 + 1 + 1, 0, none⟩ (.bool (mkN true (b - a % b)))).setCell ⟨w.heap.size + 1 + 1 + 1, 1, none⟩ (.slice A5 n5 c5)) = w6 at *
    clear PQ5 PR5 HL5 HM5 HB5 r0 r1 rf0 rf1 rl
    have ⟨q0, q1, qf0, qf1, ql⟩ := PQ6
    have ⟨r0, r1, rf0, rf1, rl⟩ := PR6
    go_region
    go_wp2
    refine post_ww Tryd.results9 rfl rfl rfl ((PQ6.set _ _).far (by omega) _ _).drew ((PR6.far (by omega) _ _).set _ _).drew ⟨A3, n3, c3, A5, n5, c5, rfl, ?_, ?_, ?_⟩
    · exact ((HL6.out.setP PQ6 _ _).setP (PR6.far (by omega) _ _) _ _).drew
    · exact ((HM6.out.setP PQ6 _ _).setP (PR6.far (by omega) _ _) _ _).drew
    · exact (below_set2 (below_set2 HB6.out (by omega) _ _) (by omega) _ _).drew
end Go.Proofs.YtegpckhfncblhaaDoor

/-
  Contracts of the reference's small functions: Check, trim, made, From, Great.
-/
namespace Go.Proofs.YtegpckhfncblhaaDoor
open Go.RowKit

set_option maxRecDepth 100000 in
set_option maxHeartbeats 400000 in
theorem rcheck_any (w : World) (neg : Bool) (A : Option Addr) (n c : Nat) (xs : List Nat) (h : Lm w w.heap.size A n c xs) :
    Calls Tryd.prog 32 #[.agg #[.bool neg, .slice A n c]] w fun e w' => e = .returned (.int .i64 (chk neg xs)) ∧ Below w.heap.size w w' := by
  have hr := h.max
  have hcn := h.cap
  have hl := h.len
  by_cases h1 : 4096 < n
  · have HC : Hid (chk neg xs = 8) := by unfold chk; rw [if_pos (by omega)]; exact (rfl : (8 : Int) = 8)
    go_enter Tryd.func32, Tryd.ntmps32
    go_wp2
    go_ret
    exact ⟨ret_int HC.out.symm, by go_grown⟩
  · rcases n with _ | n
    · have hx : xs = [] := List.eq_nil_of_length_eq_zero hl
      have HC : Hid (chk neg xs = if neg = true then 8 else 0) := by show _ = _; unfold chk; simp [hx]
      clear hx
      cases neg
      · go_enter Tryd.func32, Tryd.ntmps32
        go_wp2
        go_ret
        exact ⟨ret_int HC.out.symm, by go_grown⟩
      · go_enter Tryd.func32, Tryd.ntmps32
        go_wp2
        go_ret
        exact ⟨ret_int HC.out.symm, by go_grown⟩
    · obtain ⟨b, off, rfl, hb, hck⟩ := h.cell (k := n) (by omega)
      have hlast := last_get (xs := xs) (by omega)
      rw [hl] at hlast
      have hne : xs ≠ [] := by rintro rfl; simp at hl
      have HC : Hid (chk neg xs = if xs[n]?.getD 0 = 0 then 8 else 0) := by
        unfold chk
        rw [if_neg (by omega), if_neg (fun e => hne e.1)]
        simp only [hlast]
        exact (rfl : _ = _)
      clear hlast hne hl
      by_cases hz : xs[n]?.getD 0 = 0
      · have HZ := Lib.hid hz
        have hz' : (((xs[n]?.getD 0 : Nat) : Int) == 0) = true := by simp [hz]
        clear hz
        go_enter Tryd.func32, Tryd.ntmps32
        go_wp2
        go_ret
        exact ⟨ret_int (by rw [HC.out, if_pos HZ.out]), by go_grown⟩
      · have HZ := Lib.hid hz
        have hz' : (((xs[n]?.getD 0 : Nat) : Int) == 0) = false := by simp [hz]
        clear hz
        go_enter Tryd.func32, Tryd.ntmps32
        go_wp2
        go_ret
        exact ⟨ret_int (by rw [HC.out, if_neg HZ.out]), by go_grown⟩

theorem rcheck_ok (w : World) (neg : Bool) (A : Option Addr) (n c : Nat) (xs : List Nat) (h : Lm w w.heap.size A n c xs) (hc : chk neg xs = 0) :
    Calls Tryd.prog 32 #[.agg #[.bool neg, .slice A n c]] w fun e w' => e = .returned (.int .i64 0) ∧ Below w.heap.size w w' :=
  (rcheck_any w neg A n c xs h).mono fun _ _ ⟨he, hb⟩ => ⟨by rw [he, hc], hb⟩
theorem rcheck_bad (w : World) (neg : Bool) (A : Option Addr) (n c : Nat) (xs : List Nat) (h : Lm w w.heap.size A n c xs) (hc : chk neg xs = 8) :
    Calls Tryd.prog 32 #[.agg #[.bool neg, .slice A n c]] w fun e w' => e = .returned (.int .i64 8) ∧ Below w.heap.size w w' :=
  (rcheck_any w neg A n c xs h).mono fun _ _ ⟨he, hb⟩ => ⟨by rw [he, hc], hb⟩


set_option maxRecDepth 100000 in
set_option maxHeartbeats 400000 in
theorem rtrim_any (w : World) (A : Option Addr) (n c : Nat) (xs : List Nat) (v : Nat) (h : Lm w w.heap.size A n c xs) (hv : val xs = v) (hn : n ≤ 1000000000) :
    Calls Tryd.prog 39 #[.slice A n c] w fun e w' => ∃ A' c', e = .returned (.slice A' (digs v).length c') ∧ Lm w' w'.heap.size A' (digs v).length c' (digs v) ∧ Below w.heap.size w w' := by
  subst hv
  obtain ⟨i0, hi0, hz0, hz1, hz2⟩ := info_parts u32_info
  have hr := h.max
  have hcn := h.cap
  have HH := Lib.hid h
  have HD := Lib.hid (tr_len h.good h.len)
  have HT' := Lib.hid (tr_digs h.good h.len)
  go_enter Tryd.func39, Tryd.ntmps39
  go_wp2
  go_loop [3] (fun v => ∃ k : Nat, k ≤ n ∧ v = .int .i64 k ∧ tr xs k = tr xs n) (fun v => (intOf v).toNat)
  case atStart => exact ⟨n, Nat.le_refl _, rfl, rfl⟩
  case round =>
    obtain ⟨k, hk, rfl, ht⟩ := hrel
    have HT := Lib.hid ht
    clear ht
    have HS := Lib.hid ((HH.out.box (.cells #[] 64)).take hk)
    rcases k with _ | k
    · go_wp2_with (at_builtin; refine wpList_append_lm _ rfl _ _ _ rfl w.heap.size _ i0 slice_u32 hi0 hz0 hz1 hz2 _ 0 [] rfl (World.ownsRow_made _ _ _ (Nat.le_refl _) (by simp [maxLen]) rfl) _ _ _ _ (xs.take 0) rfl HS.out (by simp only [maxLen]; omega) (by omega) (by simp) ?_; intro v1 w1 hown1 hg1)
      go_ret
      rw [Nat.zero_add, List.nil_append] at hown1
      obtain ⟨A', c', rfl, hL⟩ := Lm.own hown1 (h.good.take _)
      have e1 : (digs (val xs)).length = 0 := by rw [← HD.out, ← HT.out]; rfl
      have e2 : digs (val xs) = [] := List.eq_nil_of_length_eq_zero e1
      rw [e2]
      refine ⟨A', c', rfl, hL, ((Below.refl _ _).alloc (Nat.le_refl _) _).grown hg1 (by simp) (fun k hk => ?_)⟩
      have e : w.heap.size = k := Option.some.inj hk
      omega
    · obtain ⟨b, off, rfl, hb, hck⟩ := h.cell (k := k) (by omega)
      by_cases hz : xs[k]?.getD 0 = 0
      · have HZ := Lib.hid hz
        have hz' : (((xs[k]?.getD 0 : Nat) : Int) == 0) = true := by simp [hz]
        clear hz
        go_wp2
        go_round
        case rel => exact ⟨k, by omega, rfl, by rw [← HT.out, tr, if_pos HZ.out]⟩
        case measure => simp [intOf]
      · have HZ := Lib.hid hz
        have hz' : (((xs[k]?.getD 0 : Nat) : Int) == 0) = false := by simp [hz]
        clear hz
        go_wp2_with (at_builtin; refine wpList_append_lm _ rfl _ _ _ rfl w.heap.size _ i0 slice_u32 hi0 hz0 hz1 hz2 _ 0 [] rfl (World.ownsRow_made _ _ _ (Nat.le_refl _) (by simp [maxLen]) rfl) _ _ _ _ (xs.take (k + 1)) rfl HS.out (by simp only [maxLen]; omega) (by omega) (by simp) ?_; intro v1 w1 hown1 hg1)
        go_ret
        rw [Nat.zero_add, List.nil_append] at hown1
        obtain ⟨A', c', rfl, hL⟩ := Lm.own hown1 (h.good.take _)
        have e1 : tr xs n = k + 1 := by rw [← HT.out, tr, if_neg HZ.out]
        have e2 : xs.take (k + 1) = digs (val xs) := by rw [← e1]; exact HT'.out
        have e3 : (digs (val xs)).length = k + 1 := by rw [← HD.out, e1]
        rw [e3, ← e2]
        refine ⟨A', c', rfl, hL, ((Below.refl _ _).alloc (Nat.le_refl _) _).grown hg1 (by simp) (fun k hk => ?_)⟩
        have e : w.heap.size = k := Option.some.inj hk
        omega

end Go.Proofs.YtegpckhfncblhaaDoor

/-
  The contract of the reference's compare.
-/
namespace Go.Proofs.YtegpckhfncblhaaDoor
open Go.RowKit

set_option maxRecDepth 100000 in
set_option maxHeartbeats 400000 in
theorem rcompare_len (A B : Option Addr) (n m ca cb : Nat) (xs ys : List Nat) (w : World) (hA : Lm w w.heap.size A n ca xs) (hB : Lm w w.heap.size B m cb ys) (hne : n ≠ m) :
    Calls Tryd.prog 61 #[.slice A n ca, .slice B m cb] w fun e w' => e = .returned (.int .i64 (cmpL xs ys)) ∧ ∃ d, w' = w.drewN d := by
  have h1 := hA.cap
  have h2 := hA.max
  have h3 := hB.cap
  have h4 := hB.max
  have HC : Hid (cmpL xs ys = cmpZ n m) := by
    show _ = _
    unfold cmpL cmpZ
    rw [hA.len, hB.len]
    rcases Nat.lt_or_ge n m with h | h
    · rw [if_pos h, if_pos (by omega)]
    · rw [if_neg (by omega), if_pos (by omega), if_neg (by omega), if_neg (by omega)]
  have hb : (((n : Int) == (m : Int))) = false := by simp; omega
  have hb2 : (((n : Int) != (m : Int))) = true := by simp; omega
  rcases Nat.lt_or_ge n m with h | h
  · have HE : Hid (cmpZ n m = -1) := by show _ = _; unfold cmpZ; rw [if_pos (by omega)]
    clear hne
    go_enter Tryd.func61, Tryd.ntmps61
    go_wp2
    go_ret
    exact ⟨ret_int (by rw [HC.out, HE.out]), 0, rfl⟩
  · have HE : Hid (cmpZ n m = 1) := by show _ = _; unfold cmpZ; rw [if_neg (by omega), if_neg (by omega)]
    have h' : m < n := by omega
    clear hne h
    go_enter Tryd.func61, Tryd.ntmps61
    go_wp2
    go_ret
    exact ⟨ret_int (by rw [HC.out, HE.out]), 0, rfl⟩

set_option maxRecDepth 100000 in
set_option maxHeartbeats 800000 in
theorem rcompare_eq (A B : Option Addr) (n ca cb : Nat) (xs ys : List Nat) (w : World) (hA : Lm w w.heap.size A n ca xs) (hB : Lm w w.heap.size B n cb ys) :
    Calls Tryd.prog 61 #[.slice A n ca, .slice B n cb] w fun e w' => e = .returned (.int .i64 (cmpL xs ys)) ∧ ∃ d, w' = w.drewN d := by
  have h1 := hA.cap
  have h2 := hA.max
  have h3 := hB.cap
  have h4 := hB.max
  go_enter Tryd.func61, Tryd.ntmps61
  go_wp2
  go_loopw [5] (fun i wr => ∃ m d : Nat, m ≤ n ∧ i = .int .i64 ((m : Int) - 1) ∧ xs.drop m = ys.drop m ∧ wr = w.drewN d) (fun i _ => (intOf i + 1).toNat)
  case atStart => exact ⟨n, 0, Nat.le_refl _, rfl, by rw [List.drop_of_length_le (by rw [hA.len]; exact Nat.le_refl _), List.drop_of_length_le (by rw [hB.len]; exact Nat.le_refl _)], rfl⟩
  case round =>
    obtain ⟨m, d, hm, rfl, hd, rfl⟩ := hrel
    have HD := Lib.hid hd
    clear hd
    rcases m with _ | m
    · go_wp2
      go_ret
      exact ⟨ret_int (cmpL_of_drop HD.out).symm, d, rfl⟩
    · obtain ⟨b, off, rfl, hb, hc⟩ := hA.cell (k := m) (by omega)
      obtain ⟨b', off', rfl, hb', hc'⟩ := hB.cell (k := m) (by omega)
      have hmm : (((m + 1 : Nat) : Int) - 1) = (m : Int) := by omega
      rw [hmm]
      have hm0 : (0 : Int) ≤ (m : Int) := Int.natCast_nonneg _
      have hm1 : (m : Int) < (n : Int) := by omega
      rcases Nat.lt_trichotomy (xs[m]?.getD 0) (ys[m]?.getD 0) with h | h | h
      · have HE : Hid (cmpL xs ys = -1) := by show _ = _; rw [cmpL_at hA.good hB.good hA.len hB.len (by omega) HD.out (by omega), cmpN_lt h]
        go_wp2
        go_quiet (fail)
        go_wp2
        go_ret
        exact ⟨ret_int HE.out.symm, _, World.drewN_drewN _ _ _⟩
      · have HE := Lib.hid h
        have hlt : decide (xs[m]?.getD 0 < ys[m]?.getD 0) = false := by simp; omega
        have hgt : decide (ys[m]?.getD 0 < xs[m]?.getD 0) = false := by simp; omega
        clear h
        go_wp2
        go_quiet (fail)
        go_wp2
        go_quiet (fail)
        go_wp2
        go_roundw
        case rel => exact ⟨m, _, by omega, rfl, drop_step hA.len hB.len (by omega) HD.out HE.out, rfl⟩
        case measure => simp [intOf]
      · have HE : Hid (cmpL xs ys = 1) := by show _ = _; rw [cmpL_at hA.good hB.good hA.len hB.len (by omega) HD.out (by omega), cmpN_gt h]
        have hlt : decide (xs[m]?.getD 0 < ys[m]?.getD 0) = false := by simp; omega
        go_wp2
        go_quiet (fail)
        go_wp2
        go_quiet (fail)
        go_wp2
        go_ret
        exact ⟨ret_int HE.out.symm, _, by rw [World.drewN_drewN, World.drewN_drewN]⟩

theorem rcompare_any (A B : Option Addr) (n m ca cb : Nat) (xs ys : List Nat) (w : World) (hA : Lm w w.heap.size A n ca xs) (hB : Lm w w.heap.size B m cb ys) :
    Calls Tryd.prog 61 #[.slice A n ca, .slice B m cb] w fun e w' => e = .returned (.int .i64 (cmpL xs ys)) ∧ ∃ d, w' = w.drewN d := by
  by_cases h : n = m
  · subst h
    exact rcompare_eq A B n ca cb xs ys w hA hB
  · exact rcompare_len A B n m ca cb xs ys w hA hB h

end Go.Proofs.YtegpckhfncblhaaDoor

/-
  Contracts of the reference's made, Neg, Abs.
-/
namespace Go.Proofs.YtegpckhfncblhaaDoor
open Go.RowKit

set_option maxRecDepth 100000 in
set_option maxHeartbeats 400000 in
theorem rmade_any (w : World) (neg : Bool) (A : Option Addr) (n c : Nat) (xs : List Nat) (v : Nat) (h : Lm w w.heap.size A n c xs) (hv : val xs = v) (hn : n ≤ 1000000000) :
    Calls Tryd.prog 36 #[.bool neg, .slice A n c] w (RW w (mkN neg v) (mkL v) (mkE v)) := by
  have HH := Lib.hid h
  have HV := Lib.hid hv
  clear hv
  by_cases h1 : 4096 < (digs v).length
  · have HN : Hid (mkN neg v = false) := by show _ = _; unfold mkN; rw [decide_eq_false (by omega)]; rfl
    have HL : Hid (mkL v = []) := by show _ = _; unfold mkL; rw [if_neg (by omega)]
    have HE : Hid (mkE v = 16) := by show _ = _; unfold mkE; rw [if_neg (by omega)]
    go_enter Tryd.func36, Tryd.ntmps36
    go_wp2_with (go_at_call 39; refine (rtrim_any _ _ _ _ xs v (HH.out.box _) HV.out hn).mono ?_; rintro e w1 ⟨A1, c1, rfl, hL1, hb1⟩; have ⟨hy0, hy1, hf0, hf1, hsz⟩ := box1 hb1; have hcap1 := hL1.cap; have hmax1 := hL1.max)
    rw [HN.out, HL.out, HE.out]
    exact post_ws Tryd.results36 rfl rfl hy0 hy1 ⟨none, 0, 0, rfl, Lm.nil _ _, below_set2 (bbox hb1) (by omega) _ _⟩
  · have HL : Hid (mkL v = digs v) := by show _ = _; unfold mkL; rw [if_pos (by omega)]
    have HE : Hid (mkE v = 0) := by show _ = _; unfold mkE; rw [if_pos (by omega)]
    have HN : Hid (mkN neg v = (neg && decide (0 < (digs v).length))) := by
      show _ = _
      unfold mkN
      rw [decide_eq_true (by omega), Bool.true_and]
      congr 1
      have hp := digs_pos (n := v)
      by_cases h0 : v = 0
      · rw [decide_eq_false (by omega), decide_eq_false (by omega)]
      · rw [decide_eq_true h0, decide_eq_true (by omega)]
    cases neg
    all_goals
      go_enter Tryd.func36, Tryd.ntmps36
      go_wp2_with (go_at_call 39; refine (rtrim_any _ _ _ _ xs v (HH.out.box _) HV.out hn).mono ?_; rintro e w1 ⟨A1, c1, rfl, hL1, hb1⟩; have ⟨hy0, hy1, hf0, hf1, hsz⟩ := box1 hb1; have hcap1 := hL1.cap; have hmax1 := hL1.max)
      rw [HN.out, HL.out, HE.out]
      refine post_ws Tryd.results36 rfl rfl hy0 hy1 ⟨A1, _, c1, rfl, hL1.set2 hy0 hy1 _ _, below_set2 (bbox hb1) (by omega) _ _⟩

end Go.Proofs.YtegpckhfncblhaaDoor

/-
  Contracts of the reference's both, Same, Compared.
-/
namespace Go.Proofs.YtegpckhfncblhaaDoor
open Go.RowKit

set_option maxRecDepth 100000 in
set_option maxHeartbeats 400000 in
theorem rboth_any (w : World) (na nb : Bool) (A B : Option Addr) (n m ca cb : Nat) (xs ys : List Nat) (hA : Lm w w.heap.size A n ca xs) (hB : Lm w w.heap.size B m cb ys) (v : Int) (hv : chkB na xs nb ys = v) :
    Calls Tryd.prog 44 #[.agg #[.bool na, .slice A n ca], .agg #[.bool nb, .slice B m cb]] w fun e w' => e = .returned (.int .i64 v) ∧ Below w.heap.size w w' := by
  have HA := Lib.hid hA
  have HB := Lib.hid hB
  have HV := Lib.hid hv
  clear hv
  rcases chk_cases na xs with hc | hc
  · have HC := Lib.hid hc
    have HE : Hid (chkB na xs nb ys = chk nb ys) := by show _ = _; unfold chkB; rw [if_pos hc]
    clear hc
    go_enter Tryd.func44, Tryd.ntmps44
    go_wp2_with fail
    refine (rcheck_ok _ _ _ _ _ _ ((HA.out.box _).box _) HC.out).mono ?_
    rintro e w1 ⟨rfl, hb1⟩
    have ⟨hx0, hx1, hy0, hy1, hf0, hf1, hsz⟩ := box2 hb1
    go_wp2_with fail
    refine (rcheck_any _ _ _ _ _ _ (((HB.out.box _).box _).via hb1)).mono ?_
    rintro e w2 ⟨rfl, hb2⟩
    go_wp2
    go_ret
    exact ⟨ret_int (by rw [← HV.out, HE.out]), (bbox (bbox hb1)).trans (hb2.mono (by omega))⟩
  · have HC := Lib.hid hc
    have HE : Hid (chkB na xs nb ys = 8) := by show _ = _; unfold chkB; rw [if_neg (by omega), hc]
    clear hc
    go_enter Tryd.func44, Tryd.ntmps44
    go_wp2_with fail
    refine (rcheck_bad _ _ _ _ _ _ ((HA.out.box _).box _) HC.out).mono ?_
    rintro e w1 ⟨rfl, hb1⟩
    have ⟨hx0, hx1, hy0, hy1, hf0, hf1, hsz⟩ := box2 hb1
    go_wp2_with fail
    refine (rcheck_bad _ _ _ _ _ _ (((HA.out.box _).box _).via hb1) HC.out).mono ?_
    rintro e w2 ⟨rfl, hb2⟩
    go_wp2
    go_ret
    exact ⟨ret_int (by rw [← HV.out, HE.out]), (bbox (bbox hb1)).trans (hb2.mono (by omega))⟩

def sameB (na : Bool) (xs : List Nat) (nb : Bool) (ys : List Nat) : Bool := na == nb && cmpL xs ys == 0
theorem sameB_self (na : Bool) (xs : List Nat) : sameB na xs na xs = true := by
  unfold sameB
  rw [cmpL_of_drop rfl]
  cases na <;> rfl
set_option maxRecDepth 100000 in
set_option maxHeartbeats 400000 in
theorem rsame_any (w : World) (na nb : Bool) (A B : Option Addr) (n m ca cb : Nat) (xs ys : List Nat) (hA : Lm w w.heap.size A n ca xs) (hB : Lm w w.heap.size B m cb ys) :
    Calls Tryd.prog 34 #[.agg #[.bool na, .slice A n ca], .agg #[.bool nb, .slice B m cb]] w fun e w' => e = .returned (.bool (sameB na xs nb ys)) ∧ Below w.heap.size w w' := by
  have HA := Lib.hid hA
  have HB := Lib.hid hB
  by_cases hne : na = nb
  · have HS : Hid (sameB na xs nb ys = (cmpL xs ys == 0)) := by show _ = _; unfold sameB; subst hne; cases na <;> rfl
    have hbe : (na == nb) = true := by simpa using hne
    clear hne
    go_enter Tryd.func34, Tryd.ntmps34
    go_wp2_with (go_at_call 61; refine (rcompare_any _ _ _ _ _ _ xs ys _ ((HA.out.box _).box _) ((HB.out.box _).box _)).mono ?_; rintro e w1 ⟨rfl, d, rfl⟩)
    go_ret
    refine ⟨by rw [HS.out]; rfl, bdrewN (((Below.refl _ _).alloc (Nat.le_refl _) _).alloc (by simp) _) _⟩
  · have HS : Hid (sameB na xs nb ys = false) := by show _ = _; unfold sameB; cases na <;> cases nb <;> first | rfl | exact absurd rfl hne
    have hbe : (na == nb) = false := by simpa using hne
    clear hne
    go_enter Tryd.func34, Tryd.ntmps34
    go_wp2
    go_ret
    refine ⟨by rw [HS.out]; rfl, ((Below.refl _ _).alloc (Nat.le_refl _) _).alloc (by simp) _⟩

theorem cmpN_neg (a b : Nat) : cmpN b a = -1 * cmpN a b := by
  rcases Nat.lt_trichotomy a b with h | h | h
  · rw [cmpN_lt h, cmpN_gt h]; rfl
  · subst h; rw [cmpN_self]; rfl
  · rw [cmpN_lt h, cmpN_gt h]; rfl
set_option maxRecDepth 100000 in
set_option maxHeartbeats 400000 in
theorem rcompared_any (w : World) (na nb : Bool) (A B : Option Addr) (n m ca cb a b : Nat) (hA : Lm w w.heap.size A n ca (digs a)) (hB : Lm w w.heap.size B m cb (digs b)) (hva : na = true → a ≠ 0) (hvb : nb = true → b ≠ 0) :
    Calls Tryd.prog 43 #[.agg #[.bool na, .slice A n ca], .agg #[.bool nb, .slice B m cb]] w fun e w' => e = .returned (.int .i64 (cmpZ (toI na a) (toI nb b))) ∧ Below w.heap.size w w' := by
  have HA := Lib.hid hA
  have HB := Lib.hid hB
  have HC := Lib.hid (cmp_toI hva hvb)
  have HN : Hid (cmpL (digs a) (digs b) = cmpN a b) := by show _ = _; rw [cmpL_norm (digs_good _) (digs_good _) (digs_norm _) (digs_norm _), digs_val, digs_val]
  have HM : Hid (cmpL (digs b) (digs a) = -1 * cmpN a b) := by show _ = _; rw [cmpL_norm (digs_good _) (digs_good _) (digs_norm _) (digs_norm _), digs_val, digs_val, cmpN_neg]
  clear hva hvb
  have hbl := ((Below.refl w.heap.size w).alloc (Nat.le_refl _) (.cells #[.bool na, .slice A n ca] 24)).alloc (by simp) (.cells #[.bool nb, .slice B m cb] 24)
  have HBL := Lib.hid hbl
  clear hbl
  cases na <;> cases nb
  · have HE : Hid (cmpZ (toI false a) (toI false b) = cmpL (digs a) (digs b)) := by show _ = _; rw [HC.out, HN.out, if_pos rfl]; exact Int.one_mul _
    clear HC HN HM
    go_enter Tryd.func43, Tryd.ntmps43
    go_wp2_with (go_at_call 61; refine (rcompare_any _ _ _ _ _ _ (digs a) (digs b) _ ((HA.out.box _).box _) ((HB.out.box _).box _)).mono ?_; rintro e w1 ⟨rfl, d, rfl⟩)
    go_ret
    exact ⟨ret_int HE.out.symm, bdrewN HBL.out _⟩
  · have HE : Hid (cmpZ (toI false a) (toI true b) = 1) := by show _ = _; rw [HC.out, if_neg (by decide)]; rfl
    clear HC HN HM
    go_enter Tryd.func43, Tryd.ntmps43
    go_wp2
    go_ret
    exact ⟨ret_int HE.out.symm, HBL.out⟩
  · have HE : Hid (cmpZ (toI true a) (toI false b) = -1) := by show _ = _; rw [HC.out, if_neg (by decide)]; rfl
    clear HC HN HM
    go_enter Tryd.func43, Tryd.ntmps43
    go_wp2
    go_ret
    exact ⟨ret_int HE.out.symm, HBL.out⟩
  · have HE : Hid (cmpZ (toI true a) (toI true b) = cmpL (digs b) (digs a)) := by show _ = _; rw [HC.out, HM.out, if_pos rfl]; rfl
    clear HC HN HM
    go_enter Tryd.func43, Tryd.ntmps43
    go_wp2_with (go_at_call 61; refine (rcompare_any _ _ _ _ _ _ (digs b) (digs a) _ ((HB.out.box _).box _) ((HA.out.box _).box _)).mono ?_; rintro e w1 ⟨rfl, d, rfl⟩)
    go_ret
    exact ⟨ret_int HE.out.symm, bdrewN HBL.out _⟩

end Go.Proofs.YtegpckhfncblhaaDoor

/-
  Contracts of the reference's Cmp, Sign, Bits.
-/
namespace Go.Proofs.YtegpckhfncblhaaDoor
open Go.RowKit

theorem chkB_zero (neg : Bool) (xs : List Nat) : chkB neg xs false [] = chk neg xs := by
  unfold chkB
  split
  · next h => rw [h]; rfl
  · rfl
theorem cmp_zero {neg : Bool} {v : Nat} (h : neg = true → v ≠ 0) : cmpZ (toI neg v) (toI false 0) = signZ neg v := by
  unfold signZ toI cmpZ sideZ
  cases neg
  · by_cases h0 : v = 0
    · subst h0; rfl
    · rw [if_neg h0]
      show (if (v : Int) < 0 then -1 else if (v : Int) = 0 then 0 else 1) = (1 : Int)
      rw [if_neg (by omega), if_neg (by omega)]
  · have h0 := h rfl
    rw [if_neg h0]
    show (if -(v : Int) < 0 then -1 else if -(v : Int) = 0 then 0 else 1) = (-1 : Int)
    rw [if_pos (by omega)]
end Go.Proofs.YtegpckhfncblhaaDoor

/-
  Contracts of the reference's Int.
-/
namespace Go.Proofs.YtegpckhfncblhaaDoor
open Go.RowKit

set_option maxRecDepth 100000 in
set_option maxHeartbeats 400000 in
theorem rint_bad (w : World) (neg : Bool) (A : Option Addr) (n c : Nat) (xs : List Nat) (h : Lm w w.heap.size A n c xs) (hc : chk neg xs = 8) :
    Calls Tryd.prog 17 #[.agg #[.bool neg, .slice A n c]] w fun e w' => e = .returned (.tuple #[.int .i64 0, .int .i64 8]) ∧ Below w.heap.size w w' := by
  have HH := Lib.hid h
  have HC := Lib.hid hc
  clear hc
  go_enter Tryd.func17, Tryd.ntmps17
  go_wp2_with fail
  refine (rcheck_bad _ _ _ _ _ _ (HH.out.box _) HC.out).mono ?_
  rintro e w1 ⟨rfl, hb1⟩
  have ⟨hy0, hy1, hf0, hf1, hsz⟩ := box1 hb1
  go_wp2_with fail
  refine (rcheck_bad _ _ _ _ _ _ ((HH.out.box _).via hb1) HC.out).mono ?_
  rintro e w2 ⟨rfl, hb2⟩
  go_wp2
  go_ret2
  exact ⟨rfl, (bbox hb1).trans (hb2.mono (by omega))⟩

set_option maxRecDepth 100000 in
set_option maxHeartbeats 400000 in
theorem rint_big (w : World) (neg : Bool) (A : Option Addr) (n c : Nat) (xs : List Nat) (v : Nat) (h : Lm w w.heap.size A n c xs) (hc : chk neg xs = 0) (hv : val xs = v) (hn : 2 < n) :
    Calls Tryd.prog 17 #[.agg #[.bool neg, .slice A n c]] w fun e w' => e = .returned (.tuple #[.int .i64 (intV neg v), .int .i64 (intE neg v)]) ∧ Below w.heap.size w w' := by
  have HH := Lib.hid h
  have HC := Lib.hid hc
  have hlen := chk_len hc h.good 2
  rw [h.len, hv] at hlen
  have hbig : 18446744073709551616 ≤ v := by
    have h3 : ¬ n ≤ 2 := by omega
    rw [hlen] at h3
    omega
  have HI : Hid (intV neg v = 0 ∧ intE neg v = 16) := by
    show _ ∧ _
    unfold intV intE
    cases neg
    · simp only [Bool.false_eq_true, if_false]
      rw [if_neg (by omega), if_neg (by omega)]
      exact ⟨rfl, rfl⟩
    · simp only [if_true]
      rw [if_neg (by omega), if_neg (by omega)]
      exact ⟨rfl, rfl⟩
  have hcap := h.cap
  have hmax := h.max
  clear hc hv hlen hbig
  go_enter Tryd.func17, Tryd.ntmps17
  go_wp2_with fail
  refine (rcheck_ok _ _ _ _ _ _ (HH.out.box _) HC.out).mono ?_
  rintro e w1 ⟨rfl, hb1⟩
  have ⟨hy0, hy1, hf0, hf1, hsz⟩ := box1 hb1
  go_wp2_with fail
  go_loop [4, 5] (fun u i => u = .int .u64 0 ∧ i = .int .i64 ((n : Int) - 1)) (fun _ _ => 0)
  case atStart => exact ⟨rfl, rfl⟩
  case round =>
    obtain ⟨rfl, rfl⟩ := hrel
    go_wp2
    go_ret2
    exact ⟨ret2_int HI.out.1.symm HI.out.2.symm, bbox hb1⟩

set_option maxRecDepth 100000 in
set_option maxHeartbeats 1000000 in
theorem rint_small (w : World) (neg : Bool) (A : Option Addr) (n c : Nat) (xs : List Nat) (v : Nat) (h : Lm w w.heap.size A n c xs) (hc : chk neg xs = 0) (hv : val xs = v) (hn : n ≤ 2) :
    Calls Tryd.prog 17 #[.agg #[.bool neg, .slice A n c]] w fun e w' => e = .returned (.tuple #[.int .i64 (intV neg v), .int .i64 (intE neg v)]) ∧ Below w.heap.size w w' := by
  have HH := Lib.hid h
  have HC := Lib.hid hc
  have HV := Lib.hid hv
  have hlen := chk_len hc h.good 2
  rw [h.len, hv] at hlen
  have hbig : v < 18446744073709551616 := hlen.1 hn
  have hcap := h.cap
  have hmax := h.max
  have hdrop : ∀ m, m + 1 ≤ n → val (xs.drop (m + 1)) < 4294967296 := by
    intro m hm
    have e := val_lt (h.good.drop (m + 1))
    rw [List.length_drop, h.len] at e
    have e2 : (4294967296 : Nat) ^ (n - (m + 1)) ≤ 4294967296 ^ 1 := pow_mono_ (by omega)
    omega
  have HD := Lib.hid hdrop
  clear hc hv hlen hdrop
  cases neg
  all_goals
    go_enter Tryd.func17, Tryd.ntmps17
    go_wp2_with fail
    refine (rcheck_ok _ _ _ _ _ _ (HH.out.box _) HC.out).mono ?_
    rintro e w1 ⟨rfl, hb1⟩
    have ⟨hy0, hy1, hf0, hf1, hsz⟩ := box1 hb1
    have HL := Lib.hid (HH.out.below (bbox hb1))
    go_wp2_with fail
    go_loop [4, 5] (fun u i => ∃ (m : Nat) (y : Int), m ≤ n ∧ i = .int .i64 ((m : Int) - 1) ∧ u = .int .u64 y ∧ y = (val (xs.drop m) : Nat)) (fun _ i => (intOf i + 1).toNat)
    case atStart => exact ⟨n, 0, Nat.le_refl _, rfl, rfl, by rw [List.drop_of_length_le (by rw [h.len]; exact Nat.le_refl _)]; rfl⟩
    case round =>
      obtain ⟨m, y, hm, rfl, rfl, hy⟩ := hrel
      have HY := Lib.hid hy
      clear hy
      rcases m with _ | m
      · have hyv : Hid (y = (v : Int)) := by have e := HY.out; rw [List.drop_zero, HV.out] at e; exact e
        have hy0 : 0 ≤ y := by rw [hyv.out]; omega
        have hy64 : y < 18446744073709551616 := by rw [hyv.out]; omega
        clear hbig
        by_cases h63 : y < 9223372036854775808
        all_goals
          go_wp2
        all_goals
          go_ret2
          refine ⟨ret2_int ?_ ?_, bbox hb1⟩
        all_goals
          have e1 := hyv.out
          simp only [intV, intE, Bool.false_eq_true, if_false, if_true, wrap64, IntKind.wrap_u64]
          split <;> omega
      · obtain ⟨b, off, rfl, hb, hcl⟩ := HL.out.cell (k := m) (by omega)
        have hy0 : 0 ≤ y := by rw [HY.out]; omega
        have hy32 : y < 4294967296 := by rw [HY.out]; have := HD.out m (by omega); omega
        have hg := h.good.get m
        have hst := val_step xs m
        have HS : Hid ((val (xs.drop m) : Int) = xs[m]?.getD 0 + 4294967296 * y) := by show _ = _; rw [hst, HY.out]; omega
        clear hst
        have hmm : (((m + 1 : Nat) : Int) - 1) = (m : Int) := by omega
        rw [hmm]
        have hm1 : m ≤ 1 := by omega
        go_wp2
        go_round
        case rel => exact ⟨m, _, by omega, rfl, rfl, by rw [HS.out]; omega⟩
        case measure => simp [intOf]

theorem rint_ok (w : World) (neg : Bool) (A : Option Addr) (n c : Nat) (xs : List Nat) (v : Nat) (h : Lm w w.heap.size A n c xs) (hc : chk neg xs = 0) (hv : val xs = v) :
    Calls Tryd.prog 17 #[.agg #[.bool neg, .slice A n c]] w fun e w' => e = .returned (.tuple #[.int .i64 (intV neg v), .int .i64 (intE neg v)]) ∧ Below w.heap.size w w' := by
  by_cases hn : n ≤ 2
  · exact rint_small w neg A n c xs v h hc hv hn
  · exact rint_big w neg A n c xs v h hc hv (by omega)

end Go.Proofs.YtegpckhfncblhaaDoor

/-
  Contracts of the reference's Great, From.
-/
namespace Go.Proofs.YtegpckhfncblhaaDoor
open Go.RowKit

/-- Numbers above the statements' size, unless they have too many limbs. -/
def greatB (n : Nat) : Bool := (decide (300 < n) && decide (n ≤ 4096)) || decide (4106 < n)
set_option maxRecDepth 100000 in
set_option maxHeartbeats 400000 in
theorem rfrom_any (w : World) (m : Int) (h1 : -9223372036854775808 ≤ m) (h2 : m ≤ 9223372036854775807) :
    Calls Tryd.prog 35 #[.int .i64 m] w fun e w' => ∃ A n c, e = .returned (.agg #[.bool (decide (m < 0)), .slice A n c]) ∧ Lm w' w'.heap.size A n c (digs m.natAbs) ∧ Below w.heap.size w w' := by
  obtain ⟨v, hv⟩ : ∃ v, v = m.natAbs := ⟨_, rfl⟩
  have hv2 : v < 18446744073709551616 := by omega
  have HV := Lib.hid hv
  have hd : (digs v).length ≤ 4096 := by
    have h3 : (digs v).length ≤ 2 := digs_len.2 (by omega)
    omega
  have HN : Hid (mkN (decide (m < 0)) v = decide (m < 0)) := by
    show _ = _
    unfold mkN
    rw [decide_eq_true hd, Bool.true_and]
    by_cases hm : m < 0
    · rw [decide_eq_true hm, decide_eq_true (show v ≠ 0 by omega)]; rfl
    · rw [decide_eq_false hm]; rfl
  have HL : Hid (mkL v = digs v) := by show _ = _; unfold mkL; rw [if_pos hd]
  clear hd
  by_cases hm : m < 0
  · have HM : Hid (decide (m < 0) = true) := by show _ = _; simpa using hm
    have HW : Hid (IntKind.u64.wrap (-IntKind.u64.wrap m) = (v : Int)) := by show _ = _; rw [IntKind.wrap_u64, IntKind.wrap_u64]; omega
    clear hv
    go_enter Tryd.func35, Tryd.ntmps35
    go_wp2_with fail
    rw [HW.out]
    refine (rmade_any _ _ _ _ _ _ v ((Lm.two _ (w.heap.size + 1) _ (v % 4294967296) (v / 4294967296 % 4294967296) _ _ (by simp) (by omega) (by omega) (by omega) (by omega)).mono (by simp)) (val2 v hv2) (by omega)).mono ?_
    rintro e w1 ⟨A1, n1, c1, rfl, hL1, hb1⟩
    have ⟨hy0, hy1, hf0, hf1, hsz⟩ := box1 (bbox hb1)
    go_wp2
    have ⟨r0, r1⟩ := set2 (.bool (mkN true v)) (.slice A1 n1 c1) hy0 hy1
    have ⟨q0, q1⟩ := alloc2 (.cells #[.bool (mkN true v), .slice A1 n1 c1] 24) (by simp [World.size_setCell]; omega) r0 r1
    refine post_w1 Tryd.results35 rfl rfl q0 q1 ⟨A1, n1, c1, ?_, ?_, ?_⟩
    · have e := HN.out
      rw [HM.out] at e ⊢
      rw [e]
    · have e := (hL1.set2 hy0 hy1 (.bool (mkN true v)) (.slice A1 n1 c1)).box (.cells #[.bool (mkN true v), .slice A1 n1 c1] 24)
      rw [HL.out] at e
      rw [← HV.out]
      exact e
    · exact (below_set2 (bbox (bbox hb1)) (Nat.le_refl _) _ _).alloc (by simp [World.size_setCell]; omega) _
  · have HM : Hid (decide (m < 0) = false) := by show _ = _; simpa using hm
    have HW : Hid (m = (v : Int)) := by show _ = _; omega
    clear hv
    go_enter Tryd.func35, Tryd.ntmps35
    go_wp2_with fail
    have hm' := HW.out
    refine (rmade_any _ _ _ _ _ _ v ((Lm.two _ (w.heap.size + 1) _ (v % 4294967296) (v / 4294967296 % 4294967296) _ _ (by simp) (by omega) (by omega) (by omega) (by omega)).mono (by simp)) (val2 v hv2) (by omega)).mono ?_
    clear hm'
    rintro e w1 ⟨A1, n1, c1, rfl, hL1, hb1⟩
    have ⟨hy0, hy1, hf0, hf1, hsz⟩ := box1 (bbox hb1)
    go_wp2
    have ⟨r0, r1⟩ := set2 (.bool (mkN false v)) (.slice A1 n1 c1) hy0 hy1
    have ⟨q0, q1⟩ := alloc2 (.cells #[.bool (mkN false v), .slice A1 n1 c1] 24) (by simp [World.size_setCell]; omega) r0 r1
    refine post_w1 Tryd.results35 rfl rfl q0 q1 ⟨A1, n1, c1, ?_, ?_, ?_⟩
    · have e := HN.out
      rw [HM.out] at e ⊢
      rw [e]
    · have e := (hL1.set2 hy0 hy1 (.bool (mkN false v)) (.slice A1 n1 c1)).box (.cells #[.bool (mkN false v), .slice A1 n1 c1] 24)
      rw [HL.out] at e
      rw [← HV.out]
      exact e
    · exact (below_set2 (bbox (bbox hb1)) (Nat.le_refl _) _ _).alloc (by simp [World.size_setCell]; omega) _

end Go.Proofs.YtegpckhfncblhaaDoor

/- The reference's plus and minus. -/
namespace Go.Proofs.YtegpckhfncblhaaDoor
open Go.RowKit

/-- A call returns limbs, just N of them, that stand for v. -/
def RL (w : World) (N v : Nat) (e : Ending) (w' : World) : Prop := ∃ A c ts, e = .returned (.slice A N c) ∧ Lm w' w'.heap.size A N c ts ∧ val ts = v ∧ Below w.heap.size w w'
theorem getD_over {xs : List Nat} {k : Nat} (h : xs.length ≤ k) : xs[k]?.getD 0 = 0 := by rw [List.getElem?_eq_none h]; rfl

set_option maxRecDepth 100000 in
set_option maxHeartbeats 1000000 in
theorem rplus_any (w : World) (A B : Option Addr) (n m ca cb N : Nat) (xs ys : List Nat) (v : Nat) (hA : Lm w w.heap.size A n ca xs) (hB : Lm w w.heap.size B m cb ys) (hN : N = max n m) (hn : N ≤ 100000000) (hv : val xs + val ys = v) :
    Calls Tryd.prog 40 #[.slice A n ca, .slice B m cb] w (RL w (N + 1) v) := by
  have h1 := hA.cap
  have h2 := hA.max
  have h3 := hB.cap
  have h4 := hB.max
  have hN1 : n ≤ N := by omega
  have hN2 : m ≤ N := by omega
  have HN := Lib.hid hN
  have HA := Lib.hid hA
  have HB := Lib.hid hB
  have HV := Lib.hid hv
  clear hA hB hv hN
  go_enter Tryd.func40, Tryd.ntmps40
  go_wp2
  go_loopw [5, 6, 7] (fun u cy i wr => ∃ k : Nat, k ≤ N ∧ i = .int .i64 k ∧ cy = .int .u64 ((addK xs ys k).2 : Nat) ∧ Ow wr w.heap.size u (addK xs ys k).1 ∧ Below w.heap.size w wr) (fun _ _ i _ => N - (intOf i).toNat)
  case atStart => exact ⟨0, Nat.zero_le _, rfl, rfl, Ow.nil _ _, Below.refl _ _⟩
  case round =>
    obtain ⟨k, hk, rfl, rfl, hO, hb⟩ := hrel
    have hcy := addK_carry HA.out.good HB.out.good k
    have HLn := Lib.hid (addK_len xs ys k)
    have hgx := HA.out.good.get k
    have hgy := HB.out.good.get k
    have HS : Hid (addK xs ys (k + 1) = ((addK xs ys k).1 ++ [((addK xs ys k).2 + (xs[k]?.getD 0 + ys[k]?.getD 0)) % 4294967296], ((addK xs ys k).2 + (xs[k]?.getD 0 + ys[k]?.getD 0)) / 4294967296)) := (rfl : _ = _)
    have HO := Lib.hid hO
    have HBl := Lib.hid hb
    clear hO hb
    by_cases hlt : k < N
    · have HR : Hid (∀ (u' : Value) (w1 : World) (E : Int), E = (((addK xs ys k).2 + (xs[k]?.getD 0 + ys[k]?.getD 0) : Nat) : Int) → Ow w1 w.heap.size u' ((addK xs ys k).1 ++ [((addK xs ys k).2 + (xs[k]?.getD 0 + ys[k]?.getD 0)) % 4294967296]) → Below w.heap.size w w1 →
          ∃ k' : Nat, k' ≤ N ∧ Value.int .i64 ((k : Int) + 1) = .int .i64 k' ∧ Value.int .u64 (E / 4294967296) = .int .u64 ((addK xs ys k').2 : Nat) ∧ Ow w1 w.heap.size u' (addK xs ys k').1 ∧ Below w.heap.size w w1) := by
        intro u' w1 E hE h5 h6
        refine ⟨k + 1, by omega, by go_num, ?_, ?_, h6⟩
        · rw [HS.out, hE]
          exact congrArg (Value.int IntKind.u64) (Int.natCast_ediv _ _).symm
        · rw [HS.out]; exact h5
      by_cases ha : k < n
      · obtain ⟨b, bo, rfl, hbb, hcx⟩ := (HA.out.below HBl.out).cell ha
        by_cases hm : k < m
        · obtain ⟨b', bo', rfl, hbb', hcy'⟩ := (HB.out.below HBl.out).cell hm
          go_wp2_with (at_builtin; refine wpList_append_u32 _ rfl _ _ rfl w.heap.size _ _ rfl HO.out _ (((addK xs ys k).2 + (xs[k]?.getD 0 + ys[k]?.getD 0)) % 4294967296) 1 (by omega) (by have := HLn.out; omega) HBl.out.size rfl ?_; intro u' w1 hO1 hg1)
          go_roundw
          case rel => exact HR.out _ _ _ (by omega) hO1 (HO.out.below HBl.out HBl.out.size hg1)
          case measure => simp [intOf]; omega
        · have HZ := Lib.hid (getD_over (xs := ys) (k := k) (by rw [HB.out.len]; omega))
          go_wp2_with (at_builtin; refine wpList_append_u32 _ rfl _ _ rfl w.heap.size _ _ rfl HO.out _ (((addK xs ys k).2 + (xs[k]?.getD 0 + ys[k]?.getD 0)) % 4294967296) 1 (by have := HZ.out; omega) (by have := HLn.out; omega) HBl.out.size rfl ?_; intro u' w1 hO1 hg1)
          go_roundw
          case rel => exact HR.out _ _ _ (by have := HZ.out; omega) hO1 (HO.out.below HBl.out HBl.out.size hg1)
          case measure => simp [intOf]; omega
      · have hm : k < m := by have := HN.out; omega
        obtain ⟨b', bo', rfl, hbb', hcy'⟩ := (HB.out.below HBl.out).cell hm
        have HZ := Lib.hid (getD_over (xs := xs) (k := k) (by rw [HA.out.len]; omega))
        go_wp2_with (at_builtin; refine wpList_append_u32 _ rfl _ _ rfl w.heap.size _ _ rfl HO.out _ (((addK xs ys k).2 + (xs[k]?.getD 0 + ys[k]?.getD 0)) % 4294967296) 1 (by have := HZ.out; omega) (by have := HLn.out; omega) HBl.out.size rfl ?_; intro u' w1 hO1 hg1)
        go_roundw
        case rel => exact HR.out _ _ _ (by have := HZ.out; omega) hO1 (HO.out.below HBl.out HBl.out.size hg1)
        case measure => simp [intOf]; omega
    · obtain rfl : k = N := by omega
      have ha : ¬ k < n := by omega
      have hm : ¬ k < m := by omega
      have HVs : Hid (val ((addK xs ys k).1 ++ [(addK xs ys k).2]) = v) := by
        show _ = _
        rw [val_snoc, addK_len, addK_val, List.take_of_length_le (by rw [HA.out.len]; omega), List.take_of_length_le (by rw [HB.out.len]; omega), HV.out]
      have HG : Hid (Good ((addK xs ys k).1 ++ [(addK xs ys k).2])) := (addK_good _ _ _).append (Good.nil.cons (by omega))
      go_wp2_with (at_builtin; refine wpList_append_u32 _ rfl _ _ rfl w.heap.size _ _ rfl HO.out _ ((addK xs ys k).2) 1 (by omega) (by have := HLn.out; omega) HBl.out.size rfl ?_; intro u' w1 hO1 hg1)
      go_ret
      obtain ⟨A1, c1, rfl, hL1⟩ := hO1.lm HG.out
      have hlen : ((addK xs ys k).1 ++ [(addK xs ys k).2]).length = k + 1 := by rw [List.length_append, HLn.out]; rfl
      rw [hlen] at hL1 ⊢
      exact ⟨A1, c1, _, rfl, hL1, HVs.out, HO.out.below HBl.out HBl.out.size hg1⟩


set_option maxRecDepth 100000 in
set_option maxHeartbeats 1000000 in
theorem rminus_any (w : World) (A B : Option Addr) (n m ca cb : Nat) (xs ys : List Nat) (v : Nat) (hA : Lm w w.heap.size A n ca xs) (hB : Lm w w.heap.size B m cb ys) (hge : m ≤ n) (hn : n ≤ 100000000) (hle : val ys ≤ val xs) (hv : val xs - val ys = v) :
    Calls Tryd.prog 64 #[.slice A n ca, .slice B m cb] w fun e w' => ∃ A' c', e = .returned (.slice A' (digs v).length c') ∧ Lm w' w'.heap.size A' (digs v).length c' (digs v) ∧ Below w.heap.size w w' := by
  have h1 := hA.cap
  have h2 := hA.max
  have h3 := hB.cap
  have h4 := hB.max
  have HA := Lib.hid hA
  have HB := Lib.hid hB
  have HV := Lib.hid hv
  have HLe := Lib.hid hle
  clear hA hB hv hle
  go_enter Tryd.func64, Tryd.ntmps64
  go_wp2
  go_loopw [5, 6, 7] (fun u cy i wr => ∃ k : Nat, k ≤ n ∧ i = .int .i64 k ∧ cy = .int .i64 ((subK xs ys k).2 : Nat) ∧ Ow wr w.heap.size u (subK xs ys k).1 ∧ Below w.heap.size w wr) (fun _ _ i _ => n - (intOf i).toNat)
  case atStart => exact ⟨0, Nat.zero_le _, rfl, rfl, Ow.nil _ _, Below.refl _ _⟩
  case round =>
    obtain ⟨k, hk, rfl, rfl, hO, hb⟩ := hrel
    have hcy := subK_carry xs ys k
    have HLn := Lib.hid (subK_len xs ys k)
    have hgx := HA.out.good.get k
    have hgy := HB.out.good.get k
    have HS : Hid (subK xs ys (k + 1) = ((subK xs ys k).1 ++ [(xs[k]?.getD 0 + 8589934592 - ys[k]?.getD 0 - (subK xs ys k).2) % 4294967296], if xs[k]?.getD 0 < ys[k]?.getD 0 + (subK xs ys k).2 then 1 else 0)) := (rfl : _ = _)
    have HO := Lib.hid hO
    have HBl := Lib.hid hb
    clear hO hb
    by_cases hlt : k < n
    · have HR : Hid (∀ (u' : Value) (w1 : World) (E : Int), E = ((if xs[k]?.getD 0 < ys[k]?.getD 0 + (subK xs ys k).2 then 1 else 0 : Nat) : Int) → Ow w1 w.heap.size u' ((subK xs ys k).1 ++ [(xs[k]?.getD 0 + 8589934592 - ys[k]?.getD 0 - (subK xs ys k).2) % 4294967296]) → Below w.heap.size w w1 →
          ∃ k' : Nat, k' ≤ n ∧ Value.int .i64 ((k : Int) + 1) = .int .i64 k' ∧ Value.int .i64 E = .int .i64 ((subK xs ys k').2 : Nat) ∧ Ow w1 w.heap.size u' (subK xs ys k').1 ∧ Below w.heap.size w w1) := by
        intro u' w1 E hE h5 h6
        refine ⟨k + 1, by omega, by go_num, ?_, ?_, h6⟩
        · rw [HS.out, hE]
        · rw [HS.out]; exact h5
      obtain ⟨b, bo, rfl, hbb, hcx⟩ := (HA.out.below HBl.out).cell hlt
      by_cases hm : k < m
      · obtain ⟨b', bo', rfl, hbb', hcy'⟩ := (HB.out.below HBl.out).cell hm
        by_cases hng : xs[k]?.getD 0 < ys[k]?.getD 0 + (subK xs ys k).2
        · have HNg := Lib.hid hng
          have hngi : ((xs[k]?.getD 0 : Nat) : Int) - (((subK xs ys k).2 : Nat) : Int) - ((ys[k]?.getD 0 : Nat) : Int) < 0 := by omega
          go_wp2_with (at_builtin; refine wpList_append_u32 _ rfl _ _ rfl w.heap.size _ _ rfl HO.out _ ((xs[k]?.getD 0 + 8589934592 - ys[k]?.getD 0 - (subK xs ys k).2) % 4294967296) 1 (by omega) (by have := HLn.out; omega) HBl.out.size rfl ?_; intro u' w1 hO1 hg1)
          go_roundw
          case rel => exact HR.out _ _ _ (by rw [if_pos HNg.out]; rfl) hO1 (HO.out.below HBl.out HBl.out.size hg1)
          case measure => simp [intOf]; omega
        · have HNg := Lib.hid hng
          have hngi : 0 ≤ ((xs[k]?.getD 0 : Nat) : Int) - (((subK xs ys k).2 : Nat) : Int) - ((ys[k]?.getD 0 : Nat) : Int) := by omega
          have hngd : decide (((xs[k]?.getD 0 : Nat) : Int) - (((subK xs ys k).2 : Nat) : Int) - ((ys[k]?.getD 0 : Nat) : Int) < 0) = false := by simp; omega
          go_wp2_with (at_builtin; refine wpList_append_u32 _ rfl _ _ rfl w.heap.size _ _ rfl HO.out _ ((xs[k]?.getD 0 + 8589934592 - ys[k]?.getD 0 - (subK xs ys k).2) % 4294967296) 1 (by omega) (by have := HLn.out; omega) HBl.out.size rfl ?_; intro u' w1 hO1 hg1)
          go_roundw
          case rel => exact HR.out _ _ _ (by rw [if_neg HNg.out]; rfl) hO1 (HO.out.below HBl.out HBl.out.size hg1)
          case measure => simp [intOf]; omega
      · have HZ := Lib.hid (getD_over (xs := ys) (k := k) (by rw [HB.out.len]; omega))
        by_cases hng : xs[k]?.getD 0 < ys[k]?.getD 0 + (subK xs ys k).2
        · have HNg := Lib.hid hng
          have hngi : ((xs[k]?.getD 0 : Nat) : Int) - (((subK xs ys k).2 : Nat) : Int) < 0 := by have := HZ.out; omega
          go_wp2_with (at_builtin; refine wpList_append_u32 _ rfl _ _ rfl w.heap.size _ _ rfl HO.out _ ((xs[k]?.getD 0 + 8589934592 - ys[k]?.getD 0 - (subK xs ys k).2) % 4294967296) 1 (by have := HZ.out; omega) (by have := HLn.out; omega) HBl.out.size rfl ?_; intro u' w1 hO1 hg1)
          go_roundw
          case rel => exact HR.out _ _ _ (by rw [if_pos HNg.out]; rfl) hO1 (HO.out.below HBl.out HBl.out.size hg1)
          case measure => simp [intOf]; omega
        · have HNg := Lib.hid hng
          have hngi : 0 ≤ ((xs[k]?.getD 0 : Nat) : Int) - (((subK xs ys k).2 : Nat) : Int) := by have := HZ.out; omega
          have hngd : decide (((xs[k]?.getD 0 : Nat) : Int) - (((subK xs ys k).2 : Nat) : Int) < 0) = false := by have := HZ.out; simp; omega
          go_wp2_with (at_builtin; refine wpList_append_u32 _ rfl _ _ rfl w.heap.size _ _ rfl HO.out _ ((xs[k]?.getD 0 + 8589934592 - ys[k]?.getD 0 - (subK xs ys k).2) % 4294967296) 1 (by have := HZ.out; omega) (by have := HLn.out; omega) HBl.out.size rfl ?_; intro u' w1 hO1 hg1)
          go_roundw
          case rel => exact HR.out _ _ _ (by rw [if_neg HNg.out]; rfl) hO1 (HO.out.below HBl.out HBl.out.size hg1)
          case measure => simp [intOf]; omega
    · obtain rfl : k = n := by omega
      have hvl : Hid (val (subK xs ys k).1 = v) := by
        have e := subK_val HA.out.good HB.out.good k
        have hc1 := subK_carry xs ys k
        have hlt2 := val_lt (subK_good xs ys k)
        rw [subK_len] at hlt2
        rw [List.take_of_length_le (by rw [HB.out.len]; exact hge), List.take_of_length_le (by rw [HA.out.len]; exact Nat.le_refl _)] at e
        have hv := HV.out
        have hle := HLe.out
        show _ = _
        rcases Nat.eq_zero_or_pos (subK xs ys k).2 with h0 | h0
        · rw [h0, Nat.mul_zero] at e
          omega
        · have h2 : (subK xs ys k).2 = 1 := by omega
          rw [h2, Nat.mul_one] at e
          omega
      obtain ⟨A1, c1, rfl, hL1⟩ := HO.out.lm (subK_good xs ys k)
      rw [HLn.out] at hL1 ⊢
      have HL1 := Lib.hid hL1
      clear hL1
      go_wp2_with fail
      refine (rtrim_any _ _ _ _ _ v HL1.out hvl.out (by omega)).mono ?_
      rintro e w2 ⟨A2, c2, rfl, hL2, hb2⟩
      go_wp2
      go_ret
      exact ⟨A2, c2, rfl, hL2, HBl.out.trans (hb2.mono HBl.out.size)⟩

end Go.Proofs.YtegpckhfncblhaaDoor

/- The reference's sum. -/
namespace Go.Proofs.YtegpckhfncblhaaDoor
open Go.RowKit

/-- Three boxes of two cells. -/
theorem boxes3 (w : World) (t0 t1 t2 : TypeId) (a0 a1 b0 b1 q0 q1 : Value) :
    Pr (((w.alloc (.cells #[a0, a1] t0)).alloc (.cells #[b0, b1] t1)).alloc (.cells #[q0, q1] t2)) w.heap.size a0 a1 ∧ Pr (((w.alloc (.cells #[a0, a1] t0)).alloc (.cells #[b0, b1] t1)).alloc (.cells #[q0, q1] t2)) (w.heap.size + 1) b0 b1 ∧ Pr (((w.alloc (.cells #[a0, a1] t0)).alloc (.cells #[b0, b1] t1)).alloc (.cells #[q0, q1] t2)) (w.heap.size + 1 + 1) q0 q1 :=
  ⟨((Pr.new w w.heap.size rfl a0 a1 t0).alloc _).alloc _, (Pr.new (w.alloc (.cells #[a0, a1] t0)) (w.heap.size + 1) (by simp) b0 b1 t1).alloc _, Pr.new ((w.alloc (.cells #[a0, a1] t0)).alloc (.cells #[b0, b1] t1)) (w.heap.size + 1 + 1) (by simp) q0 q1 t2⟩
theorem below3 (w : World) (o1 o2 o3 : Obj) : Below w.heap.size w (((w.alloc o1).alloc o2).alloc o3) := (((Below.refl _ _).alloc (Nat.le_refl _) _).alloc (by simp) _).alloc (by simp; omega) _

set_option maxRecDepth 100000 in
set_option maxHeartbeats 1000000 in
theorem rsum_same (w : World) (na nb : Bool) (A B : Option Addr) (n m ca cb a b : Nat) (hA : Lm w w.heap.size A n ca (digs a)) (hB : Lm w w.heap.size B m cb (digs b)) (hn : n ≤ 10000000) (hm : m ≤ 10000000) (hs : na = nb) :
    Calls Tryd.prog 45 #[.agg #[.bool na, .slice A n ca], .agg #[.bool nb, .slice B m cb]] w (RW w (mkN na (a + b)) (mkL (a + b)) (mkE (a + b))) := by
  have HA := Lib.hid hA
  have HB := Lib.hid hB
  have HP : Hid (val (digs a) + val (digs b) = a + b) := by show _ = _; rw [digs_val, digs_val]
  subst hs
  clear hA hB
  cases na
  · go_enter Tryd.func45, Tryd.ntmps45
    go_wp2_with fail
    have ⟨PA, PB, PR⟩ := boxes3 w 24 24 24 (.bool false) (.slice A n ca) (.bool false) (.slice B m cb) (.bool false) (.slice none 0 0)
    have HB0 := Lib.hid (below3 w (.cells #[.bool false, .slice A n ca] 24) (.cells #[.bool false, .slice B m cb] 24) (.cells #[.bool false, .slice none 0 0] 24))
    have LA := Lib.hid (((HA.out.box (.cells #[.bool false, .slice A n ca] 24)).box (.cells #[.bool false, .slice B m cb] 24)).box (.cells #[.bool false, .slice none 0 0] 24))
    have LB := Lib.hid (((HB.out.box (.cells #[.bool false, .slice A n ca] 24)).box (.cells #[.bool false, .slice B m cb] 24)).box (.cells #[.bool false, .slice none 0 0] 24))
    generalize ((w.alloc (.cells #[.bool false, .slice A n ca] 24)).alloc (.cells #[.bool false, .slice B m cb] 24)).alloc (.cells #[.bool false, .slice none 0 0] 24) = w1 at *
    have ⟨a0, a1, _, _, _⟩ := PA
    have ⟨b0, b1, _, _, _⟩ := PB
    have ⟨r0, r1, rf0, rf1, rl⟩ := PR
    go_region_held3 (fun w' => (w'.cell? ⟨w.heap.size, 0, none⟩ = some (.bool false) ∧ w'.cell? ⟨w.heap.size, 1, none⟩ = some (.slice A n ca)) ∧ (w'.cell? ⟨w.heap.size + 1, 0, none⟩ = some (.bool false) ∧ w'.cell? ⟨w.heap.size + 1, 1, none⟩ = some (.slice B m cb)))
      (first | exact ⟨⟨a0, a1⟩, ⟨b0, b1⟩⟩ | exact ⟨⟨PAs.c0, PAs.c1⟩, ⟨PBs.c0, PBs.c1⟩⟩ | exact ⟨⟨PAt.c0, PAt.c1⟩, ⟨PBt.c0, PBt.c1⟩⟩ | exact ⟨⟨PAu.c0, PAu.c1⟩, ⟨PBu.c0, PBu.c1⟩⟩ | go_keep)
      (first
       | (go_at_call 40; refine (rplus_any _ _ _ _ _ _ _ (max n m) (digs a) (digs b) (a + b) LA.out.drew LB.out.drew rfl (by omega) HP.out).mono ?_; rintro e ws ⟨As, cs, ts, rfl, hLs, hvs, hbs⟩; have HVS := Lib.hid hvs; clear hvs; have Bs := (Below.refl w1.heap.size w1).drew.trans hbs; have PAs := PA.via Bs; have PBs := PB.via Bs; have PRs := PR.via Bs)
       | (go_at_call 36; refine (rmade_any _ _ _ _ _ ts (a + b) hLs HVS.out (by omega)).mono ?_; rintro e wt ⟨At, nt, ct, rfl, hLt, hbt⟩; have PAt := PAs.via hbt; have PBt := PBs.via hbt; have PRt := PRs.via hbt; have HBt : Hid (Below w.heap.size w wt) := HB0.out.trans ((Bs.trans (hbt.mono Bs.size)).mono HB0.out.size); have ⟨r0t, r1t, rf0t, rf1t, rlt⟩ := PRt; have PAu := PAt.far (h := w.heap.size + 1 + 1) (by omega) (.bool (mkN false (a + b))) (.slice At nt ct); have PBu := PBt.far (h := w.heap.size + 1 + 1) (by omega) (.bool (mkN false (a + b))) (.slice At nt ct)))
    go_wp2
    exact post_ws Tryd.results45 rfl rfl PRt.c0 PRt.c1 ⟨At, nt, ct, rfl, hLt.setP PRt _ _, below_set2 HBt.out (by omega) _ _⟩
  · go_enter Tryd.func45, Tryd.ntmps45
    go_wp2_with fail
    have ⟨PA, PB, PR⟩ := boxes3 w 24 24 24 (.bool true) (.slice A n ca) (.bool true) (.slice B m cb) (.bool false) (.slice none 0 0)
    have HB0 := Lib.hid (below3 w (.cells #[.bool true, .slice A n ca] 24) (.cells #[.bool true, .slice B m cb] 24) (.cells #[.bool false, .slice none 0 0] 24))
    have LA := Lib.hid (((HA.out.box (.cells #[.bool true, .slice A n ca] 24)).box (.cells #[.bool true, .slice B m cb] 24)).box (.cells #[.bool false, .slice none 0 0] 24))
    have LB := Lib.hid (((HB.out.box (.cells #[.bool true, .slice A n ca] 24)).box (.cells #[.bool true, .slice B m cb] 24)).box (.cells #[.bool false, .slice none 0 0] 24))
    generalize ((w.alloc (.cells #[.bool true, .slice A n ca] 24)).alloc (.cells #[.bool true, .slice B m cb] 24)).alloc (.cells #[.bool false, .slice none 0 0] 24) = w1 at *
    have ⟨a0, a1, _, _, _⟩ := PA
    have ⟨b0, b1, _, _, _⟩ := PB
    have ⟨r0, r1, rf0, rf1, rl⟩ := PR
    go_region_held3 (fun w' => (w'.cell? ⟨w.heap.size, 0, none⟩ = some (.bool true) ∧ w'.cell? ⟨w.heap.size, 1, none⟩ = some (.slice A n ca)) ∧ (w'.cell? ⟨w.heap.size + 1, 0, none⟩ = some (.bool true) ∧ w'.cell? ⟨w.heap.size + 1, 1, none⟩ = some (.slice B m cb)))
      (first | exact ⟨⟨a0, a1⟩, ⟨b0, b1⟩⟩ | exact ⟨⟨PAs.c0, PAs.c1⟩, ⟨PBs.c0, PBs.c1⟩⟩ | exact ⟨⟨PAt.c0, PAt.c1⟩, ⟨PBt.c0, PBt.c1⟩⟩ | exact ⟨⟨PAu.c0, PAu.c1⟩, ⟨PBu.c0, PBu.c1⟩⟩ | go_keep)
      (first
       | (go_at_call 40; refine (rplus_any _ _ _ _ _ _ _ (max n m) (digs a) (digs b) (a + b) LA.out.drew LB.out.drew rfl (by omega) HP.out).mono ?_; rintro e ws ⟨As, cs, ts, rfl, hLs, hvs, hbs⟩; have HVS := Lib.hid hvs; clear hvs; have Bs := (Below.refl w1.heap.size w1).drew.trans hbs; have PAs := PA.via Bs; have PBs := PB.via Bs; have PRs := PR.via Bs)
       | (go_at_call 36; refine (rmade_any _ _ _ _ _ ts (a + b) hLs HVS.out (by omega)).mono ?_; rintro e wt ⟨At, nt, ct, rfl, hLt, hbt⟩; have PAt := PAs.via hbt; have PBt := PBs.via hbt; have PRt := PRs.via hbt; have HBt : Hid (Below w.heap.size w wt) := HB0.out.trans ((Bs.trans (hbt.mono Bs.size)).mono HB0.out.size); have ⟨r0t, r1t, rf0t, rf1t, rlt⟩ := PRt; have PAu := PAt.far (h := w.heap.size + 1 + 1) (by omega) (.bool (mkN true (a + b))) (.slice At nt ct); have PBu := PBt.far (h := w.heap.size + 1 + 1) (by omega) (.bool (mkN true (a + b))) (.slice At nt ct)))
    go_wp2
    exact post_ws Tryd.results45 rfl rfl PRt.c0 PRt.c1 ⟨At, nt, ct, rfl, hLt.setP PRt _ _, below_set2 HBt.out (by omega) _ _⟩
set_option maxRecDepth 100000 in
set_option maxHeartbeats 1000000 in
theorem rsum_more (w : World) (na nb : Bool) (A B : Option Addr) (n m ca cb a b : Nat) (hA : Lm w w.heap.size A n ca (digs a)) (hB : Lm w w.heap.size B m cb (digs b)) (hn : n ≤ 10000000) (_ : m ≤ 10000000) (hs : na = true ∧ nb = false ∨ na = false ∧ nb = true) (hle : b ≤ a) :
    Calls Tryd.prog 45 #[.agg #[.bool na, .slice A n ca], .agg #[.bool nb, .slice B m cb]] w (RW w (mkN na (a - b)) (mkL (a - b)) (mkE (a - b))) := by
  have HA := Lib.hid hA
  have HB := Lib.hid hB
  obtain ⟨z, hz, HC⟩ : ∃ z : Int, 0 ≤ z ∧ Hid (cmpL (digs a) (digs b) = z) := ⟨_, by rw [cmpL_norm (digs_good _) (digs_good _) (digs_norm _) (digs_norm _), digs_val, digs_val]; unfold cmpN; rw [if_neg (by omega)]; split <;> decide, rfl⟩
  have HP : Hid (val (digs a) - val (digs b) = a - b) := by show _ = _; rw [digs_val, digs_val]
  have HLe : Hid (val (digs b) ≤ val (digs a)) := by show _ ≤ _; rw [digs_val, digs_val]; exact hle
  have hml : m ≤ n := by rw [← hA.len, ← hB.len]; exact digs_mono hle
  have hsz : (digs (a - b)).length ≤ n := by rw [← hA.len]; exact digs_mono (Nat.sub_le _ _)
  clear hA hB
  rcases hs with ⟨rfl, rfl⟩ | ⟨rfl, rfl⟩
  · go_enter Tryd.func45, Tryd.ntmps45
    go_wp2_with fail
    have ⟨PA, PB, PR⟩ := boxes3 w 24 24 24 (.bool true) (.slice A n ca) (.bool false) (.slice B m cb) (.bool false) (.slice none 0 0)
    have HB0 := Lib.hid (below3 w (.cells #[.bool true, .slice A n ca] 24) (.cells #[.bool false, .slice B m cb] 24) (.cells #[.bool false, .slice none 0 0] 24))
    have LA := Lib.hid (((HA.out.box (.cells #[.bool true, .slice A n ca] 24)).box (.cells #[.bool false, .slice B m cb] 24)).box (.cells #[.bool false, .slice none 0 0] 24))
    have LB := Lib.hid (((HB.out.box (.cells #[.bool true, .slice A n ca] 24)).box (.cells #[.bool false, .slice B m cb] 24)).box (.cells #[.bool false, .slice none 0 0] 24))
    generalize ((w.alloc (.cells #[.bool true, .slice A n ca] 24)).alloc (.cells #[.bool false, .slice B m cb] 24)).alloc (.cells #[.bool false, .slice none 0 0] 24) = w1 at *
    have ⟨a0, a1, _, _, _⟩ := PA
    have ⟨b0, b1, _, _, _⟩ := PB
    have ⟨r0, r1, rf0, rf1, rl⟩ := PR
    refine (rcompare_any A B n m ca cb (digs a) (digs b) w1 LA.out LB.out).mono ?_
    rintro e w2 ⟨he, d, rfl⟩
    rw [HC.out] at he
    subst he
    have PA2 := PA.drewN d
    have PB2 := PB.drewN d
    have PR2 := PR.drewN d
    have HB2 : Hid (Below w.heap.size w (w1.drewN d)) := bdrewN HB0.out d
    have LA2 := Lib.hid (LA.out.drewN d)
    have LB2 := Lib.hid (LB.out.drewN d)
    clear PA PB PR HB0 LA LB a0 a1 b0 b1 r0 r1 rf0 rf1 rl
    generalize w1.drewN d = w3 at *
    have PA := PA2
    have PB := PB2
    have PR := PR2
    have HB0 := HB2
    have LA := LA2
    have LB := LB2
    clear PA2 PB2 PR2 HB2 LA2 LB2
    have ⟨a0, a1, _, _, _⟩ := PA
    have ⟨b0, b1, _, _, _⟩ := PB
    have ⟨r0, r1, rf0, rf1, rl⟩ := PR
    go_wp2_with fail
    go_region_held3 (fun w' => (w'.cell? ⟨w.heap.size, 0, none⟩ = some (.bool true) ∧ w'.cell? ⟨w.heap.size, 1, none⟩ = some (.slice A n ca)) ∧ (w'.cell? ⟨w.heap.size + 1, 0, none⟩ = some (.bool false) ∧ w'.cell? ⟨w.heap.size + 1, 1, none⟩ = some (.slice B m cb)))
      (first | exact ⟨⟨a0, a1⟩, ⟨b0, b1⟩⟩ | exact ⟨⟨PAs.c0, PAs.c1⟩, ⟨PBs.c0, PBs.c1⟩⟩ | exact ⟨⟨PAt.c0, PAt.c1⟩, ⟨PBt.c0, PBt.c1⟩⟩ | exact ⟨⟨PAu.c0, PAu.c1⟩, ⟨PBu.c0, PBu.c1⟩⟩ | go_keep)
      (first
       | (go_at_call 64; refine (rminus_any _ _ _ _ _ _ _ (digs a) (digs b) (a - b) LA.out.drew LB.out.drew hml (by omega) HLe.out HP.out).mono ?_; rintro e ws ⟨As, cs, rfl, hLs, hbs⟩; have Bs := (Below.refl w3.heap.size w3).drew.trans hbs; have PAs := PA.via Bs; have PBs := PB.via Bs; have PRs := PR.via Bs)
       | (go_at_call 36; refine (rmade_any _ _ _ _ _ (digs (a - b)) (a - b) hLs (digs_val _) (by omega)).mono ?_; rintro e wt ⟨At, nt, ct, rfl, hLt, hbt⟩; have PAt := PAs.via hbt; have PBt := PBs.via hbt; have PRt := PRs.via hbt; have HBt : Hid (Below w.heap.size w wt) := HB0.out.trans ((Bs.trans (hbt.mono Bs.size)).mono HB0.out.size); have ⟨r0t, r1t, rf0t, rf1t, rlt⟩ := PRt; have PAu := PAt.far (h := w.heap.size + 1 + 1) (by omega) (.bool (mkN true (a - b))) (.slice At nt ct); have PBu := PBt.far (h := w.heap.size + 1 + 1) (by omega) (.bool (mkN true (a - b))) (.slice At nt ct)))
    go_wp2
    exact post_ws Tryd.results45 rfl rfl PRt.c0 PRt.c1 ⟨At, nt, ct, rfl, hLt.setP PRt _ _, below_set2 HBt.out (by omega) _ _⟩
  · go_enter Tryd.func45, Tryd.ntmps45
    go_wp2_with fail
    have ⟨PA, PB, PR⟩ := boxes3 w 24 24 24 (.bool false) (.slice A n ca) (.bool true) (.slice B m cb) (.bool false) (.slice none 0 0)
    have HB0 := Lib.hid (below3 w (.cells #[.bool false, .slice A n ca] 24) (.cells #[.bool true, .slice B m cb] 24) (.cells #[.bool false, .slice none 0 0] 24))
    have LA := Lib.hid (((HA.out.box (.cells #[.bool false, .slice A n ca] 24)).box (.cells #[.bool true, .slice B m cb] 24)).box (.cells #[.bool false, .slice none 0 0] 24))
    have LB := Lib.hid (((HB.out.box (.cells #[.bool false, .slice A n ca] 24)).box (.cells #[.bool true, .slice B m cb] 24)).box (.cells #[.bool false, .slice none 0 0] 24))
    generalize ((w.alloc (.cells #[.bool false, .slice A n ca] 24)).alloc (.cells #[.bool true, .slice B m cb] 24)).alloc (.cells #[.bool false, .slice none 0 0] 24) = w1 at *
    have ⟨a0, a1, _, _, _⟩ := PA
    have ⟨b0, b1, _, _, _⟩ := PB
    have ⟨r0, r1, rf0, rf1, rl⟩ := PR
    refine (rcompare_any A B n m ca cb (digs a) (digs b) w1 LA.out LB.out).mono ?_
    rintro e w2 ⟨he, d, rfl⟩
    rw [HC.out] at he
    subst he
    have PA2 := PA.drewN d
    have PB2 := PB.drewN d
    have PR2 := PR.drewN d
    have HB2 : Hid (Below w.heap.size w (w1.drewN d)) := bdrewN HB0.out d
    have LA2 := Lib.hid (LA.out.drewN d)
    have LB2 := Lib.hid (LB.out.drewN d)
    clear PA PB PR HB0 LA LB a0 a1 b0 b1 r0 r1 rf0 rf1 rl
    generalize w1.drewN d = w3 at *
    have PA := PA2
    have PB := PB2
    have PR := PR2
    have HB0 := HB2
    have LA := LA2
    have LB := LB2
    clear PA2 PB2 PR2 HB2 LA2 LB2
    have ⟨a0, a1, _, _, _⟩ := PA
    have ⟨b0, b1, _, _, _⟩ := PB
    have ⟨r0, r1, rf0, rf1, rl⟩ := PR
    go_wp2_with fail
    go_region_held3 (fun w' => (w'.cell? ⟨w.heap.size, 0, none⟩ = some (.bool false) ∧ w'.cell? ⟨w.heap.size, 1, none⟩ = some (.slice A n ca)) ∧ (w'.cell? ⟨w.heap.size + 1, 0, none⟩ = some (.bool true) ∧ w'.cell? ⟨w.heap.size + 1, 1, none⟩ = some (.slice B m cb)))
      (first | exact ⟨⟨a0, a1⟩, ⟨b0, b1⟩⟩ | exact ⟨⟨PAs.c0, PAs.c1⟩, ⟨PBs.c0, PBs.c1⟩⟩ | exact ⟨⟨PAt.c0, PAt.c1⟩, ⟨PBt.c0, PBt.c1⟩⟩ | exact ⟨⟨PAu.c0, PAu.c1⟩, ⟨PBu.c0, PBu.c1⟩⟩ | go_keep)
      (first
       | (go_at_call 64; refine (rminus_any _ _ _ _ _ _ _ (digs a) (digs b) (a - b) LA.out.drew LB.out.drew hml (by omega) HLe.out HP.out).mono ?_; rintro e ws ⟨As, cs, rfl, hLs, hbs⟩; have Bs := (Below.refl w3.heap.size w3).drew.trans hbs; have PAs := PA.via Bs; have PBs := PB.via Bs; have PRs := PR.via Bs)
       | (go_at_call 36; refine (rmade_any _ _ _ _ _ (digs (a - b)) (a - b) hLs (digs_val _) (by omega)).mono ?_; rintro e wt ⟨At, nt, ct, rfl, hLt, hbt⟩; have PAt := PAs.via hbt; have PBt := PBs.via hbt; have PRt := PRs.via hbt; have HBt : Hid (Below w.heap.size w wt) := HB0.out.trans ((Bs.trans (hbt.mono Bs.size)).mono HB0.out.size); have ⟨r0t, r1t, rf0t, rf1t, rlt⟩ := PRt; have PAu := PAt.far (h := w.heap.size + 1 + 1) (by omega) (.bool (mkN false (a - b))) (.slice At nt ct); have PBu := PBt.far (h := w.heap.size + 1 + 1) (by omega) (.bool (mkN false (a - b))) (.slice At nt ct)))
    go_wp2
    exact post_ws Tryd.results45 rfl rfl PRt.c0 PRt.c1 ⟨At, nt, ct, rfl, hLt.setP PRt _ _, below_set2 HBt.out (by omega) _ _⟩
set_option maxRecDepth 100000 in
set_option maxHeartbeats 1000000 in
theorem rsum_less (w : World) (na nb : Bool) (A B : Option Addr) (n m ca cb a b : Nat) (hA : Lm w w.heap.size A n ca (digs a)) (hB : Lm w w.heap.size B m cb (digs b)) (_ : n ≤ 10000000) (hm : m ≤ 10000000) (hs : na = true ∧ nb = false ∨ na = false ∧ nb = true) (hlt : a < b) :
    Calls Tryd.prog 45 #[.agg #[.bool na, .slice A n ca], .agg #[.bool nb, .slice B m cb]] w (RW w (mkN nb (b - a)) (mkL (b - a)) (mkE (b - a))) := by
  have HA := Lib.hid hA
  have HB := Lib.hid hB
  have HC : Hid (cmpL (digs a) (digs b) = -1) := by show _ = _; rw [cmpL_norm (digs_good _) (digs_good _) (digs_norm _) (digs_norm _), digs_val, digs_val]; exact cmpN_lt hlt
  have HP : Hid (val (digs b) - val (digs a) = b - a) := by show _ = _; rw [digs_val, digs_val]
  have HLe : Hid (val (digs a) ≤ val (digs b)) := by show _ ≤ _; rw [digs_val, digs_val]; exact Nat.le_of_lt hlt
  have hml : n ≤ m := by rw [← hA.len, ← hB.len]; exact digs_mono (Nat.le_of_lt hlt)
  have hsz : (digs (b - a)).length ≤ m := by rw [← hB.len]; exact digs_mono (Nat.sub_le _ _)
  clear hA hB
  rcases hs with ⟨rfl, rfl⟩ | ⟨rfl, rfl⟩
  · go_enter Tryd.func45, Tryd.ntmps45
    go_wp2_with fail
    have ⟨PA, PB, PR⟩ := boxes3 w 24 24 24 (.bool true) (.slice A n ca) (.bool false) (.slice B m cb) (.bool false) (.slice none 0 0)
    have HB0 := Lib.hid (below3 w (.cells #[.bool true, .slice A n ca] 24) (.cells #[.bool false, .slice B m cb] 24) (.cells #[.bool false, .slice none 0 0] 24))
    have LA := Lib.hid (((HA.out.box (.cells #[.bool true, .slice A n ca] 24)).box (.cells #[.bool false, .slice B m cb] 24)).box (.cells #[.bool false, .slice none 0 0] 24))
    have LB := Lib.hid (((HB.out.box (.cells #[.bool true, .slice A n ca] 24)).box (.cells #[.bool false, .slice B m cb] 24)).box (.cells #[.bool false, .slice none 0 0] 24))
    generalize ((w.alloc (.cells #[.bool true, .slice A n ca] 24)).alloc (.cells #[.bool false, .slice B m cb] 24)).alloc (.cells #[.bool false, .slice none 0 0] 24) = w1 at *
    have ⟨a0, a1, _, _, _⟩ := PA
    have ⟨b0, b1, _, _, _⟩ := PB
    have ⟨r0, r1, rf0, rf1, rl⟩ := PR
    refine (rcompare_any A B n m ca cb (digs a) (digs b) w1 LA.out LB.out).mono ?_
    rintro e w2 ⟨he, d, rfl⟩
    rw [HC.out] at he
    subst he
    have PA2 := PA.drewN d
    have PB2 := PB.drewN d
    have PR2 := PR.drewN d
    have HB2 : Hid (Below w.heap.size w (w1.drewN d)) := bdrewN HB0.out d
    have LA2 := Lib.hid (LA.out.drewN d)
    have LB2 := Lib.hid (LB.out.drewN d)
    clear PA PB PR HB0 LA LB a0 a1 b0 b1 r0 r1 rf0 rf1 rl
    generalize w1.drewN d = w3 at *
    have PA := PA2
    have PB := PB2
    have PR := PR2
    have HB0 := HB2
    have LA := LA2
    have LB := LB2
    clear PA2 PB2 PR2 HB2 LA2 LB2
    have ⟨a0, a1, _, _, _⟩ := PA
    have ⟨b0, b1, _, _, _⟩ := PB
    have ⟨r0, r1, rf0, rf1, rl⟩ := PR
    go_wp2_with fail
    go_region_held3 (fun w' => (w'.cell? ⟨w.heap.size, 0, none⟩ = some (.bool true) ∧ w'.cell? ⟨w.heap.size, 1, none⟩ = some (.slice A n ca)) ∧ (w'.cell? ⟨w.heap.size + 1, 0, none⟩ = some (.bool false) ∧ w'.cell? ⟨w.heap.size + 1, 1, none⟩ = some (.slice B m cb)))
      (first | exact ⟨⟨a0, a1⟩, ⟨b0, b1⟩⟩ | exact ⟨⟨PAs.c0, PAs.c1⟩, ⟨PBs.c0, PBs.c1⟩⟩ | exact ⟨⟨PAt.c0, PAt.c1⟩, ⟨PBt.c0, PBt.c1⟩⟩ | exact ⟨⟨PAu.c0, PAu.c1⟩, ⟨PBu.c0, PBu.c1⟩⟩ | go_keep)
      (first
       | (go_at_call 64; refine (rminus_any _ _ _ _ _ _ _ (digs b) (digs a) (b - a) LB.out.drew LA.out.drew hml (by omega) HLe.out HP.out).mono ?_; rintro e ws ⟨As, cs, rfl, hLs, hbs⟩; have Bs := (Below.refl w3.heap.size w3).drew.trans hbs; have PAs := PA.via Bs; have PBs := PB.via Bs; have PRs := PR.via Bs)
       | (go_at_call 36; refine (rmade_any _ _ _ _ _ (digs (b - a)) (b - a) hLs (digs_val _) (by omega)).mono ?_; rintro e wt ⟨At, nt, ct, rfl, hLt, hbt⟩; have PAt := PAs.via hbt; have PBt := PBs.via hbt; have PRt := PRs.via hbt; have HBt : Hid (Below w.heap.size w wt) := HB0.out.trans ((Bs.trans (hbt.mono Bs.size)).mono HB0.out.size); have ⟨r0t, r1t, rf0t, rf1t, rlt⟩ := PRt; have PAu := PAt.far (h := w.heap.size + 1 + 1) (by omega) (.bool (mkN false (b - a))) (.slice At nt ct); have PBu := PBt.far (h := w.heap.size + 1 + 1) (by omega) (.bool (mkN false (b - a))) (.slice At nt ct)))
    go_wp2
    exact post_ws Tryd.results45 rfl rfl PRt.c0 PRt.c1 ⟨At, nt, ct, rfl, hLt.setP PRt _ _, below_set2 HBt.out (by omega) _ _⟩
  · go_enter Tryd.func45, Tryd.ntmps45
    go_wp2_with fail
    have ⟨PA, PB, PR⟩ := boxes3 w 24 24 24 (.bool false) (.slice A n ca) (.bool true) (.slice B m cb) (.bool false) (.slice none 0 0)
    have HB0 := Lib.hid (below3 w (.cells #[.bool false, .slice A n ca] 24) (.cells #[.bool true, .slice B m cb] 24) (.cells #[.bool false, .slice none 0 0] 24))
    have LA := Lib.hid (((HA.out.box (.cells #[.bool false, .slice A n ca] 24)).box (.cells #[.bool true, .slice B m cb] 24)).box (.cells #[.bool false, .slice none 0 0] 24))
    have LB := Lib.hid (((HB.out.box (.cells #[.bool false, .slice A n ca] 24)).box (.cells #[.bool true, .slice B m cb] 24)).box (.cells #[.bool false, .slice none 0 0] 24))
    generalize ((w.alloc (.cells #[.bool false, .slice A n ca] 24)).alloc (.cells #[.bool true, .slice B m cb] 24)).alloc (.cells #[.bool false, .slice none 0 0] 24) = w1 at *
    have ⟨a0, a1, _, _, _⟩ := PA
    have ⟨b0, b1, _, _, _⟩ := PB
    have ⟨r0, r1, rf0, rf1, rl⟩ := PR
    refine (rcompare_any A B n m ca cb (digs a) (digs b) w1 LA.out LB.out).mono ?_
    rintro e w2 ⟨he, d, rfl⟩
    rw [HC.out] at he
    subst he
    have PA2 := PA.drewN d
    have PB2 := PB.drewN d
    have PR2 := PR.drewN d
    have HB2 : Hid (Below w.heap.size w (w1.drewN d)) := bdrewN HB0.out d
    have LA2 := Lib.hid (LA.out.drewN d)
    have LB2 := Lib.hid (LB.out.drewN d)
    clear PA PB PR HB0 LA LB a0 a1 b0 b1 r0 r1 rf0 rf1 rl
    generalize w1.drewN d = w3 at *
    have PA := PA2
    have PB := PB2
    have PR := PR2
    have HB0 := HB2
    have LA := LA2
    have LB := LB2
    clear PA2 PB2 PR2 HB2 LA2 LB2
    have ⟨a0, a1, _, _, _⟩ := PA
    have ⟨b0, b1, _, _, _⟩ := PB
    have ⟨r0, r1, rf0, rf1, rl⟩ := PR
    go_wp2_with fail
    go_region_held3 (fun w' => (w'.cell? ⟨w.heap.size, 0, none⟩ = some (.bool false) ∧ w'.cell? ⟨w.heap.size, 1, none⟩ = some (.slice A n ca)) ∧ (w'.cell? ⟨w.heap.size + 1, 0, none⟩ = some (.bool true) ∧ w'.cell? ⟨w.heap.size + 1, 1, none⟩ = some (.slice B m cb)))
      (first | exact ⟨⟨a0, a1⟩, ⟨b0, b1⟩⟩ | exact ⟨⟨PAs.c0, PAs.c1⟩, ⟨PBs.c0, PBs.c1⟩⟩ | exact ⟨⟨PAt.c0, PAt.c1⟩, ⟨PBt.c0, PBt.c1⟩⟩ | exact ⟨⟨PAu.c0, PAu.c1⟩, ⟨PBu.c0, PBu.c1⟩⟩ | go_keep)
      (first
       | (go_at_call 64; refine (rminus_any _ _ _ _ _ _ _ (digs b) (digs a) (b - a) LB.out.drew LA.out.drew hml (by omega) HLe.out HP.out).mono ?_; rintro e ws ⟨As, cs, rfl, hLs, hbs⟩; have Bs := (Below.refl w3.heap.size w3).drew.trans hbs; have PAs := PA.via Bs; have PBs := PB.via Bs; have PRs := PR.via Bs)
       | (go_at_call 36; refine (rmade_any _ _ _ _ _ (digs (b - a)) (b - a) hLs (digs_val _) (by omega)).mono ?_; rintro e wt ⟨At, nt, ct, rfl, hLt, hbt⟩; have PAt := PAs.via hbt; have PBt := PBs.via hbt; have PRt := PRs.via hbt; have HBt : Hid (Below w.heap.size w wt) := HB0.out.trans ((Bs.trans (hbt.mono Bs.size)).mono HB0.out.size); have ⟨r0t, r1t, rf0t, rf1t, rlt⟩ := PRt; have PAu := PAt.far (h := w.heap.size + 1 + 1) (by omega) (.bool (mkN true (b - a))) (.slice At nt ct); have PBu := PBt.far (h := w.heap.size + 1 + 1) (by omega) (.bool (mkN true (b - a))) (.slice At nt ct)))
    go_wp2
    exact post_ws Tryd.results45 rfl rfl PRt.c0 PRt.c1 ⟨At, nt, ct, rfl, hLt.setP PRt _ _, below_set2 HBt.out (by omega) _ _⟩
theorem rsum_any (w : World) (na nb : Bool) (A B : Option Addr) (n m ca cb a b : Nat) (hA : Lm w w.heap.size A n ca (digs a)) (hB : Lm w w.heap.size B m cb (digs b)) (hn : n ≤ 10000000) (hm : m ≤ 10000000) :
    Calls Tryd.prog 45 #[.agg #[.bool na, .slice A n ca], .agg #[.bool nb, .slice B m cb]] w (RZ w (toI na a + toI nb b)) := by
  by_cases hs : na = nb
  · rw [← rz_of w na (a + b) (toI_same hs a b)]
    exact rsum_same w na nb A B n m ca cb a b hA hB hn hm hs
  · have h2 : na = true ∧ nb = false ∨ na = false ∧ nb = true := by cases na <;> cases nb <;> simp at hs ⊢
    rcases Nat.lt_or_ge a b with h | h
    · have e := toI_less hs h
      have hnn : (!na) = nb := by cases na <;> cases nb <;> simp at hs ⊢
      rw [hnn] at e
      rw [← rz_of w nb (b - a) e]
      exact rsum_less w na nb A B n m ca cb a b hA hB hn hm h2 h
    · rw [← rz_of w na (a - b) (toI_more hs h)]
      exact rsum_more w na nb A B n m ca cb a b hA hB hn hm h2 h
end Go.Proofs.YtegpckhfncblhaaDoor

/- The reference's Add and Sub. -/
namespace Go.Proofs.YtegpckhfncblhaaDoor
open Go.RowKit

set_option maxRecDepth 100000 in
set_option maxHeartbeats 1000000 in
theorem radd_bad (w : World) (na nb : Bool) (A B : Option Addr) (n m ca cb : Nat) (xs ys : List Nat) (hA : Lm w w.heap.size A n ca xs) (hB : Lm w w.heap.size B m cb ys) (hv : chkB na xs nb ys = 8) :
    Calls Tryd.prog 41 #[.agg #[.bool na, .slice A n ca], .agg #[.bool nb, .slice B m cb]] w (RW w false [] 8) := by
  have HA := Lib.hid hA
  have HB := Lib.hid hB
  have HV := Lib.hid hv
  clear hv
  go_enter Tryd.func41, Tryd.ntmps41
  go_wp2_with fail
  refine (rboth_any _ _ _ _ _ _ _ _ _ _ _ (((HA.out.box _).box _).box _) (((HB.out.box _).box _).box _) 8 HV.out).mono ?_
  rintro e w1 ⟨rfl, hb1⟩
  have ⟨hx0, hx1, hy0, hy1, hz0, hz1, hf0, hf1, hsz⟩ := box3 hb1
  go_wp2_with fail
  refine (rboth_any _ _ _ _ _ _ _ _ _ _ _ ((((HA.out.box _).box _).box _).via hb1) ((((HB.out.box _).box _).box _).via hb1) 8 HV.out).mono ?_
  rintro e w2 ⟨rfl, hb2⟩
  have hky2 := keep2 hb2 hsz ⟨hz0, hz1⟩
  have ⟨hkf0, hkf1⟩ := keepF hb2 hsz ⟨hf0, hf1⟩
  go_wp2
  exact post_ws Tryd.results41 rfl rfl hky2.1 hky2.2 ⟨none, 0, 0, rfl, Lm.nil _ _, below_set2 ((bbox (bbox (bbox hb1))).trans (hb2.mono (by omega))) (by omega) _ _⟩

set_option maxRecDepth 100000 in
set_option maxHeartbeats 1000000 in
theorem radd_ok (w : World) (na nb : Bool) (A B : Option Addr) (n m ca cb a b : Nat) (hA : Lm w w.heap.size A n ca (digs a)) (hB : Lm w w.heap.size B m cb (digs b)) (hv : chkB na (digs a) nb (digs b) = 0) :
    Calls Tryd.prog 41 #[.agg #[.bool na, .slice A n ca], .agg #[.bool nb, .slice B m cb]] w (RZ w (toI na a + toI nb b)) := by
  have h41 := (chk_ok.1 (chkB_ok.1 hv).1).1
  have h42 := (chk_ok.1 (chkB_ok.1 hv).2).1
  rw [hA.len] at h41
  rw [hB.len] at h42
  have HA := Lib.hid hA
  have HB := Lib.hid hB
  have HV := Lib.hid hv
  clear hv
  go_enter Tryd.func41, Tryd.ntmps41
  go_wp2_with fail
  refine (rboth_any _ _ _ _ _ _ _ _ _ _ _ (((HA.out.box _).box _).box _) (((HB.out.box _).box _).box _) 0 HV.out).mono ?_
  rintro e w1 ⟨rfl, hb1⟩
  have ⟨hx0, hx1, hy0, hy1, hz0, hz1, hf0, hf1, hsz⟩ := box3 hb1
  go_wp2_with fail
  refine (rsum_any _ _ _ _ _ _ _ _ _ a b ((((HA.out.box _).box _).box _).via hb1) ((((HB.out.box _).box _).box _).via hb1) (by omega) (by omega)).mono ?_
  rintro e w2 ⟨A2, n2, c2, rfl, hL2, hb2⟩
  have hky2 := keep2 hb2 hsz ⟨hz0, hz1⟩
  have ⟨hkf0, hkf1⟩ := keepF hb2 hsz ⟨hf0, hf1⟩
  go_wp2
  exact post_ws Tryd.results41 rfl rfl hky2.1 hky2.2 ⟨A2, n2, c2, rfl, hL2.set2 hky2.1 hky2.2 _ _, below_set2 ((bbox (bbox (bbox hb1))).trans (hb2.mono (by omega))) (by omega) _ _⟩

set_option maxRecDepth 100000 in
set_option maxHeartbeats 1000000 in
theorem rsub_bad (w : World) (na nb : Bool) (A B : Option Addr) (n m ca cb : Nat) (xs ys : List Nat) (hA : Lm w w.heap.size A n ca xs) (hB : Lm w w.heap.size B m cb ys) (hv : chkB na xs nb ys = 8) :
    Calls Tryd.prog 42 #[.agg #[.bool na, .slice A n ca], .agg #[.bool nb, .slice B m cb]] w (RW w false [] 8) := by
  have HA := Lib.hid hA
  have HB := Lib.hid hB
  have HV := Lib.hid hv
  clear hv
  go_enter Tryd.func42, Tryd.ntmps42
  go_wp2_with fail
  refine (rboth_any _ _ _ _ _ _ _ _ _ _ _ (((HA.out.box _).box _).box _) (((HB.out.box _).box _).box _) 8 HV.out).mono ?_
  rintro e w1 ⟨rfl, hb1⟩
  have ⟨hx0, hx1, hy0, hy1, hz0, hz1, hf0, hf1, hsz⟩ := box3 hb1
  go_wp2_with fail
  refine (rboth_any _ _ _ _ _ _ _ _ _ _ _ ((((HA.out.box _).box _).box _).via hb1) ((((HB.out.box _).box _).box _).via hb1) 8 HV.out).mono ?_
  rintro e w2 ⟨rfl, hb2⟩
  have hky2 := keep2 hb2 hsz ⟨hz0, hz1⟩
  have ⟨hkf0, hkf1⟩ := keepF hb2 hsz ⟨hf0, hf1⟩
  go_wp2
  exact post_ws Tryd.results42 rfl rfl hky2.1 hky2.2 ⟨none, 0, 0, rfl, Lm.nil _ _, below_set2 ((bbox (bbox (bbox hb1))).trans (hb2.mono (by omega))) (by omega) _ _⟩

set_option maxRecDepth 100000 in
set_option maxHeartbeats 1000000 in
theorem rsub_way (w : World) (na nb s : Bool) (A B : Option Addr) (n m ca cb a b : Nat) (hA : Lm w w.heap.size A n ca (digs a)) (hB : Lm w w.heap.size B m cb (digs b)) (hv : chkB na (digs a) nb (digs b) = 0) (hs : nb = true ∧ s = false ∨ nb = false ∧ m = 0 ∧ s = false ∨ nb = false ∧ 0 < m ∧ s = true) :
    Calls Tryd.prog 42 #[.agg #[.bool na, .slice A n ca], .agg #[.bool nb, .slice B m cb]] w (RZ w (toI na a + toI s b)) := by
  have h41 := (chk_ok.1 (chkB_ok.1 hv).1).1
  have h42 := (chk_ok.1 (chkB_ok.1 hv).2).1
  rw [hA.len] at h41
  rw [hB.len] at h42
  have HA := Lib.hid hA
  have HB := Lib.hid hB
  have HV := Lib.hid hv
  have hcB := hB.cap
  have hxB := hB.max
  clear hv hA hB
  rcases hs with ⟨rfl, rfl⟩ | ⟨rfl, rfl, rfl⟩ | ⟨rfl, hm0, rfl⟩
  all_goals
    go_enter Tryd.func42, Tryd.ntmps42
    go_wp2_with fail
    refine (rboth_any _ _ _ _ _ _ _ _ _ _ _ (((HA.out.box _).box _).box _) (((HB.out.box _).box _).box _) 0 HV.out).mono ?_
    rintro e w1 ⟨rfl, hb1⟩
    have ⟨hx0, hx1, hy0, hy1, hz0, hz1, hf0, hf1, hsz⟩ := box3 hb1
    go_wp2_with fail
    refine (rsum_any _ _ _ _ _ _ _ _ _ a b ((((HA.out.box _).box _).box _).via hb1) ((((HB.out.box _).box _).box _).via hb1) (by omega) (by omega)).mono ?_
    rintro e w2 ⟨A2, n2, c2, rfl, hL2, hb2⟩
    have hky2 := keep2 hb2 hsz ⟨hz0, hz1⟩
    have ⟨hkf0, hkf1⟩ := keepF hb2 hsz ⟨hf0, hf1⟩
    go_wp2
    exact post_ws Tryd.results42 rfl rfl hky2.1 hky2.2 ⟨A2, n2, c2, rfl, hL2.set2 hky2.1 hky2.2 _ _, below_set2 ((bbox (bbox (bbox hb1))).trans (hb2.mono (by omega))) (by omega) _ _⟩

theorem rsub_ok (w : World) (na nb : Bool) (A B : Option Addr) (n m ca cb a b : Nat) (hA : Lm w w.heap.size A n ca (digs a)) (hB : Lm w w.heap.size B m cb (digs b)) (hv : chkB na (digs a) nb (digs b) = 0) :
    Calls Tryd.prog 42 #[.agg #[.bool na, .slice A n ca], .agg #[.bool nb, .slice B m cb]] w (RZ w (toI na a - toI nb b)) := by
  obtain ⟨s, hs, he⟩ : ∃ s, (nb = true ∧ s = false ∨ nb = false ∧ m = 0 ∧ s = false ∨ nb = false ∧ 0 < m ∧ s = true) ∧ toI na a - toI nb b = toI na a + toI s b := by
    cases nb
    · rcases Nat.eq_zero_or_pos m with h | h
      · have hb : b = 0 := digs_nil.1 (List.eq_nil_of_length_eq_zero (by rw [hB.len]; exact h))
        exact ⟨false, .inr (.inl ⟨rfl, h, rfl⟩), by subst hb; simp [toI]⟩
      · exact ⟨true, .inr (.inr ⟨rfl, h, rfl⟩), by simp [toI]; omega⟩
    · exact ⟨false, .inl ⟨rfl, rfl⟩, by simp [toI]⟩
  rw [he]
  exact rsub_way w na nb s A B n m ca cb a b hA hB hv hs
end Go.Proofs.YtegpckhfncblhaaDoor

/- The reference's times. -/
namespace Go.Proofs.YtegpckhfncblhaaDoor
open Go.RowKit

theorem grownBy_drewN {w w' : World} {row : Option Nat} (h : w.grownBy w' row) (d : Nat) : w.grownBy (w'.drewN d) row := ⟨h.os, h.tape, h.output, h.size, h.block⟩
theorem Ld.drewN {w : World} {g : Nat} {cs : List Nat} (h : Ld w g cs) (d : Nat) : Ld (w.drewN d) g cs := h

end Go.Proofs.YtegpckhfncblhaaDoor

/- The reference's Mul. -/
namespace Go.Proofs.YtegpckhfncblhaaDoor
open Go.RowKit

end Go.Proofs.YtegpckhfncblhaaDoor

/- The reference's arithmetic on numbers of known size, and DivMod of the code, in whole numbers. -/
namespace Go.Proofs.YtegpckhfncblhaaDoor
open Go.RowKit

theorem mkN_toI {neg : Bool} {v : Nat} (hl : (digs v).length ≤ 4096) : mkN neg v = decide (toI neg v < 0) := by
  rw [← toI_neg]
  unfold mkN
  rw [decide_eq_true hl, Bool.true_and]
  by_cases h : toI neg v < 0
  · rw [decide_eq_true h, decide_eq_true (show v ≠ 0 from fun e => by subst e; unfold toI at h; cases neg <;> simp at h)]; rfl
  · rw [decide_eq_false h]; rfl
theorem rw_rn {w : World} {neg : Bool} {v : Nat} (hl : (digs v).length ≤ 4096) {e : Ending} {w' : World} (h : RW w (mkN neg v) (mkL v) (mkE v) e w') : RN w (toI neg v) e w' := by
  have h2 : mkL v = digs v := by unfold mkL; rw [if_pos hl]
  have h3 : mkE v = 0 := by unfold mkE; rw [if_pos hl]
  rw [mkN_toI hl, h2, h3] at h
  unfold RN
  rw [toI_abs]
  exact h
section
variable (w : World) (A B : Option Addr) (n m ca cb k : Nat) (x y : Int) (hA : Lm w w.heap.size A n ca (digs x.natAbs)) (hB : Lm w w.heap.size B m cb (digs y.natAbs)) (hx : Sz k x) (hy : Sz k y) (hk : k ≤ 2000)
include hA hx hk
theorem rcheck_n {na : Bool} (ha : decide (x < 0) = na) : Calls Tryd.prog 32 #[.agg #[.bool na, .slice A n ca]] w fun e w' => e = .returned (.int .i64 0) ∧ Below w.heap.size w w' := by
  subst ha
  exact rcheck_ok w _ A n ca _ hA (chk_z hx (by omega))
include hB hy
theorem radd_n {na nb : Bool} (ha : decide (x < 0) = na) (hb : decide (y < 0) = nb) : Calls Tryd.prog 41 #[.agg #[.bool na, .slice A n ca], .agg #[.bool nb, .slice B m cb]] w (RN w (x + y)) := by
  subst ha hb
  have h := radd_ok w _ _ A B n m ca cb _ _ hA hB (chkB_z hx (by omega) hy (by omega))
  rw [toI_self, toI_self] at h
  exact h.mono fun e w' hr => rz_rn (hx.add hy) (by omega) hr
theorem rcompared_n {na nb : Bool} (ha : decide (x < 0) = na) (hb : decide (y < 0) = nb) : Calls Tryd.prog 43 #[.agg #[.bool na, .slice A n ca], .agg #[.bool nb, .slice B m cb]] w fun e w' => e = .returned (.int .i64 (cmpZ x y)) ∧ Below w.heap.size w w' := by
  have _ := hx
  have _ := hy
  have _ := hk
  subst ha hb
  have h := rcompared_any w (decide (x < 0)) (decide (y < 0)) A B n m ca cb _ _ hA hB (fun h e => by have h1 : x < 0 := (by simpa using h); omega) (fun h e => by have h1 : y < 0 := (by simpa using h); omega)
  rw [toI_self, toI_self] at h
  exact h
end

/-- A call returns quotient and remainder, rounded down. -/
def RD2 (w : World) (x y : Int) (e : Ending) (w' : World) : Prop := ∃ q r : Int, x = q * y + r ∧ r.natAbs < y.natAbs ∧ (r = 0 ∨ decide (r < 0) = decide (y < 0)) ∧ q.natAbs ≤ x.natAbs ∧
  ∃ A n c A' n' c', e = .returned (.tuple #[.agg #[.bool (decide (q < 0)), .slice A n c], .agg #[.bool (decide (r < 0)), .slice A' n' c'], .int .i64 0]) ∧ Lm w' w'.heap.size A n c (digs q.natAbs) ∧ Lm w' w'.heap.size A' n' c' (digs r.natAbs) ∧ Below w.heap.size w w'
theorem rww_rd2 {w : World} {x y : Int} {n1 n2 : Bool} {v1 v2 : Nat} (h1 : (digs v1).length ≤ 4096) (h2 : (digs v2).length ≤ 4096) (e1 : x = toI n1 v1 * y + toI n2 v2) (e2 : v2 < y.natAbs) (e3 : v2 = 0 ∨ n2 = decide (y < 0)) (e4 : v1 ≤ x.natAbs)
    {e : Ending} {w' : World} (h : RWW w (mkN n1 v1) (digs v1) (mkN n2 v2) (digs v2) 0 e w') : RD2 w x y e w' := by
  refine ⟨toI n1 v1, toI n2 v2, e1, by rw [toI_abs]; exact e2, ?_, by rw [toI_abs]; exact e4, ?_⟩
  · rcases e3 with e3 | e3
    · left; subst e3; unfold toI; split <;> rfl
    · rcases Nat.eq_zero_or_pos v2 with h0 | h0
      · left; subst h0; unfold toI; split <;> rfl
      · right
        subst e3
        unfold toI
        by_cases hy : y < 0
        · rw [decide_eq_true hy, if_pos rfl]; simp; omega
        · rw [decide_eq_false hy, if_neg (by simp)]; simp
  · rw [mkN_toI h1, mkN_toI h2] at h
    rw [toI_abs, toI_abs]
    exact h
theorem divmod_n (w : World) (A B : Option Addr) (n m ca cb k : Nat) (x y : Int) (hA : Lm w w.heap.size A n ca (digs x.natAbs)) (hB : Lm w w.heap.size B m cb (digs y.natAbs)) (hx : Sz k x) (hy : Sz k y) (hk : k ≤ 2000) (hy0 : y ≠ 0)
    {na nb : Bool} (ha : decide (x < 0) = na) (hb : decide (y < 0) = nb) :
    Calls Tryd.prog 9 #[.agg #[.bool na, .slice A n ca], .agg #[.bool nb, .slice B m cb]] w (RD2 w x y) := by
  have hv := chkB_z hx (show k ≤ 4096 by omega) hy (show k ≤ 4096 by omega)
  rw [ha, hb] at hv
  have hxl : (digs x.natAbs).length ≤ 4096 := Nat.le_trans hx.len (by omega)
  have hyl : (digs y.natAbs).length ≤ 4096 := Nat.le_trans hy.len (by omega)
  have hbp : 0 < y.natAbs := by omega
  have ex : toI na x.natAbs = x := by rw [← ha]; exact toI_self x
  have ey : toI nb y.natAbs = y := by rw [← hb]; exact toI_self y
  have hdm := Nat.div_add_mod x.natAbs y.natAbs
  have hml := Nat.mod_lt x.natAbs hbp
  have hdl := Nat.div_le_self x.natAbs y.natAbs
  have hm2 := Nat.mod_le x.natAbs y.natAbs
  have key : ∀ (s t : Bool), toI t y.natAbs = y → toI s (x.natAbs / y.natAbs) * y + toI (s != t) (x.natAbs % y.natAbs) = toI (s != t) x.natAbs := by
    intro s t ht
    have e := toI_mul s t (x.natAbs / y.natAbs) y.natAbs
    rw [ht] at e
    rw [e, toI_same rfl, Nat.mul_comm, hdm]
  by_cases hs : na = nb
  · refine (divmod_same w na nb A B n m ca cb _ _ hA hB hv hbp hs).mono fun e w' h => rww_rd2 (Nat.le_trans (digs_mono hdl) hxl) (Nat.le_trans (digs_mono hm2) hxl) ?_ hml (.inr hb.symm) hdl h
    have h1 := key false nb ey
    subst hs
    rw [show (false != na) = na from by cases na <;> rfl, ex] at h1
    exact h1.symm
  · have hs2 : na = true ∧ nb = false ∨ na = false ∧ nb = true := by cases na <;> cases nb <;> simp_all
    have hnn : (true != nb) = na := by cases na <;> cases nb <;> simp_all
    have h1 := key true nb ey
    rw [hnn, ex] at h1
    rcases Nat.eq_zero_or_pos (x.natAbs % y.natAbs) with h0 | h0
    · refine (divmod_exact w na nb A B n m ca cb _ _ hA hB hv hbp hs2 h0).mono fun e w' h => rww_rd2 (Nat.le_trans (digs_mono hdl) hxl) (Nat.le_trans (digs_mono hm2) hxl) ?_ hml (.inl h0) hdl h
      have h6 : ∀ s : Bool, toI s 0 = 0 := by intro s; unfold toI; cases s <;> rfl
      rw [h0, h6] at h1
      rw [h0, h6]
      exact h1.symm
    · have hq1 : x.natAbs / y.natAbs + 1 ≤ x.natAbs := by
        have h2 : 2 ≤ y.natAbs := by omega
        have h3 := Nat.mul_le_mul_right (x.natAbs / y.natAbs) h2
        omega
      refine (divmod_down w na nb A B n m ca cb _ _ hA hB hv hbp hs2 h0).mono fun e w' h => rww_rd2 (Nat.le_trans (digs_mono hq1) hxl) (Nat.le_trans (digs_mono (show y.natAbs - x.natAbs % y.natAbs ≤ y.natAbs by omega)) hyl) ?_ (by omega) (.inr hb.symm) hq1 h
      have h4 : toI true (x.natAbs / y.natAbs + 1) = toI true (x.natAbs / y.natAbs) - 1 := by unfold toI; simp; omega
      rw [h4, Int.sub_mul, Int.one_mul]
      have h5 : toI nb (y.natAbs - x.natAbs % y.natAbs) - y = toI na (x.natAbs % y.natAbs) := by
        rw [← ey, toI_abs]
        unfold toI
        cases na <;> cases nb <;> simp_all <;> omega
      omega
end Go.Proofs.YtegpckhfncblhaaDoor

/- The reference's left and short. -/
namespace Go.Proofs.YtegpckhfncblhaaDoor
open Go.RowKit

/-- .. in a block of its own. -/
def RLo (w : World) (N v : Nat) (e : Ending) (w' : World) : Prop := ∃ A c ts, e = .returned (.slice A N c) ∧ Ow w' w.heap.size (.slice A N c) ts ∧ Good ts ∧ ts.length = N ∧ val ts = v ∧ Below w.heap.size w w'

set_option maxRecDepth 100000 in
set_option maxHeartbeats 1000000 in
theorem rleft_own (w : World) (A : Option Addr) (n c s : Nat) (xs : List Nat) (v : Nat) (hA : Lm w w.heap.size A n c xs) (hn : n ≤ 100000000) (hs32 : s < 32) (hv : val xs * 2 ^ s = v) :
    Calls Tryd.prog 37 #[.slice A n c, .int .u64 (s : Int)] w (RLo w (n + 1) v) := by
  have h1 := hA.cap
  have h2 := hA.max
  have HA := Lib.hid hA
  have HV := Lib.hid hv
  clear hA hv
  go_enter Tryd.func37, Tryd.ntmps37
  go_wp2
  go_loopw [5, 6, 7] (fun u cy i wr => ∃ k : Nat, k ≤ n ∧ i = .int .i64 k ∧ cy = .int .u64 ((mulK [] xs (2 ^ s) k).2 : Nat) ∧ Ow wr w.heap.size u (mulK [] xs (2 ^ s) k).1 ∧ Below w.heap.size w wr) (fun _ _ i _ => n - (intOf i).toNat)
  case atStart => exact ⟨0, Nat.zero_le _, rfl, rfl, Ow.nil _ _, Below.refl _ _⟩
  case round =>
    obtain ⟨k, hk, rfl, rfl, hO, hb⟩ := hrel
    have HO := Lib.hid hO
    have HBl := Lib.hid hb
    clear hO hb
    have hp31 : 2 ^ s ≤ 2147483648 := Nat.pow_le_pow_right (by omega) (show s ≤ 31 by omega)
    have hcy := shl_carry HA.out.good hp31 k
    have HLn := Lib.hid (mulK_len [] xs (2 ^ s) k)
    have hc32 : (mulK [] xs (2 ^ s) k).2 < 4294967296 := by omega
    clear hcy
    by_cases hlt : k < n
    · obtain ⟨b, bo, rfl, hbb, hcx⟩ := (HA.out.below HBl.out).cell hlt
      have hxg := HA.out.good.get k
      have hmx : xs[k]?.getD 0 * 2 ^ s ≤ 4294967295 * 2147483648 := Nat.mul_le_mul (by omega) hp31
      obtain ⟨S, hS⟩ : ∃ S : Nat, S = (mulK [] xs (2 ^ s) k).2 + (xs[k]?.getD 0 * 2 ^ s + 0) := ⟨_, rfl⟩
      have HX : Hid (IntKind.u64.wrap ((((mulK [] xs (2 ^ s) k).2 : Nat) : Int) + IntKind.u64.wrap (((xs[k]?.getD 0 : Nat) : Int) * 2 ^ s)) = (S : Int)) := by
        show _ = _
        rw [cast_shl, Nat.mul_comm, wrap_nat, Nat.mod_eq_of_lt (by omega), IntKind.wrap_u64]
        omega
      have HS : Hid (mulK [] xs (2 ^ s) (k + 1) = ((mulK [] xs (2 ^ s) k).1 ++ [S % 4294967296], S / 4294967296)) := by show _ = _; rw [hS]; rfl
      clear hS
      have hSb : S < 18446744073709551616 := by have := HX.out; rw [IntKind.wrap_u64] at this; omega
      go_wp2_with (at_builtin; refine wpList_append_u32 _ rfl _ _ rfl w.heap.size _ _ rfl HO.out _ (S % 4294967296) 1 (by rw [HX.out]; omega) (by have := HLn.out; omega) HBl.out.size rfl ?_; intro u' w1 hO1 hg1)
      go_roundw
      case rel =>
        refine ⟨k + 1, by omega, by go_num, ?_, hO1.eq ?_, HO.out.below HBl.out HBl.out.size hg1⟩
        · rw [HX.out, HS.out]
          exact congrArg (Value.int IntKind.u64) (Int.natCast_ediv _ _).symm
        · rw [HS.out]
      case measure => simp [intOf]; omega
    · obtain rfl : k = n := by omega
      have hgd : Hid (Good ((mulK [] xs (2 ^ s) k).1 ++ [(mulK [] xs (2 ^ s) k).2])) := (mulK_good _ _ _ _).append (Good.nil.cons hc32)
      have hlen : Hid (((mulK [] xs (2 ^ s) k).1 ++ [(mulK [] xs (2 ^ s) k).2]).length = k + 1) := by show _ = _; rw [List.length_append, HLn.out]; rfl
      have hvs : Hid (val ((mulK [] xs (2 ^ s) k).1 ++ [(mulK [] xs (2 ^ s) k).2]) = v) := by
        show _ = _
        have e := mulK_val [] xs (2 ^ s) k
        rw [val_snoc, mulK_len, e, List.take_of_length_le (by rw [HA.out.len]; exact Nat.le_refl _), ← HV.out]
        simp only [List.take_nil, val_nil, Nat.add_zero]
      go_wp2_with (at_builtin; refine wpList_append_u32 _ rfl _ _ rfl w.heap.size _ _ rfl HO.out _ ((mulK [] xs (2 ^ s) k).2) 1 (by omega) (by have := HLn.out; omega) HBl.out.size rfl ?_; intro u1 w1 hO1 hg1)
      go_ret
      obtain ⟨A1, c1, rfl, hL1⟩ := hO1.lm hgd.out
      rw [hlen.out] at hL1 hO1 ⊢
      exact ⟨A1, c1, _, rfl, hO1, hgd.out, hlen.out, hvs.out, HO.out.below HBl.out HBl.out.size hg1⟩

set_option maxRecDepth 100000 in
set_option maxHeartbeats 1000000 in
theorem rshort_any (w : World) (A : Option Addr) (n c d : Nat) (xs : List Nat) (v : Nat) (hA : Lm w w.heap.size A n c xs) (hn : n ≤ 100000000) (hd : 0 < d) (hd9 : d < 4294967296) (hv : val xs = v) :
    Calls Tryd.prog 62 #[.slice A n c, .int .u32 (d : Int)] w (RD w (v / d) (v % d)) := by
  have h1 := hA.cap
  have h2 := hA.max
  have hG := hA.good
  have hn' := hA.len
  have HA := Lib.hid hA
  have HV := Lib.hid hv
  have hd0 : ¬ ((d : Int) = 0) := by omega
  clear hA hv
  have hmk := fun w => run_make_u32 (n : Int) (n : Int) n rfl rfl (by omega) w
  go_enter Tryd.func62, Tryd.ntmps62
  go_wp2
  clear hmk
  go_loopw [7, 8] (fun r i wr => ∃ k : Nat, k ≤ n ∧ i = .int .i64 ((k : Int) - 1) ∧ r = .int .u64 ((dvL d (xs.drop k)).2 : Nat) ∧ Ld wr w.heap.size (zer k ++ (dvL d (xs.drop k)).1) ∧ Below w.heap.size w wr) (fun _ i _ => (intOf i + 1).toNat)
  case atStart => exact ⟨n, Nat.le_refl _, rfl, by rw [List.drop_of_length_le (by omega)]; rfl, by rw [List.drop_of_length_le (by omega)]; show Ld _ _ (zer n ++ []); rw [List.append_nil]; exact Ld.new _ _, (Below.refl _ _).alloc (Nat.le_refl _) _⟩
  case round =>
    obtain ⟨k, hk, rfl, rfl, hO, hb⟩ := hrel
    have HO := Lib.hid hO
    have HBl := Lib.hid hb
    have hgs := hO.lt
    clear hO hb
    have hlen : (zer k ++ (dvL d (xs.drop k)).1).length = n := by rw [List.length_append, dvL_len, zer_len, List.length_drop]; omega
    have HLen := Lib.hid hlen
    have hr := dvL_lt hd (xs.drop k)
    rcases k with _ | k
    · have HQ := Lib.hid (dvL_quot hd xs)
      have HGq := Lib.hid (dvL_good hd hG)
      have HL : Hid (Lm wr wr.heap.size (some ⟨w.heap.size, 0, none⟩) n n (dvL d xs).1) := by
        have e := HO.out.lm (by rw [List.drop_zero]; exact (zer_good 0).append HGq.out) (off := 0) (n := n) (c := n) (by omega) (Nat.le_refl _) (by omega)
        rw [List.drop_zero, List.take_of_length_le (by omega)] at e
        exact e
      have HVq : Hid (val (dvL d xs).1 = v / d) := by show _ = _; rw [HQ.out.1, HV.out]
      have HVr : Hid (val [(dvL d xs).2] = v % d) := by show _ = _; rw [val_one, HQ.out.2, HV.out]
      rw [List.drop_zero] at hr ⊢
      clear hlen hn'
      go_wp2_with fail
      refine (rtrim_any _ _ _ _ _ (v / d) HL.out HVq.out (by omega)).mono ?_
      rintro e w1 ⟨A1, c1, rfl, hL1, hb1⟩
      have HL1 := Lib.hid hL1
      have HB1 := Lib.hid (HBl.out.trans (hb1.mono HBl.out.size))
      clear hL1 hb1
      go_wp2_with fail
      refine (rtrim_any _ _ _ _ _ (v % d) (Lm.one w1 (dvL d xs).2 _ (by omega) (by omega)) HVr.out (by omega)).mono ?_
      rintro e w2 ⟨A2, c2, rfl, hL2, hb2⟩
      go_wp2
      go_ret2
      exact ⟨A1, c1, A2, c2, rfl, HL1.out.via (bbox hb2), hL2, HB1.out.trans ((bbox hb2).mono HB1.out.size)⟩
    · have hct := HO.out.cell (i := k) (by omega)
      have hfr := HO.out.frozen k
      obtain ⟨b, bo, rfl, hbb, hcx⟩ := (HA.out.below HBl.out).cell (k := k) (by omega)
      have hxg := hG.get k
      have HStep : Hid (dvL d (xs.drop k) = (((dvL d (xs.drop (k + 1))).2 * 4294967296 + xs[k]?.getD 0) / d :: (dvL d (xs.drop (k + 1))).1, ((dvL d (xs.drop (k + 1))).2 * 4294967296 + xs[k]?.getD 0) % d)) := by
        show _ = _
        rw [drop_cons_ xs k (by omega)]; rfl
      have hq : ((dvL d (xs.drop (k + 1))).2 * 4294967296 + xs[k]?.getD 0) / d < 4294967296 := by
        rw [Nat.div_lt_iff_lt_mul hd]
        have : ((dvL d (xs.drop (k + 1))).2 + 1) * 4294967296 ≤ d * 4294967296 := Nat.mul_le_mul_right _ hr
        omega
      obtain ⟨T, hT⟩ : ∃ T : Nat, T = (dvL d (xs.drop (k + 1))).2 * 4294967296 + xs[k]?.getD 0 := ⟨_, rfl⟩
      have hTi : (((dvL d (xs.drop (k + 1))).2 : Nat) : Int) * 4294967296 + ((xs[k]?.getD 0 : Nat) : Int) = (T : Int) := by rw [hT]; omega
      rw [← hT] at hq HStep
      have hT9 : T < 18446744073709551616 := by omega
      clear hT hlen hn'
      have HQ : Hid (IntKind.u64.wrap ((T : Int) / (d : Int)) % 4294967296 = ((T / d : Nat) : Int)) := by
        show _ = _
        rw [← Int.natCast_ediv, wrap_nat]
        generalize T / d = q at hq ⊢
        omega
      have HR : Hid ((T : Int) % (d : Int) = ((T % d : Nat) : Int)) := by
        show _ = _
        rw [← Int.natCast_emod]
      go_wp2
      go_roundw
      case rel =>
        refine ⟨k, by omega, by go_num, ?_, ?_, HBl.out.setCell (p := ⟨w.heap.size, k, none⟩) (Nat.le_refl _) _⟩
        · rw [HStep.out]
          exact congrArg (Value.int IntKind.u64) HR.out
        · rw [HQ.out, HStep.out]
          have e := HO.out.set_ k (T / d)
          have e2 : (zer (k + 1) ++ (dvL d (xs.drop (k + 1))).1).set k (T / d) = zer k ++ (T / d :: (dvL d (xs.drop (k + 1))).1) := by
            have e3 := set_mid (zer k) [] ([0] ++ (dvL d (xs.drop (k + 1))).1) (T / d) (by simp)
            rw [zer_len] at e3
            have e4 : zer (k + 1) = zer k ++ [0] := by unfold zer; exact List.replicate_succ'
            rw [e4, List.append_assoc]
            exact e3
          rw [e2] at e
          exact e
      case measure => simp [intOf]
end Go.Proofs.YtegpckhfncblhaaDoor

/- The reference's long division, in numbers. -/
namespace Go.Proofs.YtegpckhfncblhaaDoor
open Go.RowKit

/-- The reference's two carries together are the code's one. -/
theorem dg_step {S c b m p : Nat} (hS : c + b = S) (hb : b ≤ 1) (hp : p < 4294967296) :
    (p + 8589934592 - (c + m) % 4294967296 - b) % 4294967296 = (p + 4294967296 - (S + m) % 4294967296) % 4294967296 ∧
    (c + m) / 4294967296 + (if p < (c + m) % 4294967296 + b then 1 else 0) = (S + m) / 4294967296 + (if p < (S + m) % 4294967296 then 1 else 0) := by
  subst hS
  constructor
  · omega
  · split <;> split <;> omega

/-- What is left once nothing is to be borrowed. -/
theorem dg_done {X V T q : Nat} (hV : 0 < V) (h : T + V * q = X) (hq : X / V ≤ q) : X / V = q ∧ T = X % V := by
  have h1 : q ≤ X / V := by
    rw [Nat.le_div_iff_mul_le hV, Nat.mul_comm]
    omega
  have h2 : X / V = q := by omega
  refine ⟨h2, ?_⟩
  have h3 := Nat.div_add_mod X V
  rw [h2] at h3
  omega
/-- As long as something is to be borrowed, the digit is too great. -/
theorem dg_more {X V T q P : Nat} (_ : 0 < V) (h : T + V * q = X + P) (hT : T < P) : 1 ≤ q ∧ X / V ≤ q - 1 := by
  have h1 : X < V * q := by omega
  have h2 : X / V < q := Nat.div_lt_of_lt_mul h1
  generalize X / V = z at *
  exact ⟨by omega, by omega⟩
/-- Adding the divisor back: the carry is 0 or 1. -/
theorem dg_back {X V T T' q P cy : Nat} (hq : 1 ≤ q) (h : T + V * q = X + P) (hb : T' + P * cy = T + V) (hc : cy ≤ 1) : T' + V * (q - 1) = X + P * (1 - cy) := by
  have e : V * q = V * (q - 1) + V := by
    obtain ⟨r, rfl⟩ : ∃ r, q = r + 1 := ⟨q - 1, by omega⟩
    rw [Nat.add_sub_cancel, Nat.mul_add, Nat.mul_one]
  rcases Nat.eq_zero_or_pos cy with h0 | h0
  · subst h0; simp at hb ⊢; omega
  · obtain rfl : cy = 1 := by omega
    simp at hb ⊢; omega

/-! ### The rest moved back to the right -/
def shrL (s : Nat) (rs : List Nat) : Nat → List Nat
  | 0 => []
  | k + 1 => shrL s rs k ++ [(rs[k]?.getD 0 + 4294967296 * rs[k + 1]?.getD 0) / 2 ^ s % 4294967296]
theorem shrL_len (s : Nat) (rs : List Nat) (k : Nat) : (shrL s rs k).length = k := by
  induction k with
  | zero => rfl
  | succ k ih => unfold shrL; rw [List.length_append, ih]; rfl
theorem limb_at {rs : List Nat} (g : Good rs) (k : Nat) : val rs / 4294967296 ^ k = rs[k]?.getD 0 + 4294967296 * val (rs.drop (k + 1)) := by
  rw [← val_drop rs g k, val_step]
theorem pow_split (s : Nat) (hs : s < 32) : (4294967296 : Nat) = 2 ^ s * 2 ^ (32 - s) := by
  rw [← Nat.pow_add, show s + (32 - s) = 32 by omega]
theorem shr_limb {rs : List Nat} (g : Good rs) (s : Nat) (hs : s < 32) (k : Nat) : val rs / 2 ^ s / 4294967296 ^ k % 4294967296 = (rs[k]?.getD 0 + 4294967296 * rs[k + 1]?.getD 0) / 2 ^ s % 4294967296 := by
  rw [Nat.div_div_eq_div_mul, Nat.mul_comm, ← Nat.div_div_eq_div_mul, limb_at g k, val_step]
  generalize rs[k]?.getD 0 = x
  generalize rs[k + 1]?.getD 0 = y
  generalize val (rs.drop (k + 1 + 1)) = z
  have e : x + 4294967296 * (y + 4294967296 * z) = (x + 4294967296 * y) + 2 ^ s * (4294967296 * (2 ^ (32 - s) * z)) := by
    have e1 : 2 ^ s * (4294967296 * (2 ^ (32 - s) * z)) = 4294967296 * (4294967296 * z) := by
      rw [Nat.mul_left_comm, ← Nat.mul_assoc (2 ^ s), ← pow_split s hs]
    rw [e1]; omega
  rw [e, Nat.add_mul_div_left _ _ (Nat.pow_pos (by omega)), Nat.add_mul_mod_self_left]
theorem shrL_lims {rs : List Nat} (g : Good rs) (s : Nat) (hs : s < 32) (k : Nat) : shrL s rs k = lims (val rs / 2 ^ s) k := by
  induction k with
  | zero => rfl
  | succ k ih => unfold shrL lims; rw [ih, shr_limb g s hs k]
theorem shrL_val {rs : List Nat} (g : Good rs) (s : Nat) (hs : s < 32) {n : Nat} (hn : rs.length = n) : val (shrL s rs n) = val rs / 2 ^ s := by
  rw [shrL_lims g s hs, lims_val]
  have h := val_lt g
  rw [hn] at h
  exact Nat.mod_eq_of_lt (Nat.lt_of_le_of_lt (Nat.div_le_self _ _) h)
end Go.Proofs.YtegpckhfncblhaaDoor

/- The reference's digit. -/
namespace Go.Proofs.YtegpckhfncblhaaDoor
open Go.RowKit

theorem spl_get {cs M : List Nat} {off k : Nat} (h : off + M.length ≤ cs.length) (hk : k < M.length) : (spl cs off M)[off + k]?.getD 0 = M[k]?.getD 0 := by
  have hl : (cs.take off).length = off := by rw [List.length_take]; omega
  unfold spl
  rw [List.getElem?_append_right (by omega), hl, Nat.add_sub_cancel_left, List.getElem?_append_left hk]
theorem spl_seti {cs M : List Nat} {off k : Nat} (t : Nat) (h : off + M.length ≤ cs.length) (hk : k < M.length) : (spl cs off M).set (off + k) t = spl cs off (M.set k t) := by
  have hl : (cs.take off).length = off := by rw [List.length_take]; omega
  unfold spl
  rw [List.set_append_right _ _ (by omega), hl, Nat.add_sub_cancel_left, List.set_append_left _ _ hk, List.length_set]

set_option maxRecDepth 100000 in
set_option maxHeartbeats 4000000 in
theorem rdigit_any (w : World) (g off c n cb : Nat) (B : Option Addr) (cs ys : List Nat) (V : Nat) (hO : Ob w g cs) (hG : Good cs) (hB : Lm w g B n cb ys) (hn2 : 2 ≤ n) (hn9 : n ≤ 1000000000) (hc : n + 1 ≤ c) (hc9 : c ≤ 9223372036854775807)
    (hoff : off + n < cs.length) (hV : val ys = V) (hV0 : 0 < V) (h1 : 1 ≤ ys[n - 1]?.getD 0) (hle : cs[off + n]?.getD 0 ≤ ys[n - 1]?.getD 0)
    (hX : val ((cs.drop off).take (n + 1)) / V ≤ gs (ys[n - 1]?.getD 0) (ys[n - 2]?.getD 0) (cs[off + n]?.getD 0) (cs[off + (n - 1)]?.getD 0) (cs[off + (n - 2)]?.getD 0)) :
    Calls Tryd.prog 63 #[.slice (some ⟨g, off, none⟩) (n + 1) c, .slice B n cb] w fun e w' => e = .returned (.int .u32 ((val ((cs.drop off).take (n + 1)) / V : Nat) : Int)) ∧
      (∃ P, P.length = n + 1 ∧ Good P ∧ val P = val ((cs.drop off).take (n + 1)) % V ∧ Ob w' g (spl cs off P)) ∧ w.grownBy w' (some g) := by
  have hcap := hB.cap
  have hmax := hB.max
  have g1 := hB.good.get (n - 1)
  have g2 := hB.good.get (n - 2)
  have gh := hG.get (off + n)
  have gu1 := hG.get (off + (n - 1))
  have gu2 := hG.get (off + (n - 2))
  have ch := hO.cell (i := off + n) (by omega)
  have cu1 := hO.cell (i := off + (n - 1)) (by omega)
  have cu2 := hO.cell (i := off + (n - 2)) (by omega)
  have hgs := hO.lt
  have HO := Lib.hid hO
  have HG := Lib.hid hG
  have HB := Lib.hid hB
  have HV := Lib.hid hV
  have HOff := Lib.hid hoff
  obtain ⟨X, HXd⟩ : ∃ X, Hid (X = val ((cs.drop off).take (n + 1))) := ⟨_, rfl⟩
  rw [← HXd.out] at hX ⊢
  obtain ⟨bb, bo, rfl, hbb, cb1⟩ := hB.cell (k := n - 1) (by omega)
  obtain ⟨bb', bo', e, _, cb2⟩ := hB.cell (k := n - 2) (by omega)
  cases e
  clear hO hB hG hV
  generalize ys[n - 1]?.getD 0 = b1 at *
  generalize ys[n - 2]?.getD 0 = b2 at *
  generalize cs[off + n]?.getD 0 = h at *
  generalize cs[off + (n - 1)]?.getD 0 = u1 at *
  generalize cs[off + (n - 2)]?.getD 0 = u2 at *
  have i1 : ((n : Int) - 1).toNat = n - 1 := by omega
  have i2 : ((n : Int) - 2).toNat = n - 2 := by omega
  obtain ⟨hi, hhi⟩ : ∃ hi : Nat, hi = h * 4294967296 + u1 := ⟨_, rfl⟩
  have hq0' : (hi : Int) / (b1 : Int) = ((hi / b1 : Nat) : Int) := by rw [← Int.natCast_ediv]
  have hr0' : (hi : Int) % (b1 : Int) = ((hi % b1 : Nat) : Int) := by rw [← Int.natCast_emod]
  have hq0 : (hi : Int).tdiv (b1 : Int) = ((hi / b1 : Nat) : Int) := by rw [Int.tdiv_eq_ediv_of_nonneg (by omega), ← Int.natCast_ediv]
  have hr0 : (hi : Int).tmod (b1 : Int) = ((hi % b1 : Nat) : Int) := by rw [Int.tmod_eq_emod_of_nonneg (by omega), ← Int.natCast_emod]
  have hb0 : ¬ ((b1 : Int) = 0) := by omega
  have hdm := Nat.div_add_mod hi b1
  have hrl := Nat.mod_lt hi (show 0 < b1 by omega)
  have hD9 := Nat.div_le_self hi b1
  generalize hi / b1 = D0 at *
  generalize hi % b1 = R0 at *
  have hi9 : hi < 18446744073709551616 := by omega
  have hbit : IntKind.u64.wrap ((h : Int) * 4294967296 + (u1 : Int)) = (hi : Int) := by rw [IntKind.wrap_u64]; omega
  obtain ⟨Q, hQ⟩ : ∃ Q, Q = gs b1 b2 h u1 u2 := ⟨_, rfl⟩
  have hQ0 : Q ≤ D0 := by rw [hQ]; exact gs_start gu2 (by rw [← hhi]; exact hdm) hrl
  rw [← hQ] at hX
  have HI := Lib.hid hhi
  have HQ := Lib.hid hQ
  have HXq := Lib.hid hX
  clear hhi hQ hX
  go_enter Tryd.func63, Tryd.ntmps63
  go_wp2
  go_quiet (fail)
  go_wp2
  go_quiet (fail)
  go_upto_block 0 with (fail)
  go_cut [7] (fun s7 wx => ∃ D d : Nat, s7 = .int .u64 (D : Int) ∧ Q ≤ D ∧ D ≤ 4294967295 ∧ wx = w.drewN d)
  case first =>
    go_wp2
    go_loopw [7, 8] (fun x r wr => ∃ D R d : Nat, x = .int .u64 (D : Int) ∧ r = .int .u64 (R : Int) ∧ D * b1 + R = hi ∧ Q ≤ D ∧ wr = w.drewN d) (fun x _ _ => (intOf x).toNat)
    case atStart => exact ⟨D0, R0, _, rfl, rfl, by rw [Nat.mul_comm]; exact hdm, hQ0, drewN_add w _ _⟩
    case round =>
      obtain ⟨D, R, d, rfl, rfl, hDR, hQD, rfl⟩ := hrel
      have hDle : D ≤ hi := by
        have := Nat.le_mul_of_pos_right D (show 0 < b1 by omega)
        omega
      have hRle : R ≤ hi := by omega
      have HDR := Lib.hid hDR
      clear hDR
      by_cases hd : 4294967296 ≤ D
      · have hlt : Q < D := by rw [HQ.out]; exact gs_lt (by omega) (by rw [← HI.out]; exact HDR.out) (.inl (by omega))
        have HDM : Hid ((D - 1) * b1 + (R + b1) = D * b1 + R) := by show _ = _; rw [Nat.sub_mul, Nat.one_mul]; have := Nat.le_mul_of_pos_left b1 (show 0 < D by omega); omega
        have hRb : R + b1 ≤ hi := by have := HDM.out; have := HDR.out; omega
        have hdi : (4294967296 : Int) ≤ (D : Int) := by omega
        go_wp2_with fail
        go_quiet (fail)
        go_wp2
        all_goals
          first
          | (go_meet; exact ⟨D - 1, _, by go_num, by omega, by omega, by first | exact drewN_add w _ _ | rfl⟩)
          | (go_roundw
             case rel => exact ⟨D - 1, R + b1, _, by go_num, by go_num, by rw [← HDR.out]; exact HDM.out, by omega, rfl⟩
             case measure => simp [intOf]; omega)
      · have hdd : decide ((4294967296 : Int) ≤ (D : Int)) = false := by simp; omega
        by_cases hR : R < 4294967296
        · have hRi : (R : Int) < 4294967296 := by omega
          have hmul := mul_bd (show D < 4294967296 by omega) g2
          obtain ⟨T, hT⟩ : ∃ T : Nat, T = R * 4294967296 + u2 := ⟨_, rfl⟩
          have hbit2 : IntKind.u64.wrap ((R : Int) * 4294967296 + (u2 : Int)) = (T : Int) := by rw [IntKind.wrap_u64]; omega
          have HT := Lib.hid hT
          clear hT
          by_cases hp : T < D * b2
          · have hlt : Q < D := by rw [HQ.out]; exact gs_lt (by omega) (by rw [← HI.out]; exact HDR.out) (.inr (by rw [← HT.out]; exact hp))
            have HDM : Hid ((D - 1) * b1 + (R + b1) = D * b1 + R) := by show _ = _; rw [Nat.sub_mul, Nat.one_mul]; have := Nat.le_mul_of_pos_left b1 (show 0 < D by omega); omega
            have hRb : R + b1 ≤ hi := by have := HDM.out; have := HDR.out; omega
            have hpi : (T : Int) < (D : Int) * (b2 : Int) := by rw [← Int.natCast_mul]; omega
            clear hp
            by_cases hR2 : R + b1 < 4294967296
            case' pos => have hR2i : (R : Int) + (b1 : Int) < 4294967296 := by omega
            case' pos => have hR2d : decide ((4294967296 : Int) ≤ (R : Int) + (b1 : Int)) = false := by simp; omega
            case' neg => have hR2i : (4294967296 : Int) ≤ (R : Int) + (b1 : Int) := by omega
            all_goals have hD1i : (D : Int) - 1 < 4294967296 := by omega
            all_goals clear hR2
            all_goals
              go_wp2_with fail
              go_quiet (fail)
              go_wp2
            · go_meet
              exact ⟨D - 1, _, by go_num, by omega, by omega, by first | exact drewN_add w _ _ | rfl⟩
            · go_roundw
              case rel => exact ⟨D - 1, R + b1, _, by go_num, by go_num, by rw [← HDR.out]; exact HDM.out, by omega, rfl⟩
              case measure => simp [intOf]; omega
          · have hpd : decide ((T : Int) < (D : Int) * (b2 : Int)) = false := by rw [← Int.natCast_mul]; simp; omega
            go_wp2_with fail
            go_quiet (fail)
            go_wp2
            go_meet
            exact ⟨D, _, rfl, hQD, by omega, drewN_add w _ _⟩
        · have hRd : decide ((R : Int) < 4294967296) = false := by simp; omega
          go_wp2_with fail
          go_quiet (fail)
          go_wp2
          go_meet
          exact ⟨D, _, rfl, hQD, by omega, drewN_add w _ _⟩
  case rest =>
    obtain ⟨D, d, rfl, hQD, hDq, rfl⟩ := hcut
    clear hq0' hr0' hq0 hr0 hb0 hdm hrl hD9 hbit hQ0 hle i1 i2 ch cu1 cu2 cb1 cb2 gh gu1 gu2 g2 hi9 HI hoff
    have HXD : Hid (X / V ≤ D) := Nat.le_trans HXq.out hQD
    clear HXq hQD HQ
    have HCar := Lib.hid (fun k => sbK_carry (HG.out.drop off) HB.out.good (show D < 4294967296 by omega) k)
    go_wp2
    go_loopw [9, 10, 11] (fun bw cy i wr => ∃ k cc bw' : Nat, k ≤ n + 1 ∧ i = .int .i64 k ∧ cy = .int .u64 (cc : Int) ∧ bw = .int .i64 (bw' : Int) ∧ bw' ≤ 1 ∧ cc + bw' = (sbK (cs.drop off) ys D k).2 ∧ (n < k → cc = 0) ∧ Ob wr g (spl cs off (sbK (cs.drop off) ys D k).1) ∧ w.grownBy wr (some g)) (fun _ _ i _ => n + 1 - (intOf i).toNat)
    case atStart => exact ⟨0, 0, 0, Nat.zero_le _, rfl, rfl, rfl, Nat.zero_le _, rfl, fun _ => rfl, by show Ob _ g (spl cs off []); rw [spl_nil]; exact HO.out, grownBy_drewN (World.grownBy.refl w _) d⟩
    case round =>
      obtain ⟨k, cc, bw, hk, rfl, rfl, rfl, hbw, hcb, hcz, hOk, hgk⟩ := hrel
      by_cases hkn : k ≤ n
      · have hoff := HOff.out
        have hln := sbK_len (cs.drop off) ys D k
        have hct := hOk.cell (i := off + k) (by rw [spl_len (by omega)]; omega)
        have hat := spl_at (cs := cs) (off := off) (ts := (sbK (cs.drop off) ys D k).1) (by omega)
        rw [hln] at hat
        rw [hat] at hct
        have hfr := hOk.frozen (off + k)
        have hpg := HG.out.get (off + k)
        have hcl := HCar.out k
        have hyg := HB.out.good.get k
        have hmul := mul_bd (show D < 4294967296 by omega) hyg
        have HCb := Lib.hid hcb
        have HOk := Lib.hid hOk
        have HGk := Lib.hid hgk
        have HLn := Lib.hid hln
        have hcl2 : cc < 4294967296 := by omega
        clear hcb hOk hgk hln hat hcl hcz hoff
        have HFin : Hid (∀ (wz : World) (E bw2 : Nat), E = cc + ys[k]?.getD 0 * D → bw2 = (if cs[off + k]?.getD 0 < E % 4294967296 + bw then 1 else 0) → Ob wz g ((spl cs off (sbK (cs.drop off) ys D k).1).set (off + k) ((cs[off + k]?.getD 0 + 8589934592 - E % 4294967296 - bw) % 4294967296)) → w.grownBy wz (some g) →
            ∃ k' cc' bw' : Nat, k' ≤ n + 1 ∧ Value.int .i64 ((k : Int) + 1) = .int .i64 k' ∧ Value.int .u64 ((E : Int) / 4294967296) = .int .u64 (cc' : Int) ∧ Value.int .i64 (bw2 : Int) = .int .i64 (bw' : Int) ∧ bw' ≤ 1 ∧ cc' + bw' = (sbK (cs.drop off) ys D k').2 ∧ (n < k' → cc' = 0) ∧ Ob wz g (spl cs off (sbK (cs.drop off) ys D k').1) ∧ w.grownBy wz (some g)) := by
          intro wz E bw2 h1 h2 h3 h4
          have hst := dg_step (m := ys[k]?.getD 0 * D) HCb.out hbw hpg
          rw [← h1, ← h2] at hst
          have hdr : (cs.drop off)[k]?.getD 0 = cs[off + k]?.getD 0 := by rw [List.getElem?_drop]
          have e2 : (sbK (cs.drop off) ys D (k + 1)).2 = ((sbK (cs.drop off) ys D k).2 + ys[k]?.getD 0 * D) / 4294967296 + (if (cs.drop off)[k]?.getD 0 < ((sbK (cs.drop off) ys D k).2 + ys[k]?.getD 0 * D) % 4294967296 then 1 else 0) := rfl
          have e1 : (sbK (cs.drop off) ys D (k + 1)).1 = (sbK (cs.drop off) ys D k).1 ++ [((cs.drop off)[k]?.getD 0 + 4294967296 - ((sbK (cs.drop off) ys D k).2 + ys[k]?.getD 0 * D) % 4294967296) % 4294967296] := rfl
          rw [hdr] at e1 e2
          refine ⟨k + 1, E / 4294967296, bw2, by omega, by go_num, congrArg (Value.int IntKind.u64) (Int.natCast_ediv _ _).symm, rfl, by rw [h2]; split <;> omega, by rw [e2, hst.2], ?_, ?_, h4⟩
          · intro hlt
            have hz := getD_over (xs := ys) (k := k) (by rw [HB.out.len]; omega)
            rw [hz, Nat.zero_mul, Nat.add_zero] at h1
            rw [h1]
            exact Nat.div_eq_of_lt hcl2
          · have hs := spl_set (cs := cs) (off := off) (ts := (sbK (cs.drop off) ys D k).1) ((cs[off + k]?.getD 0 + 8589934592 - E % 4294967296 - bw) % 4294967296) (by have := HOff.out; rw [HLn.out]; omega)
            rw [HLn.out] at hs
            rw [e1, ← hst.1, ← hs]
            exact h3
        by_cases hkl : k < n
        · obtain ⟨b1', bo1', e1, _, hcy⟩ := (HB.out.grownLt HGk.out (Nat.le_of_lt hgs)).cell hkl
          cases e1
          obtain ⟨E, hE⟩ : ∃ E : Nat, E = cc + ys[k]?.getD 0 * D := ⟨_, rfl⟩
          rw [Nat.mul_comm] at hmul
          have hE9 : E < 18446744073709551616 := by omega
          have hEw : IntKind.u64.wrap ((cc : Int) + IntKind.u64.wrap ((D : Int) * ((ys[k]?.getD 0 : Nat) : Int))) = (E : Int) := by
            rw [← Int.natCast_mul, Nat.mul_comm, IntKind.wrap_u64, IntKind.wrap_u64]
            omega
          obtain ⟨m, hm⟩ : ∃ m, m = E % 4294967296 := ⟨_, rfl⟩
          have hand : bits .and .u64 (E : Int) 4294967295 = (m : Int) := by rw [and_low32 _ (by omega) (by omega), hm]; omega
          have hm9 : m < 4294967296 := by omega
          have HE := Lib.hid hE
          have HM := Lib.hid hm
          clear hE hmul hm
          by_cases hng : cs[off + k]?.getD 0 < m + bw
          · have hti : ((cs[off + k]?.getD 0 : Nat) : Int) - (m : Int) - (bw : Int) < 0 := by omega
            go_wp2
            go_roundw
            case rel =>
              have e3 : (((cs[off + k]?.getD 0 : Nat) : Int) - (m : Int) - (bw : Int) + 4294967296) = (((cs[off + k]?.getD 0 + 8589934592 - E % 4294967296 - bw) % 4294967296 : Nat) : Int) := by have := HM.out; omega
              rw [e3]
              exact HFin.out _ E 1 HE.out (by rw [if_pos (by have := HM.out; omega)]) (HOk.out.set_ (off + k) _) (grownBy_trans HGk.out (grownBy_setCellAt _ _ _ _))
            case measure => simp [intOf]; omega
          · have hti : 0 ≤ ((cs[off + k]?.getD 0 : Nat) : Int) - (m : Int) - (bw : Int) := by omega
            have htd : decide (((cs[off + k]?.getD 0 : Nat) : Int) - (m : Int) - (bw : Int) < 0) = false := by simp; omega
            go_wp2
            go_roundw
            case rel =>
              have e3 : (((cs[off + k]?.getD 0 : Nat) : Int) - (m : Int) - (bw : Int)) = (((cs[off + k]?.getD 0 + 8589934592 - E % 4294967296 - bw) % 4294967296 : Nat) : Int) := by have := HM.out; omega
              rw [e3]
              exact HFin.out _ E 0 HE.out (by rw [if_neg (by have := HM.out; omega)]) (HOk.out.set_ (off + k) _) (grownBy_trans HGk.out (grownBy_setCellAt _ _ _ _))
            case measure => simp [intOf]; omega
        · obtain rfl : k = n := by omega
          have hand : bits .and .u64 (cc : Int) 4294967295 = (cc : Int) := by rw [and_low32 _ (by omega) (by omega)]; omega
          have HZ : Hid (cc = cc + ys[k]?.getD 0 * D) := by
            show _ = _
            rw [getD_over (xs := ys) (k := k) (by rw [HB.out.len]; omega), Nat.zero_mul, Nat.add_zero]
          clear hmul
          by_cases hng : cs[off + k]?.getD 0 < cc + bw
          · have hti : ((cs[off + k]?.getD 0 : Nat) : Int) - (cc : Int) - (bw : Int) < 0 := by omega
            go_wp2
            go_roundw
            case rel =>
              have e3 : (((cs[off + k]?.getD 0 : Nat) : Int) - (cc : Int) - (bw : Int) + 4294967296) = (((cs[off + k]?.getD 0 + 8589934592 - cc % 4294967296 - bw) % 4294967296 : Nat) : Int) := by omega
              rw [e3]
              exact HFin.out _ cc 1 HZ.out (by rw [if_pos (by omega)]) (HOk.out.set_ (off + k) _) (grownBy_trans HGk.out (grownBy_setCellAt _ _ _ _))
            case measure => simp [intOf]
          · have hti : 0 ≤ ((cs[off + k]?.getD 0 : Nat) : Int) - (cc : Int) - (bw : Int) := by omega
            have htd : decide (((cs[off + k]?.getD 0 : Nat) : Int) - (cc : Int) - (bw : Int) < 0) = false := by simp; omega
            go_wp2
            go_roundw
            case rel =>
              have e3 : (((cs[off + k]?.getD 0 : Nat) : Int) - (cc : Int) - (bw : Int)) = (((cs[off + k]?.getD 0 + 8589934592 - cc % 4294967296 - bw) % 4294967296 : Nat) : Int) := by omega
              rw [e3]
              exact HFin.out _ cc 0 HZ.out (by rw [if_neg (by omega)]) (HOk.out.set_ (off + k) _) (grownBy_trans HGk.out (grownBy_setCellAt _ _ _ _))
            case measure => simp [intOf]
      · obtain rfl : k = n + 1 := by omega
        have hcc : cc = 0 := hcz (by omega)
        have HI3 : Hid (val (sbK (cs.drop off) ys D (n + 1)).1 + V * D = X + 4294967296 ^ (n + 1) * bw) := by
          show _ = _
          have e := sbK_val (xs := ys) (HG.out.drop off) D (n + 1)
          rw [List.take_of_length_le (by rw [HB.out.len]; omega), HV.out, ← HXd.out, ← hcb, hcc, Nat.zero_add] at e
          exact e
        have HOk := Lib.hid hOk
        have HGk := Lib.hid hgk
        have HLn := Lib.hid (sbK_len (cs.drop off) ys D (n + 1))
        have HTg := Lib.hid (sbK_good (cs.drop off) ys D (n + 1))
        clear hcb hcc hcz hOk hgk hkn hk
        go_wp2
        go_loopw [7, 9] (fun q bz wr' => ∃ (qq bb' : Nat) (T : List Nat), q = .int .u64 (qq : Int) ∧ bz = .int .i64 (bb' : Int) ∧ bb' ≤ 1 ∧ qq ≤ 4294967295 ∧ X / V ≤ qq ∧ T.length = n + 1 ∧ Good T ∧ val T + V * qq = X + 4294967296 ^ (n + 1) * bb' ∧ Ob wr' g (spl cs off T) ∧ w.grownBy wr' (some g)) (fun q _ _ => (intOf q).toNat)
        case atStart => exact ⟨D, bw, _, rfl, rfl, hbw, hDq, HXD.out, HLn.out, HTg.out, HI3.out, HOk.out, HGk.out⟩
        case round =>
          obtain ⟨qq, bb', T, rfl, rfl, hb1', hq9, hXq, hTl, hTG, hTv, hOT, hgT⟩ := hrel
          have HTl := Lib.hid hTl
          have HTG := Lib.hid hTG
          have HTv := Lib.hid hTv
          have HXq := Lib.hid hXq
          have HOT := Lib.hid hOT
          have HGT := Lib.hid hgT
          clear hTl hTG hTv hXq hOT hgT
          rcases Nat.eq_zero_or_pos bb' with h0 | h0
          · subst h0
            have HDn := Lib.hid (dg_done hV0 (by have e := HTv.out; rw [Nat.mul_zero, Nat.add_zero] at e; exact e) HXq.out)
            go_wp2
            go_ret
            exact ⟨ret_int (by rw [HDn.out.1]), ⟨T, HTl.out, HTG.out, HDn.out.2, HOT.out⟩, HGT.out⟩
          · obtain rfl : bb' = 1 := by omega
            have hTlt := val_lt HTG.out
            rw [HTl.out] at hTlt
            have hmo := dg_more hV0 (by have e := HTv.out; rw [Nat.mul_one] at e; exact e) hTlt
            have hq1 := hmo.1
            have HXq1 := Lib.hid hmo.2
            clear hmo hTlt
            go_wp2
            go_loopw [10, 13] (fun cy i wj => ∃ k : Nat, k ≤ n + 1 ∧ i = .int .i64 k ∧ cy = .int .u64 ((addK T ys k).2 : Nat) ∧ Ob wj g (spl cs off (spl T 0 (addK T ys k).1)) ∧ w.grownBy wj (some g)) (fun _ i _ => n + 1 - (intOf i).toNat)
            case atStart => exact ⟨0, Nat.zero_le _, rfl, rfl, by show Ob _ g (spl cs off (spl T 0 [])); rw [spl_nil]; exact HOT.out, HGT.out⟩
            case round =>
              obtain ⟨k, hk, rfl, rfl, hOj, hgj⟩ := hrel
              have HOj := Lib.hid hOj
              clear hOj
              have hcar := addK_carry HTG.out HB.out.good k
              have HAl := Lib.hid (addK_len T ys k)
              by_cases hkn : k ≤ n
              · have HMl : Hid ((spl T 0 (addK T ys k).1).length = n + 1) := by show _ = _; rw [spl_len (by rw [HAl.out, HTl.out]; omega), HTl.out]
                have hct := HOj.out.cell (i := off + k) (by have := HOff.out; rw [spl_len (by rw [HMl.out]; omega)]; omega)
                have hge : (spl cs off (spl T 0 (addK T ys k).1))[off + k]?.getD 0 = T[k]?.getD 0 := by
                  rw [spl_get (by have := HOff.out; rw [HMl.out]; omega) (by rw [HMl.out]; omega)]
                  have e := spl_at (cs := T) (off := 0) (ts := (addK T ys k).1) (by rw [HAl.out, HTl.out]; omega)
                  rw [HAl.out, Nat.zero_add] at e
                  exact e
                rw [hge] at hct
                have hfr := HOj.out.frozen (off + k)
                have hTg := HTG.out.get k
                have hyg := HB.out.good.get k
                have HFin : Hid (∀ (wz : World) (E : Int), E = (((addK T ys k).2 + (T[k]?.getD 0 + ys[k]?.getD 0) : Nat) : Int) → Ob wz g ((spl cs off (spl T 0 (addK T ys k).1)).set (off + k) (((addK T ys k).2 + (T[k]?.getD 0 + ys[k]?.getD 0)) % 4294967296)) → w.grownBy wz (some g) →
                    ∃ k' : Nat, k' ≤ n + 1 ∧ Value.int .i64 ((k : Int) + 1) = .int .i64 k' ∧ Value.int .u64 (E / 4294967296) = .int .u64 ((addK T ys k').2 : Nat) ∧ Ob wz g (spl cs off (spl T 0 (addK T ys k').1)) ∧ w.grownBy wz (some g)) := by
                  intro wz E h1 h2 h3
                  refine ⟨k + 1, by omega, by go_num, ?_, ?_, h3⟩
                  · rw [h1]
                    exact congrArg (Value.int IntKind.u64) (Int.natCast_ediv _ _).symm
                  · rw [spl_seti _ (by have := HOff.out; rw [HMl.out]; omega) (by rw [HMl.out]; omega)] at h2
                    have e := spl_set (cs := T) (off := 0) (ts := (addK T ys k).1) (((addK T ys k).2 + (T[k]?.getD 0 + ys[k]?.getD 0)) % 4294967296) (by rw [HAl.out, HTl.out]; omega)
                    rw [HAl.out, Nat.zero_add] at e
                    rw [e] at h2
                    exact h2
                clear hge
                by_cases hkl : k < n
                · obtain ⟨b1', bo1', e1, _, hcy⟩ := (HB.out.grownLt hgj (Nat.le_of_lt hgs)).cell hkl
                  cases e1
                  go_wp2
                  go_roundw
                  case rel =>
                    refine HFin.out _ _ (by omega) ?_ (grownBy_trans hgj (grownBy_setCellAt _ _ _ _))
                    have e := HOj.out.set_ (off + k) (((addK T ys k).2 + (T[k]?.getD 0 + ys[k]?.getD 0)) % 4294967296)
                    have e3 : ((((addK T ys k).2 + (T[k]?.getD 0 + ys[k]?.getD 0)) % 4294967296 : Nat) : Int) = (((addK T ys k).2 : Nat) + ((T[k]?.getD 0 : Nat) : Int) + ((ys[k]?.getD 0 : Nat) : Int)) % 4294967296 := by omega
                    rw [e3] at e
                    exact e
                  case measure => simp [intOf]; omega
                · obtain rfl : k = n := by omega
                  have HZ := Lib.hid (getD_over (xs := ys) (k := k) (by rw [HB.out.len]; omega))
                  go_wp2
                  go_roundw
                  case rel =>
                    have hz := HZ.out
                    refine HFin.out _ _ (by omega) ?_ (grownBy_trans hgj (grownBy_setCellAt _ _ _ _))
                    have e := HOj.out.set_ (off + k) (((addK T ys k).2 + (T[k]?.getD 0 + ys[k]?.getD 0)) % 4294967296)
                    have e3 : ((((addK T ys k).2 + (T[k]?.getD 0 + ys[k]?.getD 0)) % 4294967296 : Nat) : Int) = (((addK T ys k).2 : Nat) + ((T[k]?.getD 0 : Nat) : Int)) % 4294967296 := by omega
                    rw [e3] at e
                    exact e
                  case measure => simp [intOf]
              · obtain rfl : k = n + 1 := by omega
                have HE : Hid (spl T 0 (addK T ys (n + 1)).1 = (addK T ys (n + 1)).1) := by
                  show T.take 0 ++ ((addK T ys (n + 1)).1 ++ T.drop (0 + (addK T ys (n + 1)).1.length)) = _
                  rw [HAl.out, List.drop_of_length_le (by rw [HTl.out]; omega), List.append_nil]; rfl
                have HBk : Hid (val (addK T ys (n + 1)).1 + V * (qq - 1) = X + 4294967296 ^ (n + 1) * (1 - (addK T ys (n + 1)).2)) := by
                  refine dg_back hq1 (by have e := HTv.out; rw [Nat.mul_one] at e; exact e) ?_ hcar
                  rw [addK_val, List.take_of_length_le (by rw [HTl.out]; exact Nat.le_refl _), List.take_of_length_le (by rw [HB.out.len]; omega), HV.out]
                go_wp2
                go_roundw
                case rel =>
                  refine ⟨qq - 1, 1 - (addK T ys (n + 1)).2, (addK T ys (n + 1)).1, by go_num, by go_num, by omega, by omega, HXq1.out, HAl.out, addK_good _ _ _, HBk.out, ?_, hgj⟩
                  have e := HOj.out
                  rw [HE.out] at e
                  exact e
                case measure => simp [intOf]; omega
end Go.Proofs.YtegpckhfncblhaaDoor

/- The reference's over. -/
namespace Go.Proofs.YtegpckhfncblhaaDoor
open Go.RowKit

set_option maxRecDepth 100000 in
set_option maxHeartbeats 1000000 in
theorem rover_less (w : World) (A B : Option Addr) (n m ca cb b v : Nat) (xs : List Nat) (hA : Lm w w.heap.size A n ca xs) (hB : Lm w w.heap.size B m cb (digs b)) (hv : val xs = v) (hC : cmpL xs (digs b) = -1) (hlt : v < b) (hn9 : n ≤ 1000000) :
    Calls Tryd.prog 38 #[.slice A n ca, .slice B m cb] w (RD w (v / b) (v % b)) := by
  have HC := Lib.hid hC
  have HA := Lib.hid hA
  have HB := Lib.hid hB
  have HV := Lib.hid hv
  have hcB := hB.cap
  have hxB := hB.max
  rw [Nat.div_eq_of_lt hlt, Nat.mod_eq_of_lt hlt]
  clear hA hB hlt hv hC
  go_enter Tryd.func38, Tryd.ntmps38
  go_wp2_with fail
  refine (rcompare_any A B n m ca cb xs (digs b) w HA.out HB.out).mono ?_
  rintro e w1 ⟨he, d, rfl⟩
  rw [HC.out] at he
  subst he
  go_wp2_with fail
  refine (rtrim_any _ _ _ _ xs v (HA.out.drewN d) HV.out (by omega)).mono ?_
  rintro e w2 ⟨A2, c2, rfl, hL2, hb2⟩
  go_wp2
  go_ret2
  refine ⟨none, 0, A2, c2, rfl, Lm.nil _ _, hL2, (bdrewN (Below.refl w.heap.size w) d).trans hb2⟩

set_option maxRecDepth 100000 in
set_option maxHeartbeats 1000000 in
theorem rover_one (w : World) (A B : Option Addr) (n ca cb b v : Nat) (xs : List Nat) (hA : Lm w w.heap.size A n ca xs) (hB : Lm w w.heap.size B 1 cb (digs b)) (hv : val xs = v) (hC : 0 ≤ cmpL xs (digs b)) (hn9 : n ≤ 1000000) :
    Calls Tryd.prog 38 #[.slice A n ca, .slice B 1 cb] w (RD w (v / b) (v % b)) := by
  obtain ⟨z, hz, HC⟩ : ∃ z : Int, decide (z < 0) = false ∧ Hid (cmpL xs (digs b) = z) := ⟨_, by simp; omega, rfl⟩
  have hb0 : 0 < b := by rw [← digs_pos, hB.len]; omega
  have hbe : (digs b)[0]?.getD 0 = b := by
    have h1 := val_take_succ' (digs b) 0
    rw [List.take_of_length_le (by rw [hB.len]; omega), digs_val] at h1
    simpa [val_nil] using h1.symm
  have hb9 := hB.good.get 0
  obtain ⟨bb, bo, rfl, hbb, cb1⟩ := hB.cell (k := 0) (by omega)
  rw [hbe] at cb1 hb9
  rw [Nat.add_zero] at cb1
  have hcB := hB.cap
  have hxB := hB.max
  have HA := Lib.hid hA
  have HB := Lib.hid hB
  have HV := Lib.hid hv
  clear hA hB hbe hv hC
  go_enter Tryd.func38, Tryd.ntmps38
  go_wp2_with fail
  refine (rcompare_any A (some ⟨bb, bo, none⟩) n 1 ca cb xs (digs b) w HA.out HB.out).mono ?_
  rintro e w1 ⟨he, d, rfl⟩
  rw [HC.out] at he
  subst he
  go_wp2_with fail
  refine (rshort_any (w.drewN d) A n ca b xs v (HA.out.drewN d) (by omega) hb0 hb9 HV.out).mono ?_
  rintro e w2 ⟨Q, cq, R, cr, rfl, hQ, hR, hb2⟩
  go_wp2
  go_ret2
  exact ⟨Q, cq, R, cr, rfl, hQ, hR, (bdrewN (Below.refl w.heap.size w) d).trans hb2⟩

theorem up_aux {x s l : Nat} (l1 : 1 ≤ l) (l2 : 2 ^ (l - 1) ≤ x) (l3 : x < 2 ^ l) (h1 : 2 ^ 31 ≤ x * 2 ^ s) (h2 : x * 2 ^ s < 2 ^ 32) : s = 32 - l := by
  have m1 := Nat.mul_le_mul_right (2 ^ s) l2
  have m2 := (Nat.mul_lt_mul_right (a := 2 ^ s) (Nat.pow_pos (by decide))).2 l3
  have a1 := Nat.lt_of_le_of_lt m1 h2
  have a2 := Nat.lt_of_le_of_lt h1 m2
  rw [← Nat.pow_add] at a1 a2
  have b1 := (Nat.pow_lt_pow_iff_right (by decide : 1 < 2)).1 a1
  have b2 := (Nat.pow_lt_pow_iff_right (by decide : 1 < 2)).1 a2
  clear a1 a2 m1 m2 h1 h2 l2 l3
  omega
theorem up_of {x s : Nat} (h0 : x ≠ 0) (h : x < 4294967296) (h1 : 2147483648 ≤ x * 2 ^ s) (h2 : x * 2 ^ s < 4294967296) : s = 32 - Lib.bitLen x := by
  have hb := bitLen_bounds h0 h
  generalize Lib.bitLen x = l at hb ⊢
  exact up_aux hb.1 hb.2.1 hb.2.2 h1 h2
/-- A limb more than a number has is 0. -/
theorem take_dgs {ts : List Nat} {V m : Nat} (g : Good ts) (hl : ts.length = m + 1) (hv : val ts = V) (hV : (digs V).length = m) : ts.take m = digs V := by
  have h1 := val_short (xs := ts) (j := m) (by rw [hv]; exact digs_len.1 (Nat.le_of_eq hV))
  exact eq_of_val (g.take m) (digs_good V) (by rw [List.length_take, hl, hV]; omega) (by rw [h1.1, hv, digs_val])
theorem part_whole {rs : List Nat} {m k : Nat} (h : val (rs.drop k) = val ((rs.drop k).take m) + 4294967296 ^ m * rs[k + m]?.getD 0) : val ((rs.drop k).take (m + 1)) = val (rs.drop k) := by
  rw [val_take_succ', List.getElem?_drop]
  exact h.symm
theorem part_done2 {rs P : List Nat} {m k v : Nat} (hP : P.length = m + 1) (hk : k + m < rs.length) (hz : val (rs.drop (k + m + 1)) = 0) (hv : val P = v) :
    val ((spl rs k P).drop k) = v ∧ val (spl rs k P) = val (rs.take k) + 4294967296 ^ k * v := by
  have hl : (rs.take k).length = k := by rw [List.length_take]; omega
  have e : val (P ++ rs.drop (k + P.length)) = v := by
    have hz2 : val (rs.drop (k + P.length)) = 0 := by rw [hP, ← Nat.add_assoc]; exact hz
    rw [val_append, hv, hz2, Nat.mul_zero, Nat.add_zero]
  unfold spl
  constructor
  · rw [List.drop_append_of_le_length (by omega), List.drop_of_length_le (by omega), List.nil_append]
    exact e
  · rw [val_append, hl, e]
end Go.Proofs.YtegpckhfncblhaaDoor

