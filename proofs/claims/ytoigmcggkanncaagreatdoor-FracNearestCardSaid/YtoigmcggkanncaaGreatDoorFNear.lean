
/-
  For any fraction a the law FracNearest returns true: where it is valid and of at most 100 limbs, Floor of package frac is at most a and less than 1 below it, Ceil at least it and less than 1 above it, and Round the nearer one of both, the even one where both are equally near; and the chapter's examples hold. Conditions: the library's table of powers of ten holds what its initialiser lays (the card ties it, and the other listed variables, to the program's text); no other condition.
-/
import Derived.Test.YtoigmcggkanncaaGreatDoorTie
import Derived.Test.YtoigmcggkanncaaGreatDoorCards
import Derived.Test.YtoigmcggkanncaaGreatDoorFC10
/- The walk of the law FracNearest. -/
namespace Go.Proofs.YtoigmcggkanncaaGreatDoor
open Go.RowKit

theorem rsame_ne (w : World) (A B : Option Addr) (n m ca cb : Nat) (x y : Int) (hA : Lm w w.heap.size A n ca (digs x.natAbs)) (hB : Lm w w.heap.size B m cb (digs y.natAbs)) (hne : x ≠ y) {na nb : Bool} (ha : decide (x < 0) = na) (hb : decide (y < 0) = nb) :
    Calls Tryz.prog 34 #[.agg #[.bool na, .slice A n ca], .agg #[.bool nb, .slice B m cb]] w (RBw w false) := by
  subst ha hb
  have h := rsame_any w (decide (x < 0)) (decide (y < 0)) A B n m ca cb _ _ hA hB
  have e : sameB (decide (x < 0)) (digs x.natAbs) (decide (y < 0)) (digs y.natAbs) = false := by
    cases hs : sameB (decide (x < 0)) (digs x.natAbs) (decide (y < 0)) (digs y.natAbs) with
    | false => rfl
    | true =>
      unfold sameB at hs
      rw [Bool.and_eq_true, beq_iff_eq, beq_iff_eq, cmpL_eq (digs_good _) (digs_good _)] at hs
      have e1 : x.natAbs = y.natAbs := by
        have := congrArg val hs.2
        rw [digs_val, digs_val] at this
        exact this
      have e2 : (x < 0) ↔ (y < 0) := by
        have := hs.1
        by_cases h1 : x < 0
        · rw [decide_eq_true h1] at this
          exact ⟨fun _ => of_decide_eq_true this.symm, fun _ => h1⟩
        · rw [decide_eq_false h1] at this
          exact ⟨fun h => absurd h h1, fun h => absurd h (of_decide_eq_false this.symm)⟩
      omega
  rw [e] at h
  exact h
theorem rsame_eq (w : World) (A B : Option Addr) (n m ca cb : Nat) (x y : Int) (hA : Lm w w.heap.size A n ca (digs x.natAbs)) (hB : Lm w w.heap.size B m cb (digs y.natAbs)) (he : x = y) {na nb : Bool} (ha : decide (x < 0) = na) (hb : decide (y < 0) = nb) :
    Calls Tryz.prog 34 #[.agg #[.bool na, .slice A n ca], .agg #[.bool nb, .slice B m cb]] w (RBw w true) := by
  subst he ha hb
  exact rsame_self w _ A B n m ca cb _ hA hB
/-- What floor, ceiling and the rounded number are. -/
theorem near_cases {x P : Int} (hP : 0 < P) : ∃ p q r, x / P = p ∧ ceilZ x P = q ∧ rndZ x P = r ∧ 0 ≤ x - p * P ∧ x - p * P < P ∧ 0 ≤ q * P - x ∧ q * P - x < P ∧
    ((x - p * P < q * P - x ∧ r = p) ∨ (q * P - x < x - p * P ∧ r = q) ∨ (x - p * P = q * P - x ∧ ((p = q ∧ r = p) ∨ (p ≠ q ∧ r % 2 = 0 ∧ (r = p ∨ (r ≠ p ∧ r = q)))))) := by
  refine ⟨_, _, _, rfl, rfl, rfl, ?_⟩
  have h1 := Int.emod_add_mul_ediv x P
  have h2 := Int.emod_nonneg x (show P ≠ 0 by omega)
  have h3 := Int.emod_lt_of_pos x hP
  have e1 : x - x / P * P = x % P := by rw [Int.mul_comm (x / P)]; omega
  have e2 : (x / P + 1) * P = x / P * P + P := by rw [Int.add_mul, Int.one_mul]
  unfold ceilZ rndZ
  rw [e1]
  generalize x / P = p at *
  generalize x % P = t at *
  by_cases ht : t = 0
  · rw [if_pos ht, if_pos (show 2 * t < P by omega)]
    exact ⟨by omega, by omega, by omega, by omega, .inr (.inr ⟨by omega, .inl ⟨rfl, rfl⟩⟩)⟩
  · rw [if_neg ht, e2]
    refine ⟨by omega, by omega, by omega, by omega, ?_⟩
    by_cases h4 : 2 * t < P
    · rw [if_pos h4]
      exact .inl ⟨by omega, rfl⟩
    · rw [if_neg h4]
      by_cases h5 : 2 * t = P
      · refine .inr (.inr ⟨by omega, .inr ⟨by omega, ?_⟩⟩)
        by_cases h6 : p % 2 = 0
        · rw [if_pos ⟨h5, h6⟩]
          exact ⟨h6, .inl rfl⟩
        · rw [if_neg (fun h => h6 h.2)]
          exact ⟨by omega, .inr ⟨by omega, rfl⟩⟩
      · rw [if_neg (fun h => h5 h.1)]
        exact .inr (.inl ⟨by omega, rfl⟩)
theorem cmpZ_lt {a b : Int} (h : a < b) : cmpZ a b = -1 := by unfold cmpZ; rw [if_pos h]
theorem cmpZ_eq {a b : Int} (h : a = b) : cmpZ a b = 0 := by unfold cmpZ; rw [if_neg (by omega), if_pos h]
theorem cmpZ_gt {a b : Int} (h : b < a) : cmpZ a b = 1 := by unfold cmpZ; rw [if_neg (by omega), if_neg (by omega)]
theorem ceil_sz {k : Nat} {x P : Int} (hx : Sz k x) (hP : 0 < P) : Sz (k + 1) (ceilZ x P) := by
  have h1 := ediv_abs (x := x) hP
  have h2 : (ceilZ x P).natAbs ≤ x.natAbs + 1 := by
    unfold ceilZ
    split
    · omega
    · exact h1.2
  have h3 : x.natAbs < 4294967296 ^ k := hx
  show (ceilZ x P).natAbs < 4294967296 ^ (k + 1)
  have h4 : 4294967296 ^ (k + 1) = 4294967296 ^ k * 4294967296 := Nat.pow_succ ..
  have h5 : 0 < 4294967296 ^ k := Nat.pow_pos (by omega)
  omega
set_option maxRecDepth 100000 in
set_option maxHeartbeats 8000000 in
theorem near_out0 (w : World) (na nb : Bool) (A B : Option Addr) (n m ca cb : Nat) (xs ys : List Nat) (hA : Lm w w.heap.size A n ca xs) (hB : Lm w w.heap.size B m cb ys) (hU : TabU w) (hg : 130 < n ∨ 130 < m) :
    Calls Tryz.prog 6 #[fv na A n ca nb B m cb] w (RBw w true) := by
  have HG : Hid ((decide (130 < n) || decide (130 < m)) = true) := by
    show _ = _
    simp
    omega
  clear hg
  have QF := Lib.hid (Qd.new w w.heap.size rfl (.bool na) (.slice A n ca) (.bool nb) (.slice B m cb) 29)
  have BX : Hid (Below w.heap.size w (w.alloc (.cells #[.bool na, .slice A n ca, .bool nb, .slice B m cb] 29))) := below_alloc (Below.refl _ _) _
  have LA := Lib.hid (hA.via BX.out)
  have LB := Lib.hid (hB.via BX.out)
  have hq1 := hA.cap
  have hq2 := hA.max
  have hq3 := hB.cap
  have hq4 := hB.max
  have HU := Lib.hid (hU.via BX.out)
  clear hA hB hU
  go_enter Tryz.func6, Tryz.ntmps6
  go_upto_region 1 with (fail)
  generalize w.alloc (.cells #[.bool na, .slice A n ca, .bool nb, .slice B m cb] 29) = W0 at *
  go_wp2_with fail
  refine (lalive_w _ HU.out).mono ?_
  rintro e w1 ⟨rfl, hb⟩
  replace QF := Lib.hid (QF.out.via hb)
  replace LA := Lib.hid (LA.out.via hb)
  replace LB := Lib.hid (LB.out.via hb)
  replace BX := Lib.hid (btr BX.out hb)
  clear hb
  clear HU
  have ⟨fa0, fa1, fa2, fa3, fa4, fa5, fa6, fa7, fa8⟩ := QF.out
  go_wp2_with fail
  clear fa0 fa1 fa2 fa3 fa4 fa5 fa6 fa7 fa8
  refine (fgreat_any _ na nb A B n m ca cb hq1 hq2 hq3 hq4).mono ?_
  rintro e w2 ⟨rfl, hb⟩
  replace QF := Lib.hid (QF.out.via hb)
  replace LA := Lib.hid (LA.out.via hb)
  replace LB := Lib.hid (LB.out.via hb)
  replace BX := Lib.hid (btr BX.out hb)
  clear hb
  rw [HG.out]
  go_wp2
  go_ret
  exact ⟨rfl, BX.out⟩
set_option maxRecDepth 100000 in
set_option maxHeartbeats 8000000 in
theorem near_out1 (w : World) (na nb : Bool) (A B : Option Addr) (n m ca cb : Nat) (xs ys : List Nat) (hA : Lm w w.heap.size A n ca xs) (hB : Lm w w.heap.size B m cb ys) (hU : TabU w) (hg : ¬ (130 < n ∨ 130 < m)) (hc : fchk na xs nb ys = 8) :
    Calls Tryz.prog 6 #[fv na A n ca nb B m cb] w (RBw w true) := by
  have HG : Hid ((decide (130 < n) || decide (130 < m)) = false) := by
    show _ = _
    simp
    omega
  clear hg
  have HC := Lib.hid hc
  clear hc
  have QF := Lib.hid (Qd.new w w.heap.size rfl (.bool na) (.slice A n ca) (.bool nb) (.slice B m cb) 29)
  have BX : Hid (Below w.heap.size w (w.alloc (.cells #[.bool na, .slice A n ca, .bool nb, .slice B m cb] 29))) := below_alloc (Below.refl _ _) _
  have LA := Lib.hid (hA.via BX.out)
  have LB := Lib.hid (hB.via BX.out)
  have hq1 := hA.cap
  have hq2 := hA.max
  have hq3 := hB.cap
  have hq4 := hB.max
  have HU := Lib.hid (hU.via BX.out)
  clear hA hB hU
  go_enter Tryz.func6, Tryz.ntmps6
  go_upto_region 1 with (fail)
  generalize w.alloc (.cells #[.bool na, .slice A n ca, .bool nb, .slice B m cb] 29) = W0 at *
  go_wp2_with fail
  refine (lalive_w _ HU.out).mono ?_
  rintro e w1 ⟨rfl, hb⟩
  replace QF := Lib.hid (QF.out.via hb)
  replace LA := Lib.hid (LA.out.via hb)
  replace LB := Lib.hid (LB.out.via hb)
  replace BX := Lib.hid (btr BX.out hb)
  clear hb
  clear HU
  have ⟨fa0, fa1, fa2, fa3, fa4, fa5, fa6, fa7, fa8⟩ := QF.out
  go_wp2_with fail
  clear fa0 fa1 fa2 fa3 fa4 fa5 fa6 fa7 fa8
  refine (fgreat_any _ na nb A B n m ca cb hq1 hq2 hq3 hq4).mono ?_
  rintro e w2 ⟨rfl, hb⟩
  replace QF := Lib.hid (QF.out.via hb)
  replace LA := Lib.hid (LA.out.via hb)
  replace LB := Lib.hid (LB.out.via hb)
  replace BX := Lib.hid (btr BX.out hb)
  clear hb
  rw [HG.out]
  have ⟨fa0, fa1, fa2, fa3, fa4, fa5, fa6, fa7, fa8⟩ := QF.out
  go_wp2_with fail
  clear fa0 fa1 fa2 fa3 fa4 fa5 fa6 fa7 fa8
  refine (rfcheck_any _ na nb A B n m ca cb xs ys LA.out LB.out).mono ?_
  rintro e w3 ⟨rfl, hb⟩
  replace QF := Lib.hid (QF.out.via hb)
  replace LA := Lib.hid (LA.out.via hb)
  replace LB := Lib.hid (LB.out.via hb)
  replace BX := Lib.hid (btr BX.out hb)
  clear hb
  rw [HC.out]
  go_wp2
  go_ret
  exact ⟨rfl, BX.out⟩
set_option maxRecDepth 100000 in
set_option maxHeartbeats 8000000 in
theorem near_out2 (w : World) (na nb : Bool) (A B : Option Addr) (n m ca cb : Nat) (xs ys : List Nat) (hA : Lm w w.heap.size A n ca xs) (hB : Lm w w.heap.size B m cb ys) (hU : TabU w) (hg : ¬ (130 < n ∨ 130 < m)) (hc : fchk na xs nb ys = 0) (hf : 100 < max n m) :
    Calls Tryz.prog 6 #[fv na A n ca nb B m cb] w (RBw w true) := by
  have HG : Hid ((decide (130 < n) || decide (130 < m)) = false) := by
    show _ = _
    simp
    omega
  clear hg
  have HC := Lib.hid hc
  clear hc
  obtain ⟨M, hM⟩ : ∃ M, max n m = M := ⟨_, rfl⟩
  rw [hM] at hf
  have HM := Lib.hid hM
  have hf2 : (100 : Int) < (M : Int) := by omega
  clear hM hf
  have QF := Lib.hid (Qd.new w w.heap.size rfl (.bool na) (.slice A n ca) (.bool nb) (.slice B m cb) 29)
  have BX : Hid (Below w.heap.size w (w.alloc (.cells #[.bool na, .slice A n ca, .bool nb, .slice B m cb] 29))) := below_alloc (Below.refl _ _) _
  have LA := Lib.hid (hA.via BX.out)
  have LB := Lib.hid (hB.via BX.out)
  have hq1 := hA.cap
  have hq2 := hA.max
  have hq3 := hB.cap
  have hq4 := hB.max
  have HU := Lib.hid (hU.via BX.out)
  clear hA hB hU
  go_enter Tryz.func6, Tryz.ntmps6
  go_upto_region 1 with (fail)
  generalize w.alloc (.cells #[.bool na, .slice A n ca, .bool nb, .slice B m cb] 29) = W0 at *
  go_wp2_with fail
  refine (lalive_w _ HU.out).mono ?_
  rintro e w1 ⟨rfl, hb⟩
  replace QF := Lib.hid (QF.out.via hb)
  replace LA := Lib.hid (LA.out.via hb)
  replace LB := Lib.hid (LB.out.via hb)
  replace BX := Lib.hid (btr BX.out hb)
  clear hb
  clear HU
  have ⟨fa0, fa1, fa2, fa3, fa4, fa5, fa6, fa7, fa8⟩ := QF.out
  go_wp2_with fail
  clear fa0 fa1 fa2 fa3 fa4 fa5 fa6 fa7 fa8
  refine (fgreat_any _ na nb A B n m ca cb hq1 hq2 hq3 hq4).mono ?_
  rintro e w2 ⟨rfl, hb⟩
  replace QF := Lib.hid (QF.out.via hb)
  replace LA := Lib.hid (LA.out.via hb)
  replace LB := Lib.hid (LB.out.via hb)
  replace BX := Lib.hid (btr BX.out hb)
  clear hb
  rw [HG.out]
  have ⟨fa0, fa1, fa2, fa3, fa4, fa5, fa6, fa7, fa8⟩ := QF.out
  go_wp2_with fail
  clear fa0 fa1 fa2 fa3 fa4 fa5 fa6 fa7 fa8
  refine (rfcheck_any _ na nb A B n m ca cb xs ys LA.out LB.out).mono ?_
  rintro e w3 ⟨rfl, hb⟩
  replace QF := Lib.hid (QF.out.via hb)
  replace LA := Lib.hid (LA.out.via hb)
  replace LB := Lib.hid (LB.out.via hb)
  replace BX := Lib.hid (btr BX.out hb)
  clear hb
  rw [HC.out]
  have ⟨fa0, fa1, fa2, fa3, fa4, fa5, fa6, fa7, fa8⟩ := QF.out
  go_wp2_with fail
  clear fa0 fa1 fa2 fa3 fa4 fa5 fa6 fa7 fa8
  refine (few_any _ na nb A B n m ca cb).mono ?_
  rintro e w4 ⟨rfl, hb⟩
  replace QF := Lib.hid (QF.out.via hb)
  replace LA := Lib.hid (LA.out.via hb)
  replace LB := Lib.hid (LB.out.via hb)
  replace BX := Lib.hid (btr BX.out hb)
  clear hb
  rw [HM.out]
  go_wp2
  go_ret
  exact ⟨rfl, BX.out⟩
set_option maxRecDepth 100000 in
set_option maxHeartbeats 8000000 in
theorem near_in (w : World) (na : Bool) (A B : Option Addr) (n m ca cb : Nat) (x P : Int) (hA : Lm w w.heap.size A n ca (digs x.natAbs)) (hB : Lm w w.heap.size B m cb (digs P.natAbs)) (hU : TabU w) (hg : ¬ (130 < n ∨ 130 < m)) (hf : max n m ≤ 100) (hx : Sz 100 x) (hP : Sz 100 P) (hP0 : 0 < P) (ha : decide (x < 0) = na) (hc : fchk na (digs x.natAbs) false (digs P.natAbs) = 0) :
    Calls Tryz.prog 6 #[fv na A n ca false B m cb] w (RBw w true) := by
  have HG : Hid ((decide (130 < n) || decide (130 < m)) = false) := by
    show _ = _
    simp
    omega
  obtain ⟨M, hM⟩ : ∃ M, max n m = M := ⟨_, rfl⟩
  rw [hM] at hf
  have HM := Lib.hid hM
  have hf2 : decide ((100 : Int) < (M : Int)) = false := decide_eq_false (by omega)
  clear hM hf
  have HX := Lib.hid hx
  have HP := Lib.hid hP
  have HP0 := Lib.hid hP0
  have HNa := Lib.hid ha
  have HC := Lib.hid hc
  clear hx hP ha hc hg
  obtain ⟨p, q, r, ep, eq, er, u1, u2, u3, u4, hcase⟩ := near_cases (x := x) hP0
  have SP : Hid (Sz 100 p) := by
    show Sz 100 p
    have h1 := (ediv_abs (x := x) hP0).1
    rw [ep] at h1
    have h2 := HX.out
    unfold Sz at *
    omega
  have SQ : Hid (Sz 101 q) := by
    have := ceil_sz HX.out hP0
    rw [eq] at this
    exact this
  have EP := Lib.hid ep
  have EQ := Lib.hid eq
  have ER := Lib.hid er
  have HNb : Hid (decide (P < 0) = false) := decide_eq_false (by omega)
  clear ep eq er hP0
  have QF := Lib.hid (Qd.new w w.heap.size rfl (.bool na) (.slice A n ca) (.bool false) (.slice B m cb) 29)
  have BX : Hid (Below w.heap.size w (w.alloc (.cells #[.bool na, .slice A n ca, .bool false, .slice B m cb] 29))) := below_alloc (Below.refl _ _) _
  have LA := Lib.hid (hA.via BX.out)
  have LB := Lib.hid (hB.via BX.out)
  have hq1 := hA.cap
  have hq2 := hA.max
  have hq3 := hB.cap
  have hq4 := hB.max
  have HU := Lib.hid (hU.via BX.out)
  clear hA hB hU
  go_enter Tryz.func6, Tryz.ntmps6
  go_upto_region 1 with (fail)
  generalize w.alloc (.cells #[.bool na, .slice A n ca, .bool false, .slice B m cb] 29) = W0 at *
  go_wp2_with fail
  refine (lalive_w _ HU.out).mono ?_
  rintro e w1 ⟨rfl, hb⟩
  replace QF := Lib.hid (QF.out.via hb)
  replace LA := Lib.hid (LA.out.via hb)
  replace LB := Lib.hid (LB.out.via hb)
  replace BX := Lib.hid (btr BX.out hb)
  clear hb
  clear HU
  have ⟨fa0, fa1, fa2, fa3, fa4, fa5, fa6, fa7, fa8⟩ := QF.out
  go_wp2_with fail
  clear fa0 fa1 fa2 fa3 fa4 fa5 fa6 fa7 fa8
  refine (fgreat_any _ na false A B n m ca cb hq1 hq2 hq3 hq4).mono ?_
  rintro e w2 ⟨rfl, hb⟩
  replace QF := Lib.hid (QF.out.via hb)
  replace LA := Lib.hid (LA.out.via hb)
  replace LB := Lib.hid (LB.out.via hb)
  replace BX := Lib.hid (btr BX.out hb)
  clear hb
  rw [HG.out]
  have ⟨fa0, fa1, fa2, fa3, fa4, fa5, fa6, fa7, fa8⟩ := QF.out
  go_wp2_with fail
  clear fa0 fa1 fa2 fa3 fa4 fa5 fa6 fa7 fa8
  refine (rfcheck_any _ na false A B n m ca cb _ _ LA.out LB.out).mono ?_
  rintro e w3 ⟨rfl, hb⟩
  replace QF := Lib.hid (QF.out.via hb)
  replace LA := Lib.hid (LA.out.via hb)
  replace LB := Lib.hid (LB.out.via hb)
  replace BX := Lib.hid (btr BX.out hb)
  clear hb
  rw [HC.out]
  have ⟨fa0, fa1, fa2, fa3, fa4, fa5, fa6, fa7, fa8⟩ := QF.out
  go_wp2_with fail
  clear fa0 fa1 fa2 fa3 fa4 fa5 fa6 fa7 fa8
  refine (few_any _ na false A B n m ca cb).mono ?_
  rintro e w4 ⟨rfl, hb⟩
  replace QF := Lib.hid (QF.out.via hb)
  replace LA := Lib.hid (LA.out.via hb)
  replace LB := Lib.hid (LB.out.via hb)
  replace BX := Lib.hid (btr BX.out hb)
  clear hb
  rw [HM.out]
  have HR := fun W (h1 : Lm W W.heap.size A n ca (digs x.natAbs)) (h2 : Lm W W.heap.size B m cb (digs P.natAbs)) => ffloor_n W A B n m ca cb 100 x P h1 h2 HX.out HP.out (by omega) (by omega) HNa.out HP0.out HC.out
  rw [EP.out] at HR
  have HRh := Lib.hid HR
  clear HR
  have ⟨fa0, fa1, fa2, fa3, fa4, fa5, fa6, fa7, fa8⟩ := QF.out
  go_wp2_with fail
  clear fa0 fa1 fa2 fa3 fa4 fa5 fa6 fa7 fa8
  refine (HRh.out _ LA.out LB.out).mono ?_
  rintro e w5 ⟨A1, n1, c1, rfl, hL, hb⟩
  replace QF := Lib.hid (QF.out.via hb)
  replace LA := Lib.hid (LA.out.via hb)
  replace LB := Lib.hid (LB.out.via hb)
  replace BX := Lib.hid (btr BX.out hb)
  have L1 := Lib.hid hL
  clear hb hL
  obtain ⟨s1, hs⟩ : ∃ b, decide (p < 0) = b := ⟨_, rfl⟩
  rw [hs]
  have HS1 := Lib.hid hs
  clear hs
  go_upto_region 5 with (fail)
  have P1 := Lib.hid (Pr.new w5 _ rfl (.bool s1) (.slice A1 n1 c1) 24)
  replace QF := Lib.hid (QF.out.alloc (.cells #[.bool s1, .slice A1 n1 c1] 24))
  replace LA := Lib.hid (LA.out.box (.cells #[.bool s1, .slice A1 n1 c1] 24))
  replace LB := Lib.hid (LB.out.box (.cells #[.bool s1, .slice A1 n1 c1] 24))
  replace L1 := Lib.hid (L1.out.box (.cells #[.bool s1, .slice A1 n1 c1] 24))
  replace BX := Lib.hid (below_alloc BX.out (.cells #[.bool s1, .slice A1 n1 c1] 24))
  generalize w5.heap.size = g1 at *
  generalize w5.alloc (.cells #[.bool s1, .slice A1 n1 c1] 24) = V5 at *
  clear HRh
  have HR := fun W (h1 : Lm W W.heap.size A n ca (digs x.natAbs)) (h2 : Lm W W.heap.size B m cb (digs P.natAbs)) => fceil_n W A B n m ca cb 100 x P h1 h2 HX.out HP.out (by omega) (by omega) HNa.out HP0.out HC.out
  rw [EQ.out] at HR
  have HRh := Lib.hid HR
  clear HR
  have ⟨fa0, fa1, fa2, fa3, fa4, fa5, fa6, fa7, fa8⟩ := QF.out
  go_wp2_with fail
  clear fa0 fa1 fa2 fa3 fa4 fa5 fa6 fa7 fa8
  refine (HRh.out _ LA.out LB.out).mono ?_
  rintro e w6 ⟨A2, n2, c2, rfl, hL, hb⟩
  replace QF := Lib.hid (QF.out.via hb)
  replace LA := Lib.hid (LA.out.via hb)
  replace LB := Lib.hid (LB.out.via hb)
  replace L1 := Lib.hid (L1.out.via hb)
  replace P1 := Lib.hid (P1.out.via hb)
  replace BX := Lib.hid (btr BX.out hb)
  have L2 := Lib.hid hL
  clear hb hL
  obtain ⟨s2, hs⟩ : ∃ b, decide (q < 0) = b := ⟨_, rfl⟩
  rw [hs]
  have HS2 := Lib.hid hs
  clear hs
  go_upto_region 6 with (fail)
  have P2 := Lib.hid (Pr.new w6 _ rfl (.bool s2) (.slice A2 n2 c2) 24)
  replace QF := Lib.hid (QF.out.alloc (.cells #[.bool s2, .slice A2 n2 c2] 24))
  replace LA := Lib.hid (LA.out.box (.cells #[.bool s2, .slice A2 n2 c2] 24))
  replace LB := Lib.hid (LB.out.box (.cells #[.bool s2, .slice A2 n2 c2] 24))
  replace L1 := Lib.hid (L1.out.box (.cells #[.bool s2, .slice A2 n2 c2] 24))
  replace P1 := Lib.hid (P1.out.alloc (.cells #[.bool s2, .slice A2 n2 c2] 24))
  replace L2 := Lib.hid (L2.out.box (.cells #[.bool s2, .slice A2 n2 c2] 24))
  replace BX := Lib.hid (below_alloc BX.out (.cells #[.bool s2, .slice A2 n2 c2] 24))
  generalize w6.heap.size = g2 at *
  generalize w6.alloc (.cells #[.bool s2, .slice A2 n2 c2] 24) = V6 at *
  clear HRh
  have HR := fun W (h1 : Lm W W.heap.size A n ca (digs x.natAbs)) (h2 : Lm W W.heap.size B m cb (digs P.natAbs)) => fround_n W A B n m ca cb 100 x P h1 h2 HX.out HP.out (by omega) (by omega) HNa.out HP0.out HC.out
  rw [ER.out] at HR
  have HRh := Lib.hid HR
  clear HR
  have ⟨fa0, fa1, fa2, fa3, fa4, fa5, fa6, fa7, fa8⟩ := QF.out
  go_wp2_with fail
  clear fa0 fa1 fa2 fa3 fa4 fa5 fa6 fa7 fa8
  refine (HRh.out _ LA.out LB.out).mono ?_
  rintro e w7 ⟨A3, n3, c3, rfl, hL, hb⟩
  replace QF := Lib.hid (QF.out.via hb)
  replace LA := Lib.hid (LA.out.via hb)
  replace LB := Lib.hid (LB.out.via hb)
  replace L1 := Lib.hid (L1.out.via hb)
  replace P1 := Lib.hid (P1.out.via hb)
  replace L2 := Lib.hid (L2.out.via hb)
  replace P2 := Lib.hid (P2.out.via hb)
  replace BX := Lib.hid (btr BX.out hb)
  have L3 := Lib.hid hL
  clear hb hL
  obtain ⟨s3, hs⟩ : ∃ b, decide (r < 0) = b := ⟨_, rfl⟩
  rw [hs]
  have HS3 := Lib.hid hs
  clear hs
  go_upto_region 7 with (fail)
  have P3 := Lib.hid (Pr.new w7 _ rfl (.bool s3) (.slice A3 n3 c3) 24)
  replace QF := Lib.hid (QF.out.alloc (.cells #[.bool s3, .slice A3 n3 c3] 24))
  replace LA := Lib.hid (LA.out.box (.cells #[.bool s3, .slice A3 n3 c3] 24))
  replace LB := Lib.hid (LB.out.box (.cells #[.bool s3, .slice A3 n3 c3] 24))
  replace L1 := Lib.hid (L1.out.box (.cells #[.bool s3, .slice A3 n3 c3] 24))
  replace P1 := Lib.hid (P1.out.alloc (.cells #[.bool s3, .slice A3 n3 c3] 24))
  replace L2 := Lib.hid (L2.out.box (.cells #[.bool s3, .slice A3 n3 c3] 24))
  replace P2 := Lib.hid (P2.out.alloc (.cells #[.bool s3, .slice A3 n3 c3] 24))
  replace L3 := Lib.hid (L3.out.box (.cells #[.bool s3, .slice A3 n3 c3] 24))
  replace BX := Lib.hid (below_alloc BX.out (.cells #[.bool s3, .slice A3 n3 c3] 24))
  generalize w7.heap.size = g3 at *
  generalize w7.alloc (.cells #[.bool s3, .slice A3 n3 c3] 24) = V7 at *
  clear HRh
  have ⟨fa0, fa1, fa2, fa3, fa4⟩ := P1.out
  go_wp2_with fail
  clear fa0 fa1 fa2 fa3 fa4
  refine (rcheck_n _ A1 n1 c1 100 p L1.out SP.out (by omega) HS1.out).mono ?_
  rintro e w8 ⟨rfl, hb⟩
  replace QF := Lib.hid (QF.out.via hb)
  replace LA := Lib.hid (LA.out.via hb)
  replace LB := Lib.hid (LB.out.via hb)
  replace L1 := Lib.hid (L1.out.via hb)
  replace P1 := Lib.hid (P1.out.via hb)
  replace L2 := Lib.hid (L2.out.via hb)
  replace P2 := Lib.hid (P2.out.via hb)
  replace L3 := Lib.hid (L3.out.via hb)
  replace P3 := Lib.hid (P3.out.via hb)
  replace BX := Lib.hid (btr BX.out hb)
  clear hb
  have ⟨fa0, fa1, fa2, fa3, fa4⟩ := P2.out
  go_wp2_with fail
  clear fa0 fa1 fa2 fa3 fa4
  refine (rcheck_n _ A2 n2 c2 101 q L2.out SQ.out (by omega) HS2.out).mono ?_
  rintro e w9 ⟨rfl, hb⟩
  replace QF := Lib.hid (QF.out.via hb)
  replace LA := Lib.hid (LA.out.via hb)
  replace LB := Lib.hid (LB.out.via hb)
  replace L1 := Lib.hid (L1.out.via hb)
  replace P1 := Lib.hid (P1.out.via hb)
  replace L2 := Lib.hid (L2.out.via hb)
  replace P2 := Lib.hid (P2.out.via hb)
  replace L3 := Lib.hid (L3.out.via hb)
  replace P3 := Lib.hid (P3.out.via hb)
  replace BX := Lib.hid (btr BX.out hb)
  clear hb
  have ⟨fa0, fa1, fa2, fa3, fa4⟩ := P1.out
  have ⟨fb0, fb1, fb2, fb3, fb4, fb5, fb6, fb7, fb8⟩ := QF.out
  go_wp2_with fail
  clear fa0 fa1 fa2 fa3 fa4
  clear fb0 fb1 fb2 fb3 fb4 fb5 fb6 fb7 fb8
  refine (rmul_n _ A1 B n1 m c1 cb 100 p P L1.out LB.out SP.out HP.out (by omega) HS1.out HNb.out).mono ?_
  rintro e w10 ⟨A4, n4, c4, rfl, hL, hb⟩
  replace QF := Lib.hid (QF.out.via hb)
  replace LA := Lib.hid (LA.out.via hb)
  replace LB := Lib.hid (LB.out.via hb)
  replace L1 := Lib.hid (L1.out.via hb)
  replace P1 := Lib.hid (P1.out.via hb)
  replace L2 := Lib.hid (L2.out.via hb)
  replace P2 := Lib.hid (P2.out.via hb)
  replace L3 := Lib.hid (L3.out.via hb)
  replace P3 := Lib.hid (P3.out.via hb)
  replace BX := Lib.hid (btr BX.out hb)
  have L4 := Lib.hid hL
  clear hb hL
  obtain ⟨s4, hs⟩ : ∃ b, decide (p * P < 0) = b := ⟨_, rfl⟩
  rw [hs]
  have HS4 := Lib.hid hs
  clear hs
  go_upto_region 10 with (fail)
  have P4 := Lib.hid (Pr.new w10 _ rfl (.bool s4) (.slice A4 n4 c4) 24)
  replace QF := Lib.hid (QF.out.alloc (.cells #[.bool s4, .slice A4 n4 c4] 24))
  replace LA := Lib.hid (LA.out.box (.cells #[.bool s4, .slice A4 n4 c4] 24))
  replace LB := Lib.hid (LB.out.box (.cells #[.bool s4, .slice A4 n4 c4] 24))
  replace L1 := Lib.hid (L1.out.box (.cells #[.bool s4, .slice A4 n4 c4] 24))
  replace P1 := Lib.hid (P1.out.alloc (.cells #[.bool s4, .slice A4 n4 c4] 24))
  replace L2 := Lib.hid (L2.out.box (.cells #[.bool s4, .slice A4 n4 c4] 24))
  replace P2 := Lib.hid (P2.out.alloc (.cells #[.bool s4, .slice A4 n4 c4] 24))
  replace L3 := Lib.hid (L3.out.box (.cells #[.bool s4, .slice A4 n4 c4] 24))
  replace P3 := Lib.hid (P3.out.alloc (.cells #[.bool s4, .slice A4 n4 c4] 24))
  replace L4 := Lib.hid (L4.out.box (.cells #[.bool s4, .slice A4 n4 c4] 24))
  replace BX := Lib.hid (below_alloc BX.out (.cells #[.bool s4, .slice A4 n4 c4] 24))
  generalize w10.heap.size = g4 at *
  generalize w10.alloc (.cells #[.bool s4, .slice A4 n4 c4] 24) = V10 at *
  have ⟨fa0, fa1, fa2, fa3, fa4⟩ := P2.out
  have ⟨fb0, fb1, fb2, fb3, fb4, fb5, fb6, fb7, fb8⟩ := QF.out
  go_wp2_with fail
  clear fa0 fa1 fa2 fa3 fa4
  clear fb0 fb1 fb2 fb3 fb4 fb5 fb6 fb7 fb8
  refine (rmul_n _ A2 B n2 m c2 cb 101 q P L2.out LB.out SQ.out (HP.out.mono (by omega)) (by omega) HS2.out HNb.out).mono ?_
  rintro e w11 ⟨A5, n5, c5, rfl, hL, hb⟩
  replace QF := Lib.hid (QF.out.via hb)
  replace LA := Lib.hid (LA.out.via hb)
  replace LB := Lib.hid (LB.out.via hb)
  replace L1 := Lib.hid (L1.out.via hb)
  replace P1 := Lib.hid (P1.out.via hb)
  replace L2 := Lib.hid (L2.out.via hb)
  replace P2 := Lib.hid (P2.out.via hb)
  replace L3 := Lib.hid (L3.out.via hb)
  replace P3 := Lib.hid (P3.out.via hb)
  replace L4 := Lib.hid (L4.out.via hb)
  replace P4 := Lib.hid (P4.out.via hb)
  replace BX := Lib.hid (btr BX.out hb)
  have L5 := Lib.hid hL
  clear hb hL
  obtain ⟨s5, hs⟩ : ∃ b, decide (q * P < 0) = b := ⟨_, rfl⟩
  rw [hs]
  have HS5 := Lib.hid hs
  clear hs
  go_upto_region 11 with (fail)
  have P5 := Lib.hid (Pr.new w11 _ rfl (.bool s5) (.slice A5 n5 c5) 24)
  replace QF := Lib.hid (QF.out.alloc (.cells #[.bool s5, .slice A5 n5 c5] 24))
  replace LA := Lib.hid (LA.out.box (.cells #[.bool s5, .slice A5 n5 c5] 24))
  replace LB := Lib.hid (LB.out.box (.cells #[.bool s5, .slice A5 n5 c5] 24))
  replace L1 := Lib.hid (L1.out.box (.cells #[.bool s5, .slice A5 n5 c5] 24))
  replace P1 := Lib.hid (P1.out.alloc (.cells #[.bool s5, .slice A5 n5 c5] 24))
  replace L2 := Lib.hid (L2.out.box (.cells #[.bool s5, .slice A5 n5 c5] 24))
  replace P2 := Lib.hid (P2.out.alloc (.cells #[.bool s5, .slice A5 n5 c5] 24))
  replace L3 := Lib.hid (L3.out.box (.cells #[.bool s5, .slice A5 n5 c5] 24))
  replace P3 := Lib.hid (P3.out.alloc (.cells #[.bool s5, .slice A5 n5 c5] 24))
  replace L4 := Lib.hid (L4.out.box (.cells #[.bool s5, .slice A5 n5 c5] 24))
  replace P4 := Lib.hid (P4.out.alloc (.cells #[.bool s5, .slice A5 n5 c5] 24))
  replace L5 := Lib.hid (L5.out.box (.cells #[.bool s5, .slice A5 n5 c5] 24))
  replace BX := Lib.hid (below_alloc BX.out (.cells #[.bool s5, .slice A5 n5 c5] 24))
  generalize w11.heap.size = g5 at *
  generalize w11.alloc (.cells #[.bool s5, .slice A5 n5 c5] 24) = V11 at *
  have SPP : Hid (Sz 202 (p * P)) := (SP.out.mul HP.out).mono (by omega)
  have SQP : Hid (Sz 202 (q * P)) := (SQ.out.mul HP.out).mono (by omega)
  have SX : Hid (Sz 202 x) := HX.out.mono (by omega)
  have ⟨fa0, fa1, fa2, fa3, fa4, fa5, fa6, fa7, fa8⟩ := QF.out
  have ⟨fb0, fb1, fb2, fb3, fb4⟩ := P4.out
  go_wp2_with fail
  clear fa0 fa1 fa2 fa3 fa4 fa5 fa6 fa7 fa8
  clear fb0 fb1 fb2 fb3 fb4
  refine (rsub_n _ A A4 n n4 ca c4 202 x (p * P) LA.out L4.out SX.out SPP.out (by omega) HNa.out HS4.out).mono ?_
  rintro e w12 ⟨A6, n6, c6, rfl, hL, hb⟩
  replace QF := Lib.hid (QF.out.via hb)
  replace LA := Lib.hid (LA.out.via hb)
  replace LB := Lib.hid (LB.out.via hb)
  replace L1 := Lib.hid (L1.out.via hb)
  replace P1 := Lib.hid (P1.out.via hb)
  replace L2 := Lib.hid (L2.out.via hb)
  replace P2 := Lib.hid (P2.out.via hb)
  replace L3 := Lib.hid (L3.out.via hb)
  replace P3 := Lib.hid (P3.out.via hb)
  replace L4 := Lib.hid (L4.out.via hb)
  replace P4 := Lib.hid (P4.out.via hb)
  replace L5 := Lib.hid (L5.out.via hb)
  replace P5 := Lib.hid (P5.out.via hb)
  replace BX := Lib.hid (btr BX.out hb)
  have L6 := Lib.hid hL
  clear hb hL
  obtain ⟨s6, hs⟩ : ∃ b, decide (x - p * P < 0) = b := ⟨_, rfl⟩
  rw [hs]
  have HS6 := Lib.hid hs
  clear hs
  go_upto_region 12 with (fail)
  have P6 := Lib.hid (Pr.new w12 _ rfl (.bool s6) (.slice A6 n6 c6) 24)
  replace QF := Lib.hid (QF.out.alloc (.cells #[.bool s6, .slice A6 n6 c6] 24))
  replace LA := Lib.hid (LA.out.box (.cells #[.bool s6, .slice A6 n6 c6] 24))
  replace LB := Lib.hid (LB.out.box (.cells #[.bool s6, .slice A6 n6 c6] 24))
  replace L1 := Lib.hid (L1.out.box (.cells #[.bool s6, .slice A6 n6 c6] 24))
  replace P1 := Lib.hid (P1.out.alloc (.cells #[.bool s6, .slice A6 n6 c6] 24))
  replace L2 := Lib.hid (L2.out.box (.cells #[.bool s6, .slice A6 n6 c6] 24))
  replace P2 := Lib.hid (P2.out.alloc (.cells #[.bool s6, .slice A6 n6 c6] 24))
  replace L3 := Lib.hid (L3.out.box (.cells #[.bool s6, .slice A6 n6 c6] 24))
  replace P3 := Lib.hid (P3.out.alloc (.cells #[.bool s6, .slice A6 n6 c6] 24))
  replace L4 := Lib.hid (L4.out.box (.cells #[.bool s6, .slice A6 n6 c6] 24))
  replace P4 := Lib.hid (P4.out.alloc (.cells #[.bool s6, .slice A6 n6 c6] 24))
  replace L5 := Lib.hid (L5.out.box (.cells #[.bool s6, .slice A6 n6 c6] 24))
  replace P5 := Lib.hid (P5.out.alloc (.cells #[.bool s6, .slice A6 n6 c6] 24))
  replace L6 := Lib.hid (L6.out.box (.cells #[.bool s6, .slice A6 n6 c6] 24))
  replace BX := Lib.hid (below_alloc BX.out (.cells #[.bool s6, .slice A6 n6 c6] 24))
  generalize w12.heap.size = g6 at *
  generalize w12.alloc (.cells #[.bool s6, .slice A6 n6 c6] 24) = V12 at *
  have ⟨fa0, fa1, fa2, fa3, fa4⟩ := P5.out
  have ⟨fb0, fb1, fb2, fb3, fb4, fb5, fb6, fb7, fb8⟩ := QF.out
  go_wp2_with fail
  clear fa0 fa1 fa2 fa3 fa4
  clear fb0 fb1 fb2 fb3 fb4 fb5 fb6 fb7 fb8
  refine (rsub_n _ A5 A n5 n c5 ca 202 (q * P) x L5.out LA.out SQP.out SX.out (by omega) HS5.out HNa.out).mono ?_
  rintro e w13 ⟨A7, n7, c7, rfl, hL, hb⟩
  replace QF := Lib.hid (QF.out.via hb)
  replace LA := Lib.hid (LA.out.via hb)
  replace LB := Lib.hid (LB.out.via hb)
  replace L1 := Lib.hid (L1.out.via hb)
  replace P1 := Lib.hid (P1.out.via hb)
  replace L2 := Lib.hid (L2.out.via hb)
  replace P2 := Lib.hid (P2.out.via hb)
  replace L3 := Lib.hid (L3.out.via hb)
  replace P3 := Lib.hid (P3.out.via hb)
  replace L4 := Lib.hid (L4.out.via hb)
  replace P4 := Lib.hid (P4.out.via hb)
  replace L5 := Lib.hid (L5.out.via hb)
  replace P5 := Lib.hid (P5.out.via hb)
  replace L6 := Lib.hid (L6.out.via hb)
  replace P6 := Lib.hid (P6.out.via hb)
  replace BX := Lib.hid (btr BX.out hb)
  have L7 := Lib.hid hL
  clear hb hL
  obtain ⟨s7, hs⟩ : ∃ b, decide (q * P - x < 0) = b := ⟨_, rfl⟩
  rw [hs]
  have HS7 := Lib.hid hs
  clear hs
  go_upto_region 13 with (fail)
  have P7 := Lib.hid (Pr.new w13 _ rfl (.bool s7) (.slice A7 n7 c7) 24)
  replace QF := Lib.hid (QF.out.alloc (.cells #[.bool s7, .slice A7 n7 c7] 24))
  replace LA := Lib.hid (LA.out.box (.cells #[.bool s7, .slice A7 n7 c7] 24))
  replace LB := Lib.hid (LB.out.box (.cells #[.bool s7, .slice A7 n7 c7] 24))
  replace L1 := Lib.hid (L1.out.box (.cells #[.bool s7, .slice A7 n7 c7] 24))
  replace P1 := Lib.hid (P1.out.alloc (.cells #[.bool s7, .slice A7 n7 c7] 24))
  replace L2 := Lib.hid (L2.out.box (.cells #[.bool s7, .slice A7 n7 c7] 24))
  replace P2 := Lib.hid (P2.out.alloc (.cells #[.bool s7, .slice A7 n7 c7] 24))
  replace L3 := Lib.hid (L3.out.box (.cells #[.bool s7, .slice A7 n7 c7] 24))
  replace P3 := Lib.hid (P3.out.alloc (.cells #[.bool s7, .slice A7 n7 c7] 24))
  replace L4 := Lib.hid (L4.out.box (.cells #[.bool s7, .slice A7 n7 c7] 24))
  replace P4 := Lib.hid (P4.out.alloc (.cells #[.bool s7, .slice A7 n7 c7] 24))
  replace L5 := Lib.hid (L5.out.box (.cells #[.bool s7, .slice A7 n7 c7] 24))
  replace P5 := Lib.hid (P5.out.alloc (.cells #[.bool s7, .slice A7 n7 c7] 24))
  replace L6 := Lib.hid (L6.out.box (.cells #[.bool s7, .slice A7 n7 c7] 24))
  replace P6 := Lib.hid (P6.out.alloc (.cells #[.bool s7, .slice A7 n7 c7] 24))
  replace L7 := Lib.hid (L7.out.box (.cells #[.bool s7, .slice A7 n7 c7] 24))
  replace BX := Lib.hid (below_alloc BX.out (.cells #[.bool s7, .slice A7 n7 c7] 24))
  generalize w13.heap.size = g7 at *
  generalize w13.alloc (.cells #[.bool s7, .slice A7 n7 c7] 24) = V13 at *
  have hs6 : s6 = false := by rw [← HS6.out]; exact decide_eq_false (by omega)
  have hs7 : s7 = false := by rw [← HS7.out]; exact decide_eq_false (by omega)
  subst hs6 hs7
  have SL : Hid (Sz 202 (x - p * P)) := by
    show Sz 202 _
    have h1 : Sz 202 P := HP.out.mono (by omega)
    unfold Sz at *
    omega
  have SH : Hid (Sz 202 (q * P - x)) := by
    show Sz 202 _
    have h1 : Sz 202 P := HP.out.mono (by omega)
    unfold Sz at *
    omega
  have HC1 : Hid (cmpZ (x - p * P) P = -1) := cmpZ_lt u2
  have HC2 : Hid (cmpZ (q * P - x) P = -1) := cmpZ_lt u4
  have ⟨g0, g1, g2, g3, g4⟩ := P7.out
  have ⟨fa0, fa1, fa2, fa3, fa4⟩ := P6.out
  have ⟨fb0, fb1, fb2, fb3, fb4, fb5, fb6, fb7, fb8⟩ := QF.out
  go_wp2_with fail
  clear fa0 fa1 fa2 fa3 fa4
  clear fb0 fb1 fb2 fb3 fb4 fb5 fb6 fb7 fb8
  clear g0 g1 g2 g3 g4
  refine (rcompared_n _ A6 B n6 m c6 cb 202 (x - p * P) P L6.out LB.out SL.out (HP.out.mono (by omega)) (by omega) HS6.out HNb.out).mono ?_
  rintro e w14 ⟨rfl, hb⟩
  replace QF := Lib.hid (QF.out.via hb)
  replace LA := Lib.hid (LA.out.via hb)
  replace LB := Lib.hid (LB.out.via hb)
  replace L1 := Lib.hid (L1.out.via hb)
  replace P1 := Lib.hid (P1.out.via hb)
  replace L2 := Lib.hid (L2.out.via hb)
  replace P2 := Lib.hid (P2.out.via hb)
  replace L3 := Lib.hid (L3.out.via hb)
  replace P3 := Lib.hid (P3.out.via hb)
  replace L4 := Lib.hid (L4.out.via hb)
  replace P4 := Lib.hid (P4.out.via hb)
  replace L5 := Lib.hid (L5.out.via hb)
  replace P5 := Lib.hid (P5.out.via hb)
  replace L6 := Lib.hid (L6.out.via hb)
  replace P6 := Lib.hid (P6.out.via hb)
  replace L7 := Lib.hid (L7.out.via hb)
  replace P7 := Lib.hid (P7.out.via hb)
  replace BX := Lib.hid (btr BX.out hb)
  clear hb
  rw [HC1.out]
  have ⟨fa0, fa1, fa2, fa3, fa4⟩ := P7.out
  have ⟨fb0, fb1, fb2, fb3, fb4, fb5, fb6, fb7, fb8⟩ := QF.out
  go_wp2_with fail
  clear fa0 fa1 fa2 fa3 fa4
  clear fb0 fb1 fb2 fb3 fb4 fb5 fb6 fb7 fb8
  refine (rcompared_n _ A7 B n7 m c7 cb 202 (q * P - x) P L7.out LB.out SH.out (HP.out.mono (by omega)) (by omega) HS7.out HNb.out).mono ?_
  rintro e w15 ⟨rfl, hb⟩
  replace QF := Lib.hid (QF.out.via hb)
  replace LA := Lib.hid (LA.out.via hb)
  replace LB := Lib.hid (LB.out.via hb)
  replace L1 := Lib.hid (L1.out.via hb)
  replace P1 := Lib.hid (P1.out.via hb)
  replace L2 := Lib.hid (L2.out.via hb)
  replace P2 := Lib.hid (P2.out.via hb)
  replace L3 := Lib.hid (L3.out.via hb)
  replace P3 := Lib.hid (P3.out.via hb)
  replace L4 := Lib.hid (L4.out.via hb)
  replace P4 := Lib.hid (P4.out.via hb)
  replace L5 := Lib.hid (L5.out.via hb)
  replace P5 := Lib.hid (P5.out.via hb)
  replace L6 := Lib.hid (L6.out.via hb)
  replace P6 := Lib.hid (P6.out.via hb)
  replace L7 := Lib.hid (L7.out.via hb)
  replace P7 := Lib.hid (P7.out.via hb)
  replace BX := Lib.hid (btr BX.out hb)
  clear hb
  rw [HC2.out]
  have ⟨fa0, fa1, fa2, fa3, fa4⟩ := P6.out
  have ⟨fb0, fb1, fb2, fb3, fb4⟩ := P7.out
  go_wp2_with fail
  clear fa0 fa1 fa2 fa3 fa4
  clear fb0 fb1 fb2 fb3 fb4
  refine (rcompared_n _ A6 A7 n6 n7 c6 c7 202 (x - p * P) (q * P - x) L6.out L7.out SL.out SH.out (by omega) HS6.out HS7.out).mono ?_
  rintro e w16 ⟨rfl, hb⟩
  replace QF := Lib.hid (QF.out.via hb)
  replace LA := Lib.hid (LA.out.via hb)
  replace LB := Lib.hid (LB.out.via hb)
  replace L1 := Lib.hid (L1.out.via hb)
  replace P1 := Lib.hid (P1.out.via hb)
  replace L2 := Lib.hid (L2.out.via hb)
  replace P2 := Lib.hid (P2.out.via hb)
  replace L3 := Lib.hid (L3.out.via hb)
  replace P3 := Lib.hid (P3.out.via hb)
  replace L4 := Lib.hid (L4.out.via hb)
  replace P4 := Lib.hid (P4.out.via hb)
  replace L5 := Lib.hid (L5.out.via hb)
  replace P5 := Lib.hid (P5.out.via hb)
  replace L6 := Lib.hid (L6.out.via hb)
  replace P6 := Lib.hid (P6.out.via hb)
  replace L7 := Lib.hid (L7.out.via hb)
  replace P7 := Lib.hid (P7.out.via hb)
  replace BX := Lib.hid (btr BX.out hb)
  clear hb
  rcases hcase with ⟨hlt, he⟩ | ⟨hlt, he⟩ | ⟨hlt, hcase⟩
  · rw [cmpZ_lt hlt]
    have HE := Lib.hid he
    clear he hlt u1 u2 u3 u4
    have ⟨fa0, fa1, fa2, fa3, fa4⟩ := P3.out
    have ⟨fb0, fb1, fb2, fb3, fb4⟩ := P1.out
    go_wp2_with fail
    clear fa0 fa1 fa2 fa3 fa4
    clear fb0 fb1 fb2 fb3 fb4
    refine (rsame_eq _ _ _ _ _ _ _ r p L3.out L1.out HE.out HS3.out HS1.out).mono ?_
    rintro e w17 ⟨rfl, hb⟩
    replace QF := Lib.hid (QF.out.via hb)
    replace LA := Lib.hid (LA.out.via hb)
    replace LB := Lib.hid (LB.out.via hb)
    replace L1 := Lib.hid (L1.out.via hb)
    replace P1 := Lib.hid (P1.out.via hb)
    replace L2 := Lib.hid (L2.out.via hb)
    replace P2 := Lib.hid (P2.out.via hb)
    replace L3 := Lib.hid (L3.out.via hb)
    replace P3 := Lib.hid (P3.out.via hb)
    replace L4 := Lib.hid (L4.out.via hb)
    replace P4 := Lib.hid (P4.out.via hb)
    replace L5 := Lib.hid (L5.out.via hb)
    replace P5 := Lib.hid (P5.out.via hb)
    replace L6 := Lib.hid (L6.out.via hb)
    replace P6 := Lib.hid (P6.out.via hb)
    replace L7 := Lib.hid (L7.out.via hb)
    replace P7 := Lib.hid (P7.out.via hb)
    replace BX := Lib.hid (btr BX.out hb)
    clear hb
    go_wp2
    go_ret
    exact ⟨rfl, BX.out⟩
  · rw [cmpZ_gt hlt]
    have HE := Lib.hid he
    clear he hlt u1 u2 u3 u4
    have ⟨fa0, fa1, fa2, fa3, fa4⟩ := P3.out
    have ⟨fb0, fb1, fb2, fb3, fb4⟩ := P2.out
    go_wp2_with fail
    clear fa0 fa1 fa2 fa3 fa4
    clear fb0 fb1 fb2 fb3 fb4
    refine (rsame_eq _ _ _ _ _ _ _ r q L3.out L2.out HE.out HS3.out HS2.out).mono ?_
    rintro e w17 ⟨rfl, hb⟩
    replace QF := Lib.hid (QF.out.via hb)
    replace LA := Lib.hid (LA.out.via hb)
    replace LB := Lib.hid (LB.out.via hb)
    replace L1 := Lib.hid (L1.out.via hb)
    replace P1 := Lib.hid (P1.out.via hb)
    replace L2 := Lib.hid (L2.out.via hb)
    replace P2 := Lib.hid (P2.out.via hb)
    replace L3 := Lib.hid (L3.out.via hb)
    replace P3 := Lib.hid (P3.out.via hb)
    replace L4 := Lib.hid (L4.out.via hb)
    replace P4 := Lib.hid (P4.out.via hb)
    replace L5 := Lib.hid (L5.out.via hb)
    replace P5 := Lib.hid (P5.out.via hb)
    replace L6 := Lib.hid (L6.out.via hb)
    replace P6 := Lib.hid (P6.out.via hb)
    replace L7 := Lib.hid (L7.out.via hb)
    replace P7 := Lib.hid (P7.out.via hb)
    replace BX := Lib.hid (btr BX.out hb)
    clear hb
    go_wp2
    go_ret
    exact ⟨rfl, BX.out⟩
  · rw [cmpZ_eq hlt]
    clear hlt u1 u2 u3 u4
    have hlen3 := L3.out.len
    rcases hcase with ⟨hpq, he⟩ | ⟨hpq, hev, hr⟩
    · have HE1 := Lib.hid hpq
      have HE := Lib.hid he
      clear hpq he
      by_cases hn3 : n3 = 0
      · subst hn3
        clear hlen3
        have ⟨h0, h1, h2, h3, h4⟩ := P3.out
        have ⟨fa0, fa1, fa2, fa3, fa4⟩ := P1.out
        have ⟨fb0, fb1, fb2, fb3, fb4⟩ := P2.out
        go_wp2_with fail
        clear fa0 fa1 fa2 fa3 fa4
        clear fb0 fb1 fb2 fb3 fb4
        clear h0 h1 h2 h3 h4
        refine (rsame_eq _ _ _ _ _ _ _ p q L1.out L2.out HE1.out HS1.out HS2.out).mono ?_
        rintro e w17 ⟨rfl, hb⟩
        replace QF := Lib.hid (QF.out.via hb)
        replace LA := Lib.hid (LA.out.via hb)
        replace LB := Lib.hid (LB.out.via hb)
        replace L1 := Lib.hid (L1.out.via hb)
        replace P1 := Lib.hid (P1.out.via hb)
        replace L2 := Lib.hid (L2.out.via hb)
        replace P2 := Lib.hid (P2.out.via hb)
        replace L3 := Lib.hid (L3.out.via hb)
        replace P3 := Lib.hid (P3.out.via hb)
        replace L4 := Lib.hid (L4.out.via hb)
        replace P4 := Lib.hid (P4.out.via hb)
        replace L5 := Lib.hid (L5.out.via hb)
        replace P5 := Lib.hid (P5.out.via hb)
        replace L6 := Lib.hid (L6.out.via hb)
        replace P6 := Lib.hid (P6.out.via hb)
        replace L7 := Lib.hid (L7.out.via hb)
        replace P7 := Lib.hid (P7.out.via hb)
        replace BX := Lib.hid (btr BX.out hb)
        clear hb
        have ⟨fa0, fa1, fa2, fa3, fa4⟩ := P3.out
        have ⟨fb0, fb1, fb2, fb3, fb4⟩ := P1.out
        go_wp2_with fail
        clear fa0 fa1 fa2 fa3 fa4
        clear fb0 fb1 fb2 fb3 fb4
        refine (rsame_eq _ _ _ _ _ _ _ r p L3.out L1.out HE.out HS3.out HS1.out).mono ?_
        rintro e w18 ⟨rfl, hb⟩
        replace QF := Lib.hid (QF.out.via hb)
        replace LA := Lib.hid (LA.out.via hb)
        replace LB := Lib.hid (LB.out.via hb)
        replace L1 := Lib.hid (L1.out.via hb)
        replace P1 := Lib.hid (P1.out.via hb)
        replace L2 := Lib.hid (L2.out.via hb)
        replace P2 := Lib.hid (P2.out.via hb)
        replace L3 := Lib.hid (L3.out.via hb)
        replace P3 := Lib.hid (P3.out.via hb)
        replace L4 := Lib.hid (L4.out.via hb)
        replace P4 := Lib.hid (P4.out.via hb)
        replace L5 := Lib.hid (L5.out.via hb)
        replace P5 := Lib.hid (P5.out.via hb)
        replace L6 := Lib.hid (L6.out.via hb)
        replace P6 := Lib.hid (P6.out.via hb)
        replace L7 := Lib.hid (L7.out.via hb)
        replace P7 := Lib.hid (P7.out.via hb)
        replace BX := Lib.hid (btr BX.out hb)
        clear hb
        go_wp2
        go_ret
        exact ⟨rfl, BX.out⟩
      · have k2 : ((n3 : Int) == 0) = false := by simp [hn3]
        have k3 : decide ((n3 : Int) = 0) = false := by simp [hn3]
        have k4 : ¬ (n3 : Int) = 0 := by omega
        have hg3 := L3.out.good
        have hdh := digs_head r.natAbs
        obtain ⟨b3, off3, hA3, hbb3, hck⟩ := L3.out.at_ (by omega)
        have hc0 := hck 0 (by omega)
        rw [Nat.add_zero] at hc0
        obtain ⟨y0, hy0⟩ : ∃ y0, (digs r.natAbs)[0]?.getD 0 = y0 := ⟨_, rfl⟩
        rw [hy0] at hc0 hdh
        have hcap3 := L3.out.cap
        have hmax3 := L3.out.max
        subst hA3
        clear hck hlen3 hy0 hg3
        have ⟨h0, h1, h2, h3, h4⟩ := P3.out
        have ⟨fa0, fa1, fa2, fa3, fa4⟩ := P1.out
        have ⟨fb0, fb1, fb2, fb3, fb4⟩ := P2.out
        go_wp2_with fail
        clear fa0 fa1 fa2 fa3 fa4
        clear fb0 fb1 fb2 fb3 fb4
        clear h0 h1 h2 h3 h4
        refine (rsame_eq _ _ _ _ _ _ _ p q L1.out L2.out HE1.out HS1.out HS2.out).mono ?_
        rintro e w17 ⟨rfl, hb⟩
        replace QF := Lib.hid (QF.out.via hb)
        replace LA := Lib.hid (LA.out.via hb)
        replace LB := Lib.hid (LB.out.via hb)
        replace L1 := Lib.hid (L1.out.via hb)
        replace P1 := Lib.hid (P1.out.via hb)
        replace L2 := Lib.hid (L2.out.via hb)
        replace P2 := Lib.hid (P2.out.via hb)
        replace L3 := Lib.hid (L3.out.via hb)
        replace P3 := Lib.hid (P3.out.via hb)
        replace L4 := Lib.hid (L4.out.via hb)
        replace P4 := Lib.hid (P4.out.via hb)
        replace L5 := Lib.hid (L5.out.via hb)
        replace P5 := Lib.hid (P5.out.via hb)
        replace L6 := Lib.hid (L6.out.via hb)
        replace P6 := Lib.hid (P6.out.via hb)
        replace L7 := Lib.hid (L7.out.via hb)
        replace P7 := Lib.hid (P7.out.via hb)
        replace BX := Lib.hid (btr BX.out hb)
        clear hb
        have ⟨fa0, fa1, fa2, fa3, fa4⟩ := P3.out
        have ⟨fb0, fb1, fb2, fb3, fb4⟩ := P1.out
        go_wp2_with fail
        clear fa0 fa1 fa2 fa3 fa4
        clear fb0 fb1 fb2 fb3 fb4
        refine (rsame_eq _ _ _ _ _ _ _ r p L3.out L1.out HE.out HS3.out HS1.out).mono ?_
        rintro e w18 ⟨rfl, hb⟩
        replace QF := Lib.hid (QF.out.via hb)
        replace LA := Lib.hid (LA.out.via hb)
        replace LB := Lib.hid (LB.out.via hb)
        replace L1 := Lib.hid (L1.out.via hb)
        replace P1 := Lib.hid (P1.out.via hb)
        replace L2 := Lib.hid (L2.out.via hb)
        replace P2 := Lib.hid (P2.out.via hb)
        replace L3 := Lib.hid (L3.out.via hb)
        replace P3 := Lib.hid (P3.out.via hb)
        replace L4 := Lib.hid (L4.out.via hb)
        replace P4 := Lib.hid (P4.out.via hb)
        replace L5 := Lib.hid (L5.out.via hb)
        replace P5 := Lib.hid (P5.out.via hb)
        replace L6 := Lib.hid (L6.out.via hb)
        replace P6 := Lib.hid (P6.out.via hb)
        replace L7 := Lib.hid (L7.out.via hb)
        replace P7 := Lib.hid (P7.out.via hb)
        replace BX := Lib.hid (btr BX.out hb)
        clear hb
        go_wp2
        go_ret
        exact ⟨rfl, BX.out⟩
    · have HN := Lib.hid hpq
      clear hpq
      have hev2 : r.natAbs % 2 = 0 := by omega
      rcases hr with he | ⟨hne, he⟩
      · have HE := Lib.hid he
        clear he
        by_cases hn3 : n3 = 0
        · subst hn3
          clear hlen3
          have ⟨h0, h1, h2, h3, h4⟩ := P3.out
          have ⟨fa0, fa1, fa2, fa3, fa4⟩ := P1.out
          have ⟨fb0, fb1, fb2, fb3, fb4⟩ := P2.out
          go_wp2_with fail
          clear fa0 fa1 fa2 fa3 fa4
          clear fb0 fb1 fb2 fb3 fb4
          clear h0 h1 h2 h3 h4
          refine (rsame_ne _ _ _ _ _ _ _ p q L1.out L2.out HN.out HS1.out HS2.out).mono ?_
          rintro e w17 ⟨rfl, hb⟩
          replace QF := Lib.hid (QF.out.via hb)
          replace LA := Lib.hid (LA.out.via hb)
          replace LB := Lib.hid (LB.out.via hb)
          replace L1 := Lib.hid (L1.out.via hb)
          replace P1 := Lib.hid (P1.out.via hb)
          replace L2 := Lib.hid (L2.out.via hb)
          replace P2 := Lib.hid (P2.out.via hb)
          replace L3 := Lib.hid (L3.out.via hb)
          replace P3 := Lib.hid (P3.out.via hb)
          replace L4 := Lib.hid (L4.out.via hb)
          replace P4 := Lib.hid (P4.out.via hb)
          replace L5 := Lib.hid (L5.out.via hb)
          replace P5 := Lib.hid (P5.out.via hb)
          replace L6 := Lib.hid (L6.out.via hb)
          replace P6 := Lib.hid (P6.out.via hb)
          replace L7 := Lib.hid (L7.out.via hb)
          replace P7 := Lib.hid (P7.out.via hb)
          replace BX := Lib.hid (btr BX.out hb)
          clear hb
          have ⟨fa0, fa1, fa2, fa3, fa4⟩ := P3.out
          have ⟨fb0, fb1, fb2, fb3, fb4⟩ := P1.out
          go_wp2_with fail
          clear fa0 fa1 fa2 fa3 fa4
          clear fb0 fb1 fb2 fb3 fb4
          refine (rsame_eq _ _ _ _ _ _ _ r p L3.out L1.out HE.out HS3.out HS1.out).mono ?_
          rintro e w18 ⟨rfl, hb⟩
          replace QF := Lib.hid (QF.out.via hb)
          replace LA := Lib.hid (LA.out.via hb)
          replace LB := Lib.hid (LB.out.via hb)
          replace L1 := Lib.hid (L1.out.via hb)
          replace P1 := Lib.hid (P1.out.via hb)
          replace L2 := Lib.hid (L2.out.via hb)
          replace P2 := Lib.hid (P2.out.via hb)
          replace L3 := Lib.hid (L3.out.via hb)
          replace P3 := Lib.hid (P3.out.via hb)
          replace L4 := Lib.hid (L4.out.via hb)
          replace P4 := Lib.hid (P4.out.via hb)
          replace L5 := Lib.hid (L5.out.via hb)
          replace P5 := Lib.hid (P5.out.via hb)
          replace L6 := Lib.hid (L6.out.via hb)
          replace P6 := Lib.hid (P6.out.via hb)
          replace L7 := Lib.hid (L7.out.via hb)
          replace P7 := Lib.hid (P7.out.via hb)
          replace BX := Lib.hid (btr BX.out hb)
          clear hb
          go_wp2
          go_ret
          exact ⟨rfl, BX.out⟩
        · have k2 : ((n3 : Int) == 0) = false := by simp [hn3]
          have k3 : decide ((n3 : Int) = 0) = false := by simp [hn3]
          have k4 : ¬ (n3 : Int) = 0 := by omega
          have hg3 := L3.out.good
          have hdh := digs_head r.natAbs
          obtain ⟨b3, off3, hA3, hbb3, hck⟩ := L3.out.at_ (by omega)
          have hc0 := hck 0 (by omega)
          rw [Nat.add_zero] at hc0
          obtain ⟨y0, hy0⟩ : ∃ y0, (digs r.natAbs)[0]?.getD 0 = y0 := ⟨_, rfl⟩
          rw [hy0] at hc0 hdh
          have hcap3 := L3.out.cap
          have hmax3 := L3.out.max
          subst hA3
          clear hck hlen3 hy0 hg3
          have ⟨h0, h1, h2, h3, h4⟩ := P3.out
          have hy2 : (y0 : Int) % 2 = 0 := by omega
          have hy3 : ((y0 : Int) % 2 == 0) = true := by rw [hy2]; rfl
          clear hdh hev2 hev
          have ⟨fa0, fa1, fa2, fa3, fa4⟩ := P1.out
          have ⟨fb0, fb1, fb2, fb3, fb4⟩ := P2.out
          go_wp2_with fail
          clear fa0 fa1 fa2 fa3 fa4
          clear fb0 fb1 fb2 fb3 fb4
          clear h0 h1 h2 h3 h4
          refine (rsame_ne _ _ _ _ _ _ _ p q L1.out L2.out HN.out HS1.out HS2.out).mono ?_
          rintro e w17 ⟨rfl, hb⟩
          replace QF := Lib.hid (QF.out.via hb)
          replace LA := Lib.hid (LA.out.via hb)
          replace LB := Lib.hid (LB.out.via hb)
          replace L1 := Lib.hid (L1.out.via hb)
          replace P1 := Lib.hid (P1.out.via hb)
          replace L2 := Lib.hid (L2.out.via hb)
          replace P2 := Lib.hid (P2.out.via hb)
          replace L3 := Lib.hid (L3.out.via hb)
          replace P3 := Lib.hid (P3.out.via hb)
          replace L4 := Lib.hid (L4.out.via hb)
          replace P4 := Lib.hid (P4.out.via hb)
          replace L5 := Lib.hid (L5.out.via hb)
          replace P5 := Lib.hid (P5.out.via hb)
          replace L6 := Lib.hid (L6.out.via hb)
          replace P6 := Lib.hid (P6.out.via hb)
          replace L7 := Lib.hid (L7.out.via hb)
          replace P7 := Lib.hid (P7.out.via hb)
          replace BX := Lib.hid (btr BX.out hb)
          clear hb
          have ⟨fa0, fa1, fa2, fa3, fa4⟩ := P3.out
          have ⟨fb0, fb1, fb2, fb3, fb4⟩ := P1.out
          go_wp2_with fail
          clear fa0 fa1 fa2 fa3 fa4
          clear fb0 fb1 fb2 fb3 fb4
          refine (rsame_eq _ _ _ _ _ _ _ r p L3.out L1.out HE.out HS3.out HS1.out).mono ?_
          rintro e w18 ⟨rfl, hb⟩
          replace QF := Lib.hid (QF.out.via hb)
          replace LA := Lib.hid (LA.out.via hb)
          replace LB := Lib.hid (LB.out.via hb)
          replace L1 := Lib.hid (L1.out.via hb)
          replace P1 := Lib.hid (P1.out.via hb)
          replace L2 := Lib.hid (L2.out.via hb)
          replace P2 := Lib.hid (P2.out.via hb)
          replace L3 := Lib.hid (L3.out.via hb)
          replace P3 := Lib.hid (P3.out.via hb)
          replace L4 := Lib.hid (L4.out.via hb)
          replace P4 := Lib.hid (P4.out.via hb)
          replace L5 := Lib.hid (L5.out.via hb)
          replace P5 := Lib.hid (P5.out.via hb)
          replace L6 := Lib.hid (L6.out.via hb)
          replace P6 := Lib.hid (P6.out.via hb)
          replace L7 := Lib.hid (L7.out.via hb)
          replace P7 := Lib.hid (P7.out.via hb)
          replace BX := Lib.hid (btr BX.out hb)
          clear hb
          go_wp2
          go_ret
          exact ⟨rfl, BX.out⟩
      · have HE := Lib.hid he
        have HN2 := Lib.hid hne
        clear he hne
        by_cases hn3 : n3 = 0
        · subst hn3
          clear hlen3
          have ⟨h0, h1, h2, h3, h4⟩ := P3.out
          have ⟨fa0, fa1, fa2, fa3, fa4⟩ := P1.out
          have ⟨fb0, fb1, fb2, fb3, fb4⟩ := P2.out
          go_wp2_with fail
          clear fa0 fa1 fa2 fa3 fa4
          clear fb0 fb1 fb2 fb3 fb4
          clear h0 h1 h2 h3 h4
          refine (rsame_ne _ _ _ _ _ _ _ p q L1.out L2.out HN.out HS1.out HS2.out).mono ?_
          rintro e w17 ⟨rfl, hb⟩
          replace QF := Lib.hid (QF.out.via hb)
          replace LA := Lib.hid (LA.out.via hb)
          replace LB := Lib.hid (LB.out.via hb)
          replace L1 := Lib.hid (L1.out.via hb)
          replace P1 := Lib.hid (P1.out.via hb)
          replace L2 := Lib.hid (L2.out.via hb)
          replace P2 := Lib.hid (P2.out.via hb)
          replace L3 := Lib.hid (L3.out.via hb)
          replace P3 := Lib.hid (P3.out.via hb)
          replace L4 := Lib.hid (L4.out.via hb)
          replace P4 := Lib.hid (P4.out.via hb)
          replace L5 := Lib.hid (L5.out.via hb)
          replace P5 := Lib.hid (P5.out.via hb)
          replace L6 := Lib.hid (L6.out.via hb)
          replace P6 := Lib.hid (P6.out.via hb)
          replace L7 := Lib.hid (L7.out.via hb)
          replace P7 := Lib.hid (P7.out.via hb)
          replace BX := Lib.hid (btr BX.out hb)
          clear hb
          have ⟨fa0, fa1, fa2, fa3, fa4⟩ := P3.out
          have ⟨fb0, fb1, fb2, fb3, fb4⟩ := P1.out
          go_wp2_with fail
          clear fa0 fa1 fa2 fa3 fa4
          clear fb0 fb1 fb2 fb3 fb4
          refine (rsame_ne _ _ _ _ _ _ _ r p L3.out L1.out HN2.out HS3.out HS1.out).mono ?_
          rintro e w18 ⟨rfl, hb⟩
          replace QF := Lib.hid (QF.out.via hb)
          replace LA := Lib.hid (LA.out.via hb)
          replace LB := Lib.hid (LB.out.via hb)
          replace L1 := Lib.hid (L1.out.via hb)
          replace P1 := Lib.hid (P1.out.via hb)
          replace L2 := Lib.hid (L2.out.via hb)
          replace P2 := Lib.hid (P2.out.via hb)
          replace L3 := Lib.hid (L3.out.via hb)
          replace P3 := Lib.hid (P3.out.via hb)
          replace L4 := Lib.hid (L4.out.via hb)
          replace P4 := Lib.hid (P4.out.via hb)
          replace L5 := Lib.hid (L5.out.via hb)
          replace P5 := Lib.hid (P5.out.via hb)
          replace L6 := Lib.hid (L6.out.via hb)
          replace P6 := Lib.hid (P6.out.via hb)
          replace L7 := Lib.hid (L7.out.via hb)
          replace P7 := Lib.hid (P7.out.via hb)
          replace BX := Lib.hid (btr BX.out hb)
          clear hb
          have ⟨fa0, fa1, fa2, fa3, fa4⟩ := P3.out
          have ⟨fb0, fb1, fb2, fb3, fb4⟩ := P2.out
          go_wp2_with fail
          clear fa0 fa1 fa2 fa3 fa4
          clear fb0 fb1 fb2 fb3 fb4
          refine (rsame_eq _ _ _ _ _ _ _ r q L3.out L2.out HE.out HS3.out HS2.out).mono ?_
          rintro e w19 ⟨rfl, hb⟩
          replace QF := Lib.hid (QF.out.via hb)
          replace LA := Lib.hid (LA.out.via hb)
          replace LB := Lib.hid (LB.out.via hb)
          replace L1 := Lib.hid (L1.out.via hb)
          replace P1 := Lib.hid (P1.out.via hb)
          replace L2 := Lib.hid (L2.out.via hb)
          replace P2 := Lib.hid (P2.out.via hb)
          replace L3 := Lib.hid (L3.out.via hb)
          replace P3 := Lib.hid (P3.out.via hb)
          replace L4 := Lib.hid (L4.out.via hb)
          replace P4 := Lib.hid (P4.out.via hb)
          replace L5 := Lib.hid (L5.out.via hb)
          replace P5 := Lib.hid (P5.out.via hb)
          replace L6 := Lib.hid (L6.out.via hb)
          replace P6 := Lib.hid (P6.out.via hb)
          replace L7 := Lib.hid (L7.out.via hb)
          replace P7 := Lib.hid (P7.out.via hb)
          replace BX := Lib.hid (btr BX.out hb)
          clear hb
          go_wp2
          go_ret
          exact ⟨rfl, BX.out⟩
        · have k2 : ((n3 : Int) == 0) = false := by simp [hn3]
          have k3 : decide ((n3 : Int) = 0) = false := by simp [hn3]
          have k4 : ¬ (n3 : Int) = 0 := by omega
          have hg3 := L3.out.good
          have hdh := digs_head r.natAbs
          obtain ⟨b3, off3, hA3, hbb3, hck⟩ := L3.out.at_ (by omega)
          have hc0 := hck 0 (by omega)
          rw [Nat.add_zero] at hc0
          obtain ⟨y0, hy0⟩ : ∃ y0, (digs r.natAbs)[0]?.getD 0 = y0 := ⟨_, rfl⟩
          rw [hy0] at hc0 hdh
          have hcap3 := L3.out.cap
          have hmax3 := L3.out.max
          subst hA3
          clear hck hlen3 hy0 hg3
          have ⟨h0, h1, h2, h3, h4⟩ := P3.out
          have hy2 : (y0 : Int) % 2 = 0 := by omega
          have hy3 : ((y0 : Int) % 2 == 0) = true := by rw [hy2]; rfl
          clear hdh hev2 hev
          have ⟨fa0, fa1, fa2, fa3, fa4⟩ := P1.out
          have ⟨fb0, fb1, fb2, fb3, fb4⟩ := P2.out
          go_wp2_with fail
          clear fa0 fa1 fa2 fa3 fa4
          clear fb0 fb1 fb2 fb3 fb4
          clear h0 h1 h2 h3 h4
          refine (rsame_ne _ _ _ _ _ _ _ p q L1.out L2.out HN.out HS1.out HS2.out).mono ?_
          rintro e w17 ⟨rfl, hb⟩
          replace QF := Lib.hid (QF.out.via hb)
          replace LA := Lib.hid (LA.out.via hb)
          replace LB := Lib.hid (LB.out.via hb)
          replace L1 := Lib.hid (L1.out.via hb)
          replace P1 := Lib.hid (P1.out.via hb)
          replace L2 := Lib.hid (L2.out.via hb)
          replace P2 := Lib.hid (P2.out.via hb)
          replace L3 := Lib.hid (L3.out.via hb)
          replace P3 := Lib.hid (P3.out.via hb)
          replace L4 := Lib.hid (L4.out.via hb)
          replace P4 := Lib.hid (P4.out.via hb)
          replace L5 := Lib.hid (L5.out.via hb)
          replace P5 := Lib.hid (P5.out.via hb)
          replace L6 := Lib.hid (L6.out.via hb)
          replace P6 := Lib.hid (P6.out.via hb)
          replace L7 := Lib.hid (L7.out.via hb)
          replace P7 := Lib.hid (P7.out.via hb)
          replace BX := Lib.hid (btr BX.out hb)
          clear hb
          have ⟨fa0, fa1, fa2, fa3, fa4⟩ := P3.out
          have ⟨fb0, fb1, fb2, fb3, fb4⟩ := P1.out
          go_wp2_with fail
          clear fa0 fa1 fa2 fa3 fa4
          clear fb0 fb1 fb2 fb3 fb4
          refine (rsame_ne _ _ _ _ _ _ _ r p L3.out L1.out HN2.out HS3.out HS1.out).mono ?_
          rintro e w18 ⟨rfl, hb⟩
          replace QF := Lib.hid (QF.out.via hb)
          replace LA := Lib.hid (LA.out.via hb)
          replace LB := Lib.hid (LB.out.via hb)
          replace L1 := Lib.hid (L1.out.via hb)
          replace P1 := Lib.hid (P1.out.via hb)
          replace L2 := Lib.hid (L2.out.via hb)
          replace P2 := Lib.hid (P2.out.via hb)
          replace L3 := Lib.hid (L3.out.via hb)
          replace P3 := Lib.hid (P3.out.via hb)
          replace L4 := Lib.hid (L4.out.via hb)
          replace P4 := Lib.hid (P4.out.via hb)
          replace L5 := Lib.hid (L5.out.via hb)
          replace P5 := Lib.hid (P5.out.via hb)
          replace L6 := Lib.hid (L6.out.via hb)
          replace P6 := Lib.hid (P6.out.via hb)
          replace L7 := Lib.hid (L7.out.via hb)
          replace P7 := Lib.hid (P7.out.via hb)
          replace BX := Lib.hid (btr BX.out hb)
          clear hb
          have ⟨fa0, fa1, fa2, fa3, fa4⟩ := P3.out
          have ⟨fb0, fb1, fb2, fb3, fb4⟩ := P2.out
          go_wp2_with fail
          clear fa0 fa1 fa2 fa3 fa4
          clear fb0 fb1 fb2 fb3 fb4
          refine (rsame_eq _ _ _ _ _ _ _ r q L3.out L2.out HE.out HS3.out HS2.out).mono ?_
          rintro e w19 ⟨rfl, hb⟩
          replace QF := Lib.hid (QF.out.via hb)
          replace LA := Lib.hid (LA.out.via hb)
          replace LB := Lib.hid (LB.out.via hb)
          replace L1 := Lib.hid (L1.out.via hb)
          replace P1 := Lib.hid (P1.out.via hb)
          replace L2 := Lib.hid (L2.out.via hb)
          replace P2 := Lib.hid (P2.out.via hb)
          replace L3 := Lib.hid (L3.out.via hb)
          replace P3 := Lib.hid (P3.out.via hb)
          replace L4 := Lib.hid (L4.out.via hb)
          replace P4 := Lib.hid (P4.out.via hb)
          replace L5 := Lib.hid (L5.out.via hb)
          replace P5 := Lib.hid (P5.out.via hb)
          replace L6 := Lib.hid (L6.out.via hb)
          replace P6 := Lib.hid (P6.out.via hb)
          replace L7 := Lib.hid (L7.out.via hb)
          replace P7 := Lib.hid (P7.out.via hb)
          replace BX := Lib.hid (btr BX.out hb)
          clear hb
          go_wp2
          go_ret
          exact ⟨rfl, BX.out⟩
theorem near_any (w : World) (na nb : Bool) (A B : Option Addr) (n m ca cb : Nat) (xs ys : List Nat) (hA : Lm w w.heap.size A n ca xs) (hB : Lm w w.heap.size B m cb ys) (hU : TabU w) :
    Calls Tryz.prog 6 #[fv na A n ca nb B m cb] w (RBw w true) := by
  by_cases hg : 130 < n ∨ 130 < m
  · exact near_out0 w na nb A B n m ca cb xs ys hA hB hU hg
  · rcases fchk_cases na xs nb ys with hc | hc
    · by_cases hf : 100 < max n m
      · exact near_out2 w na nb A B n m ca cb xs ys hA hB hU hg hc hf
      · obtain ⟨x, P, e1, e2, sx, e3, e4, sP, hP0, _⟩ := of_fchk hc hA.good hB.good (k := 100) (by have := hA.len; omega) (by have := hB.len; omega)
        subst e2 e3 e4
        exact near_in w na A B n m ca cb x P hA hB hU hg (by omega) sx sP hP0 e1.symm hc
    · exact near_out1 w na nb A B n m ca cb xs ys hA hB hU hg hc
end Go.Proofs.YtoigmcggkanncaaGreatDoor

namespace Go.Proofs.YtoigmcggkanncaaGreatDoor
open Go.ChangeShapes Go.WideShapes Go.ChangeAt Go.RowKit

set_option maxRecDepth 100000 in
theorem fracNearest_lifted (os : Os) (started : os.Started) (H : Type) (enc : TypeId × Value → H) :
    ReturnsInHanded {} Tryz.checked os 6 .any (fun w args => (Rows.fracNearestSpec.pre enc Tryz.prog Tryz.f6 [] false w args ∧ laidMetH Tryz.prog laid7 w) ∧ sizedMet enc Tryz.prog Tryz.f6 (OpenSpec.ofChange Rows.fracNearestSpec) false w args)
      (Rows.fracNearestSpec.post enc Tryz.prog Tryz.f6 false true false false) := by
  refine returnsInHanded_of_change_and (C := Tryz.checked) (X := fun w _ => laidMetH Tryz.prog laid7 w) (fun _ _ _ hh h => h.of_heap hh) own started (by kernel_rfl) Tryz.func6
    (ChangeSpec.witness_shaped (enc := enc) (C := Tryz.checked) (os := os) (X := fun w _ => laidMetH Tryz.prog laid7 w) false (World.laidAll Tryz.prog os laid7) #[.agg #[.bool false, .slice none 0 0, .bool false, .slice none 0 0]] 8 (World.laidAll_os _ _ _) (World.shaped_of_ZipB (by kernel_rfl) (by kernel_rfl)) (by kernel_rfl) (by kernel_rfl) (by kernel_rfl) (by rw [MakeChecks.laidMetH_plain _ _ _ (by kernel_rfl)]; exact laidMet_laidAll _ (by kernel_rfl) (by kernel_rfl))) ?_
  intro W base args ds gs before hval0 hW _ _ hL _
  have hTU := tabU_of hL
  have hval : ∀ (j : Nat) t v, Tryz.f6.params[j]? = some t → args[j]? = some v → Value.okWide Tryz.prog W .any base t v := hval0
  have hW' := hW
  obtain ⟨p, q, hA0, hV, rfl, hfz, hnd⟩ := hW
  have hA : DataW.TrodAll enc Tryz.prog W 0 (fun _ => true) true Tryz.f6.params.toList args.toList ds p := hA0
  rw [Tryz.params6] at hA hval
  obtain ⟨v0, d0, rfl, rfl, h0⟩ := trodAll_one hA
  obtain ⟨rfl, rfl⟩ := trodVars_none hV
  clear hA0 hval0
  simp only [List.append_nil] at hW'
  have hlt : ∀ x ∈ p, x.block < W.heap.size := fun x hx => by simpa using hW'.lt x hx
  obtain ⟨na, A, n, ca, xs, nb, B, m, cb, ys, rfl, hLA, hLB⟩ := open_frac (hval 0 29 v0 rfl rfl) h0 hlt
  refine (near_any W na nb A B n m ca cb xs ys hLA hLB hTU).mono fun e W' ⟨he, hb⟩ => ?_
  subst he
  exact ⟨_, rfl, _, _, _, [], p, [], hW', trodAll_mk1 (shut_bool Tryz.underlying4 _),
    trodAll_mk1 (Below.trod laidOut (by kernel_rfl) (of_decide_eq_true (by kernel_rfl)) h0 hb hlt), rfl, hb.frame _, fun h => by cases h⟩

theorem fracNearest_row : Rows.FracNearestSaid :=
  OpenClaim.holds_of_wide 6 Tryz.f6 rfl rfl rfl rfl rfl rfl rfl ⟨rfl, rfl, rfl, rfl, rfl⟩ rfl rfl rfl rfl rfl (by kernel_rfl) Tryz.func6 (by kernel_rfl)
    (of_decide_eq_true (by kernel_rfl)) (by unfold Func.isWrapper; first | (rw [if_pos (by decide +kernel)]; kernel_rfl) | (rw [if_neg (by decide +kernel)]; exact ⟨rfl, rfl⟩))
    (fun os started H enc _ => fracNearest_lifted os started H enc)

theorem fracNearest_holds : Rows.FracNearestCardSaid :=
  Claim7.holds_tied_plain_at .later [] [.data, .data, .data, .data, .sentinel, .sentinel, .pinned] true (Rows.fracNearestCard.stood.harness) true
    fracNearest_row (fun _ h => by cases h) (by kernel_rfl) (fun _ h => by cases h) fracNearest_row_tie rfl ⟨rfl, rfl⟩ (by kernel_rfl) rfl
    (fun f fn hf hfn => by
      obtain rfl : f = 6 := Option.some.inj ((show Tryz.prog.funcNamed "planisphere/planispherelaw02.FracNearest" = some 6 by kernel_rfl).symm.trans hf) |>.symm
      obtain rfl : fn = Tryz.f6 := (Option.some.inj (Tryz.func6.symm.trans hfn)).symm
      exact ⟨by kernel_rfl, fun j t ht => by
        rw [Tryz.params6] at ht
        have hm : t ∈ [29] := by simpa using Array.mem_of_getElem? ht
        have hall : ([29].all fun u => !Tryz.prog.wantsStandIn u) = true := by kernel_rfl
        exact (show Tryz.prog.wantsStandIn t = false by simpa using List.all_eq_true.1 hall t hm)⟩)
    (by kernel_rfl)
end Go.Proofs.YtoigmcggkanncaaGreatDoor

