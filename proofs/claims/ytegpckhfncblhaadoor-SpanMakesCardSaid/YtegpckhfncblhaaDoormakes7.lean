
/-
  For any fraction f and any whole number n the law SpanMakes returns true: Of and Whole of package span return what the reference returns, interval and error, whether the fraction is valid or not. Conditions: none beyond the statement's own (a fraction with more than 260 limbs makes the law return true at once).
-/
import Derived.Test.YtegpckhfncblhaaDoorRows
import Derived.Test.YtegpckhfncblhaaDoorTie
import Derived.Test.YtegpckhfncblhaaDoorCards
import Derived.LaidMore
import Derived.OpenShut
import Derived.Stop.LaidErr
import Derived.MakeChecks
import Derived.SevenTiedAt
import Derived.Test.YtegpckhfncblhaaDoormakes6
/- Intervals of fractions: Of of the reference. -/
namespace Go.Proofs.YtegpckhfncblhaaDoor
open Go.RowKit

theorem mul_neg_iff {N : Int} : decide (N * 1099511627776 < 0) = decide (N < 0) := by
  by_cases h : N < 0
  · rw [decide_eq_true h, decide_eq_true (by omega)]
  · rw [decide_eq_false h, decide_eq_false (by omega)]
set_option maxRecDepth 100000 in
set_option maxHeartbeats 2000000 in
theorem rof_a (w : World) (na : Bool) (A B : Option Addr) (n m ca cb : Nat) (N D : Int) (hA : Lm w w.heap.size A n ca (digs N.natAbs)) (hB : Lm w w.heap.size B m cb (digs D.natAbs)) (hD : 0 < D) (hsN : Sz 300 N) (hsD : Sz 300 D) (hg : fchk na (digs N.natAbs) false (digs D.natAbs) = 0) (ha : decide (N < 0) = na) (h : ¬ (-9223372036854775808 ≤ N * 1099511627776 / D ∧ N * 1099511627776 / D ≤ 9223372036854775807)) : Calls Tryd.prog 5 #[fv na A n ca false B m cb] w (RO w (offO N D)) := by
  have HA := Lib.hid hA
  have HB := Lib.hid hB
  have hck : ∀ W, Lm W W.heap.size A n ca (digs N.natAbs) → Lm W W.heap.size B m cb (digs D.natAbs) → Calls Tryd.prog 13 #[fv na A n ca false B m cb] W (RN1 W 0) := fun W L1 L2 => by
    have h := rfcheck_any W na false A B n m ca cb _ _ L1 L2
    rw [hg] at h
    exact h
  obtain ⟨X, hX⟩ : ∃ X, N * 1099511627776 = X := ⟨_, rfl⟩
  have hp : (2 : Int) ^ 40 = 1099511627776 := by decide
  have hsX : Sz 308 X := by rw [← hX, ← hp]; exact hsN.mul (sz_two 40 (by omega))
  have haX : decide (X < 0) = na := by rw [← hX, mul_neg_iff]; exact ha
  have hsh : ∀ W, Lm W W.heap.size A n ca (digs N.natAbs) → Calls Tryd.prog 14 #[.agg #[.bool na, .slice A n ca], .int .i64 40] W fun e w' => ∃ A n c, e = .returned (.tuple #[.agg #[.bool na, .slice A n c], .int .i64 0]) ∧ Lm w' w'.heap.size A n c (digs X.natAbs) ∧ Below W.heap.size W w' := fun W L => by
    have h := rshup_n W A n ca 40 N L 300 hsN (by omega) (by omega) ha
    rw [hp, hX] at h
    unfold RN at h
    rwa [haX] at h
  obtain ⟨q, hq⟩ : ∃ q, X / D = q := ⟨_, rfl⟩
  have hsq : Sz 308 q := by
    have h1 := Int.mul_ediv_add_emod X D
    have h2 := Int.emod_nonneg X (show D ≠ 0 by omega)
    have h3 := Int.emod_lt_of_pos X hD
    rw [hq] at h1
    unfold Sz at *
    have h4 : q.natAbs ≤ X.natAbs := by
      rcases Int.lt_or_le q 0 with h | h
      · have h7 : 0 ≤ (D - 1) * (-q - 1) := Int.mul_nonneg (by omega) (by omega)
        have h8 : (D - 1) * (-q - 1) = -(D * q) - D + q + 1 := by grind
        omega
      · have h5 : 1 * q ≤ D * q := Int.mul_le_mul_of_nonneg_right (by omega) h
        omega
    omega
  have hdm : ∀ W A n ca, Lm W W.heap.size A n ca (digs X.natAbs) → Lm W W.heap.size B m cb (digs D.natAbs) → Calls Tryd.prog 16 #[.agg #[.bool na, .slice A n ca], .agg #[.bool false, .slice B m cb]] W fun e w' => ∃ A n c A' n' c', e = .returned (.tuple #[.agg #[.bool (decide (q < 0)), .slice A n c], .agg #[.bool false, .slice A' n' c'], .int .i64 0]) ∧ Lm w' w'.heap.size A n c (digs q.natAbs) ∧ Lm w' w'.heap.size A' n' c' (digs (X % D).natAbs) ∧ Below W.heap.size W w' := fun W A n ca L1 L2 =>
    (rdivmod_n W A B n m ca cb 308 X D L1 L2 hsX (hsD.mono (by omega)) (by omega) (by omega) haX (decide_eq_false (by omega))).mono fun e w' h => RDF.of hq (rd2_f hD h)
  have hin : ∀ W A' n' c', Lm W W.heap.size A' n' c' (digs q.natAbs) → Calls Tryd.prog 17 #[.agg #[.bool (decide (q < 0)), .slice A' n' c']] W fun e w' => e = .returned (.tuple #[.int .i64 (i64V q), .int .i64 (i64E q)]) ∧ Below W.heap.size W w' := fun W A' n' c' L => rint_n W A' n' c' 308 q L hsq (by omega) rfl
  have hm0 := Int.emod_nonneg X (show D ≠ 0 by omega)
  have hlen : ∀ n' : Nat, (digs (X % D).natAbs).length = n' → (0 < n' ↔ 0 < X % D) := fun n' h => by rw [← h, digs_pos]; omega
  have hof : offO N D = mkI q (if X % D = 0 then q else q + 1) := by unfold offO; rw [div_mod_c hD, hX, hq]
  rw [hX] at h
  rw [hq] at h
  have HM : Hid (offO N D = ⟨0, 0, 16⟩) := by show _ = _; rw [hof]; exact mk_out (by by_cases h0 : X % D = 0 <;> simp only [h0, if_true, if_false] <;> omega)
  rw [(i64_out h).1, (i64_out h).2] at hin
  clear h
  have HCK := Lib.hid hck
  have HSH := Lib.hid hsh
  have HDM := Lib.hid hdm
  have HIN := Lib.hid hin
  clear hck hdm hin hsq hsN hsD hg ha hA hB hsX haX hX hp hsh hm0 hof hlen hD
  clear hq
  generalize X % D = rr at *
  obtain ⟨zq, hzq⟩ : ∃ b, decide (q < 0) = b := ⟨_, rfl⟩
  rw [hzq] at HDM HIN
  clear hzq
  go_enter Tryd.func5, Tryd.ntmps5
  have QF := Lib.hid ((Qd.new w (w.heap.size) rfl (.bool na) (.slice A n ca) (.bool false) (.slice B m cb) 26).alloc (.cells #[.int .i64 0, .int .i64 0] 28))
  have QR := Lib.hid (Pr.new (w.alloc (.cells #[.bool na, .slice A n ca, .bool false, .slice B m cb] 26)) (w.heap.size + 1) (by simp) (.int .i64 0) (.int .i64 0) 28)
  have LA := Lib.hid ((HA.out.box (.cells #[.bool na, .slice A n ca, .bool false, .slice B m cb] 26)).box (.cells #[.int .i64 0, .int .i64 0] 28))
  have LB := Lib.hid ((HB.out.box (.cells #[.bool na, .slice A n ca, .bool false, .slice B m cb] 26)).box (.cells #[.int .i64 0, .int .i64 0] 28))
  have BW : Hid (Below w.heap.size w ((w.alloc (.cells #[.bool na, .slice A n ca, .bool false, .slice B m cb] 26)).alloc (.cells #[.int .i64 0, .int .i64 0] 28))) := (sbal (sbal (Below.refl _ _) _) _)
  clear HA HB
  go_wp2_with fail
  generalize (w.alloc (.cells #[.bool na, .slice A n ca, .bool false, .slice B m cb] 26)).alloc (.cells #[.int .i64 0, .int .i64 0] 28) = W0 at *
  refine (HCK.out _ LA.out LB.out).mono ?_
  rintro e w1 ⟨rfl, hb⟩
  replace QF := Lib.hid (QF.out.via hb)
  replace QR := Lib.hid (QR.out.via hb)
  replace LA := Lib.hid (LA.out.via hb)
  replace LB := Lib.hid (LB.out.via hb)
  replace BW := Lib.hid (btr BW.out hb)
  clear hb
  have ⟨rQF0, rQF1, rQF2, rQF3, rQF4, rQF5, rQF6, rQF7, rQFl⟩ := QF.out
  go_wp2_with fail
  clear rQF0 rQF1 rQF2 rQF3 rQF4 rQF5 rQF6 rQF7 rQFl
  refine (HSH.out _ LA.out).mono ?_
  rintro e w2 ⟨A0, n0, c0, rfl, hL0, hb⟩
  clear LA
  replace QF := Lib.hid (QF.out.via hb)
  replace QR := Lib.hid (QR.out.via hb)
  replace LB := Lib.hid (LB.out.via hb)
  replace BW := Lib.hid (btr BW.out hb)
  have L0 := Lib.hid hL0
  clear hb hL0
  have ⟨rQF0, rQF1, rQF2, rQF3, rQF4, rQF5, rQF6, rQF7, rQFl⟩ := QF.out
  go_wp2_with fail
  clear rQF0 rQF1 rQF2 rQF3 rQF4 rQF5 rQF6 rQF7 rQFl
  replace QF := Lib.hid (QF.out.alloc (.cells #[.bool na, .slice A0 n0 c0] 24))
  replace QR := Lib.hid (QR.out.alloc (.cells #[.bool na, .slice A0 n0 c0] 24))
  replace LB := Lib.hid (LB.out.box (.cells #[.bool na, .slice A0 n0 c0] 24))
  replace L0 := Lib.hid (L0.out.box (.cells #[.bool na, .slice A0 n0 c0] 24))
  have Q4 := Lib.hid (Pr.new w2 _ rfl (.bool na) (.slice A0 n0 c0) 24)
  replace BW := Lib.hid (sbal BW.out (.cells #[.bool na, .slice A0 n0 c0] 24))
  generalize w2.alloc (.cells #[.bool na, .slice A0 n0 c0] 24) = W2 at *
  generalize w2.heap.size = g2 at *
  have ⟨rQF0, rQF1, rQF2, rQF3, rQF4, rQF5, rQF6, rQF7, rQFl⟩ := QF.out
  have ⟨rQ40, rQ41, rQ42, rQ43, rQ4l⟩ := Q4.out
  go_wp2_with fail
  clear rQF0 rQF1 rQF2 rQF3 rQF4 rQF5 rQF6 rQF7 rQFl rQ40 rQ41 rQ42 rQ43 rQ4l
  refine (HDM.out _ _ _ _ L0.out LB.out).mono ?_
  rintro e w3 ⟨A1, n1, c1, A2, n2, c2, rfl, hL1, hL2, hb⟩
  clear L0
  clear LB
  clear QF
  clear Q4
  replace QR := Lib.hid (QR.out.via hb)
  replace BW := Lib.hid (btr BW.out hb)
  have L1 := Lib.hid hL1
  have L2 := Lib.hid hL2
  clear hb hL1 hL2
  go_wp2_with fail
  replace QR := Lib.hid ((QR.out.alloc (.cells #[.bool zq, .slice A1 n1 c1] 24)).alloc (.cells #[.bool false, .slice A2 n2 c2] 24))
  replace L1 := Lib.hid ((L1.out.box (.cells #[.bool zq, .slice A1 n1 c1] 24)).box (.cells #[.bool false, .slice A2 n2 c2] 24))
  replace L2 := Lib.hid ((L2.out.box (.cells #[.bool zq, .slice A1 n1 c1] 24)).box (.cells #[.bool false, .slice A2 n2 c2] 24))
  have Q6 := Lib.hid ((Pr.new w3 _ rfl (.bool zq) (.slice A1 n1 c1) 24).alloc (.cells #[.bool false, .slice A2 n2 c2] 24))
  have Q7 := Lib.hid (Pr.new (w3.alloc (.cells #[.bool zq, .slice A1 n1 c1] 24)) (w3.heap.size + 1) (by simp) (.bool false) (.slice A2 n2 c2) 24)
  replace BW := Lib.hid (sbal (sbal BW.out (.cells #[.bool zq, .slice A1 n1 c1] 24)) (.cells #[.bool false, .slice A2 n2 c2] 24))
  generalize (w3.alloc (.cells #[.bool zq, .slice A1 n1 c1] 24)).alloc (.cells #[.bool false, .slice A2 n2 c2] 24) = W3 at *
  generalize w3.heap.size = g3 at *
  refine (HIN.out _ _ _ _ L1.out).mono ?_
  rintro e w4 ⟨rfl, hb⟩
  clear Q6
  clear L1
  replace QR := Lib.hid (QR.out.via hb)
  replace L2 := Lib.hid (L2.out.via hb)
  replace Q7 := Lib.hid (Q7.out.via hb)
  replace BW := Lib.hid (btr BW.out hb)
  clear hb
  have ⟨rQR0, rQR1, rQR2, rQR3, rQRl⟩ := QR.out
  go_wp2
  exact post_iv Tryd.results5 rfl rfl (QR.out.set _ _) ⟨ret_out HM.out, below_set2 BW.out (by omega) _ _⟩
set_option maxRecDepth 100000 in
set_option maxHeartbeats 2000000 in
theorem rof_b (w : World) (na : Bool) (A B : Option Addr) (n m ca cb : Nat) (N D : Int) (hA : Lm w w.heap.size A n ca (digs N.natAbs)) (hB : Lm w w.heap.size B m cb (digs D.natAbs)) (hD : 0 < D) (hsN : Sz 300 N) (hsD : Sz 300 D) (hg : fchk na (digs N.natAbs) false (digs D.natAbs) = 0) (ha : decide (N < 0) = na) (h : -9223372036854775808 ≤ N * 1099511627776 / D ∧ N * 1099511627776 / D < -2305843009213693952) : Calls Tryd.prog 5 #[fv na A n ca false B m cb] w (RO w (offO N D)) := by
  have HA := Lib.hid hA
  have HB := Lib.hid hB
  have hck : ∀ W, Lm W W.heap.size A n ca (digs N.natAbs) → Lm W W.heap.size B m cb (digs D.natAbs) → Calls Tryd.prog 13 #[fv na A n ca false B m cb] W (RN1 W 0) := fun W L1 L2 => by
    have h := rfcheck_any W na false A B n m ca cb _ _ L1 L2
    rw [hg] at h
    exact h
  obtain ⟨X, hX⟩ : ∃ X, N * 1099511627776 = X := ⟨_, rfl⟩
  have hp : (2 : Int) ^ 40 = 1099511627776 := by decide
  have hsX : Sz 308 X := by rw [← hX, ← hp]; exact hsN.mul (sz_two 40 (by omega))
  have haX : decide (X < 0) = na := by rw [← hX, mul_neg_iff]; exact ha
  have hsh : ∀ W, Lm W W.heap.size A n ca (digs N.natAbs) → Calls Tryd.prog 14 #[.agg #[.bool na, .slice A n ca], .int .i64 40] W fun e w' => ∃ A n c, e = .returned (.tuple #[.agg #[.bool na, .slice A n c], .int .i64 0]) ∧ Lm w' w'.heap.size A n c (digs X.natAbs) ∧ Below W.heap.size W w' := fun W L => by
    have h := rshup_n W A n ca 40 N L 300 hsN (by omega) (by omega) ha
    rw [hp, hX] at h
    unfold RN at h
    rwa [haX] at h
  obtain ⟨q, hq⟩ : ∃ q, X / D = q := ⟨_, rfl⟩
  have hsq : Sz 308 q := by
    have h1 := Int.mul_ediv_add_emod X D
    have h2 := Int.emod_nonneg X (show D ≠ 0 by omega)
    have h3 := Int.emod_lt_of_pos X hD
    rw [hq] at h1
    unfold Sz at *
    have h4 : q.natAbs ≤ X.natAbs := by
      rcases Int.lt_or_le q 0 with h | h
      · have h7 : 0 ≤ (D - 1) * (-q - 1) := Int.mul_nonneg (by omega) (by omega)
        have h8 : (D - 1) * (-q - 1) = -(D * q) - D + q + 1 := by grind
        omega
      · have h5 : 1 * q ≤ D * q := Int.mul_le_mul_of_nonneg_right (by omega) h
        omega
    omega
  have hdm : ∀ W A n ca, Lm W W.heap.size A n ca (digs X.natAbs) → Lm W W.heap.size B m cb (digs D.natAbs) → Calls Tryd.prog 16 #[.agg #[.bool na, .slice A n ca], .agg #[.bool false, .slice B m cb]] W fun e w' => ∃ A n c A' n' c', e = .returned (.tuple #[.agg #[.bool (decide (q < 0)), .slice A n c], .agg #[.bool false, .slice A' n' c'], .int .i64 0]) ∧ Lm w' w'.heap.size A n c (digs q.natAbs) ∧ Lm w' w'.heap.size A' n' c' (digs (X % D).natAbs) ∧ Below W.heap.size W w' := fun W A n ca L1 L2 =>
    (rdivmod_n W A B n m ca cb 308 X D L1 L2 hsX (hsD.mono (by omega)) (by omega) (by omega) haX (decide_eq_false (by omega))).mono fun e w' h => RDF.of hq (rd2_f hD h)
  have hin : ∀ W A' n' c', Lm W W.heap.size A' n' c' (digs q.natAbs) → Calls Tryd.prog 17 #[.agg #[.bool (decide (q < 0)), .slice A' n' c']] W fun e w' => e = .returned (.tuple #[.int .i64 (i64V q), .int .i64 (i64E q)]) ∧ Below W.heap.size W w' := fun W A' n' c' L => rint_n W A' n' c' 308 q L hsq (by omega) rfl
  have hm0 := Int.emod_nonneg X (show D ≠ 0 by omega)
  have hlen : ∀ n' : Nat, (digs (X % D).natAbs).length = n' → (0 < n' ↔ 0 < X % D) := fun n' h => by rw [← h, digs_pos]; omega
  have hof : offO N D = mkI q (if X % D = 0 then q else q + 1) := by unfold offO; rw [div_mod_c hD, hX, hq]
  rw [hX] at h
  rw [hq] at h
  have HM : Hid (offO N D = ⟨0, 0, 16⟩) := by show _ = _; rw [hof]; exact mk_out (by by_cases h0 : X % D = 0 <;> simp only [h0, if_true, if_false] <;> omega)
  rw [(i64_in' (q := q) (by omega)).1, (i64_in' (q := q) (by omega)).2] at hin
  obtain ⟨hA1, hA2⟩ := h
  have HLO := Lib.hid hA2
  clear hA1 hA2
  have HCK := Lib.hid hck
  have HSH := Lib.hid hsh
  have HDM := Lib.hid hdm
  have HIN := Lib.hid hin
  clear hck hdm hin hsq hsN hsD hg ha hA hB hsX haX hX hp hsh hm0 hof hlen hD
  clear hq
  generalize X % D = rr at *
  obtain ⟨zq, hzq⟩ : ∃ b, decide (q < 0) = b := ⟨_, rfl⟩
  rw [hzq] at HDM HIN
  clear hzq
  go_enter Tryd.func5, Tryd.ntmps5
  have QF := Lib.hid ((Qd.new w (w.heap.size) rfl (.bool na) (.slice A n ca) (.bool false) (.slice B m cb) 26).alloc (.cells #[.int .i64 0, .int .i64 0] 28))
  have QR := Lib.hid (Pr.new (w.alloc (.cells #[.bool na, .slice A n ca, .bool false, .slice B m cb] 26)) (w.heap.size + 1) (by simp) (.int .i64 0) (.int .i64 0) 28)
  have LA := Lib.hid ((HA.out.box (.cells #[.bool na, .slice A n ca, .bool false, .slice B m cb] 26)).box (.cells #[.int .i64 0, .int .i64 0] 28))
  have LB := Lib.hid ((HB.out.box (.cells #[.bool na, .slice A n ca, .bool false, .slice B m cb] 26)).box (.cells #[.int .i64 0, .int .i64 0] 28))
  have BW : Hid (Below w.heap.size w ((w.alloc (.cells #[.bool na, .slice A n ca, .bool false, .slice B m cb] 26)).alloc (.cells #[.int .i64 0, .int .i64 0] 28))) := (sbal (sbal (Below.refl _ _) _) _)
  clear HA HB
  go_wp2_with fail
  generalize (w.alloc (.cells #[.bool na, .slice A n ca, .bool false, .slice B m cb] 26)).alloc (.cells #[.int .i64 0, .int .i64 0] 28) = W0 at *
  refine (HCK.out _ LA.out LB.out).mono ?_
  rintro e w1 ⟨rfl, hb⟩
  replace QF := Lib.hid (QF.out.via hb)
  replace QR := Lib.hid (QR.out.via hb)
  replace LA := Lib.hid (LA.out.via hb)
  replace LB := Lib.hid (LB.out.via hb)
  replace BW := Lib.hid (btr BW.out hb)
  clear hb
  have ⟨rQF0, rQF1, rQF2, rQF3, rQF4, rQF5, rQF6, rQF7, rQFl⟩ := QF.out
  go_wp2_with fail
  clear rQF0 rQF1 rQF2 rQF3 rQF4 rQF5 rQF6 rQF7 rQFl
  refine (HSH.out _ LA.out).mono ?_
  rintro e w2 ⟨A0, n0, c0, rfl, hL0, hb⟩
  clear LA
  replace QF := Lib.hid (QF.out.via hb)
  replace QR := Lib.hid (QR.out.via hb)
  replace LB := Lib.hid (LB.out.via hb)
  replace BW := Lib.hid (btr BW.out hb)
  have L0 := Lib.hid hL0
  clear hb hL0
  have ⟨rQF0, rQF1, rQF2, rQF3, rQF4, rQF5, rQF6, rQF7, rQFl⟩ := QF.out
  go_wp2_with fail
  clear rQF0 rQF1 rQF2 rQF3 rQF4 rQF5 rQF6 rQF7 rQFl
  replace QF := Lib.hid (QF.out.alloc (.cells #[.bool na, .slice A0 n0 c0] 24))
  replace QR := Lib.hid (QR.out.alloc (.cells #[.bool na, .slice A0 n0 c0] 24))
  replace LB := Lib.hid (LB.out.box (.cells #[.bool na, .slice A0 n0 c0] 24))
  replace L0 := Lib.hid (L0.out.box (.cells #[.bool na, .slice A0 n0 c0] 24))
  have Q4 := Lib.hid (Pr.new w2 _ rfl (.bool na) (.slice A0 n0 c0) 24)
  replace BW := Lib.hid (sbal BW.out (.cells #[.bool na, .slice A0 n0 c0] 24))
  generalize w2.alloc (.cells #[.bool na, .slice A0 n0 c0] 24) = W2 at *
  generalize w2.heap.size = g2 at *
  have ⟨rQF0, rQF1, rQF2, rQF3, rQF4, rQF5, rQF6, rQF7, rQFl⟩ := QF.out
  have ⟨rQ40, rQ41, rQ42, rQ43, rQ4l⟩ := Q4.out
  go_wp2_with fail
  clear rQF0 rQF1 rQF2 rQF3 rQF4 rQF5 rQF6 rQF7 rQFl rQ40 rQ41 rQ42 rQ43 rQ4l
  refine (HDM.out _ _ _ _ L0.out LB.out).mono ?_
  rintro e w3 ⟨A1, n1, c1, A2, n2, c2, rfl, hL1, hL2, hb⟩
  clear L0
  clear LB
  clear QF
  clear Q4
  replace QR := Lib.hid (QR.out.via hb)
  replace BW := Lib.hid (btr BW.out hb)
  have L1 := Lib.hid hL1
  have L2 := Lib.hid hL2
  clear hb hL1 hL2
  go_wp2_with fail
  replace QR := Lib.hid ((QR.out.alloc (.cells #[.bool zq, .slice A1 n1 c1] 24)).alloc (.cells #[.bool false, .slice A2 n2 c2] 24))
  replace L1 := Lib.hid ((L1.out.box (.cells #[.bool zq, .slice A1 n1 c1] 24)).box (.cells #[.bool false, .slice A2 n2 c2] 24))
  replace L2 := Lib.hid ((L2.out.box (.cells #[.bool zq, .slice A1 n1 c1] 24)).box (.cells #[.bool false, .slice A2 n2 c2] 24))
  have Q6 := Lib.hid ((Pr.new w3 _ rfl (.bool zq) (.slice A1 n1 c1) 24).alloc (.cells #[.bool false, .slice A2 n2 c2] 24))
  have Q7 := Lib.hid (Pr.new (w3.alloc (.cells #[.bool zq, .slice A1 n1 c1] 24)) (w3.heap.size + 1) (by simp) (.bool false) (.slice A2 n2 c2) 24)
  replace BW := Lib.hid (sbal (sbal BW.out (.cells #[.bool zq, .slice A1 n1 c1] 24)) (.cells #[.bool false, .slice A2 n2 c2] 24))
  generalize (w3.alloc (.cells #[.bool zq, .slice A1 n1 c1] 24)).alloc (.cells #[.bool false, .slice A2 n2 c2] 24) = W3 at *
  generalize w3.heap.size = g3 at *
  refine (HIN.out _ _ _ _ L1.out).mono ?_
  rintro e w4 ⟨rfl, hb⟩
  clear Q6
  clear L1
  replace QR := Lib.hid (QR.out.via hb)
  replace L2 := Lib.hid (L2.out.via hb)
  replace Q7 := Lib.hid (Q7.out.via hb)
  replace BW := Lib.hid (btr BW.out hb)
  clear hb
  have hlo : q < -2305843009213693952 := HLO.out
  have ⟨rQR0, rQR1, rQR2, rQR3, rQRl⟩ := QR.out
  go_wp2
  exact post_iv Tryd.results5 rfl rfl (QR.out.set _ _) ⟨ret_out HM.out, below_set2 BW.out (by omega) _ _⟩
set_option maxRecDepth 100000 in
set_option maxHeartbeats 2000000 in
theorem rof_c (w : World) (na : Bool) (A B : Option Addr) (n m ca cb : Nat) (N D : Int) (hA : Lm w w.heap.size A n ca (digs N.natAbs)) (hB : Lm w w.heap.size B m cb (digs D.natAbs)) (hD : 0 < D) (hsN : Sz 300 N) (hsD : Sz 300 D) (hg : fchk na (digs N.natAbs) false (digs D.natAbs) = 0) (ha : decide (N < 0) = na) (h : 2305843009213693952 < N * 1099511627776 / D ∧ N * 1099511627776 / D ≤ 9223372036854775807) : Calls Tryd.prog 5 #[fv na A n ca false B m cb] w (RO w (offO N D)) := by
  have HA := Lib.hid hA
  have HB := Lib.hid hB
  have hck : ∀ W, Lm W W.heap.size A n ca (digs N.natAbs) → Lm W W.heap.size B m cb (digs D.natAbs) → Calls Tryd.prog 13 #[fv na A n ca false B m cb] W (RN1 W 0) := fun W L1 L2 => by
    have h := rfcheck_any W na false A B n m ca cb _ _ L1 L2
    rw [hg] at h
    exact h
  obtain ⟨X, hX⟩ : ∃ X, N * 1099511627776 = X := ⟨_, rfl⟩
  have hp : (2 : Int) ^ 40 = 1099511627776 := by decide
  have hsX : Sz 308 X := by rw [← hX, ← hp]; exact hsN.mul (sz_two 40 (by omega))
  have haX : decide (X < 0) = na := by rw [← hX, mul_neg_iff]; exact ha
  have hsh : ∀ W, Lm W W.heap.size A n ca (digs N.natAbs) → Calls Tryd.prog 14 #[.agg #[.bool na, .slice A n ca], .int .i64 40] W fun e w' => ∃ A n c, e = .returned (.tuple #[.agg #[.bool na, .slice A n c], .int .i64 0]) ∧ Lm w' w'.heap.size A n c (digs X.natAbs) ∧ Below W.heap.size W w' := fun W L => by
    have h := rshup_n W A n ca 40 N L 300 hsN (by omega) (by omega) ha
    rw [hp, hX] at h
    unfold RN at h
    rwa [haX] at h
  obtain ⟨q, hq⟩ : ∃ q, X / D = q := ⟨_, rfl⟩
  have hsq : Sz 308 q := by
    have h1 := Int.mul_ediv_add_emod X D
    have h2 := Int.emod_nonneg X (show D ≠ 0 by omega)
    have h3 := Int.emod_lt_of_pos X hD
    rw [hq] at h1
    unfold Sz at *
    have h4 : q.natAbs ≤ X.natAbs := by
      rcases Int.lt_or_le q 0 with h | h
      · have h7 : 0 ≤ (D - 1) * (-q - 1) := Int.mul_nonneg (by omega) (by omega)
        have h8 : (D - 1) * (-q - 1) = -(D * q) - D + q + 1 := by grind
        omega
      · have h5 : 1 * q ≤ D * q := Int.mul_le_mul_of_nonneg_right (by omega) h
        omega
    omega
  have hdm : ∀ W A n ca, Lm W W.heap.size A n ca (digs X.natAbs) → Lm W W.heap.size B m cb (digs D.natAbs) → Calls Tryd.prog 16 #[.agg #[.bool na, .slice A n ca], .agg #[.bool false, .slice B m cb]] W fun e w' => ∃ A n c A' n' c', e = .returned (.tuple #[.agg #[.bool (decide (q < 0)), .slice A n c], .agg #[.bool false, .slice A' n' c'], .int .i64 0]) ∧ Lm w' w'.heap.size A n c (digs q.natAbs) ∧ Lm w' w'.heap.size A' n' c' (digs (X % D).natAbs) ∧ Below W.heap.size W w' := fun W A n ca L1 L2 =>
    (rdivmod_n W A B n m ca cb 308 X D L1 L2 hsX (hsD.mono (by omega)) (by omega) (by omega) haX (decide_eq_false (by omega))).mono fun e w' h => RDF.of hq (rd2_f hD h)
  have hin : ∀ W A' n' c', Lm W W.heap.size A' n' c' (digs q.natAbs) → Calls Tryd.prog 17 #[.agg #[.bool (decide (q < 0)), .slice A' n' c']] W fun e w' => e = .returned (.tuple #[.int .i64 (i64V q), .int .i64 (i64E q)]) ∧ Below W.heap.size W w' := fun W A' n' c' L => rint_n W A' n' c' 308 q L hsq (by omega) rfl
  have hm0 := Int.emod_nonneg X (show D ≠ 0 by omega)
  have hlen : ∀ n' : Nat, (digs (X % D).natAbs).length = n' → (0 < n' ↔ 0 < X % D) := fun n' h => by rw [← h, digs_pos]; omega
  have hof : offO N D = mkI q (if X % D = 0 then q else q + 1) := by unfold offO; rw [div_mod_c hD, hX, hq]
  rw [hX] at h
  rw [hq] at h
  have HM : Hid (offO N D = ⟨0, 0, 16⟩) := by show _ = _; rw [hof]; exact mk_out (by by_cases h0 : X % D = 0 <;> simp only [h0, if_true, if_false] <;> omega)
  rw [(i64_in' (q := q) (by omega)).1, (i64_in' (q := q) (by omega)).2] at hin
  obtain ⟨hA1, hA2⟩ := h
  have HLO := Lib.hid hA1
  clear hA1 hA2
  have HCK := Lib.hid hck
  have HSH := Lib.hid hsh
  have HDM := Lib.hid hdm
  have HIN := Lib.hid hin
  clear hck hdm hin hsq hsN hsD hg ha hA hB hsX haX hX hp hsh hm0 hof hlen hD
  clear hq
  generalize X % D = rr at *
  obtain ⟨zq, hzq⟩ : ∃ b, decide (q < 0) = b := ⟨_, rfl⟩
  rw [hzq] at HDM HIN
  clear hzq
  go_enter Tryd.func5, Tryd.ntmps5
  have QF := Lib.hid ((Qd.new w (w.heap.size) rfl (.bool na) (.slice A n ca) (.bool false) (.slice B m cb) 26).alloc (.cells #[.int .i64 0, .int .i64 0] 28))
  have QR := Lib.hid (Pr.new (w.alloc (.cells #[.bool na, .slice A n ca, .bool false, .slice B m cb] 26)) (w.heap.size + 1) (by simp) (.int .i64 0) (.int .i64 0) 28)
  have LA := Lib.hid ((HA.out.box (.cells #[.bool na, .slice A n ca, .bool false, .slice B m cb] 26)).box (.cells #[.int .i64 0, .int .i64 0] 28))
  have LB := Lib.hid ((HB.out.box (.cells #[.bool na, .slice A n ca, .bool false, .slice B m cb] 26)).box (.cells #[.int .i64 0, .int .i64 0] 28))
  have BW : Hid (Below w.heap.size w ((w.alloc (.cells #[.bool na, .slice A n ca, .bool false, .slice B m cb] 26)).alloc (.cells #[.int .i64 0, .int .i64 0] 28))) := (sbal (sbal (Below.refl _ _) _) _)
  clear HA HB
  go_wp2_with fail
  generalize (w.alloc (.cells #[.bool na, .slice A n ca, .bool false, .slice B m cb] 26)).alloc (.cells #[.int .i64 0, .int .i64 0] 28) = W0 at *
  refine (HCK.out _ LA.out LB.out).mono ?_
  rintro e w1 ⟨rfl, hb⟩
  replace QF := Lib.hid (QF.out.via hb)
  replace QR := Lib.hid (QR.out.via hb)
  replace LA := Lib.hid (LA.out.via hb)
  replace LB := Lib.hid (LB.out.via hb)
  replace BW := Lib.hid (btr BW.out hb)
  clear hb
  have ⟨rQF0, rQF1, rQF2, rQF3, rQF4, rQF5, rQF6, rQF7, rQFl⟩ := QF.out
  go_wp2_with fail
  clear rQF0 rQF1 rQF2 rQF3 rQF4 rQF5 rQF6 rQF7 rQFl
  refine (HSH.out _ LA.out).mono ?_
  rintro e w2 ⟨A0, n0, c0, rfl, hL0, hb⟩
  clear LA
  replace QF := Lib.hid (QF.out.via hb)
  replace QR := Lib.hid (QR.out.via hb)
  replace LB := Lib.hid (LB.out.via hb)
  replace BW := Lib.hid (btr BW.out hb)
  have L0 := Lib.hid hL0
  clear hb hL0
  have ⟨rQF0, rQF1, rQF2, rQF3, rQF4, rQF5, rQF6, rQF7, rQFl⟩ := QF.out
  go_wp2_with fail
  clear rQF0 rQF1 rQF2 rQF3 rQF4 rQF5 rQF6 rQF7 rQFl
  replace QF := Lib.hid (QF.out.alloc (.cells #[.bool na, .slice A0 n0 c0] 24))
  replace QR := Lib.hid (QR.out.alloc (.cells #[.bool na, .slice A0 n0 c0] 24))
  replace LB := Lib.hid (LB.out.box (.cells #[.bool na, .slice A0 n0 c0] 24))
  replace L0 := Lib.hid (L0.out.box (.cells #[.bool na, .slice A0 n0 c0] 24))
  have Q4 := Lib.hid (Pr.new w2 _ rfl (.bool na) (.slice A0 n0 c0) 24)
  replace BW := Lib.hid (sbal BW.out (.cells #[.bool na, .slice A0 n0 c0] 24))
  generalize w2.alloc (.cells #[.bool na, .slice A0 n0 c0] 24) = W2 at *
  generalize w2.heap.size = g2 at *
  have ⟨rQF0, rQF1, rQF2, rQF3, rQF4, rQF5, rQF6, rQF7, rQFl⟩ := QF.out
  have ⟨rQ40, rQ41, rQ42, rQ43, rQ4l⟩ := Q4.out
  go_wp2_with fail
  clear rQF0 rQF1 rQF2 rQF3 rQF4 rQF5 rQF6 rQF7 rQFl rQ40 rQ41 rQ42 rQ43 rQ4l
  refine (HDM.out _ _ _ _ L0.out LB.out).mono ?_
  rintro e w3 ⟨A1, n1, c1, A2, n2, c2, rfl, hL1, hL2, hb⟩
  clear L0
  clear LB
  clear QF
  clear Q4
  replace QR := Lib.hid (QR.out.via hb)
  replace BW := Lib.hid (btr BW.out hb)
  have L1 := Lib.hid hL1
  have L2 := Lib.hid hL2
  clear hb hL1 hL2
  go_wp2_with fail
  replace QR := Lib.hid ((QR.out.alloc (.cells #[.bool zq, .slice A1 n1 c1] 24)).alloc (.cells #[.bool false, .slice A2 n2 c2] 24))
  replace L1 := Lib.hid ((L1.out.box (.cells #[.bool zq, .slice A1 n1 c1] 24)).box (.cells #[.bool false, .slice A2 n2 c2] 24))
  replace L2 := Lib.hid ((L2.out.box (.cells #[.bool zq, .slice A1 n1 c1] 24)).box (.cells #[.bool false, .slice A2 n2 c2] 24))
  have Q6 := Lib.hid ((Pr.new w3 _ rfl (.bool zq) (.slice A1 n1 c1) 24).alloc (.cells #[.bool false, .slice A2 n2 c2] 24))
  have Q7 := Lib.hid (Pr.new (w3.alloc (.cells #[.bool zq, .slice A1 n1 c1] 24)) (w3.heap.size + 1) (by simp) (.bool false) (.slice A2 n2 c2) 24)
  replace BW := Lib.hid (sbal (sbal BW.out (.cells #[.bool zq, .slice A1 n1 c1] 24)) (.cells #[.bool false, .slice A2 n2 c2] 24))
  generalize (w3.alloc (.cells #[.bool zq, .slice A1 n1 c1] 24)).alloc (.cells #[.bool false, .slice A2 n2 c2] 24) = W3 at *
  generalize w3.heap.size = g3 at *
  refine (HIN.out _ _ _ _ L1.out).mono ?_
  rintro e w4 ⟨rfl, hb⟩
  clear Q6
  clear L1
  replace QR := Lib.hid (QR.out.via hb)
  replace L2 := Lib.hid (L2.out.via hb)
  replace Q7 := Lib.hid (Q7.out.via hb)
  replace BW := Lib.hid (btr BW.out hb)
  clear hb
  have hlo : 2305843009213693952 < q := HLO.out
  have hlb : decide (q < -2305843009213693952) = false := decide_eq_false (by omega)
  have ⟨rQR0, rQR1, rQR2, rQR3, rQRl⟩ := QR.out
  go_wp2
  exact post_iv Tryd.results5 rfl rfl (QR.out.set _ _) ⟨ret_out HM.out, below_set2 BW.out (by omega) _ _⟩
set_option maxRecDepth 100000 in
set_option maxHeartbeats 2000000 in
theorem rof_d (w : World) (na : Bool) (A B : Option Addr) (n m ca cb : Nat) (N D : Int) (hA : Lm w w.heap.size A n ca (digs N.natAbs)) (hB : Lm w w.heap.size B m cb (digs D.natAbs)) (hD : 0 < D) (hsN : Sz 300 N) (hsD : Sz 300 D) (hg : fchk na (digs N.natAbs) false (digs D.natAbs) = 0) (ha : decide (N < 0) = na) (h : N * 1099511627776 / D = 2305843009213693952 ∧ 0 < N * 1099511627776 % D) : Calls Tryd.prog 5 #[fv na A n ca false B m cb] w (RO w (offO N D)) := by
  have HA := Lib.hid hA
  have HB := Lib.hid hB
  have hck : ∀ W, Lm W W.heap.size A n ca (digs N.natAbs) → Lm W W.heap.size B m cb (digs D.natAbs) → Calls Tryd.prog 13 #[fv na A n ca false B m cb] W (RN1 W 0) := fun W L1 L2 => by
    have h := rfcheck_any W na false A B n m ca cb _ _ L1 L2
    rw [hg] at h
    exact h
  obtain ⟨X, hX⟩ : ∃ X, N * 1099511627776 = X := ⟨_, rfl⟩
  have hp : (2 : Int) ^ 40 = 1099511627776 := by decide
  have hsX : Sz 308 X := by rw [← hX, ← hp]; exact hsN.mul (sz_two 40 (by omega))
  have haX : decide (X < 0) = na := by rw [← hX, mul_neg_iff]; exact ha
  have hsh : ∀ W, Lm W W.heap.size A n ca (digs N.natAbs) → Calls Tryd.prog 14 #[.agg #[.bool na, .slice A n ca], .int .i64 40] W fun e w' => ∃ A n c, e = .returned (.tuple #[.agg #[.bool na, .slice A n c], .int .i64 0]) ∧ Lm w' w'.heap.size A n c (digs X.natAbs) ∧ Below W.heap.size W w' := fun W L => by
    have h := rshup_n W A n ca 40 N L 300 hsN (by omega) (by omega) ha
    rw [hp, hX] at h
    unfold RN at h
    rwa [haX] at h
  obtain ⟨q, hq⟩ : ∃ q, X / D = q := ⟨_, rfl⟩
  have hsq : Sz 308 q := by
    have h1 := Int.mul_ediv_add_emod X D
    have h2 := Int.emod_nonneg X (show D ≠ 0 by omega)
    have h3 := Int.emod_lt_of_pos X hD
    rw [hq] at h1
    unfold Sz at *
    have h4 : q.natAbs ≤ X.natAbs := by
      rcases Int.lt_or_le q 0 with h | h
      · have h7 : 0 ≤ (D - 1) * (-q - 1) := Int.mul_nonneg (by omega) (by omega)
        have h8 : (D - 1) * (-q - 1) = -(D * q) - D + q + 1 := by grind
        omega
      · have h5 : 1 * q ≤ D * q := Int.mul_le_mul_of_nonneg_right (by omega) h
        omega
    omega
  have hdm : ∀ W A n ca, Lm W W.heap.size A n ca (digs X.natAbs) → Lm W W.heap.size B m cb (digs D.natAbs) → Calls Tryd.prog 16 #[.agg #[.bool na, .slice A n ca], .agg #[.bool false, .slice B m cb]] W fun e w' => ∃ A n c A' n' c', e = .returned (.tuple #[.agg #[.bool (decide (q < 0)), .slice A n c], .agg #[.bool false, .slice A' n' c'], .int .i64 0]) ∧ Lm w' w'.heap.size A n c (digs q.natAbs) ∧ Lm w' w'.heap.size A' n' c' (digs (X % D).natAbs) ∧ Below W.heap.size W w' := fun W A n ca L1 L2 =>
    (rdivmod_n W A B n m ca cb 308 X D L1 L2 hsX (hsD.mono (by omega)) (by omega) (by omega) haX (decide_eq_false (by omega))).mono fun e w' h => RDF.of hq (rd2_f hD h)
  have hin : ∀ W A' n' c', Lm W W.heap.size A' n' c' (digs q.natAbs) → Calls Tryd.prog 17 #[.agg #[.bool (decide (q < 0)), .slice A' n' c']] W fun e w' => e = .returned (.tuple #[.int .i64 (i64V q), .int .i64 (i64E q)]) ∧ Below W.heap.size W w' := fun W A' n' c' L => rint_n W A' n' c' 308 q L hsq (by omega) rfl
  have hm0 := Int.emod_nonneg X (show D ≠ 0 by omega)
  have hlen : ∀ n' : Nat, (digs (X % D).natAbs).length = n' → (0 < n' ↔ 0 < X % D) := fun n' h => by rw [← h, digs_pos]; omega
  have hof : offO N D = mkI q (if X % D = 0 then q else q + 1) := by unfold offO; rw [div_mod_c hD, hX, hq]
  rw [hX] at h
  rw [hq] at h
  have HM : Hid (offO N D = ⟨0, 0, 16⟩) := by show _ = _; rw [hof]; exact mk_out (by by_cases h0 : X % D = 0 <;> simp only [h0, if_true, if_false] <;> omega)
  rw [(i64_in' (q := q) (by omega)).1, (i64_in' (q := q) (by omega)).2] at hin
  obtain ⟨hA1, hA2⟩ := h
  have HRR := Lib.hid (fun n' h' => (hlen n' h').2 hA2)
  clear hA2
  have HA1 := Lib.hid hA1
  clear hA1
  have HCK := Lib.hid hck
  have HSH := Lib.hid hsh
  have HDM := Lib.hid hdm
  have HIN := Lib.hid hin
  clear hck hdm hin hsq hsN hsD hg ha hA hB hsX haX hX hp hsh hm0 hof hlen hD
  clear hq
  generalize X % D = rr at *
  obtain ⟨zq, hzq⟩ : ∃ b, decide (q < 0) = b := ⟨_, rfl⟩
  rw [hzq] at HDM HIN
  clear hzq
  go_enter Tryd.func5, Tryd.ntmps5
  have QF := Lib.hid ((Qd.new w (w.heap.size) rfl (.bool na) (.slice A n ca) (.bool false) (.slice B m cb) 26).alloc (.cells #[.int .i64 0, .int .i64 0] 28))
  have QR := Lib.hid (Pr.new (w.alloc (.cells #[.bool na, .slice A n ca, .bool false, .slice B m cb] 26)) (w.heap.size + 1) (by simp) (.int .i64 0) (.int .i64 0) 28)
  have LA := Lib.hid ((HA.out.box (.cells #[.bool na, .slice A n ca, .bool false, .slice B m cb] 26)).box (.cells #[.int .i64 0, .int .i64 0] 28))
  have LB := Lib.hid ((HB.out.box (.cells #[.bool na, .slice A n ca, .bool false, .slice B m cb] 26)).box (.cells #[.int .i64 0, .int .i64 0] 28))
  have BW : Hid (Below w.heap.size w ((w.alloc (.cells #[.bool na, .slice A n ca, .bool false, .slice B m cb] 26)).alloc (.cells #[.int .i64 0, .int .i64 0] 28))) := (sbal (sbal (Below.refl _ _) _) _)
  clear HA HB
  go_wp2_with fail
  generalize (w.alloc (.cells #[.bool na, .slice A n ca, .bool false, .slice B m cb] 26)).alloc (.cells #[.int .i64 0, .int .i64 0] 28) = W0 at *
  refine (HCK.out _ LA.out LB.out).mono ?_
  rintro e w1 ⟨rfl, hb⟩
  replace QF := Lib.hid (QF.out.via hb)
  replace QR := Lib.hid (QR.out.via hb)
  replace LA := Lib.hid (LA.out.via hb)
  replace LB := Lib.hid (LB.out.via hb)
  replace BW := Lib.hid (btr BW.out hb)
  clear hb
  have ⟨rQF0, rQF1, rQF2, rQF3, rQF4, rQF5, rQF6, rQF7, rQFl⟩ := QF.out
  go_wp2_with fail
  clear rQF0 rQF1 rQF2 rQF3 rQF4 rQF5 rQF6 rQF7 rQFl
  refine (HSH.out _ LA.out).mono ?_
  rintro e w2 ⟨A0, n0, c0, rfl, hL0, hb⟩
  clear LA
  replace QF := Lib.hid (QF.out.via hb)
  replace QR := Lib.hid (QR.out.via hb)
  replace LB := Lib.hid (LB.out.via hb)
  replace BW := Lib.hid (btr BW.out hb)
  have L0 := Lib.hid hL0
  clear hb hL0
  have ⟨rQF0, rQF1, rQF2, rQF3, rQF4, rQF5, rQF6, rQF7, rQFl⟩ := QF.out
  go_wp2_with fail
  clear rQF0 rQF1 rQF2 rQF3 rQF4 rQF5 rQF6 rQF7 rQFl
  replace QF := Lib.hid (QF.out.alloc (.cells #[.bool na, .slice A0 n0 c0] 24))
  replace QR := Lib.hid (QR.out.alloc (.cells #[.bool na, .slice A0 n0 c0] 24))
  replace LB := Lib.hid (LB.out.box (.cells #[.bool na, .slice A0 n0 c0] 24))
  replace L0 := Lib.hid (L0.out.box (.cells #[.bool na, .slice A0 n0 c0] 24))
  have Q4 := Lib.hid (Pr.new w2 _ rfl (.bool na) (.slice A0 n0 c0) 24)
  replace BW := Lib.hid (sbal BW.out (.cells #[.bool na, .slice A0 n0 c0] 24))
  generalize w2.alloc (.cells #[.bool na, .slice A0 n0 c0] 24) = W2 at *
  generalize w2.heap.size = g2 at *
  have ⟨rQF0, rQF1, rQF2, rQF3, rQF4, rQF5, rQF6, rQF7, rQFl⟩ := QF.out
  have ⟨rQ40, rQ41, rQ42, rQ43, rQ4l⟩ := Q4.out
  go_wp2_with fail
  clear rQF0 rQF1 rQF2 rQF3 rQF4 rQF5 rQF6 rQF7 rQFl rQ40 rQ41 rQ42 rQ43 rQ4l
  refine (HDM.out _ _ _ _ L0.out LB.out).mono ?_
  rintro e w3 ⟨A1, n1, c1, A2, n2, c2, rfl, hL1, hL2, hb⟩
  clear L0
  clear LB
  clear QF
  clear Q4
  replace QR := Lib.hid (QR.out.via hb)
  replace BW := Lib.hid (btr BW.out hb)
  have L1 := Lib.hid hL1
  have L2 := Lib.hid hL2
  clear hb hL1 hL2
  go_wp2_with fail
  replace QR := Lib.hid ((QR.out.alloc (.cells #[.bool zq, .slice A1 n1 c1] 24)).alloc (.cells #[.bool false, .slice A2 n2 c2] 24))
  replace L1 := Lib.hid ((L1.out.box (.cells #[.bool zq, .slice A1 n1 c1] 24)).box (.cells #[.bool false, .slice A2 n2 c2] 24))
  replace L2 := Lib.hid ((L2.out.box (.cells #[.bool zq, .slice A1 n1 c1] 24)).box (.cells #[.bool false, .slice A2 n2 c2] 24))
  have Q6 := Lib.hid ((Pr.new w3 _ rfl (.bool zq) (.slice A1 n1 c1) 24).alloc (.cells #[.bool false, .slice A2 n2 c2] 24))
  have Q7 := Lib.hid (Pr.new (w3.alloc (.cells #[.bool zq, .slice A1 n1 c1] 24)) (w3.heap.size + 1) (by simp) (.bool false) (.slice A2 n2 c2) 24)
  replace BW := Lib.hid (sbal (sbal BW.out (.cells #[.bool zq, .slice A1 n1 c1] 24)) (.cells #[.bool false, .slice A2 n2 c2] 24))
  generalize (w3.alloc (.cells #[.bool zq, .slice A1 n1 c1] 24)).alloc (.cells #[.bool false, .slice A2 n2 c2] 24) = W3 at *
  generalize w3.heap.size = g3 at *
  refine (HIN.out _ _ _ _ L1.out).mono ?_
  rintro e w4 ⟨rfl, hb⟩
  clear Q6
  clear L1
  replace QR := Lib.hid (QR.out.via hb)
  replace L2 := Lib.hid (L2.out.via hb)
  replace Q7 := Lib.hid (Q7.out.via hb)
  replace BW := Lib.hid (btr BW.out hb)
  clear hb
  have hqe := HA1.out
  clear HA1
  subst hqe
  have hn2 : 0 < n2 := HRR.out _ L2.out.len
  have hn2i : (0 : Int) < (n2 : Int) := by omega
  have ⟨rQR0, rQR1, rQR2, rQR3, rQRl⟩ := QR.out
  have ⟨rQ70, rQ71, rQ72, rQ73, rQ7l⟩ := Q7.out
  go_wp2
  exact post_iv Tryd.results5 rfl rfl (QR.out.set _ _) ⟨ret_out HM.out, below_set2 BW.out (by omega) _ _⟩
set_option maxRecDepth 100000 in
set_option maxHeartbeats 2000000 in
theorem rof_e0 (w : World) (na : Bool) (A B : Option Addr) (n m ca cb : Nat) (N D : Int) (hA : Lm w w.heap.size A n ca (digs N.natAbs)) (hB : Lm w w.heap.size B m cb (digs D.natAbs)) (hD : 0 < D) (hsN : Sz 300 N) (hsD : Sz 300 D) (hg : fchk na (digs N.natAbs) false (digs D.natAbs) = 0) (ha : decide (N < 0) = na) (h : N * 1099511627776 / D = 2305843009213693952 ∧ N * 1099511627776 % D = 0) : Calls Tryd.prog 5 #[fv na A n ca false B m cb] w (RO w (offO N D)) := by
  have HA := Lib.hid hA
  have HB := Lib.hid hB
  have hck : ∀ W, Lm W W.heap.size A n ca (digs N.natAbs) → Lm W W.heap.size B m cb (digs D.natAbs) → Calls Tryd.prog 13 #[fv na A n ca false B m cb] W (RN1 W 0) := fun W L1 L2 => by
    have h := rfcheck_any W na false A B n m ca cb _ _ L1 L2
    rw [hg] at h
    exact h
  obtain ⟨X, hX⟩ : ∃ X, N * 1099511627776 = X := ⟨_, rfl⟩
  have hp : (2 : Int) ^ 40 = 1099511627776 := by decide
  have hsX : Sz 308 X := by rw [← hX, ← hp]; exact hsN.mul (sz_two 40 (by omega))
  have haX : decide (X < 0) = na := by rw [← hX, mul_neg_iff]; exact ha
  have hsh : ∀ W, Lm W W.heap.size A n ca (digs N.natAbs) → Calls Tryd.prog 14 #[.agg #[.bool na, .slice A n ca], .int .i64 40] W fun e w' => ∃ A n c, e = .returned (.tuple #[.agg #[.bool na, .slice A n c], .int .i64 0]) ∧ Lm w' w'.heap.size A n c (digs X.natAbs) ∧ Below W.heap.size W w' := fun W L => by
    have h := rshup_n W A n ca 40 N L 300 hsN (by omega) (by omega) ha
    rw [hp, hX] at h
    unfold RN at h
    rwa [haX] at h
  obtain ⟨q, hq⟩ : ∃ q, X / D = q := ⟨_, rfl⟩
  have hsq : Sz 308 q := by
    have h1 := Int.mul_ediv_add_emod X D
    have h2 := Int.emod_nonneg X (show D ≠ 0 by omega)
    have h3 := Int.emod_lt_of_pos X hD
    rw [hq] at h1
    unfold Sz at *
    have h4 : q.natAbs ≤ X.natAbs := by
      rcases Int.lt_or_le q 0 with h | h
      · have h7 : 0 ≤ (D - 1) * (-q - 1) := Int.mul_nonneg (by omega) (by omega)
        have h8 : (D - 1) * (-q - 1) = -(D * q) - D + q + 1 := by grind
        omega
      · have h5 : 1 * q ≤ D * q := Int.mul_le_mul_of_nonneg_right (by omega) h
        omega
    omega
  have hdm : ∀ W A n ca, Lm W W.heap.size A n ca (digs X.natAbs) → Lm W W.heap.size B m cb (digs D.natAbs) → Calls Tryd.prog 16 #[.agg #[.bool na, .slice A n ca], .agg #[.bool false, .slice B m cb]] W fun e w' => ∃ A n c A' n' c', e = .returned (.tuple #[.agg #[.bool (decide (q < 0)), .slice A n c], .agg #[.bool false, .slice A' n' c'], .int .i64 0]) ∧ Lm w' w'.heap.size A n c (digs q.natAbs) ∧ Lm w' w'.heap.size A' n' c' (digs (X % D).natAbs) ∧ Below W.heap.size W w' := fun W A n ca L1 L2 =>
    (rdivmod_n W A B n m ca cb 308 X D L1 L2 hsX (hsD.mono (by omega)) (by omega) (by omega) haX (decide_eq_false (by omega))).mono fun e w' h => RDF.of hq (rd2_f hD h)
  have hin : ∀ W A' n' c', Lm W W.heap.size A' n' c' (digs q.natAbs) → Calls Tryd.prog 17 #[.agg #[.bool (decide (q < 0)), .slice A' n' c']] W fun e w' => e = .returned (.tuple #[.int .i64 (i64V q), .int .i64 (i64E q)]) ∧ Below W.heap.size W w' := fun W A' n' c' L => rint_n W A' n' c' 308 q L hsq (by omega) rfl
  have hm0 := Int.emod_nonneg X (show D ≠ 0 by omega)
  have hlen : ∀ n' : Nat, (digs (X % D).natAbs).length = n' → (0 < n' ↔ 0 < X % D) := fun n' h => by rw [← h, digs_pos]; omega
  have hof : offO N D = mkI q (if X % D = 0 then q else q + 1) := by unfold offO; rw [div_mod_c hD, hX, hq]
  rw [hX] at h
  rw [hq] at h
  obtain ⟨hA1, hA2⟩ := h
  have HM : Hid (mkI q q = offO N D) := by show _ = _; rw [hof, if_pos hA2]
  rw [(i64_in' (q := q) (by omega)).1, (i64_in' (q := q) (by omega)).2] at hin
  have HRR : Hid (∀ n', (digs (X % D).natAbs).length = n' → n' = 0) := fun n' h' => by have := (hlen n' h').1; omega
  clear hA2
  have HA1 := Lib.hid hA1
  clear hA1
  have HCK := Lib.hid hck
  have HSH := Lib.hid hsh
  have HDM := Lib.hid hdm
  have HIN := Lib.hid hin
  clear hck hdm hin hsq hsN hsD hg ha hA hB hsX haX hX hp hsh hm0 hof hlen hD
  clear hq
  generalize X % D = rr at *
  obtain ⟨zq, hzq⟩ : ∃ b, decide (q < 0) = b := ⟨_, rfl⟩
  rw [hzq] at HDM HIN
  clear hzq
  go_enter Tryd.func5, Tryd.ntmps5
  have QF := Lib.hid ((Qd.new w (w.heap.size) rfl (.bool na) (.slice A n ca) (.bool false) (.slice B m cb) 26).alloc (.cells #[.int .i64 0, .int .i64 0] 28))
  have QR := Lib.hid (Pr.new (w.alloc (.cells #[.bool na, .slice A n ca, .bool false, .slice B m cb] 26)) (w.heap.size + 1) (by simp) (.int .i64 0) (.int .i64 0) 28)
  have LA := Lib.hid ((HA.out.box (.cells #[.bool na, .slice A n ca, .bool false, .slice B m cb] 26)).box (.cells #[.int .i64 0, .int .i64 0] 28))
  have LB := Lib.hid ((HB.out.box (.cells #[.bool na, .slice A n ca, .bool false, .slice B m cb] 26)).box (.cells #[.int .i64 0, .int .i64 0] 28))
  have BW : Hid (Below w.heap.size w ((w.alloc (.cells #[.bool na, .slice A n ca, .bool false, .slice B m cb] 26)).alloc (.cells #[.int .i64 0, .int .i64 0] 28))) := (sbal (sbal (Below.refl _ _) _) _)
  clear HA HB
  go_wp2_with fail
  generalize (w.alloc (.cells #[.bool na, .slice A n ca, .bool false, .slice B m cb] 26)).alloc (.cells #[.int .i64 0, .int .i64 0] 28) = W0 at *
  refine (HCK.out _ LA.out LB.out).mono ?_
  rintro e w1 ⟨rfl, hb⟩
  replace QF := Lib.hid (QF.out.via hb)
  replace QR := Lib.hid (QR.out.via hb)
  replace LA := Lib.hid (LA.out.via hb)
  replace LB := Lib.hid (LB.out.via hb)
  replace BW := Lib.hid (btr BW.out hb)
  clear hb
  have ⟨rQF0, rQF1, rQF2, rQF3, rQF4, rQF5, rQF6, rQF7, rQFl⟩ := QF.out
  go_wp2_with fail
  clear rQF0 rQF1 rQF2 rQF3 rQF4 rQF5 rQF6 rQF7 rQFl
  refine (HSH.out _ LA.out).mono ?_
  rintro e w2 ⟨A0, n0, c0, rfl, hL0, hb⟩
  clear LA
  replace QF := Lib.hid (QF.out.via hb)
  replace QR := Lib.hid (QR.out.via hb)
  replace LB := Lib.hid (LB.out.via hb)
  replace BW := Lib.hid (btr BW.out hb)
  have L0 := Lib.hid hL0
  clear hb hL0
  have ⟨rQF0, rQF1, rQF2, rQF3, rQF4, rQF5, rQF6, rQF7, rQFl⟩ := QF.out
  go_wp2_with fail
  clear rQF0 rQF1 rQF2 rQF3 rQF4 rQF5 rQF6 rQF7 rQFl
  replace QF := Lib.hid (QF.out.alloc (.cells #[.bool na, .slice A0 n0 c0] 24))
  replace QR := Lib.hid (QR.out.alloc (.cells #[.bool na, .slice A0 n0 c0] 24))
  replace LB := Lib.hid (LB.out.box (.cells #[.bool na, .slice A0 n0 c0] 24))
  replace L0 := Lib.hid (L0.out.box (.cells #[.bool na, .slice A0 n0 c0] 24))
  have Q4 := Lib.hid (Pr.new w2 _ rfl (.bool na) (.slice A0 n0 c0) 24)
  replace BW := Lib.hid (sbal BW.out (.cells #[.bool na, .slice A0 n0 c0] 24))
  generalize w2.alloc (.cells #[.bool na, .slice A0 n0 c0] 24) = W2 at *
  generalize w2.heap.size = g2 at *
  have ⟨rQF0, rQF1, rQF2, rQF3, rQF4, rQF5, rQF6, rQF7, rQFl⟩ := QF.out
  have ⟨rQ40, rQ41, rQ42, rQ43, rQ4l⟩ := Q4.out
  go_wp2_with fail
  clear rQF0 rQF1 rQF2 rQF3 rQF4 rQF5 rQF6 rQF7 rQFl rQ40 rQ41 rQ42 rQ43 rQ4l
  refine (HDM.out _ _ _ _ L0.out LB.out).mono ?_
  rintro e w3 ⟨A1, n1, c1, A2, n2, c2, rfl, hL1, hL2, hb⟩
  clear L0
  clear LB
  clear QF
  clear Q4
  replace QR := Lib.hid (QR.out.via hb)
  replace BW := Lib.hid (btr BW.out hb)
  have L1 := Lib.hid hL1
  have L2 := Lib.hid hL2
  clear hb hL1 hL2
  go_wp2_with fail
  replace QR := Lib.hid ((QR.out.alloc (.cells #[.bool zq, .slice A1 n1 c1] 24)).alloc (.cells #[.bool false, .slice A2 n2 c2] 24))
  replace L1 := Lib.hid ((L1.out.box (.cells #[.bool zq, .slice A1 n1 c1] 24)).box (.cells #[.bool false, .slice A2 n2 c2] 24))
  replace L2 := Lib.hid ((L2.out.box (.cells #[.bool zq, .slice A1 n1 c1] 24)).box (.cells #[.bool false, .slice A2 n2 c2] 24))
  have Q6 := Lib.hid ((Pr.new w3 _ rfl (.bool zq) (.slice A1 n1 c1) 24).alloc (.cells #[.bool false, .slice A2 n2 c2] 24))
  have Q7 := Lib.hid (Pr.new (w3.alloc (.cells #[.bool zq, .slice A1 n1 c1] 24)) (w3.heap.size + 1) (by simp) (.bool false) (.slice A2 n2 c2) 24)
  replace BW := Lib.hid (sbal (sbal BW.out (.cells #[.bool zq, .slice A1 n1 c1] 24)) (.cells #[.bool false, .slice A2 n2 c2] 24))
  generalize (w3.alloc (.cells #[.bool zq, .slice A1 n1 c1] 24)).alloc (.cells #[.bool false, .slice A2 n2 c2] 24) = W3 at *
  generalize w3.heap.size = g3 at *
  refine (HIN.out _ _ _ _ L1.out).mono ?_
  rintro e w4 ⟨rfl, hb⟩
  clear Q6
  clear L1
  replace QR := Lib.hid (QR.out.via hb)
  replace L2 := Lib.hid (L2.out.via hb)
  replace Q7 := Lib.hid (Q7.out.via hb)
  replace BW := Lib.hid (btr BW.out hb)
  clear hb
  obtain rfl : n2 = 0 := HRR.out _ L2.out.len
  have hqe := HA1.out
  clear HA1
  subst hqe
  have ⟨rQ70, rQ71, rQ72, rQ73, rQ7l⟩ := Q7.out
  go_wp2_with fail
  clear rQ70 rQ71 rQ72 rQ73 rQ7l
  refine (rsmade_any _ 2305843009213693952 2305843009213693952).mono ?_
  rintro e w5 ⟨rfl, hb⟩
  clear Q7
  clear L2
  replace QR := Lib.hid (QR.out.via hb)
  replace BW := Lib.hid (btr BW.out hb)
  clear hb
  have ⟨rQR0, rQR1, rQR2, rQR3, rQRl⟩ := QR.out
  go_wp2
  exact post_iv Tryd.results5 rfl rfl (QR.out.set _ _) ⟨ret_mk HM.out, below_set2 BW.out (by omega) _ _⟩
set_option maxRecDepth 100000 in
set_option maxHeartbeats 2000000 in
theorem rof_e1 (w : World) (na : Bool) (A B : Option Addr) (n m ca cb : Nat) (N D : Int) (hA : Lm w w.heap.size A n ca (digs N.natAbs)) (hB : Lm w w.heap.size B m cb (digs D.natAbs)) (hD : 0 < D) (hsN : Sz 300 N) (hsD : Sz 300 D) (hg : fchk na (digs N.natAbs) false (digs D.natAbs) = 0) (ha : decide (N < 0) = na) (h : (-2305843009213693952 ≤ N * 1099511627776 / D ∧ N * 1099511627776 / D < 2305843009213693952) ∧ N * 1099511627776 % D = 0) : Calls Tryd.prog 5 #[fv na A n ca false B m cb] w (RO w (offO N D)) := by
  have HA := Lib.hid hA
  have HB := Lib.hid hB
  have hck : ∀ W, Lm W W.heap.size A n ca (digs N.natAbs) → Lm W W.heap.size B m cb (digs D.natAbs) → Calls Tryd.prog 13 #[fv na A n ca false B m cb] W (RN1 W 0) := fun W L1 L2 => by
    have h := rfcheck_any W na false A B n m ca cb _ _ L1 L2
    rw [hg] at h
    exact h
  obtain ⟨X, hX⟩ : ∃ X, N * 1099511627776 = X := ⟨_, rfl⟩
  have hp : (2 : Int) ^ 40 = 1099511627776 := by decide
  have hsX : Sz 308 X := by rw [← hX, ← hp]; exact hsN.mul (sz_two 40 (by omega))
  have haX : decide (X < 0) = na := by rw [← hX, mul_neg_iff]; exact ha
  have hsh : ∀ W, Lm W W.heap.size A n ca (digs N.natAbs) → Calls Tryd.prog 14 #[.agg #[.bool na, .slice A n ca], .int .i64 40] W fun e w' => ∃ A n c, e = .returned (.tuple #[.agg #[.bool na, .slice A n c], .int .i64 0]) ∧ Lm w' w'.heap.size A n c (digs X.natAbs) ∧ Below W.heap.size W w' := fun W L => by
    have h := rshup_n W A n ca 40 N L 300 hsN (by omega) (by omega) ha
    rw [hp, hX] at h
    unfold RN at h
    rwa [haX] at h
  obtain ⟨q, hq⟩ : ∃ q, X / D = q := ⟨_, rfl⟩
  have hsq : Sz 308 q := by
    have h1 := Int.mul_ediv_add_emod X D
    have h2 := Int.emod_nonneg X (show D ≠ 0 by omega)
    have h3 := Int.emod_lt_of_pos X hD
    rw [hq] at h1
    unfold Sz at *
    have h4 : q.natAbs ≤ X.natAbs := by
      rcases Int.lt_or_le q 0 with h | h
      · have h7 : 0 ≤ (D - 1) * (-q - 1) := Int.mul_nonneg (by omega) (by omega)
        have h8 : (D - 1) * (-q - 1) = -(D * q) - D + q + 1 := by grind
        omega
      · have h5 : 1 * q ≤ D * q := Int.mul_le_mul_of_nonneg_right (by omega) h
        omega
    omega
  have hdm : ∀ W A n ca, Lm W W.heap.size A n ca (digs X.natAbs) → Lm W W.heap.size B m cb (digs D.natAbs) → Calls Tryd.prog 16 #[.agg #[.bool na, .slice A n ca], .agg #[.bool false, .slice B m cb]] W fun e w' => ∃ A n c A' n' c', e = .returned (.tuple #[.agg #[.bool (decide (q < 0)), .slice A n c], .agg #[.bool false, .slice A' n' c'], .int .i64 0]) ∧ Lm w' w'.heap.size A n c (digs q.natAbs) ∧ Lm w' w'.heap.size A' n' c' (digs (X % D).natAbs) ∧ Below W.heap.size W w' := fun W A n ca L1 L2 =>
    (rdivmod_n W A B n m ca cb 308 X D L1 L2 hsX (hsD.mono (by omega)) (by omega) (by omega) haX (decide_eq_false (by omega))).mono fun e w' h => RDF.of hq (rd2_f hD h)
  have hin : ∀ W A' n' c', Lm W W.heap.size A' n' c' (digs q.natAbs) → Calls Tryd.prog 17 #[.agg #[.bool (decide (q < 0)), .slice A' n' c']] W fun e w' => e = .returned (.tuple #[.int .i64 (i64V q), .int .i64 (i64E q)]) ∧ Below W.heap.size W w' := fun W A' n' c' L => rint_n W A' n' c' 308 q L hsq (by omega) rfl
  have hm0 := Int.emod_nonneg X (show D ≠ 0 by omega)
  have hlen : ∀ n' : Nat, (digs (X % D).natAbs).length = n' → (0 < n' ↔ 0 < X % D) := fun n' h => by rw [← h, digs_pos]; omega
  have hof : offO N D = mkI q (if X % D = 0 then q else q + 1) := by unfold offO; rw [div_mod_c hD, hX, hq]
  rw [hX] at h
  rw [hq] at h
  obtain ⟨hA1, hA2⟩ := h
  have HM : Hid (mkI q q = offO N D) := by show _ = _; rw [hof, if_pos hA2]
  rw [(i64_in' (q := q) (by omega)).1, (i64_in' (q := q) (by omega)).2] at hin
  have HRR : Hid (∀ n', (digs (X % D).natAbs).length = n' → n' = 0) := fun n' h' => by have := (hlen n' h').1; omega
  clear hA2
  have HLO := Lib.hid hA1
  clear hA1
  have HCK := Lib.hid hck
  have HSH := Lib.hid hsh
  have HDM := Lib.hid hdm
  have HIN := Lib.hid hin
  clear hck hdm hin hsq hsN hsD hg ha hA hB hsX haX hX hp hsh hm0 hof hlen hD
  clear hq
  generalize X % D = rr at *
  obtain ⟨zq, hzq⟩ : ∃ b, decide (q < 0) = b := ⟨_, rfl⟩
  rw [hzq] at HDM HIN
  clear hzq
  go_enter Tryd.func5, Tryd.ntmps5
  have QF := Lib.hid ((Qd.new w (w.heap.size) rfl (.bool na) (.slice A n ca) (.bool false) (.slice B m cb) 26).alloc (.cells #[.int .i64 0, .int .i64 0] 28))
  have QR := Lib.hid (Pr.new (w.alloc (.cells #[.bool na, .slice A n ca, .bool false, .slice B m cb] 26)) (w.heap.size + 1) (by simp) (.int .i64 0) (.int .i64 0) 28)
  have LA := Lib.hid ((HA.out.box (.cells #[.bool na, .slice A n ca, .bool false, .slice B m cb] 26)).box (.cells #[.int .i64 0, .int .i64 0] 28))
  have LB := Lib.hid ((HB.out.box (.cells #[.bool na, .slice A n ca, .bool false, .slice B m cb] 26)).box (.cells #[.int .i64 0, .int .i64 0] 28))
  have BW : Hid (Below w.heap.size w ((w.alloc (.cells #[.bool na, .slice A n ca, .bool false, .slice B m cb] 26)).alloc (.cells #[.int .i64 0, .int .i64 0] 28))) := (sbal (sbal (Below.refl _ _) _) _)
  clear HA HB
  go_wp2_with fail
  generalize (w.alloc (.cells #[.bool na, .slice A n ca, .bool false, .slice B m cb] 26)).alloc (.cells #[.int .i64 0, .int .i64 0] 28) = W0 at *
  refine (HCK.out _ LA.out LB.out).mono ?_
  rintro e w1 ⟨rfl, hb⟩
  replace QF := Lib.hid (QF.out.via hb)
  replace QR := Lib.hid (QR.out.via hb)
  replace LA := Lib.hid (LA.out.via hb)
  replace LB := Lib.hid (LB.out.via hb)
  replace BW := Lib.hid (btr BW.out hb)
  clear hb
  have ⟨rQF0, rQF1, rQF2, rQF3, rQF4, rQF5, rQF6, rQF7, rQFl⟩ := QF.out
  go_wp2_with fail
  clear rQF0 rQF1 rQF2 rQF3 rQF4 rQF5 rQF6 rQF7 rQFl
  refine (HSH.out _ LA.out).mono ?_
  rintro e w2 ⟨A0, n0, c0, rfl, hL0, hb⟩
  clear LA
  replace QF := Lib.hid (QF.out.via hb)
  replace QR := Lib.hid (QR.out.via hb)
  replace LB := Lib.hid (LB.out.via hb)
  replace BW := Lib.hid (btr BW.out hb)
  have L0 := Lib.hid hL0
  clear hb hL0
  have ⟨rQF0, rQF1, rQF2, rQF3, rQF4, rQF5, rQF6, rQF7, rQFl⟩ := QF.out
  go_wp2_with fail
  clear rQF0 rQF1 rQF2 rQF3 rQF4 rQF5 rQF6 rQF7 rQFl
  replace QF := Lib.hid (QF.out.alloc (.cells #[.bool na, .slice A0 n0 c0] 24))
  replace QR := Lib.hid (QR.out.alloc (.cells #[.bool na, .slice A0 n0 c0] 24))
  replace LB := Lib.hid (LB.out.box (.cells #[.bool na, .slice A0 n0 c0] 24))
  replace L0 := Lib.hid (L0.out.box (.cells #[.bool na, .slice A0 n0 c0] 24))
  have Q4 := Lib.hid (Pr.new w2 _ rfl (.bool na) (.slice A0 n0 c0) 24)
  replace BW := Lib.hid (sbal BW.out (.cells #[.bool na, .slice A0 n0 c0] 24))
  generalize w2.alloc (.cells #[.bool na, .slice A0 n0 c0] 24) = W2 at *
  generalize w2.heap.size = g2 at *
  have ⟨rQF0, rQF1, rQF2, rQF3, rQF4, rQF5, rQF6, rQF7, rQFl⟩ := QF.out
  have ⟨rQ40, rQ41, rQ42, rQ43, rQ4l⟩ := Q4.out
  go_wp2_with fail
  clear rQF0 rQF1 rQF2 rQF3 rQF4 rQF5 rQF6 rQF7 rQFl rQ40 rQ41 rQ42 rQ43 rQ4l
  refine (HDM.out _ _ _ _ L0.out LB.out).mono ?_
  rintro e w3 ⟨A1, n1, c1, A2, n2, c2, rfl, hL1, hL2, hb⟩
  clear L0
  clear LB
  clear QF
  clear Q4
  replace QR := Lib.hid (QR.out.via hb)
  replace BW := Lib.hid (btr BW.out hb)
  have L1 := Lib.hid hL1
  have L2 := Lib.hid hL2
  clear hb hL1 hL2
  go_wp2_with fail
  replace QR := Lib.hid ((QR.out.alloc (.cells #[.bool zq, .slice A1 n1 c1] 24)).alloc (.cells #[.bool false, .slice A2 n2 c2] 24))
  replace L1 := Lib.hid ((L1.out.box (.cells #[.bool zq, .slice A1 n1 c1] 24)).box (.cells #[.bool false, .slice A2 n2 c2] 24))
  replace L2 := Lib.hid ((L2.out.box (.cells #[.bool zq, .slice A1 n1 c1] 24)).box (.cells #[.bool false, .slice A2 n2 c2] 24))
  have Q6 := Lib.hid ((Pr.new w3 _ rfl (.bool zq) (.slice A1 n1 c1) 24).alloc (.cells #[.bool false, .slice A2 n2 c2] 24))
  have Q7 := Lib.hid (Pr.new (w3.alloc (.cells #[.bool zq, .slice A1 n1 c1] 24)) (w3.heap.size + 1) (by simp) (.bool false) (.slice A2 n2 c2) 24)
  replace BW := Lib.hid (sbal (sbal BW.out (.cells #[.bool zq, .slice A1 n1 c1] 24)) (.cells #[.bool false, .slice A2 n2 c2] 24))
  generalize (w3.alloc (.cells #[.bool zq, .slice A1 n1 c1] 24)).alloc (.cells #[.bool false, .slice A2 n2 c2] 24) = W3 at *
  generalize w3.heap.size = g3 at *
  refine (HIN.out _ _ _ _ L1.out).mono ?_
  rintro e w4 ⟨rfl, hb⟩
  clear Q6
  clear L1
  replace QR := Lib.hid (QR.out.via hb)
  replace L2 := Lib.hid (L2.out.via hb)
  replace Q7 := Lib.hid (Q7.out.via hb)
  replace BW := Lib.hid (btr BW.out hb)
  clear hb
  obtain rfl : n2 = 0 := HRR.out _ L2.out.len
  have hl1 : -2305843009213693952 ≤ q := HLO.out.1
  have hl2 : q < 2305843009213693952 := HLO.out.2
  have hlb : decide (q < -2305843009213693952) = false := decide_eq_false (by omega)
  have hlc : decide (2305843009213693952 < q) = false := decide_eq_false (by omega)
  have hld : decide (q = 2305843009213693952) = false := decide_eq_false (by omega)
  have hle : (q == 2305843009213693952) = false := by simp; omega
  have ⟨rQ70, rQ71, rQ72, rQ73, rQ7l⟩ := Q7.out
  go_wp2_with fail
  clear rQ70 rQ71 rQ72 rQ73 rQ7l
  refine (rsmade_any _ q q).mono ?_
  rintro e w5 ⟨rfl, hb⟩
  clear Q7
  clear L2
  replace QR := Lib.hid (QR.out.via hb)
  replace BW := Lib.hid (btr BW.out hb)
  clear hb
  have ⟨rQR0, rQR1, rQR2, rQR3, rQRl⟩ := QR.out
  go_wp2
  exact post_iv Tryd.results5 rfl rfl (QR.out.set _ _) ⟨ret_mk HM.out, below_set2 BW.out (by omega) _ _⟩
set_option maxRecDepth 100000 in
set_option maxHeartbeats 2000000 in
theorem rof_e2 (w : World) (na : Bool) (A B : Option Addr) (n m ca cb : Nat) (N D : Int) (hA : Lm w w.heap.size A n ca (digs N.natAbs)) (hB : Lm w w.heap.size B m cb (digs D.natAbs)) (hD : 0 < D) (hsN : Sz 300 N) (hsD : Sz 300 D) (hg : fchk na (digs N.natAbs) false (digs D.natAbs) = 0) (ha : decide (N < 0) = na) (h : (-2305843009213693952 ≤ N * 1099511627776 / D ∧ N * 1099511627776 / D < 2305843009213693952) ∧ 0 < N * 1099511627776 % D) : Calls Tryd.prog 5 #[fv na A n ca false B m cb] w (RO w (offO N D)) := by
  have HA := Lib.hid hA
  have HB := Lib.hid hB
  have hck : ∀ W, Lm W W.heap.size A n ca (digs N.natAbs) → Lm W W.heap.size B m cb (digs D.natAbs) → Calls Tryd.prog 13 #[fv na A n ca false B m cb] W (RN1 W 0) := fun W L1 L2 => by
    have h := rfcheck_any W na false A B n m ca cb _ _ L1 L2
    rw [hg] at h
    exact h
  obtain ⟨X, hX⟩ : ∃ X, N * 1099511627776 = X := ⟨_, rfl⟩
  have hp : (2 : Int) ^ 40 = 1099511627776 := by decide
  have hsX : Sz 308 X := by rw [← hX, ← hp]; exact hsN.mul (sz_two 40 (by omega))
  have haX : decide (X < 0) = na := by rw [← hX, mul_neg_iff]; exact ha
  have hsh : ∀ W, Lm W W.heap.size A n ca (digs N.natAbs) → Calls Tryd.prog 14 #[.agg #[.bool na, .slice A n ca], .int .i64 40] W fun e w' => ∃ A n c, e = .returned (.tuple #[.agg #[.bool na, .slice A n c], .int .i64 0]) ∧ Lm w' w'.heap.size A n c (digs X.natAbs) ∧ Below W.heap.size W w' := fun W L => by
    have h := rshup_n W A n ca 40 N L 300 hsN (by omega) (by omega) ha
    rw [hp, hX] at h
    unfold RN at h
    rwa [haX] at h
  obtain ⟨q, hq⟩ : ∃ q, X / D = q := ⟨_, rfl⟩
  have hsq : Sz 308 q := by
    have h1 := Int.mul_ediv_add_emod X D
    have h2 := Int.emod_nonneg X (show D ≠ 0 by omega)
    have h3 := Int.emod_lt_of_pos X hD
    rw [hq] at h1
    unfold Sz at *
    have h4 : q.natAbs ≤ X.natAbs := by
      rcases Int.lt_or_le q 0 with h | h
      · have h7 : 0 ≤ (D - 1) * (-q - 1) := Int.mul_nonneg (by omega) (by omega)
        have h8 : (D - 1) * (-q - 1) = -(D * q) - D + q + 1 := by grind
        omega
      · have h5 : 1 * q ≤ D * q := Int.mul_le_mul_of_nonneg_right (by omega) h
        omega
    omega
  have hdm : ∀ W A n ca, Lm W W.heap.size A n ca (digs X.natAbs) → Lm W W.heap.size B m cb (digs D.natAbs) → Calls Tryd.prog 16 #[.agg #[.bool na, .slice A n ca], .agg #[.bool false, .slice B m cb]] W fun e w' => ∃ A n c A' n' c', e = .returned (.tuple #[.agg #[.bool (decide (q < 0)), .slice A n c], .agg #[.bool false, .slice A' n' c'], .int .i64 0]) ∧ Lm w' w'.heap.size A n c (digs q.natAbs) ∧ Lm w' w'.heap.size A' n' c' (digs (X % D).natAbs) ∧ Below W.heap.size W w' := fun W A n ca L1 L2 =>
    (rdivmod_n W A B n m ca cb 308 X D L1 L2 hsX (hsD.mono (by omega)) (by omega) (by omega) haX (decide_eq_false (by omega))).mono fun e w' h => RDF.of hq (rd2_f hD h)
  have hin : ∀ W A' n' c', Lm W W.heap.size A' n' c' (digs q.natAbs) → Calls Tryd.prog 17 #[.agg #[.bool (decide (q < 0)), .slice A' n' c']] W fun e w' => e = .returned (.tuple #[.int .i64 (i64V q), .int .i64 (i64E q)]) ∧ Below W.heap.size W w' := fun W A' n' c' L => rint_n W A' n' c' 308 q L hsq (by omega) rfl
  have hm0 := Int.emod_nonneg X (show D ≠ 0 by omega)
  have hlen : ∀ n' : Nat, (digs (X % D).natAbs).length = n' → (0 < n' ↔ 0 < X % D) := fun n' h => by rw [← h, digs_pos]; omega
  have hof : offO N D = mkI q (if X % D = 0 then q else q + 1) := by unfold offO; rw [div_mod_c hD, hX, hq]
  rw [hX] at h
  rw [hq] at h
  obtain ⟨hA1, hA2⟩ := h
  have HM : Hid (mkI q (q + 1) = offO N D) := by show _ = _; rw [hof, if_neg (by omega)]
  rw [(i64_in' (q := q) (by omega)).1, (i64_in' (q := q) (by omega)).2] at hin
  have HRR := Lib.hid (fun n' h' => (hlen n' h').2 hA2)
  clear hA2
  have HLO := Lib.hid hA1
  clear hA1
  have HCK := Lib.hid hck
  have HSH := Lib.hid hsh
  have HDM := Lib.hid hdm
  have HIN := Lib.hid hin
  clear hck hdm hin hsq hsN hsD hg ha hA hB hsX haX hX hp hsh hm0 hof hlen hD
  clear hq
  generalize X % D = rr at *
  obtain ⟨zq, hzq⟩ : ∃ b, decide (q < 0) = b := ⟨_, rfl⟩
  rw [hzq] at HDM HIN
  clear hzq
  go_enter Tryd.func5, Tryd.ntmps5
  have QF := Lib.hid ((Qd.new w (w.heap.size) rfl (.bool na) (.slice A n ca) (.bool false) (.slice B m cb) 26).alloc (.cells #[.int .i64 0, .int .i64 0] 28))
  have QR := Lib.hid (Pr.new (w.alloc (.cells #[.bool na, .slice A n ca, .bool false, .slice B m cb] 26)) (w.heap.size + 1) (by simp) (.int .i64 0) (.int .i64 0) 28)
  have LA := Lib.hid ((HA.out.box (.cells #[.bool na, .slice A n ca, .bool false, .slice B m cb] 26)).box (.cells #[.int .i64 0, .int .i64 0] 28))
  have LB := Lib.hid ((HB.out.box (.cells #[.bool na, .slice A n ca, .bool false, .slice B m cb] 26)).box (.cells #[.int .i64 0, .int .i64 0] 28))
  have BW : Hid (Below w.heap.size w ((w.alloc (.cells #[.bool na, .slice A n ca, .bool false, .slice B m cb] 26)).alloc (.cells #[.int .i64 0, .int .i64 0] 28))) := (sbal (sbal (Below.refl _ _) _) _)
  clear HA HB
  go_wp2_with fail
  generalize (w.alloc (.cells #[.bool na, .slice A n ca, .bool false, .slice B m cb] 26)).alloc (.cells #[.int .i64 0, .int .i64 0] 28) = W0 at *
  refine (HCK.out _ LA.out LB.out).mono ?_
  rintro e w1 ⟨rfl, hb⟩
  replace QF := Lib.hid (QF.out.via hb)
  replace QR := Lib.hid (QR.out.via hb)
  replace LA := Lib.hid (LA.out.via hb)
  replace LB := Lib.hid (LB.out.via hb)
  replace BW := Lib.hid (btr BW.out hb)
  clear hb
  have ⟨rQF0, rQF1, rQF2, rQF3, rQF4, rQF5, rQF6, rQF7, rQFl⟩ := QF.out
  go_wp2_with fail
  clear rQF0 rQF1 rQF2 rQF3 rQF4 rQF5 rQF6 rQF7 rQFl
  refine (HSH.out _ LA.out).mono ?_
  rintro e w2 ⟨A0, n0, c0, rfl, hL0, hb⟩
  clear LA
  replace QF := Lib.hid (QF.out.via hb)
  replace QR := Lib.hid (QR.out.via hb)
  replace LB := Lib.hid (LB.out.via hb)
  replace BW := Lib.hid (btr BW.out hb)
  have L0 := Lib.hid hL0
  clear hb hL0
  have ⟨rQF0, rQF1, rQF2, rQF3, rQF4, rQF5, rQF6, rQF7, rQFl⟩ := QF.out
  go_wp2_with fail
  clear rQF0 rQF1 rQF2 rQF3 rQF4 rQF5 rQF6 rQF7 rQFl
  replace QF := Lib.hid (QF.out.alloc (.cells #[.bool na, .slice A0 n0 c0] 24))
  replace QR := Lib.hid (QR.out.alloc (.cells #[.bool na, .slice A0 n0 c0] 24))
  replace LB := Lib.hid (LB.out.box (.cells #[.bool na, .slice A0 n0 c0] 24))
  replace L0 := Lib.hid (L0.out.box (.cells #[.bool na, .slice A0 n0 c0] 24))
  have Q4 := Lib.hid (Pr.new w2 _ rfl (.bool na) (.slice A0 n0 c0) 24)
  replace BW := Lib.hid (sbal BW.out (.cells #[.bool na, .slice A0 n0 c0] 24))
  generalize w2.alloc (.cells #[.bool na, .slice A0 n0 c0] 24) = W2 at *
  generalize w2.heap.size = g2 at *
  have ⟨rQF0, rQF1, rQF2, rQF3, rQF4, rQF5, rQF6, rQF7, rQFl⟩ := QF.out
  have ⟨rQ40, rQ41, rQ42, rQ43, rQ4l⟩ := Q4.out
  go_wp2_with fail
  clear rQF0 rQF1 rQF2 rQF3 rQF4 rQF5 rQF6 rQF7 rQFl rQ40 rQ41 rQ42 rQ43 rQ4l
  refine (HDM.out _ _ _ _ L0.out LB.out).mono ?_
  rintro e w3 ⟨A1, n1, c1, A2, n2, c2, rfl, hL1, hL2, hb⟩
  clear L0
  clear LB
  clear QF
  clear Q4
  replace QR := Lib.hid (QR.out.via hb)
  replace BW := Lib.hid (btr BW.out hb)
  have L1 := Lib.hid hL1
  have L2 := Lib.hid hL2
  clear hb hL1 hL2
  go_wp2_with fail
  replace QR := Lib.hid ((QR.out.alloc (.cells #[.bool zq, .slice A1 n1 c1] 24)).alloc (.cells #[.bool false, .slice A2 n2 c2] 24))
  replace L1 := Lib.hid ((L1.out.box (.cells #[.bool zq, .slice A1 n1 c1] 24)).box (.cells #[.bool false, .slice A2 n2 c2] 24))
  replace L2 := Lib.hid ((L2.out.box (.cells #[.bool zq, .slice A1 n1 c1] 24)).box (.cells #[.bool false, .slice A2 n2 c2] 24))
  have Q6 := Lib.hid ((Pr.new w3 _ rfl (.bool zq) (.slice A1 n1 c1) 24).alloc (.cells #[.bool false, .slice A2 n2 c2] 24))
  have Q7 := Lib.hid (Pr.new (w3.alloc (.cells #[.bool zq, .slice A1 n1 c1] 24)) (w3.heap.size + 1) (by simp) (.bool false) (.slice A2 n2 c2) 24)
  replace BW := Lib.hid (sbal (sbal BW.out (.cells #[.bool zq, .slice A1 n1 c1] 24)) (.cells #[.bool false, .slice A2 n2 c2] 24))
  generalize (w3.alloc (.cells #[.bool zq, .slice A1 n1 c1] 24)).alloc (.cells #[.bool false, .slice A2 n2 c2] 24) = W3 at *
  generalize w3.heap.size = g3 at *
  refine (HIN.out _ _ _ _ L1.out).mono ?_
  rintro e w4 ⟨rfl, hb⟩
  clear Q6
  clear L1
  replace QR := Lib.hid (QR.out.via hb)
  replace L2 := Lib.hid (L2.out.via hb)
  replace Q7 := Lib.hid (Q7.out.via hb)
  replace BW := Lib.hid (btr BW.out hb)
  clear hb
  have hn2 : 0 < n2 := HRR.out _ L2.out.len
  have hn2i : (0 : Int) < (n2 : Int) := by omega
  have hl1 : -2305843009213693952 ≤ q := HLO.out.1
  have hl2 : q < 2305843009213693952 := HLO.out.2
  have hlb : decide (q < -2305843009213693952) = false := decide_eq_false (by omega)
  have hlc : decide (2305843009213693952 < q) = false := decide_eq_false (by omega)
  have hld : decide (q = 2305843009213693952) = false := decide_eq_false (by omega)
  have hle : (q == 2305843009213693952) = false := by simp; omega
  have hwr : IntKind.i64.wrap (q + 1) = q + 1 := IntWalk.i64_in _ (by omega)
  have ⟨rQ70, rQ71, rQ72, rQ73, rQ7l⟩ := Q7.out
  go_wp2_with fail
  clear rQ70 rQ71 rQ72 rQ73 rQ7l
  refine (rsmade_any _ q (q + 1)).mono ?_
  rintro e w5 ⟨rfl, hb⟩
  clear Q7
  clear L2
  replace QR := Lib.hid (QR.out.via hb)
  replace BW := Lib.hid (btr BW.out hb)
  clear hb
  have ⟨rQR0, rQR1, rQR2, rQR3, rQRl⟩ := QR.out
  go_wp2
  exact post_iv Tryd.results5 rfl rfl (QR.out.set _ _) ⟨ret_mk HM.out, below_set2 BW.out (by omega) _ _⟩
end Go.Proofs.YtegpckhfncblhaaDoor

/- Of on both sides at any fraction; the walk of the law SpanMakes. -/
namespace Go.Proofs.YtegpckhfncblhaaDoor
open Go.RowKit

set_option maxRecDepth 100000 in
set_option maxHeartbeats 4000000 in
theorem sof_bad (w : World) (nn dn : Bool) (A B : Option Addr) (n m ca cb : Nat) (xs ys : List Nat) (hA : Lm w w.heap.size A n ca xs) (hB : Lm w w.heap.size B m cb ys) (h : fchk nn xs dn ys = 8) : Calls Tryd.prog 4 #[fv nn A n ca dn B m cb] w (RO w ⟨0, 0, 8⟩) := by
  have HA := Lib.hid hA
  have HB := Lib.hid hB
  have hck : ∀ W, Lm W W.heap.size A n ca xs → Lm W W.heap.size B m cb ys → Calls Tryd.prog 8 #[fv nn A n ca dn B m cb] W (RN1 W 8) := fun W L1 L2 => by
    have h1 := fcheck_any W nn dn A B n m ca cb _ _ L1 L2
    rw [h] at h1
    exact h1
  have HCK := Lib.hid hck
  clear hck h hA hB
  go_enter Tryd.func4, Tryd.ntmps4
  have QF := Lib.hid ((Qd.new w (w.heap.size) rfl (.bool nn) (.slice A n ca) (.bool dn) (.slice B m cb) 26).alloc (.cells #[.int .i64 0, .int .i64 0] 28))
  have QR := Lib.hid (Pr.new (w.alloc (.cells #[.bool nn, .slice A n ca, .bool dn, .slice B m cb] 26)) (w.heap.size + 1) (by simp) (.int .i64 0) (.int .i64 0) 28)
  have LA := Lib.hid ((HA.out.box (.cells #[.bool nn, .slice A n ca, .bool dn, .slice B m cb] 26)).box (.cells #[.int .i64 0, .int .i64 0] 28))
  have LB := Lib.hid ((HB.out.box (.cells #[.bool nn, .slice A n ca, .bool dn, .slice B m cb] 26)).box (.cells #[.int .i64 0, .int .i64 0] 28))
  have BW : Hid (Below w.heap.size w ((w.alloc (.cells #[.bool nn, .slice A n ca, .bool dn, .slice B m cb] 26)).alloc (.cells #[.int .i64 0, .int .i64 0] 28))) := (sbal (sbal (Below.refl _ _) _) _)
  clear HA HB
  go_wp2_with fail
  generalize (w.alloc (.cells #[.bool nn, .slice A n ca, .bool dn, .slice B m cb] 26)).alloc (.cells #[.int .i64 0, .int .i64 0] 28) = W0 at *
  refine (HCK.out _ LA.out LB.out).mono ?_
  rintro e w1 ⟨rfl, hb⟩
  replace QF := Lib.hid (QF.out.via hb)
  replace QR := Lib.hid (QR.out.via hb)
  replace LA := Lib.hid (LA.out.via hb)
  replace LB := Lib.hid (LB.out.via hb)
  replace BW := Lib.hid (btr BW.out hb)
  clear hb
  have ⟨rQR0, rQR1, rQR2, rQR3, rQRl⟩ := QR.out
  go_wp2
  exact post_iv Tryd.results4 rfl rfl (QR.out.set _ _) ⟨rfl, below_set2 BW.out (by omega) _ _⟩
set_option maxRecDepth 100000 in
set_option maxHeartbeats 4000000 in
theorem rof_bad (w : World) (nn dn : Bool) (A B : Option Addr) (n m ca cb : Nat) (xs ys : List Nat) (hA : Lm w w.heap.size A n ca xs) (hB : Lm w w.heap.size B m cb ys) (h : fchk nn xs dn ys = 8) : Calls Tryd.prog 5 #[fv nn A n ca dn B m cb] w (RO w ⟨0, 0, 8⟩) := by
  have HA := Lib.hid hA
  have HB := Lib.hid hB
  have hck : ∀ W, Lm W W.heap.size A n ca xs → Lm W W.heap.size B m cb ys → Calls Tryd.prog 13 #[fv nn A n ca dn B m cb] W (RN1 W 8) := fun W L1 L2 => by
    have h1 := rfcheck_any W nn dn A B n m ca cb _ _ L1 L2
    rw [h] at h1
    exact h1
  have HCK := Lib.hid hck
  clear hck h hA hB
  go_enter Tryd.func5, Tryd.ntmps5
  have QF := Lib.hid ((Qd.new w (w.heap.size) rfl (.bool nn) (.slice A n ca) (.bool dn) (.slice B m cb) 26).alloc (.cells #[.int .i64 0, .int .i64 0] 28))
  have QR := Lib.hid (Pr.new (w.alloc (.cells #[.bool nn, .slice A n ca, .bool dn, .slice B m cb] 26)) (w.heap.size + 1) (by simp) (.int .i64 0) (.int .i64 0) 28)
  have LA := Lib.hid ((HA.out.box (.cells #[.bool nn, .slice A n ca, .bool dn, .slice B m cb] 26)).box (.cells #[.int .i64 0, .int .i64 0] 28))
  have LB := Lib.hid ((HB.out.box (.cells #[.bool nn, .slice A n ca, .bool dn, .slice B m cb] 26)).box (.cells #[.int .i64 0, .int .i64 0] 28))
  have BW : Hid (Below w.heap.size w ((w.alloc (.cells #[.bool nn, .slice A n ca, .bool dn, .slice B m cb] 26)).alloc (.cells #[.int .i64 0, .int .i64 0] 28))) := (sbal (sbal (Below.refl _ _) _) _)
  clear HA HB
  go_wp2_with fail
  generalize (w.alloc (.cells #[.bool nn, .slice A n ca, .bool dn, .slice B m cb] 26)).alloc (.cells #[.int .i64 0, .int .i64 0] 28) = W0 at *
  refine (HCK.out _ LA.out LB.out).mono ?_
  rintro e w1 ⟨rfl, hb⟩
  replace QF := Lib.hid (QF.out.via hb)
  replace QR := Lib.hid (QR.out.via hb)
  replace LA := Lib.hid (LA.out.via hb)
  replace LB := Lib.hid (LB.out.via hb)
  replace BW := Lib.hid (btr BW.out hb)
  clear hb
  have ⟨rQF0, rQF1, rQF2, rQF3, rQF4, rQF5, rQF6, rQF7, rQFl⟩ := QF.out
  go_wp2_with fail
  clear rQF0 rQF1 rQF2 rQF3 rQF4 rQF5 rQF6 rQF7 rQFl
  refine (HCK.out _ LA.out LB.out).mono ?_
  rintro e w2 ⟨rfl, hb⟩
  clear LA
  clear LB
  clear QF
  replace QR := Lib.hid (QR.out.via hb)
  replace BW := Lib.hid (btr BW.out hb)
  clear hb
  have ⟨rQR0, rQR1, rQR2, rQR3, rQRl⟩ := QR.out
  go_wp2
  exact post_iv Tryd.results5 rfl rfl (QR.out.set _ _) ⟨rfl, below_set2 BW.out (by omega) _ _⟩
theorem fchk_cases (nn : Bool) (xs : List Nat) (dn : Bool) (ys : List Nat) : fchk nn xs dn ys = 0 ∨ fchk nn xs dn ys = 8 := by unfold fchk; split <;> simp
theorem of_both (nn dn : Bool) (xs ys : List Nat) (gx : Good xs) (gy : Good ys) (lx : xs.length ≤ 260) (ly : ys.length ≤ 260) : ∃ o : Out,
    (∀ (w : World) (A B : Option Addr) (n m ca cb : Nat), Lm w w.heap.size A n ca xs → Lm w w.heap.size B m cb ys → Calls Tryd.prog 4 #[fv nn A n ca dn B m cb] w (RO w o)) ∧
    (∀ (w : World) (A B : Option Addr) (n m ca cb : Nat), Lm w w.heap.size A n ca xs → Lm w w.heap.size B m cb ys → Calls Tryd.prog 5 #[fv nn A n ca dn B m cb] w (RO w o)) := by
  rcases fchk_cases nn xs dn ys with h | h
  · have h' := h
    unfold fchk at h'
    have hc : chk nn xs = 0 ∧ chk dn ys = 0 ∧ dn = false ∧ ys ≠ [] ∧ Nat.gcd (val xs) (val ys) = 1 := Classical.byContradiction fun e => by rw [if_neg e] at h'; omega
    obtain ⟨h1, h2, h3, h4, _⟩ := hc
    obtain ⟨N, hN1, hN2, hN3⟩ := of_chk h1 gx lx
    obtain ⟨D, hD1, hD2, hD3⟩ := of_chk h2 gy ly
    have hD0 : 0 < D := by
      have e1 : ¬ D < 0 := by rw [h3] at hD1; exact of_decide_eq_false hD1.symm
      have e2 : D ≠ 0 := fun e => by rw [e] at hD2; exact h4 hD2
      omega
    subst h3 hN2 hD2
    clear h1 h2 h4 hD1 h' gx gy lx ly
    have hs1 := hN3.mono (show 260 ≤ 300 by omega)
    have hs2 := hD3.mono (show 260 ≤ 300 by omega)
    have hm0 := Int.emod_nonneg (N * 1099511627776) (show D ≠ 0 by omega)
    refine ⟨offO N D, fun w A B n m ca cb hA hB => ?_, fun w A B n m ca cb hA hB => ?_⟩
    · by_cases c1 : -9223372036854775808 ≤ N / D ∧ N / D ≤ 9223372036854775807
      · by_cases c2 : N / D < -2097152 ∨ 2097152 < N / D
        · exact sof_b w nn A B n m ca cb N D hA hB hD0 hs1 hs2 h hN1.symm c1 c2
        · by_cases c3 : N * 1099511627776 % D = 0
          · exact sof_c0 w nn A B n m ca cb N D hA hB hD0 hs1 hs2 h hN1.symm (by omega) (by omega) c3
          · exact sof_c1 w nn A B n m ca cb N D hA hB hD0 hs1 hs2 h hN1.symm (by omega) (by omega) (by omega)
      · exact sof_a w nn A B n m ca cb N D hA hB hD0 hs1 hs2 h hN1.symm c1
    · by_cases c1 : -9223372036854775808 ≤ N * 1099511627776 / D ∧ N * 1099511627776 / D ≤ 9223372036854775807
      · by_cases c2 : N * 1099511627776 / D < -2305843009213693952
        · exact rof_b w nn A B n m ca cb N D hA hB hD0 hs1 hs2 h hN1.symm ⟨c1.1, c2⟩
        · by_cases c3 : 2305843009213693952 < N * 1099511627776 / D
          · exact rof_c w nn A B n m ca cb N D hA hB hD0 hs1 hs2 h hN1.symm ⟨c3, c1.2⟩
          · by_cases c4 : N * 1099511627776 % D = 0
            · by_cases c5 : N * 1099511627776 / D = 2305843009213693952
              · exact rof_e0 w nn A B n m ca cb N D hA hB hD0 hs1 hs2 h hN1.symm ⟨c5, c4⟩
              · exact rof_e1 w nn A B n m ca cb N D hA hB hD0 hs1 hs2 h hN1.symm ⟨⟨by omega, by omega⟩, c4⟩
            · by_cases c5 : N * 1099511627776 / D = 2305843009213693952
              · exact rof_d w nn A B n m ca cb N D hA hB hD0 hs1 hs2 h hN1.symm ⟨c5, by omega⟩
              · exact rof_e2 w nn A B n m ca cb N D hA hB hD0 hs1 hs2 h hN1.symm ⟨⟨by omega, by omega⟩, by omega⟩
      · exact rof_a w nn A B n m ca cb N D hA hB hD0 hs1 hs2 h hN1.symm c1
  · exact ⟨⟨0, 0, 8⟩, fun w A B n m ca cb hA hB => sof_bad w nn dn A B n m ca cb xs ys hA hB h, fun w A B n m ca cb hA hB => rof_bad w nn dn A B n m ca cb xs ys hA hB h⟩
set_option maxRecDepth 100000 in
set_option maxHeartbeats 4000000 in
theorem smakes_great (w : World) (nn dn : Bool) (A B : Option Addr) (n m ca cb : Nat) (xs ys : List Nat) (hA : Lm w w.heap.size A n ca xs) (hB : Lm w w.heap.size B m cb ys) (i : Int) (hg : 260 < n ∨ 260 < m) : Calls Tryd.prog 3 #[fv nn A n ca dn B m cb, .int .i64 i] w fun e w' => e = .returned (.bool true) ∧ Below w.heap.size w w' := by
  have c1 := hA.cap
  have c2 := hA.max
  have c3 := hB.cap
  have c4 := hB.max
  clear hA hB
  by_cases hn : 260 < n
  · have hni : (260 : Int) < (n : Int) := by omega
    go_enter Tryd.func3, Tryd.ntmps3
    go_wp2
    go_ret
    exact ⟨rfl, by go_grown⟩
  · have hm : 260 < m := by omega
    have hmi : (260 : Int) < (m : Int) := by omega
    have hni : decide ((260 : Int) < (n : Int)) = false := decide_eq_false (by omega)
    go_enter Tryd.func3, Tryd.ntmps3
    go_wp2
    go_ret
    exact ⟨rfl, by go_grown⟩
set_option maxRecDepth 100000 in
set_option maxHeartbeats 4000000 in
theorem smakes_main (w : World) (nn dn : Bool) (A B : Option Addr) (n m ca cb : Nat) (xs ys : List Nat) (hA : Lm w w.heap.size A n ca xs) (hB : Lm w w.heap.size B m cb ys) (i : Int) (hi1 : -9223372036854775808 ≤ i) (hi2 : i ≤ 9223372036854775807) (hn : n ≤ 260) (hm : m ≤ 260) : Calls Tryd.prog 3 #[fv nn A n ca dn B m cb, .int .i64 i] w fun e w' => e = .returned (.bool true) ∧ Below w.heap.size w w' := by
  have c1 := hA.cap
  have c2 := hA.max
  have c3 := hB.cap
  have c4 := hB.max
  have HA := Lib.hid hA
  have HB := Lib.hid hB
  obtain ⟨o1, k1, k2⟩ := of_both nn dn xs ys hA.good hB.good (by rw [hA.len]; exact hn) (by rw [hB.len]; exact hm)
  have k3 := fun W => swhole_any W i hi1 hi2
  have k4 := fun W => rwhole_any W i hi1 hi2
  obtain ⟨o2, ho2⟩ : ∃ o, o = whO i := ⟨_, rfl⟩
  rw [← ho2] at k3 k4
  obtain ⟨l1, h1, e1⟩ := o1
  obtain ⟨l2, h2, e2⟩ := o2
  have K1 := Lib.hid k1
  have K2 := Lib.hid k2
  have K3 := Lib.hid k3
  have K4 := Lib.hid k4
  have hni : decide ((260 : Int) < (n : Int)) = false := decide_eq_false (by omega)
  have hmi : decide ((260 : Int) < (m : Int)) = false := decide_eq_false (by omega)
  have hnn : decide (260 < n) = false := decide_eq_false (by omega)
  have hmn : decide (260 < m) = false := decide_eq_false (by omega)
  clear hA hB k1 k2 k3 k4 ho2 hi1 hi2 hn hm
  go_enter Tryd.func3, Tryd.ntmps3
  have QF := Lib.hid (Qd.new w (w.heap.size) rfl (.bool nn) (.slice A n ca) (.bool dn) (.slice B m cb) 26)
  have LA := Lib.hid (HA.out.box (.cells #[.bool nn, .slice A n ca, .bool dn, .slice B m cb] 26))
  have LB := Lib.hid (HB.out.box (.cells #[.bool nn, .slice A n ca, .bool dn, .slice B m cb] 26))
  have BW : Hid (Below w.heap.size w (w.alloc (.cells #[.bool nn, .slice A n ca, .bool dn, .slice B m cb] 26))) := (sbal (Below.refl _ _) _)
  clear HA HB
  go_wp2_with fail
  generalize w.alloc (.cells #[.bool nn, .slice A n ca, .bool dn, .slice B m cb] 26) = W0 at *
  refine (K1.out _ _ _ _ _ _ _ LA.out LB.out).mono ?_
  rintro e w1 ⟨rfl, hb⟩
  replace QF := Lib.hid (QF.out.via hb)
  replace LA := Lib.hid (LA.out.via hb)
  replace LB := Lib.hid (LB.out.via hb)
  replace BW := Lib.hid (btr BW.out hb)
  clear hb
  have ⟨rQF0, rQF1, rQF2, rQF3, rQF4, rQF5, rQF6, rQF7, rQFl⟩ := QF.out
  go_wp2_with fail
  clear rQF0 rQF1 rQF2 rQF3 rQF4 rQF5 rQF6 rQF7 rQFl
  replace QF := Lib.hid (QF.out.alloc (.cells #[.int .i64 l1, .int .i64 h1] 28))
  replace LA := Lib.hid (LA.out.box (.cells #[.int .i64 l1, .int .i64 h1] 28))
  replace LB := Lib.hid (LB.out.box (.cells #[.int .i64 l1, .int .i64 h1] 28))
  have X5 := Lib.hid (Pr.new w1 _ rfl (.int .i64 l1) (.int .i64 h1) 28)
  replace BW := Lib.hid (sbal BW.out (.cells #[.int .i64 l1, .int .i64 h1] 28))
  generalize w1.alloc (.cells #[.int .i64 l1, .int .i64 h1] 28) = W1 at *
  generalize w1.heap.size = g1 at *
  refine (K2.out _ _ _ _ _ _ _ LA.out LB.out).mono ?_
  rintro e w2 ⟨rfl, hb⟩
  clear LA
  clear LB
  clear QF
  replace X5 := Lib.hid (X5.out.via hb)
  replace BW := Lib.hid (btr BW.out hb)
  clear hb
  go_wp2_with fail
  replace X5 := Lib.hid (X5.out.alloc (.cells #[.int .i64 l1, .int .i64 h1] 28))
  have X7 := Lib.hid (Pr.new w2 _ rfl (.int .i64 l1) (.int .i64 h1) 28)
  replace BW := Lib.hid (sbal BW.out (.cells #[.int .i64 l1, .int .i64 h1] 28))
  generalize w2.alloc (.cells #[.int .i64 l1, .int .i64 h1] 28) = W2 at *
  generalize w2.heap.size = g2 at *
  refine (K3.out _).mono ?_
  rintro e w3 ⟨rfl, hb⟩
  replace X5 := Lib.hid (X5.out.via hb)
  replace X7 := Lib.hid (X7.out.via hb)
  replace BW := Lib.hid (btr BW.out hb)
  clear hb
  go_wp2_with fail
  replace X5 := Lib.hid (X5.out.alloc (.cells #[.int .i64 l2, .int .i64 h2] 28))
  replace X7 := Lib.hid (X7.out.alloc (.cells #[.int .i64 l2, .int .i64 h2] 28))
  have X9 := Lib.hid (Pr.new w3 _ rfl (.int .i64 l2) (.int .i64 h2) 28)
  replace BW := Lib.hid (sbal BW.out (.cells #[.int .i64 l2, .int .i64 h2] 28))
  generalize w3.alloc (.cells #[.int .i64 l2, .int .i64 h2] 28) = W3 at *
  generalize w3.heap.size = g3 at *
  refine (K4.out _).mono ?_
  rintro e w4 ⟨rfl, hb⟩
  replace X5 := Lib.hid (X5.out.via hb)
  replace X7 := Lib.hid (X7.out.via hb)
  replace X9 := Lib.hid (X9.out.via hb)
  replace BW := Lib.hid (btr BW.out hb)
  clear hb
  have ⟨rX50, rX51, rX52, rX53, rX5l⟩ := X5.out
  have ⟨rX70, rX71, rX72, rX73, rX7l⟩ := X7.out
  have ⟨rX90, rX91, rX92, rX93, rX9l⟩ := X9.out
  go_wp2
  go_ret
  exact ⟨rfl, sbal BW.out _⟩
theorem smakes_any (w : World) (nn dn : Bool) (A B : Option Addr) (n m ca cb : Nat) (xs ys : List Nat) (hA : Lm w w.heap.size A n ca xs) (hB : Lm w w.heap.size B m cb ys) (i : Int) (hi1 : -9223372036854775808 ≤ i) (hi2 : i ≤ 9223372036854775807) : Calls Tryd.prog 3 #[fv nn A n ca dn B m cb, .int .i64 i] w fun e w' => e = .returned (.bool true) ∧ Below w.heap.size w w' := by
  by_cases hg : 260 < n ∨ 260 < m
  · exact smakes_great w nn dn A B n m ca cb xs ys hA hB i hg
  · exact smakes_main w nn dn A B n m ca cb xs ys hA hB i hi1 hi2 (by omega) (by omega)
end Go.Proofs.YtegpckhfncblhaaDoor

namespace Go.Proofs.YtegpckhfncblhaaDoor
open Go.ChangeShapes Go.WideShapes Go.ChangeAt Go.RowKit

theorem own : ownKnob Tryd.prog.godebug = none := by kernel_rfl
/-- The one table that this law reads. -/
def laid1 : List (String × DataW Unit) := [("math/bits.deBruijn32tab", Rows.laid_math_bits_deBruijn32tab)]
theorem door_met1 (os : Os) (args : Array Value) : laidMetH Tryd.prog laid1 ((World.doorLaid Tryd.prog 24 os).forCall (fun _ _ => 0) ⟨#[], args, []⟩).memory :=
  laidMetH_of_parts3 (fuel := 8) (laidMet_of_run' 8 (by kernel_rfl) (by kernel_rfl)) (by kernel_rfl) (by kernel_rfl)

set_option maxRecDepth 100000 in
theorem spanMakes_lifted (os : Os) (started : os.Started) (H : Type) (enc : TypeId × Value → H) :
    ReturnsInHanded {} Tryd.checked os 3 .any (fun w args => (Rows.spanMakesSpec.pre enc Tryd.prog Tryd.f3 [] false w args ∧ laidMetH Tryd.prog laid1 w) ∧ sizedMet enc Tryd.prog Tryd.f3 (OpenSpec.ofChange Rows.spanMakesSpec) false w args)
      (Rows.spanMakesSpec.post enc Tryd.prog Tryd.f3 false true false false) := by
  refine returnsInHanded_of_change_and (C := Tryd.checked) (X := fun w _ => laidMetH Tryd.prog laid1 w) (fun _ _ _ hh h => h.of_heap hh) own started (by kernel_rfl) Tryd.func3
    (ChangeSpec.witness_shaped (enc := enc) (C := Tryd.checked) (os := os) (X := fun w _ => laidMetH Tryd.prog laid1 w) false (World.doorLaid Tryd.prog 24 os) #[.agg #[.bool false, .slice none 0 0, .bool false, .slice none 0 0], .int .i64 0] 8 rfl (World.shaped_of_RefB (by kernel_rfl) (by kernel_rfl)) (by kernel_rfl) (by kernel_rfl) (by kernel_rfl) (door_met1 os _)) ?_
  intro W base args ds gs before hval0 hW _ _ hL _
  have hval : ∀ (j : Nat) t v, Tryd.f3.params[j]? = some t → args[j]? = some v → Value.okWide Tryd.prog W .any base t v := hval0
  have hW' := hW
  obtain ⟨p, q, hA0, hV, rfl, hfz, hnd⟩ := hW
  have hA : DataW.TrodAll enc Tryd.prog W 0 (fun _ => true) true Tryd.f3.params.toList args.toList ds p := hA0
  rw [Tryd.params3] at hA hval
  obtain ⟨v0, v1, d0, d1, p0, p1, rfl, rfl, rfl, h0, h1⟩ := trodAll_two hA
  obtain ⟨rfl, rfl⟩ := trodVars_none hV
  obtain ⟨i, rfl, rfl, rfl, wi⟩ := open_int Tryd.underlying2 (hval 1 2 v1 rfl rfl) h1
  clear hA0 hval0
  try (simp only [List.append_nil] at hW')
  have hlt : ∀ x ∈ p0, x.block < W.heap.size := fun x hx => by
    refine hW'.lt x ?_
    simpa using hx
  obtain ⟨nn, A, n, ca, xs, dn, B, m, cb, ys, rfl, hLA, hLB⟩ := open_frac (hval 0 26 v0 rfl rfl) h0 hlt
  have hk : -9223372036854775808 ≤ i ∧ i ≤ 9223372036854775807 := by
    have e1 : IntKind.i64.min = -9223372036854775808 := rfl
    have e2 : IntKind.i64.max = 9223372036854775807 := rfl
    have wz := wi
    simp only [Lit.wf, Bool.and_eq_true, decide_eq_true_eq] at wz
    omega
  refine (smakes_any W nn dn A B n m ca cb xs ys hLA hLB i hk.1 hk.2).mono fun e W' ⟨he, hb⟩ => ?_
  subst he
  exact ⟨_, rfl, _, _, _, [], p0, [], hW', trodAll_mk1 (shut_bool Tryd.underlying4 _),
    (by have e := trodAll_mk2 (Below.trod laidOut (by kernel_rfl) (of_decide_eq_true (by kernel_rfl)) h0 hb hlt) (shut_int Tryd.underlying2 wi); (try (simp only [List.append_nil] at e)); exact e), rfl, hb.frame _, fun h => by cases h⟩

theorem spanMakes_row : Rows.SpanMakesSaid :=
  OpenClaim.holds_of_wide 3 Tryd.f3 rfl rfl rfl rfl rfl rfl rfl ⟨rfl, rfl, rfl, rfl, rfl⟩ rfl rfl rfl rfl rfl (by kernel_rfl) Tryd.func3 (by kernel_rfl)
    (of_decide_eq_true (by kernel_rfl)) (by unfold Func.isWrapper; first | (rw [if_pos (by decide +kernel)]; kernel_rfl) | (rw [if_neg (by decide +kernel)]; exact ⟨rfl, rfl⟩))
    (fun os started H enc _ => spanMakes_lifted os started H enc)

theorem spanMakes_holds : Rows.SpanMakesCardSaid :=
  Claim7.holds_tied_plain_at .later [] [.data] true (Rows.spanMakesCard.stood.harness) false
    spanMakes_row (fun _ h => by cases h) (by kernel_rfl) (fun _ h => by cases h) spanMakes_row_tie rfl ⟨rfl, rfl⟩ (by kernel_rfl) rfl
    (fun f fn hf hfn => by
      obtain rfl : f = 3 := Option.some.inj ((show Tryd.prog.funcNamed "planisphere/planispherelaw03.SpanMakes" = some 3 by kernel_rfl).symm.trans hf) |>.symm
      obtain rfl : fn = Tryd.f3 := (Option.some.inj (Tryd.func3.symm.trans hfn)).symm
      exact ⟨by kernel_rfl, fun j t ht => by
        rw [Tryd.params3] at ht
        have hm : t ∈ [26, 2] := by simpa using Array.mem_of_getElem? ht
        have hall : ([26, 2].all fun u => !Tryd.prog.wantsStandIn u) = true := by kernel_rfl
        exact (show Tryd.prog.wantsStandIn t = false by simpa using List.all_eq_true.1 hall t hm)⟩)
    (by kernel_rfl)
end Go.Proofs.YtegpckhfncblhaaDoor

