/- Lemmas of several claims. -/
import Derived.Deep.RegionHeld3
import Derived.Deep.DeepCutAuto
import Derived.Laws.BitsLemmas
import Derived.Test.YtbplbbkmfbjkfaaGreatDoorFTexts6
/- The reference for fractions: Check, Reduced, Same, Great. -/
namespace Go.Proofs.YtbplbbkmfbjkfaaGreatDoor
open Go.RowKit

theorem sign_of {x p z : Int} (h : x = p * z) (hz : z ≠ 0) : decide (p < 0) = (decide (x < 0) != decide (z < 0) && decide (p ≠ 0)) := by
  subst h
  rcases Int.lt_trichotomy p 0 with hp | hp | hp
  · rcases Int.lt_or_gt_of_ne hz with h | h
    · have := Int.mul_pos_of_neg_of_neg hp h
      rw [decide_eq_true hp, decide_eq_false (show ¬ p * z < 0 by omega), decide_eq_true h, decide_eq_true (show p ≠ 0 by omega)]; rfl
    · have := Int.mul_neg_of_neg_of_pos hp h
      rw [decide_eq_true hp, decide_eq_true this, decide_eq_false (show ¬ z < 0 by omega), decide_eq_true (show p ≠ 0 by omega)]; rfl
  · subst hp; simp
  · rcases Int.lt_or_gt_of_ne hz with h | h
    · have := Int.mul_neg_of_pos_of_neg hp h
      rw [decide_eq_false (show ¬ p < 0 by omega), decide_eq_true this, decide_eq_true h]; rfl
    · have := Int.mul_pos hp h
      rw [decide_eq_false (show ¬ p < 0 by omega), decide_eq_false (show ¬ p * z < 0 by omega), decide_eq_false (show ¬ z < 0 by omega)]; rfl
/-- The reference's DivMod where the second number divides the first one. -/
theorem rdiv_x (w : World) (A B : Option Addr) (n m ca cb k : Nat) (x z p : Int) (hA : Lm w w.heap.size A n ca (digs x.natAbs)) (hB : Lm w w.heap.size B m cb (digs z.natAbs)) (hx : Sz k x) (hz : Sz k z) (hk : k ≤ 2000) (hz0 : z ≠ 0) (hp : x = p * z)
    {na nb : Bool} (ha : decide (x < 0) = na) (hb : decide (z < 0) = nb) :
    Calls Tryz.prog 49 #[.agg #[.bool na, .slice A n ca], .agg #[.bool nb, .slice B m cb]] w fun e w' => ∃ A n c g A' n' c', e = .returned (.tuple #[.agg #[.bool (decide (p < 0)), .slice A n c], .agg #[.bool g, .slice A' n' c'], .int .i64 0]) ∧ Lm w' w'.heap.size A n c (digs p.natAbs) ∧ Below w.heap.size w w' := by
  have hv := chkB_z hx (show k ≤ 4096 by omega) hz (show k ≤ 4096 by omega)
  have hs := sign_of hp hz0
  rw [ha, hb] at hv hs
  have hbp : 0 < z.natAbs := by omega
  have e1 : x.natAbs = p.natAbs * z.natAbs := by rw [hp, Int.natAbs_mul]
  have e2 : x.natAbs / z.natAbs = p.natAbs := by rw [e1]; exact Nat.mul_div_cancel _ hbp
  have e3 : x.natAbs % z.natAbs = 0 := by rw [e1]; exact Nat.mul_mod_left _ _
  have hpl : (digs p.natAbs).length ≤ 4096 := by
    rw [← e2]
    exact Nat.le_trans (digs_mono (Nat.div_le_self _ _)) (Nat.le_trans hx.len (by omega))
  have hdz : decide (p.natAbs ≠ 0) = decide (p ≠ 0) := by rw [decide_eq_decide]; omega
  by_cases hsame : na = nb
  · have h := rdivmod_same w na nb A B n m ca cb _ _ hA hB hv hbp hsame (decide (0 < x.natAbs % z.natAbs)) rfl
    refine h.mono fun e w' hr => ?_
    obtain ⟨A1, n1, c1, A2, n2, c2, he, h1, _, hbl⟩ := hr
    rw [e2] at he h1
    have e4 : mkN false p.natAbs = decide (p < 0) := by rw [hs, hsame]; unfold mkN; simp
    rw [e4] at he
    exact ⟨A1, n1, c1, _, A2, n2, c2, he, h1, hbl⟩
  · have hs2 : na = true ∧ nb = false ∨ na = false ∧ nb = true := by cases na <;> cases nb <;> simp_all
    have h := rdivmod_exact w na nb A B n m ca cb _ _ hA hB hv hbp hs2 e3
    refine h.mono fun e w' hr => ?_
    obtain ⟨A1, n1, c1, A2, n2, c2, he, h1, _, hbl⟩ := hr
    rw [e2] at he h1
    have e4 : mkN true p.natAbs = decide (p < 0) := by
      rw [hs]
      unfold mkN
      rw [decide_eq_true hpl, hdz]
      rcases hs2 with ⟨h1, h2⟩ | ⟨h1, h2⟩ <;> rw [h1, h2] <;> simp
    rw [e4] at he
    exact ⟨A1, n1, c1, _, A2, n2, c2, he, h1, hbl⟩

set_option maxRecDepth 100000 in
set_option maxHeartbeats 400000 in
theorem fgreat_any (w : World) (nn dn : Bool) (A B : Option Addr) (n m ca cb : Nat) (_h1 : n ≤ ca) (_h2 : ca ≤ 9223372036854775807) (_h3 : m ≤ cb) (_h4 : cb ≤ 9223372036854775807) :
    Calls Tryz.prog 4 #[fv nn A n ca dn B m cb] w fun e w' => e = .returned (.bool (decide (130 < n) || decide (130 < m))) ∧ Below w.heap.size w w' := by
  go_enter Tryz.func4, Tryz.ntmps4
  go_wp2
  all_goals
    go_ret
    first
      | exact ⟨ret_bool (a := decide ((130 : Int) < (n : Int)) || decide ((130 : Int) < (m : Int))) (by congr 1 <;> (rw [decide_eq_decide]; omega)), by go_grown⟩
      | exact ⟨ret_bool (a := true) (by simp; omega), by go_grown⟩
set_option maxRecDepth 100000 in
set_option maxHeartbeats 1000000 in
theorem fsame_self (w : World) (nn dn : Bool) (A B A' B' : Option Addr) (n m n' m' ca cb ca' cb' : Nat) (xs ys : List Nat) (hA : Lm w w.heap.size A n ca xs) (hB : Lm w w.heap.size B m cb ys) (hA' : Lm w w.heap.size A' n' ca' xs) (hB' : Lm w w.heap.size B' m' cb' ys) :
    Calls Tryz.prog 11 #[fv nn A n ca dn B m cb, fv nn A' n' ca' dn B' m' cb'] w fun e w' => e = .returned (.bool true) ∧ Below w.heap.size w w' := by
  have HA := Lib.hid hA
  have HB := Lib.hid hB
  have HA' := Lib.hid hA'
  have HB' := Lib.hid hB'
  clear hA hB hA' hB'
  go_enter Tryz.func11, Tryz.ntmps11
  go_wp2_with fail
  refine (rsame_self _ _ _ _ _ _ _ _ _ ((HA.out.box _).box _) ((HA'.out.box _).box _)).mono ?_
  rintro e w1 ⟨rfl, hb1⟩
  have Q1 := ((Qd.new w _ rfl (.bool nn) (.slice A n ca) (.bool dn) (.slice B m cb) 26).alloc _).via hb1
  have Q2 := (Qd.new (w.alloc (.cells #[.bool nn, .slice A n ca, .bool dn, .slice B m cb] 26)) (w.heap.size + 1) (by simp) (.bool nn) (.slice A' n' ca') (.bool dn) (.slice B' m' cb') 26).via hb1
  have LB := Lib.hid (((HB.out.box _).box _).via hb1)
  have LB' := Lib.hid (((HB'.out.box _).box _).via hb1)
  have B1 := Lib.hid (bbox (bbox hb1))
  have ⟨_, _, q2, q3, _, _, _, _, ql⟩ := Q1
  have ⟨_, _, s2, s3, _, _, _, _, sl⟩ := Q2
  clear hb1 Q1 Q2 HA HB HA' HB'
  go_wp2_with fail
  refine (rsame_self _ _ _ _ _ _ _ _ _ LB.out LB'.out).mono ?_
  rintro e w2 ⟨rfl, hb2⟩
  go_wp2
  go_ret
  exact ⟨rfl, btr B1.out hb2⟩
set_option maxRecDepth 100000 in
set_option maxHeartbeats 1000000 in
theorem rfcheck_nbad (w : World) (nn dn : Bool) (A B : Option Addr) (n m ca cb : Nat) (xs ys : List Nat) (hA : Lm w w.heap.size A n ca xs) (hB : Lm w w.heap.size B m cb ys) (hn : chk nn xs = 8) :
    Calls Tryz.prog 25 #[fv nn A n ca dn B m cb] w fun e w' => e = .returned (.int .i64 8) ∧ Below w.heap.size w w' := by
  have HA := Lib.hid hA
  have HB := Lib.hid hB
  have HN := Lib.hid hn
  clear hn
  clear hA hB
  go_enter Tryz.func25, Tryz.ntmps25
  go_wp2_with fail
  refine (rcheck_bad _ nn A n ca xs (HA.out.box _) HN.out).mono ?_
  rintro e w1 ⟨rfl, hb1⟩
  have Q1 := (Qd.new w _ rfl (.bool nn) (.slice A n ca) (.bool dn) (.slice B m cb) 26).via hb1
  have LA := Lib.hid ((HA.out.box _).via hb1)
  have LB := Lib.hid ((HB.out.box _).via hb1)
  have B1 := Lib.hid (bbox hb1)
  have HQ := Lib.hid Q1
  have ⟨q0, q1, q2, q3, _, _, _, _, ql⟩ := Q1
  clear hb1 Q1 HA HB
  go_wp2
  go_ret
  exact ⟨rfl, B1.out⟩
set_option maxRecDepth 100000 in
set_option maxHeartbeats 1000000 in
theorem rfcheck_dbad (w : World) (nn dn : Bool) (A B : Option Addr) (n m ca cb : Nat) (xs ys : List Nat) (hA : Lm w w.heap.size A n ca xs) (hB : Lm w w.heap.size B m cb ys) (hn : chk nn xs = 0) (hd : chk dn ys = 8) :
    Calls Tryz.prog 25 #[fv nn A n ca dn B m cb] w fun e w' => e = .returned (.int .i64 8) ∧ Below w.heap.size w w' := by
  have HA := Lib.hid hA
  have HB := Lib.hid hB
  have HN := Lib.hid hn
  have HD := Lib.hid hd
  clear hn hd
  clear hA hB
  go_enter Tryz.func25, Tryz.ntmps25
  go_wp2_with fail
  refine (rcheck_ok _ nn A n ca xs (HA.out.box _) HN.out).mono ?_
  rintro e w1 ⟨rfl, hb1⟩
  have Q1 := (Qd.new w _ rfl (.bool nn) (.slice A n ca) (.bool dn) (.slice B m cb) 26).via hb1
  have LA := Lib.hid ((HA.out.box _).via hb1)
  have LB := Lib.hid ((HB.out.box _).via hb1)
  have B1 := Lib.hid (bbox hb1)
  have HQ := Lib.hid Q1
  have ⟨q0, q1, q2, q3, _, _, _, _, ql⟩ := Q1
  clear hb1 Q1 HA HB
  go_wp2_with fail
  refine (rcheck_bad _ dn B m cb ys LB.out HD.out).mono ?_
  rintro e w2 ⟨rfl, hb2⟩
  have B2 := Lib.hid (btr B1.out hb2)
  clear hb2
  go_wp2
  go_ret
  exact ⟨rfl, B2.out⟩
set_option maxRecDepth 100000 in
set_option maxHeartbeats 1000000 in
theorem rfcheck_neg (w : World) (nn dn : Bool) (A B : Option Addr) (n m ca cb : Nat) (xs ys : List Nat) (hA : Lm w w.heap.size A n ca xs) (hB : Lm w w.heap.size B m cb ys) (hn : chk nn xs = 0) (hd : chk dn ys = 0) (ht : dn = true) :
    Calls Tryz.prog 25 #[fv nn A n ca dn B m cb] w fun e w' => e = .returned (.int .i64 8) ∧ Below w.heap.size w w' := by
  have HA := Lib.hid hA
  have HB := Lib.hid hB
  subst ht
  have HN := Lib.hid hn
  have HD := Lib.hid hd
  clear hn hd
  clear hA hB
  go_enter Tryz.func25, Tryz.ntmps25
  go_wp2_with fail
  refine (rcheck_ok _ nn A n ca xs (HA.out.box _) HN.out).mono ?_
  rintro e w1 ⟨rfl, hb1⟩
  have Q1 := (Qd.new w _ rfl (.bool nn) (.slice A n ca) (.bool true) (.slice B m cb) 26).via hb1
  have LA := Lib.hid ((HA.out.box _).via hb1)
  have LB := Lib.hid ((HB.out.box _).via hb1)
  have B1 := Lib.hid (bbox hb1)
  have HQ := Lib.hid Q1
  have ⟨q0, q1, q2, q3, _, _, _, _, ql⟩ := Q1
  clear hb1 Q1 HA HB
  go_wp2_with fail
  refine (rcheck_ok _ true B m cb ys LB.out HD.out).mono ?_
  rintro e w2 ⟨rfl, hb2⟩
  have B2 := Lib.hid (btr B1.out hb2)
  have Q2 := HQ.out.via hb2
  have LA2 := Lib.hid (LA.out.via hb2)
  have LB2 := Lib.hid (LB.out.via hb2)
  have HQ2 := Lib.hid Q2
  clear hb2 q0 q1 q2 q3 ql LA LB HQ
  have ⟨q0, q1, q2, q3, _, _, _, _, ql⟩ := Q2
  clear Q2
  go_wp2
  go_ret
  exact ⟨rfl, B2.out⟩
set_option maxRecDepth 100000 in
set_option maxHeartbeats 1000000 in
theorem rfcheck_zero (w : World) (nn dn : Bool) (A B : Option Addr) (n m ca cb : Nat) (xs ys : List Nat) (hA : Lm w w.heap.size A n ca xs) (hB : Lm w w.heap.size B m cb ys) (hn : chk nn xs = 0) (hd : chk dn ys = 0) (ht : dn = false) (hz : ys = []) :
    Calls Tryz.prog 25 #[fv nn A n ca dn B m cb] w fun e w' => e = .returned (.int .i64 8) ∧ Below w.heap.size w w' := by
  have HA := Lib.hid hA
  have HB := Lib.hid hB
  subst ht hz
  obtain rfl : m = 0 := HB.out.len.symm
  have HN := Lib.hid hn
  have HD := Lib.hid hd
  clear hn hd
  clear hA hB
  go_enter Tryz.func25, Tryz.ntmps25
  go_wp2_with fail
  refine (rcheck_ok _ nn A n ca xs (HA.out.box _) HN.out).mono ?_
  rintro e w1 ⟨rfl, hb1⟩
  have Q1 := (Qd.new w _ rfl (.bool nn) (.slice A n ca) (.bool false) (.slice B 0 cb) 26).via hb1
  have LA := Lib.hid ((HA.out.box _).via hb1)
  have LB := Lib.hid ((HB.out.box _).via hb1)
  have B1 := Lib.hid (bbox hb1)
  have HQ := Lib.hid Q1
  have ⟨q0, q1, q2, q3, _, _, _, _, ql⟩ := Q1
  clear hb1 Q1 HA HB
  go_wp2_with fail
  refine (rcheck_ok _ false B 0 cb [] LB.out HD.out).mono ?_
  rintro e w2 ⟨rfl, hb2⟩
  have B2 := Lib.hid (btr B1.out hb2)
  have Q2 := HQ.out.via hb2
  have LA2 := Lib.hid (LA.out.via hb2)
  have LB2 := Lib.hid (LB.out.via hb2)
  have HQ2 := Lib.hid Q2
  clear hb2 q0 q1 q2 q3 ql LA LB HQ
  have ⟨q0, q1, q2, q3, _, _, _, _, ql⟩ := Q2
  clear Q2
  go_wp2
  go_ret
  exact ⟨rfl, B2.out⟩
set_option maxRecDepth 100000 in
set_option maxHeartbeats 1000000 in
theorem rfcheck_gcd (w : World) (nn dn : Bool) (A B : Option Addr) (n m ca cb : Nat) (xs ys : List Nat) (hA : Lm w w.heap.size A n ca xs) (hB : Lm w w.heap.size B m cb ys) (hn : chk nn xs = 0) (hd : chk dn ys = 0) (ht : dn = false) (hz : ys ≠ []) (g : Nat) (hgg : Nat.gcd (val xs) (val ys) = g) (r : Int) (hr : r = if g = 1 then 0 else 8) :
    Calls Tryz.prog 25 #[fv nn A n ca dn B m cb] w fun e w' => e = .returned (.int .i64 r) ∧ Below w.heap.size w w' := by
  have HA := Lib.hid hA
  have HB := Lib.hid hB
  subst ht
  have hm0 : 0 < m := by
    rcases Nat.eq_zero_or_pos m with h | h
    · exact absurd (List.eq_nil_of_length_eq_zero (by rw [HB.out.len]; exact h)) hz
    · exact h
  have hmz : ((m : Int) == 0) = false := by simp; omega
  have hcc := HB.out.cap
  have hcx := HB.out.max
  have HG0 := Lib.hid hgg
  have HR := Lib.hid hr
  have HV : Hid (chkB nn (digs (val xs)) false (digs (val ys)) = 0) := by
    show _ = _
    rw [← chk_digs hn HA.out.good, ← chk_digs hd HB.out.good]
    exact chkB_ok.2 ⟨hn, hd⟩
  have HDA := Lib.hid (chk_digs hn HA.out.good)
  have HDB := Lib.hid (chk_digs hd HB.out.good)
  have HGL : Hid ((digs g).length ≤ 4096) := by
    show _ ≤ _
    rw [← hgg]
    have h1 := (chk_ok.1 hd).1
    rw [chk_digs hd HB.out.good] at h1
    exact Nat.le_trans (digs_mono (Nat.gcd_le_right _ (val_pos (chk_ok.1 hd).2.1 hz))) h1
  clear hr hz hgg
  have HN := Lib.hid hn
  have HD := Lib.hid hd
  clear hn hd
  clear hA hB
  go_enter Tryz.func25, Tryz.ntmps25
  go_wp2_with fail
  refine (rcheck_ok _ nn A n ca xs (HA.out.box _) HN.out).mono ?_
  rintro e w1 ⟨rfl, hb1⟩
  have Q1 := (Qd.new w _ rfl (.bool nn) (.slice A n ca) (.bool false) (.slice B m cb) 26).via hb1
  have LA := Lib.hid ((HA.out.box _).via hb1)
  have LB := Lib.hid ((HB.out.box _).via hb1)
  have B1 := Lib.hid (bbox hb1)
  have HQ := Lib.hid Q1
  have ⟨q0, q1, q2, q3, _, _, _, _, ql⟩ := Q1
  clear hb1 Q1 HA HB
  go_wp2_with fail
  refine (rcheck_ok _ false B m cb ys LB.out HD.out).mono ?_
  rintro e w2 ⟨rfl, hb2⟩
  have B2 := Lib.hid (btr B1.out hb2)
  have Q2 := HQ.out.via hb2
  have LA2 := Lib.hid (LA.out.via hb2)
  have LB2 := Lib.hid (LB.out.via hb2)
  have HQ2 := Lib.hid Q2
  clear hb2 q0 q1 q2 q3 ql LA LB HQ
  have ⟨q0, q1, q2, q3, _, _, _, _, ql⟩ := Q2
  clear Q2
  have hA2 : Lm w2 w2.heap.size A n ca (digs (val xs)) := by rw [← HDA.out]; exact LA2.out
  have hB2 : Lm w2 w2.heap.size B m cb (digs (val ys)) := by rw [← HDB.out]; exact LB2.out
  have KA := Lib.hid hA2
  have KB := Lib.hid hB2
  clear hA2 hB2
  go_wp2_with fail
  have hcall := rgcd_ok w2 nn false A B n m ca cb _ _ KA.out KB.out HV.out
  rw [HG0.out] at hcall
  refine hcall.mono ?_
  clear hcall
  rintro e w3 ⟨A3, n3, c3, rfl, hL3, hb3⟩
  have e1 : mkN false g = false := by unfold mkN; simp
  have e2 : mkL g = digs g := by unfold mkL; rw [if_pos HGL.out]
  have e3 : mkE g = 0 := by unfold mkE; rw [if_pos HGL.out]
  rw [e1, e3]
  rw [e2] at hL3
  have L3 := Lib.hid (hL3.box (.cells #[.bool false, .slice A3 n3 c3] 24))
  have P3 := Lib.hid (Pr.new w3 _ rfl (.bool false) (.slice A3 n3 c3) 24)
  have B3 := Lib.hid ((btr B2.out hb3).alloc (btr B2.out hb3).size (.cells #[.bool false, .slice A3 n3 c3] 24))
  have HSB : Hid (sameB false (digs g) false (digs 1) = decide (g = 1)) := by
    show _ = _
    by_cases h : g = 1
    · rw [h, sameB_self]; rfl
    · rw [decide_eq_false h]
      unfold sameB
      have h2 : cmpL (digs g) (digs 1) ≠ 0 := fun e => h (by have := (cmpL_eq (digs_good _) (digs_good _)).1 e; rw [← digs_val g, this]; rfl)
      simp [h2]
  clear hL3 hb3 e1 e2 e3 q0 q1 q2 q3 ql KA KB LA2 LB2 HQ2 B1 B2
  have hd1 : decide ((1 : Int) < 0) = false := rfl
  go_wp2_with fail
  generalize w3.alloc (.cells #[.bool false, .slice A3 n3 c3] 24) = W3 at *
  generalize w3.heap.size = g3 at *
  have ⟨p0, p1, _, _, pl⟩ := P3.out
  have hrf := fun w => rfrom_any w 1 (by omega) (by omega)
  rw [hd1] at hrf
  have HRF := Lib.hid hrf
  clear hrf hd1
  go_region_held3 (fun w' => w'.cell? ⟨g3, 0, none⟩ = some (.bool false) ∧ w'.cell? ⟨g3, 1, none⟩ = some (.slice A3 n3 c3))
    (first
     | exact ⟨p0, p1⟩
     | exact ⟨(P3.out.via Bb).c0, (P3.out.via Bb).c1⟩
     | exact ⟨(P3.out.via Ba).c0, (P3.out.via Ba).c1⟩
     | exact ⟨P3.out.drew.c0, P3.out.drew.c1⟩)
    (first
     | (go_at_call 18; refine (HRF.out _).mono ?_; rintro e wa ⟨Aa, na', ca', rfl, hLa, hba⟩; have Ba : Below W3.heap.size W3 wa := (by first | exact hba | exact (Below.refl _ _).drew.trans hba); have L3a := L3.out.via Ba)
     | (go_at_call 27; refine (rsame_any _ false false A3 Aa n3 na' c3 ca' (digs g) (digs 1) L3a hLa).mono ?_; rintro e wb ⟨rfl, hbb⟩; have Bb := btr Ba hbb)
     | fail)
  all_goals
    rw [HSB.out]
    have BE := Lib.hid (btr B3.out Bb)
    have hR := HR.out
    by_cases hg : g = 1
    · rw [if_pos hg] at hR
      rw [decide_eq_true hg]
      subst hR
      clear hg
      go_wp2
      go_ret
      exact ⟨rfl, BE.out⟩
    · rw [if_neg hg] at hR
      rw [decide_eq_false hg]
      subst hR
      clear hg
      go_wp2
      go_ret
      exact ⟨rfl, BE.out⟩
theorem rfcheck_any (w : World) (nn dn : Bool) (A B : Option Addr) (n m ca cb : Nat) (xs ys : List Nat) (hA : Lm w w.heap.size A n ca xs) (hB : Lm w w.heap.size B m cb ys) :
    Calls Tryz.prog 25 #[fv nn A n ca dn B m cb] w fun e w' => e = .returned (.int .i64 (fchk nn xs dn ys)) ∧ Below w.heap.size w w' := by
  rcases chk_cases nn xs with hn | hn
  · rcases chk_cases dn ys with hd | hd
    · cases hdn : dn
      · subst hdn
        by_cases hz : ys = []
        · have e : fchk nn xs false ys = 8 := by unfold fchk; rw [if_neg (fun h => h.2.2.2.1 hz)]
          rw [e]
          exact rfcheck_zero w nn false A B n m ca cb xs ys hA hB hn hd rfl hz
        · refine rfcheck_gcd w nn false A B n m ca cb xs ys hA hB hn hd rfl hz _ rfl _ ?_
          unfold fchk
          by_cases hg : Nat.gcd (val xs) (val ys) = 1
          · rw [if_pos ⟨hn, hd, rfl, hz, hg⟩, if_pos hg]
          · rw [if_neg (fun h => hg h.2.2.2.2), if_neg hg]
      · subst hdn
        have e : fchk nn xs true ys = 8 := by unfold fchk; rw [if_neg (fun h => by cases h.2.2.1)]
        rw [e]
        exact rfcheck_neg w nn true A B n m ca cb xs ys hA hB hn hd rfl
    · have e : fchk nn xs dn ys = 8 := by unfold fchk; rw [if_neg (fun h => by have := h.2.1; omega)]
      rw [e]
      exact rfcheck_dbad w nn dn A B n m ca cb xs ys hA hB hn hd
  · have e : fchk nn xs dn ys = 8 := by unfold fchk; rw [if_neg (fun h => by have := h.1; omega)]
    rw [e]
    exact rfcheck_nbad w nn dn A B n m ca cb xs ys hA hB hn
end Go.Proofs.YtbplbbkmfbjkfaaGreatDoor

/- The reference for fractions: Reduced. -/
namespace Go.Proofs.YtbplbbkmfbjkfaaGreatDoor
open Go.RowKit

section
variable (w : World) (A B : Option Addr) (n m ca cb k : Nat) (x y : Int) (hA : Lm w w.heap.size A n ca (digs x.natAbs)) (hB : Lm w w.heap.size B m cb (digs y.natAbs)) (hx : Sz k x) (hy : Sz k y) (hk : k ≤ 2000) {na nb : Bool} (ha : decide (x < 0) = na) (hb : decide (y < 0) = nb)
include hA hx hk ha
theorem rneg_n2 : Calls Tryz.prog 21 #[.agg #[.bool na, .slice A n ca]] w (RN w (-x)) := by
  have hc := chk_z hx (show k ≤ 4096 by omega)
  rw [ha] at hc
  have h := rneg_ok w na A n ca _ hA hc
  refine h.mono fun e w' hr => ?_
  have hl : (digs x.natAbs).length ≤ 4096 := Nat.le_trans hx.len (by omega)
  have hr2 := rw_rn hl hr
  have e1 : toI (!na) x.natAbs = -x := by
    subst ha
    unfold toI
    by_cases h : x < 0
    · rw [decide_eq_true h]; simp; omega
    · rw [decide_eq_false h]; simp; omega
  rw [e1] at hr2
  exact hr2
include hB hy hb
theorem rgcd_n2 : Calls Tryz.prog 48 #[.agg #[.bool na, .slice A n ca], .agg #[.bool nb, .slice B m cb]] w fun e w' => ∃ A' n' c', e = .returned (.tuple #[.agg #[.bool false, .slice A' n' c'], .int .i64 0]) ∧ Lm w' w'.heap.size A' n' c' (digs (Nat.gcd x.natAbs y.natAbs)) ∧ Below w.heap.size w w' := by
  subst ha hb
  have hxl : (digs x.natAbs).length ≤ 4096 := Nat.le_trans hx.len (by omega)
  have hyl : (digs y.natAbs).length ≤ 4096 := Nat.le_trans hy.len (by omega)
  have h := rgcd_ok w _ _ A B n m ca cb _ _ hA hB (chkB_z hx (by omega) hy (by omega))
  have hgl : (digs (Nat.gcd x.natAbs y.natAbs)).length ≤ 4096 := by
    rcases Nat.eq_zero_or_pos x.natAbs with h0 | h0
    · rw [h0, Nat.gcd_zero_left]; exact hyl
    · exact Nat.le_trans (digs_mono (Nat.gcd_le_left _ h0)) hxl
  refine h.mono fun e w' hr => ?_
  obtain ⟨A', n', c', he, hL, hb⟩ := rw_rn (neg := false) hgl hr
  have e1 : decide (toI false (Nat.gcd x.natAbs y.natAbs) < 0) = false := by unfold toI; simp
  rw [e1] at he
  have e2 : (toI false (Nat.gcd x.natAbs y.natAbs)).natAbs = Nat.gcd x.natAbs y.natAbs := toI_abs _ _
  rw [e2] at hL
  exact ⟨A', n', c', he, hL, hb⟩
end

set_option maxRecDepth 100000 in
set_option maxHeartbeats 2000000 in
theorem rreduced_pos (w : World) (A B : Option Addr) (n m ca cb k : Nat) (x y : Int) (hA : Lm w w.heap.size A n ca (digs x.natAbs)) (hB : Lm w w.heap.size B m cb (digs y.natAbs)) (hx : Sz k x) (hy : Sz k y) (hk : k ≤ 2000) {na nb : Bool} (ha : decide (x < 0) = na) (hb : decide (y < 0) = nb) (hs : 0 < y) :
    Calls Tryz.prog 22 #[.agg #[.bool na, .slice A n ca], .agg #[.bool nb, .slice B m cb]] w (RFr w (x / dvr x y) (y / dvr x y)) := by
  have HA := Lib.hid hA
  have HB := Lib.hid hB
  have HX := Lib.hid hx
  have HY := Lib.hid hy
  have HC := Lib.hid hs
  obtain rfl : nb = false := by rw [← hb]; exact decide_eq_false (by omega)
  have HNa := Lib.hid ha
  have HNb := Lib.hid hb
  clear hA hB hx hy ha hb hs
  go_enter Tryz.func22, Tryz.ntmps22
  go_wp2_with fail
  refine (rgcd_n2 _ A B n m ca cb k x y (((HA.out.box _).box _).box _) (((HB.out.box _).box _).box _) HX.out HY.out hk HNa.out HNb.out).mono ?_
  rintro e w1 ⟨A1, n1, c1, rfl, hL1, hb1⟩
  have PA := Lib.hid (((((Pr.new w _ rfl (.bool na) (.slice A n ca) 24).alloc (.cells #[.bool false, .slice B m cb] 24)).alloc (.cells #[.bool false, .slice none 0 0, .bool false, .slice none 0 0] 26)).via hb1).alloc (.cells #[.bool false, .slice A1 n1 c1] 24))
  have PB := Lib.hid ((((Pr.new (w.alloc (.cells #[.bool na, .slice A n ca] 24)) (w.heap.size + 1) (by simp) (.bool false) (.slice B m cb) 24).alloc (.cells #[.bool false, .slice none 0 0, .bool false, .slice none 0 0] 26)).via hb1).alloc (.cells #[.bool false, .slice A1 n1 c1] 24))
  have QR := Lib.hid (((Qd.new ((w.alloc (.cells #[.bool na, .slice A n ca] 24)).alloc (.cells #[.bool false, .slice B m cb] 24)) (w.heap.size + 1 + 1) (by simp) (.bool false) (.slice none 0 0) (.bool false) (.slice none 0 0) 26).via hb1).alloc (.cells #[.bool false, .slice A1 n1 c1] 24))
  have PG := Lib.hid (Pr.new w1 _ rfl (.bool false) (.slice A1 n1 c1) 24)
  have LA := Lib.hid (((((HA.out.box _).box _).box _).via hb1).box (.cells #[.bool false, .slice A1 n1 c1] 24))
  have LB := Lib.hid (((((HB.out.box _).box _).box _).via hb1).box (.cells #[.bool false, .slice A1 n1 c1] 24))
  have L1 := Lib.hid (hL1.box (.cells #[.bool false, .slice A1 n1 c1] 24))
  have B1 := Lib.hid ((bbox (bbox (bbox hb1))).alloc (bbox (bbox (bbox hb1))).size (.cells #[.bool false, .slice A1 n1 c1] 24))
  have ⟨x0, x1, _, _, xl⟩ := ((((Pr.new w _ rfl (.bool na) (.slice A n ca) 24).alloc (.cells #[.bool false, .slice B m cb] 24)).alloc (.cells #[.bool false, .slice none 0 0, .bool false, .slice none 0 0] 26)).via hb1)
  have hg : w.heap.size + 1 + 1 < w1.heap.size := by have := hb1.size; simp only [World.size_alloc] at this; omega
  have ⟨y0, y1, _, _, yl⟩ := (((Pr.new (w.alloc (.cells #[.bool na, .slice A n ca] 24)) (w.heap.size + 1) (by simp) (.bool false) (.slice B m cb) 24).alloc (.cells #[.bool false, .slice none 0 0, .bool false, .slice none 0 0] 26)).via hb1)
  clear hb1 hL1 HA HB
  go_wp2_with fail
  clear y0 y1 yl x0 x1 xl
  generalize w1.alloc (.cells #[.bool false, .slice A1 n1 c1] 24) = W1 at *
  generalize w1.heap.size = g at *
  have HD : Hid (decide (dvr x y < 0) = false) := by
    show _ = _
    have := HC.out
    unfold dvr
    rw [if_neg (by omega)]
    simp
  have LC : Hid (Lm W1 W1.heap.size A1 n1 c1 (digs (dvr x y).natAbs)) := by
    have := HC.out
    have e : (dvr x y).natAbs = Nat.gcd x.natAbs y.natAbs := by unfold dvr; rw [if_neg (by omega)]; rfl
    rw [e]
    exact L1.out
  have BL := Lib.hid B1.out
  clear L1 B1
  refine (rdiv_x _ A A1 n n1 ca c1 k x (dvr x y) (x / dvr x y) LA.out LC.out HX.out (sz_dvr HY.out (by have := HC.out; omega)) hk (dvr_ne (by have := HC.out; omega)) (dvr_left x y) HNa.out HD.out).mono ?_
  rintro e w3 ⟨A3, n3, c3, g3, A4, n4, c4, rfl, hL3, hb3⟩
  obtain ⟨np, hnp⟩ : ∃ b, decide (x / dvr x y < 0) = b := ⟨_, rfl⟩
  rw [hnp]
  have HNp := Lib.hid hnp
  have P7 := Lib.hid ((Pr.new w3 _ rfl (.bool np) (.slice A3 n3 c3) 24).alloc (.cells #[.bool g3, .slice A4 n4 c4] 24))
  have KB := Lib.hid (((PB.out.via hb3).alloc (.cells #[.bool np, .slice A3 n3 c3] 24)).alloc (.cells #[.bool g3, .slice A4 n4 c4] 24))
  have KG := Lib.hid (((PG.out.via hb3).alloc (.cells #[.bool np, .slice A3 n3 c3] 24)).alloc (.cells #[.bool g3, .slice A4 n4 c4] 24))
  have KR := Lib.hid (((QR.out.via hb3).alloc (.cells #[.bool np, .slice A3 n3 c3] 24)).alloc (.cells #[.bool g3, .slice A4 n4 c4] 24))
  have ML := Lib.hid (((LB.out.via hb3).box (.cells #[.bool np, .slice A3 n3 c3] 24)).box (.cells #[.bool g3, .slice A4 n4 c4] 24))
  have MC := Lib.hid (((LC.out.via hb3).box (.cells #[.bool np, .slice A3 n3 c3] 24)).box (.cells #[.bool g3, .slice A4 n4 c4] 24))
  have M3 := Lib.hid ((hL3.box (.cells #[.bool np, .slice A3 n3 c3] 24)).box (.cells #[.bool g3, .slice A4 n4 c4] 24))
  have B3 := Lib.hid (((BL.out.trans (hb3.mono BL.out.size)).alloc (BL.out.trans (hb3.mono BL.out.size)).size (.cells #[.bool np, .slice A3 n3 c3] 24)).alloc ((BL.out.trans (hb3.mono BL.out.size)).alloc (BL.out.trans (hb3.mono BL.out.size)).size (.cells #[.bool np, .slice A3 n3 c3] 24)).size (.cells #[.bool g3, .slice A4 n4 c4] 24))
  have ⟨b0, b1, _, _, bl⟩ := KB.out
  have ⟨p0, p1, _, _, pl⟩ := KG.out
  clear hnp hb3 hL3 PA PB PG QR LA LB LC BL
  go_wp2_with fail
  clear b0 b1 bl p0 p1 pl
  generalize (w3.alloc (.cells #[.bool np, .slice A3 n3 c3] 24)).alloc (.cells #[.bool g3, .slice A4 n4 c4] 24) = W3 at *
  generalize w3.heap.size = h3 at *
  refine (rdiv_x _ B A1 m n1 cb c1 k y (dvr x y) (y / dvr x y) ML.out MC.out HY.out (sz_dvr HY.out (by have := HC.out; omega)) hk (dvr_ne (by have := HC.out; omega)) (dvr_right x y) HNb.out HD.out).mono ?_
  rintro e w4 ⟨A5, n5, c5, g5, A6, n6, c6, rfl, hL5, hb5⟩
  obtain ⟨nq, hnq⟩ : ∃ b, decide (y / dvr x y < 0) = b := ⟨_, rfl⟩
  rw [hnq]
  have HNq := Lib.hid hnq
  have PQ := Lib.hid ((Pr.new w4 _ rfl (.bool nq) (.slice A5 n5 c5) 24).alloc (.cells #[.bool g5, .slice A6 n6 c6] 24))
  have P7' := Lib.hid (((P7.out.via hb5).alloc (.cells #[.bool nq, .slice A5 n5 c5] 24)).alloc (.cells #[.bool g5, .slice A6 n6 c6] 24))
  have QR := Lib.hid (((KR.out.via hb5).alloc (.cells #[.bool nq, .slice A5 n5 c5] 24)).alloc (.cells #[.bool g5, .slice A6 n6 c6] 24))
  have M5 := Lib.hid ((hL5.box (.cells #[.bool nq, .slice A5 n5 c5] 24)).box (.cells #[.bool g5, .slice A6 n6 c6] 24))
  have M7 := Lib.hid (((M3.out.via hb5).box (.cells #[.bool nq, .slice A5 n5 c5] 24)).box (.cells #[.bool g5, .slice A6 n6 c6] 24))
  have B5 := Lib.hid (((B3.out.trans (hb5.mono B3.out.size)).alloc (B3.out.trans (hb5.mono B3.out.size)).size (.cells #[.bool nq, .slice A5 n5 c5] 24)).alloc ((B3.out.trans (hb5.mono B3.out.size)).alloc (B3.out.trans (hb5.mono B3.out.size)).size (.cells #[.bool nq, .slice A5 n5 c5] 24)).size (.cells #[.bool g5, .slice A6 n6 c6] 24))
  have ⟨s0, s1, _, _, sl⟩ := P7'.out
  have ⟨u0, u1, _, _, ul⟩ := PQ.out
  have ⟨r0, r1, r2, r3, rf0, rf1, rf2, rf3, rl⟩ := QR.out
  clear hnq hb5 hL5 P7 KB KG KR ML MC M3 B3
  go_wp2
  exact post_f1 Tryz.results22 rfl rfl (QR.out.set (.bool np) (.slice A3 n3 c3) (.bool nq) (.slice A5 n5 c5)) ⟨A3, n3, c3, A5, n5, c5, by rw [HNp.out, HNq.out], M7.out.put4 QR.out _ _ _ _, M5.out.put4 QR.out _ _ _ _, below_put4 B5.out (by omega) _ _ _ _⟩
end Go.Proofs.YtbplbbkmfbjkfaaGreatDoor

/- Make and Of on both sides. -/
namespace Go.Proofs.YtbplbbkmfbjkfaaGreatDoor
open Go.RowKit

/-- A call returns a fraction that reads so, and an error; what was there is kept. -/
def RG (w : World) (np : Bool) (xs : List Nat) (nq : Bool) (ys : List Nat) (err : Int) (e : Ending) (w' : World) : Prop := ∃ A n c B m c', e = .returned (.tuple #[fv np A n c nq B m c', .int .i64 err]) ∧ Lm w' w'.heap.size A n c xs ∧ Lm w' w'.heap.size B m c' ys ∧ Below w.heap.size w w'
theorem rfe_rg {w : World} {p q : Int} {e : Ending} {w' : World} (h : RFE w p q e w') : RG w (decide (p < 0)) (digs p.natAbs) (decide (q < 0)) (digs q.natAbs) 0 e w' := h
theorem rfx_rg {w : World} {x : Int} {e : Ending} {w' : World} (h : RFX w x e w') : RG w false [] false [] x e w' := ⟨none, 0, 0, none, 0, 0, h.1, Lm.nil _ _, Lm.nil _ _, h.2⟩

end Go.Proofs.YtbplbbkmfbjkfaaGreatDoor

/- Package frac: product, known. -/
namespace Go.Proofs.YtbplbbkmfbjkfaaGreatDoor
open Go.RowKit

/-- A call returns the number z. -/
def RVz (w : World) (z : Int) (e : Ending) (w' : World) : Prop := ∃ A n c, e = .returned (.agg #[.bool (decide (z < 0)), .slice A n c]) ∧ Lm w' w'.heap.size A n c (digs z.natAbs) ∧ Below w.heap.size w w'

set_option maxRecDepth 100000 in
set_option maxHeartbeats 1000000 in
theorem prod_n (w : World) (A B : Option Addr) (n m ca cb k : Nat) (x y : Int) (hA : Lm w w.heap.size A n ca (digs x.natAbs)) (hB : Lm w w.heap.size B m cb (digs y.natAbs)) (hx : Sz k x) (hy : Sz k y) (hk : k ≤ 2000) {na nb : Bool} (ha : decide (x < 0) = na) (hb : decide (y < 0) = nb) :
    Calls Tryz.prog 58 #[.agg #[.bool na, .slice A n ca], .agg #[.bool nb, .slice B m cb]] w (RVz w (x * y)) := by
  have HA := Lib.hid hA
  have HB := Lib.hid hB
  have HX := Lib.hid hx
  have HY := Lib.hid hy
  have HNa := Lib.hid ha
  have HNb := Lib.hid hb
  clear hA hB hx hy ha hb
  go_enter Tryz.func58, Tryz.ntmps58
  go_wp2_with fail
  refine (mul_n _ A B n m ca cb k x y (((HA.out.box _).box _).box _) (((HB.out.box _).box _).box _) HX.out HY.out hk HNa.out HNb.out).mono ?_
  rintro e w1 ⟨A1, n1, c1, rfl, hL1, hb1⟩
  have P := Lib.hid ((Pr.new ((w.alloc (.cells #[.bool na, .slice A n ca] 24)).alloc (.cells #[.bool nb, .slice B m cb] 24)) (w.heap.size + 1 + 1) (by simp) (.bool false) (.slice none 0 0) 24).via hb1)
  have L1 := Lib.hid hL1
  have B1 := Lib.hid (bbox (bbox (bbox hb1)))
  clear hL1 hb1
  obtain ⟨nz, hnz⟩ : ∃ b, decide (x * y < 0) = b := ⟨_, rfl⟩
  rw [hnz]
  have HNz := Lib.hid hnz
  clear hnz
  go_wp2_with fail
  refine (must_ok _ _ _ _ _).mono ?_
  rintro e w2 ⟨rfl, hb2⟩
  have P2 := P.out.via hb2
  have L2 := Lib.hid (L1.out.via hb2)
  have B2 := Lib.hid (btr B1.out hb2)
  have ⟨p0, p1, f0, f1, pl⟩ := P2
  clear hb2
  go_wp2
  exact post_w1 Tryz.results58 rfl rfl (P2.set _ _).c0 (P2.set _ _).c1 ⟨A1, n1, c1, by rw [HNz.out], L2.out.setP P2 _ _, below_set2 B2.out (by omega) _ _⟩

/-- Boxes of ratios lie in four cells like those of fractions. -/
theorem res_r1 {fn : Func} {r : Nat} (hr : fn.results = #[.cell r 42]) {tmps : Array Value} {w : World} {g : Nat} {x0 x1 x2 x3 : Value} (ht : tmps.getD r undef = .pointer (some ⟨g, 0, none⟩))
    (d : Qd w g x0 x1 x2 x3) : (results fn tmps).run Tryz.prog w = .ok (.agg #[x0, x1, x2, x3]) w := by
  have h0 := d.c0; have h1 := d.c1; have h2 := d.c2; have h3 := d.c3
  rw [Array.getD_eq_getD_getElem?] at ht
  simp [results, hr, go_sem, ht, h0, h1, h2, h3]
theorem post_r1 {fn : Func} {r : Nat} (hr : fn.results = #[.cell r 42]) {R : Ending → World → Prop} {a : Act} {w : World} {g : Nat} {x0 x1 x2 x3 : Value} (ht : a.tmps.getD r undef = .pointer (some ⟨g, 0, none⟩))
    (hd : a.defers = []) (d : Qd w g x0 x1 x2 x3) (h : R (.returned (.agg #[x0, x1, x2, x3])) w) : bodyPost Tryz.prog fn R .ret a w :=
  bodyPost_ret (res_r1 hr ht d) hd h
set_option maxRecDepth 100000 in
set_option maxHeartbeats 1000000 in
theorem known_ok (w : World) (nn dn : Bool) (A B : Option Addr) (n m ca cb : Nat) (xs ys : List Nat) (hA : Lm w w.heap.size A n ca xs) (hB : Lm w w.heap.size B m cb ys) (hv : fchk nn xs dn ys = 0) :
    Calls Tryz.prog 52 #[fv nn A n ca dn B m cb] w fun e w' => e = .returned (fv nn A n ca dn B m cb) ∧ Below w.heap.size w w' := by
  have HA := Lib.hid hA
  have HB := Lib.hid hB
  have HV := Lib.hid hv
  clear hA hB hv
  go_enter Tryz.func52, Tryz.ntmps52
  go_wp2_with fail
  refine (fcheck_any _ nn dn A B n m ca cb xs ys ((HA.out.box _).box _) ((HB.out.box _).box _)).mono ?_
  rintro e w1 ⟨rfl, hb1⟩
  rw [HV.out]
  have Q := Lib.hid (((Qd.new w _ rfl (.bool nn) (.slice A n ca) (.bool dn) (.slice B m cb) 26).alloc (.cells #[.bool false, .slice none 0 0, .bool false, .slice none 0 0] 42)).via hb1)
  have R := Lib.hid ((Qd.new (w.alloc (.cells #[.bool nn, .slice A n ca, .bool dn, .slice B m cb] 26)) (w.heap.size + 1) (by simp) (.bool false) (.slice none 0 0) (.bool false) (.slice none 0 0) 42).via hb1)
  have B1 := Lib.hid (bbox (bbox hb1))
  clear hb1
  go_wp2_with fail
  refine (pass_ok _).mono ?_
  rintro e w2 ⟨rfl, rfl⟩
  have ⟨q0, q1, q2, q3, _, _, _, _, ql⟩ := Q.out
  have ⟨r0, r1, r2, r3, f0, f1, f2, f3, rl⟩ := R.out
  go_wp2
  exact post_r1 Tryz.results52 rfl rfl (R.out.set (.bool nn) (.slice A n ca) (.bool dn) (.slice B m cb)) ⟨rfl, below_put4 B1.out (by omega) _ _ _ _⟩
set_option maxRecDepth 100000 in
set_option maxHeartbeats 1000000 in
theorem known_no (w : World) (nn dn : Bool) (A B : Option Addr) (n m ca cb : Nat) (xs ys : List Nat) (hA : Lm w w.heap.size A n ca xs) (hB : Lm w w.heap.size B m cb ys) (hv : fchk nn xs dn ys = 8) :
    Calls Tryz.prog 52 #[fv nn A n ca dn B m cb] w fun e w' => e = Pan 8 ∧ Below w.heap.size w w' := by
  have HA := Lib.hid hA
  have HB := Lib.hid hB
  have HV := Lib.hid hv
  clear hA hB hv
  go_enter Tryz.func52, Tryz.ntmps52
  go_wp2_with fail
  refine (fcheck_any _ nn dn A B n m ca cb xs ys ((HA.out.box _).box _) ((HB.out.box _).box _)).mono ?_
  rintro e w1 ⟨rfl, hb1⟩
  rw [HV.out]
  have B1 := Lib.hid (bbox (bbox hb1))
  clear hb1
  go_wp2_with fail
  refine (pass_no _ 8 (by decide)).mono ?_
  rintro e w2 ⟨rfl, rfl⟩
  unfold Pan
  go_wp2
  exact ⟨rfl, rfl, B1.out⟩
end Go.Proofs.YtbplbbkmfbjkfaaGreatDoor

/- Mathematics of fractions: which divisors a sum of reduced fractions has. No program is named here. -/
namespace Go.Proofs.YtbplbbkmfbjkfaaGreatDoor
end Go.Proofs.YtbplbbkmfbjkfaaGreatDoor

/- Two copies laid in new boxes, in whatever order. -/
namespace Go.Proofs.YtbplbbkmfbjkfaaGreatDoor
open Go.RowKit

/-- Two slots point to copies of both numbers. -/
def TwinsAt (w2 : World) (na : Bool) (n : Nat) (xs : List Nat) (nb : Bool) (m : Nat) (ys : List Nat) (s5 s6 : Value) (wc : World) : Prop :=
  ∃ gx gy A' c' A'' c'', s5 = .pointer (some ⟨gx, 0, none⟩) ∧ s6 = .pointer (some ⟨gy, 0, none⟩) ∧ Pr wc gx (.bool na) (.slice A' n c') ∧ Pr wc gy (.bool nb) (.slice A'' m c'') ∧ Lm wc wc.heap.size A' n c' xs ∧ Lm wc wc.heap.size A'' m c'' ys ∧ Below w2.heap.size w2 wc

section
variable {w2 w4 : World} {na nb : Bool} {n m : Nat} {xs ys : List Nat} {A3 A4 : Option Addr} {c3 c4 : Nat} {t : TypeId}
end
theorem b_one {w w' : World} {o : Obj} (h : Below (w.alloc o).heap.size (w.alloc o) w') : Below w.heap.size w w' := bbox h
theorem b_two {w w' : World} {o o' : Obj} (h : Below ((w.alloc o).alloc o').heap.size ((w.alloc o).alloc o') w') : Below w.heap.size w w' := bbox (bbox h)
theorem b_one_d {w w' : World} {o : Obj} (h : Below (w.alloc o).drew.heap.size (w.alloc o).drew w') : Below w.heap.size w w' :=
  ((Below.refl w.heap.size w).alloc (Nat.le_refl _) o).drew.trans (h.mono (((Below.refl w.heap.size w).alloc (Nat.le_refl _) o).drew.size))
theorem b_two_d {w w' : World} {o o' : Obj} (h : Below ((w.alloc o).alloc o').drew.heap.size ((w.alloc o).alloc o').drew w') : Below w.heap.size w w' :=
  have q := (((Below.refl w.heap.size w).alloc (Nat.le_refl _) o).alloc ((Below.refl w.heap.size w).alloc (Nat.le_refl _) o).size o').drew
  q.trans (h.mono q.size)
end Go.Proofs.YtbplbbkmfbjkfaaGreatDoor

/- Package frac: ratio.add, with either combination. -/
namespace Go.Proofs.YtbplbbkmfbjkfaaGreatDoor
open Go.RowKit

theorem below_alloc {a b : World} (h : Below a.heap.size a b) (o : Obj) : Below a.heap.size a (b.alloc o) := h.alloc h.size o
end Go.Proofs.YtbplbbkmfbjkfaaGreatDoor

/- Package frac: the closures of join and change, where a fraction is not valid. -/
namespace Go.Proofs.YtbplbbkmfbjkfaaGreatDoor
open Go.RowKit

/-- A closure's variable that holds a function. -/
structure Fb (w : World) (g : Nat) (f : FuncId) : Prop where
  c0 : w.cell? ⟨g, 0, none⟩ = some (.func (.func f) #[] #[])
  lt : g < w.heap.size
theorem Fb.via {w w' : World} {g : Nat} {f : FuncId} (h : Fb w g f) (hb : Below w.heap.size w w') : Fb w' g f := ⟨(hb.cell (p := ⟨g, 0, none⟩) h.lt).trans h.c0, Nat.lt_of_lt_of_le h.lt hb.size⟩

end Go.Proofs.YtbplbbkmfbjkfaaGreatDoor

/- Package frac: change, Neg. -/
namespace Go.Proofs.YtbplbbkmfbjkfaaGreatDoor
open Go.RowKit

end Go.Proofs.YtbplbbkmfbjkfaaGreatDoor

/- Package frac: attempt and change where the result is a number; Floor. -/
namespace Go.Proofs.YtbplbbkmfbjkfaaGreatDoor
open Go.RowKit

/-- The world in which attempt calls: with the boxes of its two results. -/
def Waw (w : World) : World := (w.alloc (.cells #[.bool false, .slice none 0 0] 24)).alloc (.cells #[.int .i64 0] 28)
/-- A world and a ratio: Floor. -/
def flr (x P : Int) : Int := x / P
theorem flr_of {x P q r : Int} (hP : 0 < P) (h1 : x = q * P + r) (h2 : r.natAbs < P.natAbs) (h3 : r = 0 ∨ decide (r < 0) = decide (P < 0)) : q = x / P ∧ r = x % P := by
  have h0 : 0 ≤ r := by
    rcases h3 with h | h
    · omega
    · have : ¬ P < 0 := by omega
      simp [this] at h
      omega
  have e := Int.ediv_emod_unique (a := x) (b := P) (r := r) (q := q) hP
  have := e.2 ⟨by rw [h1, Int.mul_comm]; omega, h0, by omega⟩
  exact ⟨this.1.symm, this.2.symm⟩

end Go.Proofs.YtbplbbkmfbjkfaaGreatDoor

/- Package frac: isEven, next, Round. -/
namespace Go.Proofs.YtbplbbkmfbjkfaaGreatDoor
open Go.RowKit

theorem digs_head (z : Nat) : (digs z)[0]?.getD 0 % 2 = z % 2 := by
  have h := digs_val z
  cases hd : digs z with
  | nil => rw [hd] at h; rw [← h]; rfl
  | cons x r =>
    rw [hd, val_cons] at h
    show x % 2 = z % 2
    omega
set_option maxRecDepth 100000 in
set_option maxHeartbeats 1000000 in
theorem iseven_any (w : World) (neg : Bool) (A : Option Addr) (n c z : Nat) (h : Lm w w.heap.size A n c (digs z)) :
    Calls Tryz.prog 93 #[.agg #[.bool neg, .slice A n c]] w fun e w' => e = .returned (.bool (decide (z % 2 = 0))) ∧ Below w.heap.size w w' := by
  have hln := h.len
  have hcn := h.cap
  have hmx := h.max
  have HH := digs_head z
  have BB : Hid (Below w.heap.size w (w.alloc (.cells #[.bool neg, .slice A n c] 24))) := below_alloc (Below.refl _ _) _
  by_cases hn : n = 0
  · subst hn
    have hz : z = 0 := by
      have := digs_val z
      rw [List.length_eq_zero_iff.1 hln] at this
      exact this.symm
    subst hz
    clear HH h hln
    go_enter Tryz.func93, Tryz.ntmps93
    go_wp2
    go_ret
    exact ⟨rfl, BB.out⟩
  · have hb := h.box (.cells #[.bool neg, .slice A n c] 24)
    obtain ⟨b, off, rfl, hbb, hck⟩ := hb.cell (k := 0) (by omega)
    obtain ⟨x, hx⟩ : ∃ x, (digs z)[0]?.getD 0 = x := ⟨_, rfl⟩
    rw [hx] at hck HH
    rw [Nat.add_zero] at hck
    have k1 : decide ((n : Int) = 0) = false := decide_eq_false (by omega)
    have k2 : ((n : Int) == 0) = false := by simp [hn]
    have hg : x < 4294967296 := by rw [← hx]; exact h.good.get 0
    clear hb h hx hln
    go_enter Tryz.func93, Tryz.ntmps93
    go_wp2
    have e : (((x : Int) % 2 == 0)) = decide (z % 2 = 0) := by
      rw [← HH]
      rcases Nat.mod_two_eq_zero_or_one x with h | h
      · have : (x : Int) % 2 = 0 := by omega
        simp [this, h]
      · have : (x : Int) % 2 = 1 := by omega
        simp [this, h]
    rw [e]
    go_ret
    exact ⟨rfl, BB.out⟩

theorem sz1 {k : Nat} (h : 1 ≤ k) : Sz k 1 := Sz.mono (k := 1) (by unfold Sz; decide) h
set_option maxRecDepth 100000 in
set_option maxHeartbeats 2000000 in
theorem next_n (w : World) (A : Option Addr) (n ca k : Nat) (x : Int) (hA : Lm w w.heap.size A n ca (digs x.natAbs)) (hx : Sz k x) (hk : k ≤ 2000) (hk1 : 1 ≤ k) {na : Bool} (ha : decide (x < 0) = na) :
    Calls Tryz.prog 94 #[.agg #[.bool na, .slice A n ca]] w (RVz w (x + 1)) := by
  have SX := Lib.hid hx
  have HNa := Lib.hid ha
  have HA := Lib.hid hA
  clear hx ha hA
  go_enter Tryz.func94, Tryz.ntmps94
  have Q3 := Lib.hid ((Pr.new w _ rfl (.bool na) (.slice A n ca) 24).alloc (.cells #[.bool false, .slice none 0 0] 24))
  have QR := Lib.hid (Pr.new (w.alloc (.cells #[.bool na, .slice A n ca] 24)) (w.heap.size + 1) (by simp) (.bool false) (.slice none 0 0) 24)
  have LA := Lib.hid ((HA.out.box (.cells #[.bool na, .slice A n ca] 24)).box (.cells #[.bool false, .slice none 0 0] 24))
  have BW : Hid (Below w.heap.size w ((w.alloc (.cells #[.bool na, .slice A n ca] 24)).alloc (.cells #[.bool false, .slice none 0 0] 24))) := below_alloc (below_alloc (Below.refl _ _) _) _
  clear HA
  go_wp2_with fail
  generalize (w.alloc (.cells #[.bool na, .slice A n ca] 24)).alloc (.cells #[.bool false, .slice none 0 0] 24) = W0 at *
  have hrl := QR.out.lt
  have HW2 : Hid (w.heap.size + 1 ≤ W0.heap.size) := by show _ ≤ _; omega
  have HKS : Hid (∀ X : World, Below (w.heap.size + 1) W0 X → X.cell? ⟨w.heap.size, 0, none⟩ = some (.bool na) ∧ X.cell? ⟨w.heap.size, 1, none⟩ = some (.slice A n ca)) := fun X h => ⟨(Q3.out.below h (by omega)).c0, (Q3.out.below h (by omega)).c1⟩
  go_region_held3 (fun w' => w'.cell? ⟨w.heap.size, 0, none⟩ = some (.bool na) ∧ w'.cell? ⟨w.heap.size, 1, none⟩ = some (.slice A n ca))
    (first | (refine HKS.out _ ?_; (repeat' (first | exact Bd.mono HW2.out | exact B2.mono HW2.out | exact B1.mono HW2.out | exact (Below.refl _ _).drew | exact Below.refl _ _ | refine Below.setCell ?_ ?_ _)); all_goals (first | omega | (simp; done) | (simp; omega))))
    (first
     | (go_at_call 36; refine (must_ok _ _ _ _ _).mono ?_; rintro e wd ⟨rfl, hb4⟩; have Bd : Below W0.heap.size W0 wd := btr B2 hb4; have KR := QR.out.via Bd; have ⟨r0, r1, rf0, rf1, rl⟩ := KR)
     | (go_at_call 116; refine (add_n _ A A1 n n1 ca c1 k x 1 (LA.out.via B1) hL1 SX.out (sz1 hk1) hk HNa.out rfl).mono ?_; rintro e wb ⟨A2, n2, c2, rfl, hL2, hb2⟩; obtain ⟨np, hnp⟩ : ∃ b, decide (x + 1 < 0) = b := ⟨_, rfl⟩; rw [hnp]; have B2 : Below W0.heap.size W0 wb := btr B1 hb2)
     | (go_at_call 89; refine (from_any _ 1 (by omega) (by omega)).mono ?_; rintro e wa ⟨A1, n1, c1, rfl, hL1, hb1⟩; have B1 : Below W0.heap.size W0 wa := (by first | exact (Below.refl _ _).drew.trans hb1 | exact hb1))
     | fail)
  all_goals
    have HNp := Lib.hid hnp
    have HL5 := Lib.hid (hL2.via hb4)
    have BE := Lib.hid (btr BW.out Bd)
    clear hnp hL2
    go_wp2
    have KS := KR.set (.bool np) (.slice A2 n2 c2)
    exact post_w1 Tryz.results94 rfl rfl KS.c0 KS.c1 ⟨A2, n2, c2, by rw [HNp.out], HL5.out.setP KR _ _, below_set2 BE.out (by omega) _ _⟩

end Go.Proofs.YtbplbbkmfbjkfaaGreatDoor

/- Package frac: times and over. -/
namespace Go.Proofs.YtbplbbkmfbjkfaaGreatDoor
open Go.RowKit

end Go.Proofs.YtbplbbkmfbjkfaaGreatDoor

/- Package frac: over by 0, compare. -/
namespace Go.Proofs.YtbplbbkmfbjkfaaGreatDoor
open Go.RowKit

theorem toI_z (x : Int) : toI (decide (x < 0)) x.natAbs = x := by
  unfold toI
  by_cases h : x < 0
  · simp [h]; omega
  · simp [h]; omega
theorem cmp_n2 (w : World) (A B : Option Addr) (n m ca cb k : Nat) (x y : Int) (hA : Lm w w.heap.size A n ca (digs x.natAbs)) (hB : Lm w w.heap.size B m cb (digs y.natAbs)) (hx : Sz k x) (hy : Sz k y) (hk : k ≤ 2000) {na nb : Bool} (ha : decide (x < 0) = na) (hb : decide (y < 0) = nb) :
    Calls Tryz.prog 92 #[.agg #[.bool na, .slice A n ca], .agg #[.bool nb, .slice B m cb]] w fun e w' => e = .returned (.tuple #[.int .i64 (cmpZ x y), .int .i64 0]) ∧ Below w.heap.size w w' := by
  subst ha hb
  have h := cmp_ok w _ _ A B n m ca cb _ _ hA hB (chkB_z hx (by omega) hy (by omega))
  rw [toI_z, toI_z] at h
  exact h

end Go.Proofs.YtbplbbkmfbjkfaaGreatDoor

/- Package frac: ratio.round. -/
namespace Go.Proofs.YtbplbbkmfbjkfaaGreatDoor
open Go.RowKit

/-- The nearest whole number, half to even. -/
def rndZ (x P : Int) : Int := if 2 * (x % P) < P then x / P else if 2 * (x % P) = P ∧ x / P % 2 = 0 then x / P else x / P + 1
set_option maxRecDepth 100000 in
set_option maxHeartbeats 4000000 in
theorem round_n (w : World) (A B : Option Addr) (n m ca cb k : Nat) (x P : Int) (hA : Lm w w.heap.size A n ca (digs x.natAbs)) (hB : Lm w w.heap.size B m cb (digs P.natAbs)) (hx : Sz k x) (hP : Sz k P) (hk : k ≤ 1999) (hk1 : 1 ≤ k) {na : Bool} (ha : decide (x < 0) = na) (hP0 : 0 < P) :
    Calls Tryz.prog 61 #[fv na A n ca false B m cb] w (RVz w (rndZ x P)) := by
  have HA := Lib.hid hA
  have HB := Lib.hid hB
  have HX := Lib.hid hx
  have HP := Lib.hid hP
  have HNa := Lib.hid ha
  have H0 := Lib.hid hP0
  clear hA hB hx hP ha hP0
  go_enter Tryz.func61, Tryz.ntmps61
  go_wp2_with fail
  refine (quotient_n _ A B n m ca cb k x P ((HA.out.box _).box _) ((HB.out.box _).box _) HX.out HP.out (by omega) (by have := H0.out; omega) HNa.out (by simp; have := H0.out; omega)).mono ?_
  rintro e w1 ⟨q, r, h1, h2, h3, hqx, A1, n1, c1, A2, n2, c2, rfl, hL1, hL2, hb⟩
  have HQ : Hid (q = x / P ∧ r = x % P) := flr_of H0.out h1 h2 h3
  have HRR : Hid (0 ≤ r ∧ r < P) := by
    have e := HQ.out.2
    have := Int.emod_nonneg x (show P ≠ 0 by have := H0.out; omega)
    have := Int.emod_lt_of_pos x H0.out
    show _ ∧ _
    omega
  have HSq : Hid (Sz k q) := by
    have := HX.out
    show _ < _
    unfold Sz at this
    omega
  have HSr : Hid (Sz k r) := by
    have := HP.out
    have := HRR.out
    show _ < _
    unfold Sz at *
    omega
  have QR := Lib.hid ((Pr.new (w.alloc (.cells #[.bool na, .slice A n ca, .bool false, .slice B m cb] 42)) (w.heap.size + 1) (by simp) (.bool false) (.slice none 0 0) 24).via hb)
  have QF := Lib.hid (((Qd.new w _ rfl (.bool na) (.slice A n ca) (.bool false) (.slice B m cb) 42).alloc (.cells #[.bool false, .slice none 0 0] 24)).via hb)
  have LB := Lib.hid (((HB.out.box (.cells #[.bool na, .slice A n ca, .bool false, .slice B m cb] 42)).box (.cells #[.bool false, .slice none 0 0] 24)).via hb)
  have L1 := Lib.hid hL1
  have L2 := Lib.hid hL2
  have BB := Lib.hid (btr (below_alloc (below_alloc (Below.refl w.heap.size w) _) _) hb)
  obtain ⟨np, hnp⟩ : ∃ b, decide (q < 0) = b := ⟨_, rfl⟩
  obtain ⟨nr, hnr⟩ : ∃ b, decide (r < 0) = b := ⟨_, rfl⟩
  rw [hnp, hnr]
  have HNp := Lib.hid hnp
  have HNr := Lib.hid hnr
  clear hL1 hL2 hb hnp hnr h1 h2 h3 hqx HA HB HX HNa
  go_upto_region 2 with (fail)
  replace QR := Lib.hid ((QR.out.alloc (.cells #[.bool np, .slice A1 n1 c1] 24)).alloc (.cells #[.bool nr, .slice A2 n2 c2] 24))
  replace QF := Lib.hid ((QF.out.alloc (.cells #[.bool np, .slice A1 n1 c1] 24)).alloc (.cells #[.bool nr, .slice A2 n2 c2] 24))
  have P3 := Lib.hid ((Pr.new w1 _ rfl (.bool np) (.slice A1 n1 c1) 24).alloc (.cells #[.bool nr, .slice A2 n2 c2] 24))
  have P4 := Lib.hid (Pr.new (w1.alloc (.cells #[.bool np, .slice A1 n1 c1] 24)) (w1.heap.size + 1) (by simp) (.bool nr) (.slice A2 n2 c2) 24)
  replace LB := Lib.hid ((LB.out.box (.cells #[.bool np, .slice A1 n1 c1] 24)).box (.cells #[.bool nr, .slice A2 n2 c2] 24))
  replace L1 := Lib.hid ((L1.out.box (.cells #[.bool np, .slice A1 n1 c1] 24)).box (.cells #[.bool nr, .slice A2 n2 c2] 24))
  replace L2 := Lib.hid ((L2.out.box (.cells #[.bool np, .slice A1 n1 c1] 24)).box (.cells #[.bool nr, .slice A2 n2 c2] 24))
  replace BB := Lib.hid (below_alloc (below_alloc BB.out (.cells #[.bool np, .slice A1 n1 c1] 24)) (.cells #[.bool nr, .slice A2 n2 c2] 24))
  generalize w1.heap.size = g at *
  generalize (w1.alloc (.cells #[.bool np, .slice A1 n1 c1] 24)).alloc (.cells #[.bool nr, .slice A2 n2 c2] 24) = W3 at *
  have ⟨f0, f1, f2, f3, _, _, _, _, _⟩ := QF.out
  have ⟨s0, s1, _, _, _⟩ := P4.out
  go_wp2_with fail
  clear f0 f1 f2 f3 s0 s1 QF
  refine (sub_n _ B A2 m n2 cb c2 k P r LB.out L2.out HP.out HSr.out (by omega) (by simp; have := H0.out; omega) HNr.out).mono ?_
  rintro e w2 ⟨A3, n3, c3, rfl, hL, hb⟩
  obtain ⟨nm, hnm⟩ : ∃ b, decide (P - r < 0) = b := ⟨_, rfl⟩
  rw [hnm]
  have HNm := Lib.hid hnm
  have L3 := Lib.hid hL
  replace QR := Lib.hid (QR.out.via hb)
  replace P3 := Lib.hid (P3.out.via hb)
  replace P4 := Lib.hid (P4.out.via hb)
  replace L1 := Lib.hid (L1.out.via hb)
  replace L2 := Lib.hid (L2.out.via hb)
  replace BB := Lib.hid (btr BB.out hb)
  clear hb hL hnm LB
  go_wp2_with fail
  refine (must_ok _ _ _ _ _).mono ?_
  rintro e w3 ⟨rfl, hb⟩
  replace QR := Lib.hid (QR.out.via hb)
  replace P3 := Lib.hid (P3.out.via hb)
  replace P4 := Lib.hid (P4.out.via hb)
  replace L1 := Lib.hid (L1.out.via hb)
  replace L2 := Lib.hid (L2.out.via hb)
  replace L3 := Lib.hid (L3.out.via hb)
  replace BB := Lib.hid (btr BB.out hb)
  clear hb
  go_upto_region 3 with (fail)
  replace QR := Lib.hid (QR.out.alloc (.cells #[.bool nm, .slice A3 n3 c3] 24))
  replace P3 := Lib.hid (P3.out.alloc (.cells #[.bool nm, .slice A3 n3 c3] 24))
  replace P4 := Lib.hid (P4.out.alloc (.cells #[.bool nm, .slice A3 n3 c3] 24))
  have P5 := Lib.hid (Pr.new w3 _ rfl (.bool nm) (.slice A3 n3 c3) 24)
  replace L1 := Lib.hid (L1.out.box (.cells #[.bool nm, .slice A3 n3 c3] 24))
  replace L2 := Lib.hid (L2.out.box (.cells #[.bool nm, .slice A3 n3 c3] 24))
  replace L3 := Lib.hid (L3.out.box (.cells #[.bool nm, .slice A3 n3 c3] 24))
  replace BB := Lib.hid (below_alloc BB.out (.cells #[.bool nm, .slice A3 n3 c3] 24))
  generalize w3.heap.size = g5 at *
  generalize w3.alloc (.cells #[.bool nm, .slice A3 n3 c3] 24) = W4 at *
  have ⟨s0, s1, _, _, _⟩ := P4.out
  have ⟨t0, t1, _, _, _⟩ := P5.out
  go_wp2_with fail
  clear s0 s1 t0 t1 P4 P5
  refine (cmp_n2 _ A2 A3 n2 n3 c2 c3 (k + 1) r (P - r) L2.out L3.out (HSr.out.mono (by omega)) (HP.out.sub HSr.out) (by omega) HNr.out HNm.out).mono ?_
  rintro e w4 ⟨rfl, hb⟩
  replace QR := Lib.hid (QR.out.via hb)
  replace P3 := Lib.hid (P3.out.via hb)
  replace L1 := Lib.hid (L1.out.via hb)
  replace BB := Lib.hid (btr BB.out hb)
  clear hb L2 L3 HNr HNm HSr HP
  obtain ⟨cz, hcz⟩ : ∃ c, cmpZ r (P - r) = c := ⟨_, rfl⟩
  rw [hcz]
  have HC : Hid ((r < P - r → cz = -1) ∧ (r = P - r → cz = 0) ∧ (P - r < r → cz = 1)) := by
    show _ ∧ _ ∧ _
    rw [← hcz]
    unfold cmpZ
    refine ⟨fun h => ?_, fun h => ?_, fun h => ?_⟩ <;> (repeat' split) <;> omega
  clear hcz
  go_wp2_with fail
  refine (musti_ok _ _).mono ?_
  rintro e w5 ⟨rfl, rfl⟩
  rcases Int.lt_trichotomy r (P - r) with hlt | heq | hgt
  · obtain rfl : cz = -1 := HC.out.1 hlt
    have HZ : Hid (rndZ x P = q) := by
      obtain ⟨e1, e2⟩ := HQ.out
      show _ = _
      unfold rndZ
      rw [← e2, ← e1, if_pos (by omega)]
    clear hlt HC HRR H0 HQ
    have ⟨p0, p1, _, _, _⟩ := P3.out
    have ⟨q0, q1, f0, f1, ql⟩ := QR.out
    go_wp2
    have KS := QR.out.set (.bool np) (.slice A1 n1 c1)
    exact post_w1 Tryz.results61 rfl rfl KS.c0 KS.c1 ⟨A1, n1, c1, by rw [HZ.out, HNp.out], by rw [HZ.out]; exact L1.out.setP QR.out _ _, below_set2 BB.out (by omega) _ _⟩
  · obtain rfl : cz = 0 := HC.out.2.1 heq
    have ⟨p0, p1, _, _, _⟩ := P3.out
    have HE := Lib.hid heq
    clear heq HC
    go_wp2_with fail
    clear p0 p1
    refine (iseven_any _ np A1 n1 c1 q.natAbs L1.out).mono ?_
    rintro e w6 ⟨rfl, hb⟩
    replace QR := Lib.hid (QR.out.via hb)
    replace P3 := Lib.hid (P3.out.via hb)
    replace L1 := Lib.hid (L1.out.via hb)
    replace BB := Lib.hid (btr BB.out hb)
    clear hb
    by_cases hev : q.natAbs % 2 = 0
    · have HZ : Hid (rndZ x P = q) := by
        obtain ⟨e1, e2⟩ := HQ.out
        have := HE.out
        show _ = _
        unfold rndZ
        rw [← e2, ← e1, if_neg (by omega), if_pos (by omega)]
      rw [decide_eq_true hev]
      clear hev HE HRR H0 HQ
      have ⟨p0, p1, _, _, _⟩ := P3.out
      have ⟨q0, q1, f0, f1, ql⟩ := QR.out
      go_wp2
      have KS := QR.out.set (.bool np) (.slice A1 n1 c1)
      exact post_w1 Tryz.results61 rfl rfl KS.c0 KS.c1 ⟨A1, n1, c1, by rw [HZ.out, HNp.out], by rw [HZ.out]; exact L1.out.setP QR.out _ _, below_set2 BB.out (by omega) _ _⟩
    · have HZ : Hid (rndZ x P = q + 1) := by
        obtain ⟨e1, e2⟩ := HQ.out
        have := HE.out
        show _ = _
        unfold rndZ
        rw [← e2, ← e1, if_neg (by omega), if_neg (by omega)]
      rw [decide_eq_false hev]
      clear hev HE HRR H0 HQ
      have ⟨p0, p1, _, _, _⟩ := P3.out
      go_wp2_with fail
      clear p0 p1
      refine (next_n _ A1 n1 c1 k q L1.out HSq.out (by omega) hk1 HNp.out).mono ?_
      rintro e w6 ⟨A6, n6, c6, rfl, hL, hb⟩
      obtain ⟨ns, hns⟩ : ∃ b, decide (q + 1 < 0) = b := ⟨_, rfl⟩
      rw [hns]
      have HNs := Lib.hid hns
      have L6 := Lib.hid hL
      replace QR := Lib.hid (QR.out.via hb)
      replace BB := Lib.hid (btr BB.out hb)
      clear hL hb hns
      have ⟨q0, q1, f0, f1, ql⟩ := QR.out
      go_wp2
      have KS := QR.out.set (.bool ns) (.slice A6 n6 c6)
      exact post_w1 Tryz.results61 rfl rfl KS.c0 KS.c1 ⟨A6, n6, c6, by rw [HZ.out, HNs.out], by rw [HZ.out]; exact L6.out.setP QR.out _ _, below_set2 BB.out (by omega) _ _⟩
  · obtain rfl : cz = 1 := HC.out.2.2 hgt
    have HZ : Hid (rndZ x P = q + 1) := by
      obtain ⟨e1, e2⟩ := HQ.out
      show _ = _
      unfold rndZ
      rw [← e2, ← e1, if_neg (by omega), if_neg (by omega)]
    clear hgt HC HRR H0 HQ
    have ⟨p0, p1, _, _, _⟩ := P3.out
    go_wp2_with fail
    clear p0 p1
    refine (next_n _ A1 n1 c1 k q L1.out HSq.out (by omega) hk1 HNp.out).mono ?_
    rintro e w6 ⟨A6, n6, c6, rfl, hL, hb⟩
    obtain ⟨ns, hns⟩ : ∃ b, decide (q + 1 < 0) = b := ⟨_, rfl⟩
    rw [hns]
    have HNs := Lib.hid hns
    have L6 := Lib.hid hL
    replace QR := Lib.hid (QR.out.via hb)
    replace BB := Lib.hid (btr BB.out hb)
    clear hL hb hns
    have ⟨q0, q1, f0, f1, ql⟩ := QR.out
    go_wp2
    have KS := QR.out.set (.bool ns) (.slice A6 n6 c6)
    exact post_w1 Tryz.results61 rfl rfl KS.c0 KS.c1 ⟨A6, n6, c6, by rw [HZ.out, HNs.out], by rw [HZ.out]; exact L6.out.setP QR.out _ _, below_set2 BB.out (by omega) _ _⟩

end Go.Proofs.YtbplbbkmfbjkfaaGreatDoor

/- Package frac: Floor, Ceil, Round. -/
namespace Go.Proofs.YtbplbbkmfbjkfaaGreatDoor
open Go.RowKit

/-- The least whole number that is not less. -/
def ceilZ (x P : Int) : Int := if x % P = 0 then x / P else x / P + 1
end Go.Proofs.YtbplbbkmfbjkfaaGreatDoor

/- Package frac: attempt of an int. -/
namespace Go.Proofs.YtbplbbkmfbjkfaaGreatDoor
open Go.RowKit

/-- A call returns an int and an error. -/
def RIE (w : World) (x err : Int) (e : Ending) (w' : World) : Prop := e = .returned (.tuple #[.int .i64 x, .int .i64 err]) ∧ Below w.heap.size w w'
/-- The world in which attempt[int] calls: with the box of the error. -/
def Wai (w : World) : World := w.alloc (.cells #[.int .i64 0] 28)
theorem wai_below (w : World) : Below w.heap.size w (Wai w) := (Below.refl _ _).alloc (Nat.le_refl _) _
theorem wai_c (w : World) : (Wai w).cell? ⟨w.heap.size, 0, none⟩ = some (.int .i64 0) ∧ (Wai w).frozen? ⟨w.heap.size, 0, none⟩ = false := by unfold Wai; constructor <;> go_simp
theorem wai_size (w : World) : (Wai w).heap.size = w.heap.size + 1 := by unfold Wai; simp
theorem res_ie {fn : Func} {r s : Nat} (hr : fn.results = #[.tmp s, .cell r 28]) {tmps : Array Value} {w : World} {h : Nat} {x y : Value} (ht : tmps.getD s undef = x)
    (hs : tmps.getD r undef = .pointer (some ⟨h, 0, none⟩)) (hy : w.cell? ⟨h, 0, none⟩ = some y) : (results fn tmps).run Tryz.prog w = .ok (.tuple #[x, y]) w := by
  rw [Array.getD_eq_getD_getElem?] at ht hs
  simp [results, hr, go_sem, ht, hs, hy]

end Go.Proofs.YtbplbbkmfbjkfaaGreatDoor

/- Package frac: attempt and change where the result is a string. -/
namespace Go.Proofs.YtbplbbkmfbjkfaaGreatDoor
open Go.RowKit

theorem catchs_panicking (p : Addr) (x0 x : Int) (older : List PanicEntry) (w : World) (hc : w.cell? p = some (.int .i64 x0)) (hz : w.frozen? p = false) :
    CallsD Tryz.prog 81 #[.pointer (some p)] (.panicking ({ v := .iface 28 (.int .i64 x), recovered := false } :: older)) w fun e u' w' =>
      e = .returned (.tuple #[]) ∧ u' = .panicking ({ v := .iface 28 (.int .i64 x), recovered := true } :: older) ∧ w' = w.setCell p (.int .i64 x) := by
  have hta : ∀ w : World, (Instr.typeAssert (.iface 28 (.int .i64 x)) 20 28 false).run Tryz.prog w = .ok (.int .i64 x) w := fun _ => by kernel_rfl
  refine callsD_of_wpS Tryz.func81 rfl fun c₀ cs hu => ?_
  apply wpS_seq
  apply wpS_region
  simp [wpOpsS, go_sem, recoverD, hu, Tryz.ntmps81, Exit.thenS]
  apply wpS_seq
  apply wpS_region
  simp [wpOpsS, go_sem, Exit.thenS]
  refine wpS_cond (t := true) (by simp [Act.eval, Array.replicate]) ?_
  simp only [if_true]
  apply wpS_region
  simp [wpOpsS, go_sem, hta, hc, hz, bodyPostS, results, Tryz.results81]

theorem catchs_idle (p : Addr) (w : World) :
    CallsD Tryz.prog 81 #[.pointer (some p)] .returning w fun e u' w' => e = .returned (.tuple #[]) ∧ u' = .returning ∧ w' = w := by
  refine callsD_of_wpS Tryz.func81 rfl fun c₀ cs hu => ?_
  apply wpS_seq
  apply wpS_region
  simp [wpOpsS, go_sem, recoverD, hu, Tryz.ntmps81, Exit.thenS]
  apply wpS_seq
  apply wpS_region
  simp [wpOpsS, go_sem, Exit.thenS]
  refine wpS_cond (t := false) (by simp [Act.eval, Array.replicate]) ?_
  simp only [Bool.false_eq_true, if_false]
  refine wpS_of_wp (wp_skip ?_)
  cases c₀
  simp_all [bodyPostS, results, Tryz.results81]

/-- A call returns a string and an error's number. -/
def RSE (w : World) (s : ByteArray) (err : Int) (e : Ending) (w' : World) : Prop := e = .returned (.tuple #[.string s, .int .i64 err]) ∧ Below w.heap.size w w'
/-- A call returns a string. -/
def RSs (w : World) (s : ByteArray) (e : Ending) (w' : World) : Prop := e = .returned (.string s) ∧ Below w.heap.size w w'

set_option maxRecDepth 100000 in
set_option maxHeartbeats 1000000 in
theorem attempts_ok (w : World) (f : FuncId) (first cap : Array Value) (x : ByteArray) (hcf : ∀ W, (callFunc f (first ++ cap)).run Tryz.prog W = .ok (.enter f (first ++ cap)) W)
    (H : Calls Tryz.prog f (first ++ cap) (Wai w) (RSs (Wai w) x)) :
    Calls Tryz.prog 50 #[.func (.func f) first cap] w (RSE w x 0) := by
  have hmf : ∀ (fn : Fn) (first cap : Array Value) (w : World), (Instr.makeFunc fn first cap).run Tryz.prog w = .ok (.func fn first cap) w := fun _ _ _ _ => rfl
  have HH := Lib.hid H
  clear H
  go_enter_defers Tryz.func50, Tryz.ntmps50
  go_wp2_with fail
  refine HH.out.mono ?_
  rintro e w1 ⟨rfl, hb⟩
  have hc : w1.cell? ⟨w.heap.size, 0, none⟩ = some (.int .i64 0) := (hb.cell (p := ⟨w.heap.size, 0, none⟩) (by rw [wai_size]; simp)).trans (wai_c w).1
  have hf : w1.frozen? ⟨w.heap.size, 0, none⟩ = false := (hb.frozen (p := ⟨w.heap.size, 0, none⟩) (by rw [wai_size]; simp)).trans (wai_c w).2
  have HB := Lib.hid ((wai_below w).trans (hb.mono (wai_below w).size))
  clear hb
  go_wp2
  refine leaves_cons (f := 81) (args := #[.pointer (some ⟨w.heap.size, 0, none⟩)]) (by simp) (by simp [go_sem]) ?_
  refine (catchs_idle _ _).mono ?_
  rintro e u' w'' ⟨rfl, rfl, rfl⟩
  exact ⟨_, res_ie Tryz.results50 rfl rfl (World.cell?_setCell_same _ _ _ hc), rfl, HB.out.setCell (p := ⟨w.heap.size, 0, none⟩) (Nat.le_refl _) _⟩

set_option maxRecDepth 100000 in
set_option maxHeartbeats 1000000 in
theorem attempts_no (w : World) (f : FuncId) (first cap : Array Value) (x : Int) (hcf : ∀ W, (callFunc f (first ++ cap)).run Tryz.prog W = .ok (.enter f (first ++ cap)) W)
    (H : Calls Tryz.prog f (first ++ cap) (Wai w) (fun e w' => e = Pan x ∧ Below (Wai w).heap.size (Wai w) w')) :
    Calls Tryz.prog 50 #[.func (.func f) first cap] w (RSE w ⟨#[]⟩ x) := by
  have hmf : ∀ (fn : Fn) (first cap : Array Value) (w : World), (Instr.makeFunc fn first cap).run Tryz.prog w = .ok (.func fn first cap) w := fun _ _ _ _ => rfl
  have HH := Lib.hid H
  clear H
  go_enter_defers Tryz.func50, Tryz.ntmps50
  go_wp2_with fail
  refine HH.out.mono ?_
  rintro e w1 ⟨rfl, hb⟩
  unfold Pan
  have hc : w1.cell? ⟨w.heap.size, 0, none⟩ = some (.int .i64 0) := (hb.cell (p := ⟨w.heap.size, 0, none⟩) (by rw [wai_size]; simp)).trans (wai_c w).1
  have hf : w1.frozen? ⟨w.heap.size, 0, none⟩ = false := (hb.frozen (p := ⟨w.heap.size, 0, none⟩) (by rw [wai_size]; simp)).trans (wai_c w).2
  have HB := Lib.hid ((wai_below w).trans (hb.mono (wai_below w).size))
  clear hb
  refine leaves_cons (f := 81) (args := #[.pointer (some ⟨w.heap.size, 0, none⟩)]) (by simp) (by simp [go_sem]) ?_
  refine (catchs_panicking _ 0 x _ _ hc hf).mono ?_
  rintro e u' w'' ⟨rfl, rfl, rfl⟩
  exact ⟨_, res_ie Tryz.results50 rfl rfl (World.cell?_setCell_same _ _ _ hc), rfl, HB.out.setCell (p := ⟨w.heap.size, 0, none⟩) (Nat.le_refl _) _⟩

end Go.Proofs.YtbplbbkmfbjkfaaGreatDoor

/-
  The contract of bits.Len where the number is less than 65536.
-/
namespace Go.Proofs.YtbplbbkmfbjkfaaGreatDoor
open Go.RowKit
set_option maxRecDepth 100000 in
set_option maxHeartbeats 400000 in
theorem len64_c (w : World) (x : Int) (h0 : 256 ≤ x) (h1 : x < 65536) :
    Calls Tryz.prog 140 #[.int .u64 x] w fun e w' => e = .returned (.int .i64 (Lib.bitLen x.toNat)) ∧ w = w' := by
  have hT : ∀ w, (Instr.index 9 (.string Lib.len8tab) (.int .u8 (x / 256))).run Tryz.prog w = .ok (.int .u8 (Lib.len8 (x / 256))) w := fun w => Lib.run_index_len8tab w 9 .u8 (x / 256) Tryz.underlying9 (by omega) (by omega)
  have hE : Hid (Lib.len8 (x / 256) = Lib.bitLen (x / 256).toNat) := Lib.len8_of (x / 256) (by omega) (by omega)
  have hL := Lib.hid (Lib.bitLen_le8' (x / 256) (by omega) (by omega))
  have hs := Lib.hid (Lib.bitLen_shift8 x.toNat (by omega) (by omega))
  have he : Hid ((x / 256).toNat = x.toNat / 256) := by show _ = _; omega
  go_enter Tryz.func140, Tryz.ntmps140
  go_wp2
  go_ret
  refine ⟨ret_int ?_, rfl⟩
  rw [hE.out]
  have l := hL.out
  have s := hs.out
  rw [he.out] at l ⊢
  unfold wrap64
  omega
set_option maxRecDepth 100000 in
set_option maxHeartbeats 400000 in
theorem len64_d (w : World) (x : Int) (h0 : 0 ≤ x) (h1 : x < 256) :
    Calls Tryz.prog 140 #[.int .u64 x] w fun e w' => e = .returned (.int .i64 (Lib.bitLen x.toNat)) ∧ w = w' := by
  have hT : ∀ w, (Instr.index 9 (.string Lib.len8tab) (.int .u8 (x))).run Tryz.prog w = .ok (.int .u8 (Lib.len8 (x))) w := fun w => Lib.run_index_len8tab w 9 .u8 (x) Tryz.underlying9 (by omega) (by omega)
  have hE : Hid (Lib.len8 (x) = Lib.bitLen (x).toNat) := Lib.len8_of (x) (by omega) (by omega)
  have hL := Lib.hid (Lib.bitLen_le8' (x) (by omega) (by omega))
  go_enter Tryz.func140, Tryz.ntmps140
  go_wp2
  go_ret
  refine ⟨ret_int ?_, rfl⟩
  rw [hE.out]
  have l := hL.out
  unfold wrap64
  omega
theorem len64_any (w : World) (x : Int) (h0 : 0 ≤ x) (h1 : x < 65536) :
    Calls Tryz.prog 140 #[.int .u64 x] w fun e w' => e = .returned (.int .i64 (Lib.bitLen x.toNat)) ∧ w = w' := by
  by_cases c : 256 ≤ x
  · exact len64_c w x c (by omega)
  exact len64_d w x h0 (by omega)
set_option maxRecDepth 100000 in
set_option maxHeartbeats 400000 in
theorem len_any (w : World) (x : Int) (h0 : 0 ≤ x) (h1 : x < 65536) :
    Calls Tryz.prog 112 #[.int .u64 x] w fun e w' => e = .returned (.int .i64 (Lib.bitLen x.toNat)) ∧ w = w' := by
  go_enter Tryz.func112, Tryz.ntmps112
  go_wp2_with (go_at_call 140; refine (len64_any _ _ (by omega) (by omega)).mono ?_; rintro e w' ⟨rfl, rfl⟩)
  go_ret
  exact ⟨rfl, rfl⟩
end Go.Proofs.YtbplbbkmfbjkfaaGreatDoor

/- Square roots by Newton's rule, in numbers. -/
namespace Go.Proofs.YtbplbbkmfbjkfaaGreatDoor
/-- r is the root of v, rounded down. -/
def IsRt (v r : Nat) : Prop := r * r ≤ v ∧ v < (r + 1) * (r + 1)
theorem IsRt.uniq {v r s : Nat} (h : IsRt v r) (k : IsRt v s) : r = s := by
  have h1 : r < s + 1 := Nat.lt_of_not_le fun h' => by have := Nat.mul_le_mul h' h'; have := h.1; have := k.2; omega
  have h2 : s < r + 1 := Nat.lt_of_not_le fun h' => by have := Nat.mul_le_mul h' h'; have := k.1; have := h.2; omega
  omega
/-- a is nearer than a unit to the root of the number v without its lowest 2 * (c - e) digits. -/
def RtInv (v c e a : Nat) : Prop := 2 ^ e ≤ a ∧ (a - 1) * (a - 1) < v / 4 ^ (c - e) ∧ v / 4 ^ (c - e) < (a + 1) * (a + 1)
end Go.Proofs.YtbplbbkmfbjkfaaGreatDoor

/- wide.root: the square root, rounded down. -/
namespace Go.Proofs.YtbplbbkmfbjkfaaGreatDoor
open Go.RowKit

/-- A call returns the root of v. -/
def RR (w : World) (v : Nat) (e : Ending) (w' : World) : Prop := ∃ r A c, IsRt v r ∧ e = .returned (.slice A (digs r).length c) ∧ Lm w' w'.heap.size A (digs r).length c (digs r) ∧ Below w.heap.size w w'

end Go.Proofs.YtbplbbkmfbjkfaaGreatDoor

/- wide.Pow. -/
namespace Go.Proofs.YtbplbbkmfbjkfaaGreatDoor
open Go.RowKit

theorem mul_rz (w : World) (A B : Option Addr) (n m ca cb : Nat) (x y : Int) {na nb : Bool} (hA : Lm w w.heap.size A n ca (digs x.natAbs)) (hB : Lm w w.heap.size B m cb (digs y.natAbs)) (hx : (digs x.natAbs).length ≤ 4096) (hy : (digs y.natAbs).length ≤ 4096) (ha : decide (x < 0) = na) (hb : decide (y < 0) = nb) :
    Calls Tryz.prog 87 #[.agg #[.bool na, .slice A n ca], .agg #[.bool nb, .slice B m cb]] w (RZ w (x * y)) := by
  subst ha hb
  have h := mul_ok w _ _ A B n m ca cb _ _ hA hB (chkB_z (digs_len.1 hx) (Nat.le_refl _) (digs_len.1 hy) (Nat.le_refl _))
  have e1 := rz_of w (decide (x < 0) != decide (y < 0)) (x.natAbs * y.natAbs) (z := x * y) (by rw [← toI_mul, toI_self, toI_self])
  rw [e1] at h
  exact h
/-- A number of at most 4096 limbs, or one that is too large. -/
theorem rz_cases {w : World} {z : Int} {e : Ending} {w' : World} (h : RZ w z e w') : ((digs z.natAbs).length ≤ 4096 ∧ RN w z e w') ∨ (4096 < (digs z.natAbs).length ∧ RW w false [] 16 e w') := by
  rcases Nat.lt_or_ge 4096 (digs z.natAbs).length with h1 | h1
  · right
    refine ⟨h1, ?_⟩
    unfold RZ mkN mkL mkE at h
    rw [decide_eq_false (by omega), if_neg (by omega), if_neg (by omega)] at h
    exact h
  · obtain ⟨k, hk⟩ : ∃ k, k = 4096 := ⟨_, rfl⟩
    exact .inl ⟨h1, rz_rn (k := k) (digs_len.1 (by omega)) (by omega) h⟩
theorem rz_big {w : World} {z : Int} (h1 : 4096 < (digs z.natAbs).length) : RZ w z = RW w false [] 16 := by
  unfold RZ mkN mkL mkE
  rw [decide_eq_false (by omega), if_neg (by omega), if_neg (by omega)]
  rfl
theorem rz_fit {w : World} {z : Int} (h1 : (digs z.natAbs).length ≤ 4096) : RZ w z = RW w (decide (z < 0)) (digs z.natAbs) 0 := by
  obtain ⟨k, hk⟩ : ∃ k, k = 4096 := ⟨_, rfl⟩
  have h2 := mkN_z (z := z) (k := k) (digs_len.1 (by omega)) (by omega)
  unfold RZ
  rw [h2.1, h2.2.1, h2.2.2]
theorem natAbs_pow_ (x : Int) (k : Nat) : (x ^ k).natAbs = x.natAbs ^ k := by
  induction k with
  | zero => simp
  | succ k ih => rw [Int.pow_succ, Nat.pow_succ, Int.natAbs_mul, ih]
/-- A power on the way is no longer than the last one. -/
theorem pow_way {x : Int} {a b : Nat} (h : a ≤ b) (hb : 4096 < (digs (x ^ a).natAbs).length) : 4096 < (digs (x ^ b).natAbs).length := by
  rw [natAbs_pow_] at hb ⊢
  rcases Nat.eq_zero_or_pos x.natAbs with h0 | h0
  · rw [h0] at hb
    have : (digs (0 ^ a)).length ≤ 1 := by
      refine digs_len.2 ?_
      rcases Nat.eq_zero_or_pos a with h1 | h1
      · subst h1; decide
      · rw [Nat.zero_pow h1]; decide
    omega
  · exact Nat.lt_of_lt_of_le hb (digs_mono (Nat.pow_le_pow_right h0 h))
theorem and_one (d : Nat) (h : d < 65536) : bits .and .i64 (d : Int) 1 = ((d % 2 : Nat) : Int) := by
  have e16 : (2 : Int) ^ 16 = 65536 := by decide
  have e1 : (2 : Int) ^ 1 = 2 := by decide
  have h1 := bits_mask .i64 16 (by decide) (fun n h0 h1 => by rw [e16] at h1; rw [IntKind.wrap_i64]; omega) 1 (by omega) (d : Int) (by omega) (by rw [e16]; omega)
  rw [e1] at h1
  have e2 : (2 : Int) - 1 = 1 := by decide
  rw [e2] at h1
  rw [h1]
  omega
set_option maxRecDepth 100000 in
set_option maxHeartbeats 2000000 in
theorem pow_ok (w : World) (A : Option Addr) (n c k : Nat) (x : Int) {na : Bool} (h : Lm w w.heap.size A n c (digs x.natAbs)) (hx : (digs x.natAbs).length ≤ 4096) (hk : k ≤ 1000) (ha : decide (x < 0) = na) :
    Calls Tryz.prog 88 #[.agg #[.bool na, .slice A n c], .int .i64 (k : Int)] w (RZ w (x ^ k)) := by
  have HH := Lib.hid h
  have HX := Lib.hid hx
  have HN := Lib.hid ha
  have HC : Hid (chk na (digs x.natAbs) = 0) := by show _ = _; rw [← ha]; exact chk_z (digs_len.1 hx) (Nat.le_refl _)
  have hkd : decide ((k : Int) < 0) = false := decide_eq_false (by omega)
  have hkd2 : decide ((1000 : Int) < (k : Int)) = false := decide_eq_false (by omega)
  have hb10 : Lib.bitLen k ≤ 10 := Lib.bitLen_le k 10 (by omega) (by omega)
  have HB2 : Hid (k < 2 ^ Lib.bitLen k) := by
    show _ < _
    rcases Nat.eq_zero_or_pos k with h0 | h0
    · subst h0; exact Nat.pow_pos (by omega)
    · exact (bitLen_bounds (by omega) (by omega)).2.2
  clear h hx ha
  go_enter Tryz.func88, Tryz.ntmps88
  go_wp2_with fail
  refine (check_ok _ _ _ _ _ _ ((HH.out.box _).box _) HC.out).mono ?_
  rintro e w1 ⟨rfl, hb1⟩
  have P0 := Lib.hid (((Pr.new w _ rfl (.bool na) (.slice A n c) 24).alloc (.cells #[.bool false, .slice none 0 0] 24)).via hb1)
  have P1 := Lib.hid ((Pr.new (w.alloc (.cells #[.bool na, .slice A n c] 24)) (w.heap.size + 1) (by simp) (.bool false) (.slice none 0 0) 24).via hb1)
  have L1 := Lib.hid (((HH.out.box _).box _).via hb1)
  have B1 := Lib.hid (bbox (bbox hb1))
  clear hb1
  go_wp2_with fail
  refine (from_any _ 1 (by omega) (by omega)).mono ?_
  rintro e w2 ⟨A2, n2, c2, rfl, hL2, hb2⟩
  have P0' := Lib.hid (P0.out.via hb2)
  have P1' := Lib.hid (P1.out.via hb2)
  have L1' := Lib.hid (L1.out.via hb2)
  have B2 := Lib.hid (B1.out.trans (hb2.mono B1.out.size))
  have L2 := Lib.hid hL2
  clear hL2 hb2 P0 P1 L1 B1
  go_wp2_with fail
  refine (len_any _ _ (by omega) (by omega)).mono ?_
  rintro e w3 ⟨rfl, rfl⟩
  rw [show ((k : Int)).toNat = k from rfl]
  have P2 := Lib.hid (Pr.new w2 _ rfl (.bool false) (.slice A2 n2 c2) 24)
  have P0 := Lib.hid (P0'.out.alloc (.cells #[.bool false, .slice A2 n2 c2] 24))
  have P1 := Lib.hid (P1'.out.alloc (.cells #[.bool false, .slice A2 n2 c2] 24))
  have L1 := Lib.hid (L1'.out.box (.cells #[.bool false, .slice A2 n2 c2] 24))
  have L3 := Lib.hid (L2.out.box (.cells #[.bool false, .slice A2 n2 c2] 24))
  have B3 := Lib.hid (B2.out.alloc B2.out.size (.cells #[.bool false, .slice A2 n2 c2] 24))
  have hg7 : w.heap.size + 1 < w2.heap.size := P1'.out.lt
  clear P0' P1' L1' L2 B2
  generalize w2.alloc (.cells #[.bool false, .slice A2 n2 c2] 24) = W3 at *
  generalize w2.heap.size = g at *
  generalize Lib.bitLen k = bl at *
  go_wp2
  go_loopw [8, 9] (fun ev iv wr => ∃ (j : Nat) (er : Int) (ny : Bool) (A' : Option Addr) (n' c' : Nat), j ≤ bl ∧ iv = .int .i64 (j : Int) ∧ ev = .int .i64 er ∧ Pr wr g (.bool ny) (.slice A' n' c') ∧
      ((er = 0 ∧ Lm wr wr.heap.size A' n' c' (digs (x ^ (k / 2 ^ j)).natAbs) ∧ ny = decide (x ^ (k / 2 ^ j) < 0) ∧ (digs (x ^ (k / 2 ^ j)).natAbs).length ≤ 4096) ∨ (er = 16 ∧ ny = false ∧ Lm wr wr.heap.size A' n' c' [] ∧ 4096 < (digs (x ^ k).natAbs).length)) ∧
      Pr wr w.heap.size (.bool na) (.slice A n c) ∧ Pr wr (w.heap.size + 1) (.bool false) (.slice none 0 0) ∧ Lm wr wr.heap.size A n c (digs x.natAbs) ∧ Below w.heap.size w wr) (fun _ iv _ => (intOf iv).toNat)
  case atStart =>
    have e0 : k / 2 ^ bl = 0 := Nat.div_eq_of_lt HB2.out
    refine ⟨bl, 0, false, A2, n2, c2, Nat.le_refl _, rfl, rfl, P2.out, .inl ⟨rfl, ?_, ?_, ?_⟩, P0.out, P1.out, L1.out, B3.out⟩
    · rw [e0, Int.pow_zero]; exact L3.out
    · rw [e0, Int.pow_zero]; rfl
    · rw [e0, Int.pow_zero]; decide
  case round =>
    obtain ⟨j, er, ny, A', n', c', hj, rfl, rfl, hP, hS, hP0, hP1, hL, hB⟩ := hrel
    have HP := Lib.hid hP
    have HP0 := Lib.hid hP0
    have HP1 := Lib.hid hP1
    have HL := Lib.hid hL
    have HB := Lib.hid hB
    clear P0 P1 P2 L1 L3 B3 hP hP0 hP1 hL hB
    have ⟨p0, p1, _, _, _⟩ := HP.out
    have ⟨w0, w1, _, _, _⟩ := HP0.out
    have ⟨r0, r1, _, _, _⟩ := HP1.out
    rcases hS with ⟨rfl, hY, rfl, hyl⟩ | ⟨rfl, rfl, hY0, hbig⟩
    · have HY := Lib.hid hY
      clear hY
      rcases j with _ | j
      · rw [Nat.pow_zero, Nat.div_one] at HY hyl HP p0
        have HFit := Lib.hid (rz_fit (w := w) hyl)
        obtain ⟨ny, hny⟩ : ∃ b, decide (x ^ k < 0) = b := ⟨_, rfl⟩
        rw [hny] at HP HFit p0
        go_wp2
        exact post_ws Tryz.results88 rfl rfl r0 r1 (by rw [HFit.out]; exact ⟨A', n', c', rfl, HY.out.setP HP1.out _ _, below_set2 HB.out (by omega) _ _⟩)
      · obtain ⟨y, hy⟩ : ∃ y, x ^ (k / 2 ^ (j + 1)) = y := ⟨_, rfl⟩
        rw [hy] at HY HP hyl p0
        obtain ⟨ny, hny⟩ : ∃ b, decide (y < 0) = b := ⟨_, rfl⟩
        have HNy := Lib.hid hny
        have HYe := Lib.hid hy
        rw [hny] at HP p0
        clear hy hny
        go_wp2_with fail
        refine (mul_rz _ _ _ _ _ _ _ y y HY.out HY.out hyl hyl HNy.out HNy.out).mono ?_
        intro e w4 hr
        rcases rz_cases hr with ⟨hfit, hr2⟩ | ⟨hfit, hr2⟩
        · obtain ⟨A4, n4, c4, rfl, hL4, hb4⟩ := hr2
          have HQ := Lib.hid (HP.out.via hb4)
          have HQ0 := Lib.hid (HP0.out.via hb4)
          have HQ1 := Lib.hid (HP1.out.via hb4)
          have HM := Lib.hid (HL.out.via hb4)
          have HL4 := Lib.hid hL4
          have HB4 := Lib.hid (HB.out.trans (hb4.mono HB.out.size))
          have hj2 : k / 2 ^ j = 2 * (k / 2 ^ (j + 1)) + k / 2 ^ j % 2 := by rw [Nat.pow_succ, ← Nat.div_div_eq_div_mul]; omega
          have HYY : Hid (y * y = x ^ (2 * (k / 2 ^ (j + 1)))) := by show _ = _; rw [← HYe.out, ← Int.pow_add]; congr 1; omega
          have HJ2 := Lib.hid hj2
          clear hj2 hr hL4 hb4 p0 p1 w0 w1 r0 r1
          have ⟨p0, p1, f0, f1, _⟩ := HQ.out
          have ⟨w0, w1, _, _, _⟩ := HQ0.out
          have ⟨r0, r1, _, _, _⟩ := HQ1.out
          obtain ⟨d, hd⟩ : ∃ d, k / 2 ^ j = d := ⟨_, rfl⟩
          have hdq : (k : Int) / 2 ^ j = (d : Int) := by rw [cast_shr, hd]
          have hdk : d ≤ k := by rw [← hd]; exact Nat.div_le_self _ _
          have hj9 : j < 16 := by omega
          have HDd := Lib.hid hd
          clear hd
          have hand := and_one d (by omega)
          rcases Nat.mod_two_eq_zero_or_one d with hd2 | hd2
          · rw [hd2] at hand
            have hE : k / 2 ^ j = 2 * (k / 2 ^ (j + 1)) := by have := HJ2.out; have := HDd.out; omega
            have HE : Hid (y * y = x ^ (k / 2 ^ j)) := by show _ = _; rw [HYY.out, hE]
            have hand1 : ¬ bits .and .i64 (d : Int) 1 = 1 := by rw [hand]; decide
            clear hE hand
            have hfit' := hfit
            rw [HE.out] at hfit'
            have HF := Lib.hid hfit'
            clear hfit hfit'
            go_wp2
            go_roundw
            case rel =>
              refine ⟨j, 0, decide (y * y < 0), A4, n4, c4, by omega, rfl, rfl, HQ.out.set _ _, .inl ⟨rfl, ?_, by rw [HE.out], HF.out⟩, HQ0.out.far (by omega) _ _, HQ1.out.far (by omega) _ _, HM.out.setP HQ.out _ _, below_set2 HB4.out (by omega) _ _⟩
              rw [← HE.out]
              exact HL4.out.setP HQ.out _ _
            case measure => simp [intOf]
          · rw [hd2] at hand
            have hE : k / 2 ^ j = 2 * (k / 2 ^ (j + 1)) + 1 := by have := HJ2.out; have := HDd.out; omega
            have HE : Hid (y * y * x = x ^ (k / 2 ^ j)) := by show _ = _; rw [HYY.out, hE, Int.pow_succ]
            have hand1 : bits .and .i64 (d : Int) 1 = 1 := by rw [hand]; rfl
            clear hE hand
            obtain ⟨nyy, hnyy⟩ : ∃ b, decide (y * y < 0) = b := ⟨_, rfl⟩
            have HNyy := Lib.hid hnyy
            rw [hnyy]
            clear hnyy
            have HQ5 := Lib.hid (HQ.out.set (.bool nyy) (.slice A4 n4 c4))
            have HQ50 := Lib.hid (HQ0.out.far (h := g) (by omega) (.bool nyy) (.slice A4 n4 c4))
            have HQ51 := Lib.hid (HQ1.out.far (h := g) (by omega) (.bool nyy) (.slice A4 n4 c4))
            have HM5 := Lib.hid (HM.out.setP HQ.out (.bool nyy) (.slice A4 n4 c4))
            have HL5 := Lib.hid (HL4.out.setP HQ.out (.bool nyy) (.slice A4 n4 c4))
            have HB5 := Lib.hid (below_set2 HB4.out (g := g) (by omega) (.bool nyy) (.slice A4 n4 c4))
            have HFq := Lib.hid hfit
            clear hfit
            go_wp2_with fail
            refine (mul_rz _ _ _ _ _ _ _ (y * y) x HL5.out HM5.out HFq.out HX.out HNyy.out HN.out).mono ?_
            intro e w6 hr
            rcases rz_cases hr with ⟨hfit, hr2⟩ | ⟨hfit, hr2⟩
            · obtain ⟨A6, n6, c6, rfl, hL6, hb6⟩ := hr2
              have HQ6 := Lib.hid (HQ5.out.via hb6)
              have HQ60 := Lib.hid (HQ50.out.via hb6)
              have HQ61 := Lib.hid (HQ51.out.via hb6)
              have HM6 := Lib.hid (HM5.out.via hb6)
              have HL6 := Lib.hid hL6
              have HB6 := Lib.hid (HB5.out.trans (hb6.mono HB5.out.size))
              have HF := Lib.hid hfit
              clear hr hL6 hb6 hfit p0 p1 f0 f1 w0 w1 r0 r1
              have ⟨p0, p1, f0, f1, _⟩ := HQ6.out
              go_wp2
              go_roundw
              case rel =>
                refine ⟨j, 0, decide (y * y * x < 0), A6, n6, c6, by omega, rfl, rfl, HQ6.out.set _ _, .inl ⟨rfl, ?_, by rw [HE.out], by rw [← HE.out]; exact HF.out⟩, HQ60.out.far (by omega) _ _, HQ61.out.far (by omega) _ _, HM6.out.setP HQ6.out _ _, below_set2 HB6.out (by omega) _ _⟩
                rw [← HE.out]
                exact HL6.out.setP HQ6.out _ _
              case measure => simp [intOf]
            · obtain ⟨A6, n6, c6, rfl, hL6, hb6⟩ := hr2
              have HQ6 := Lib.hid (HQ5.out.via hb6)
              have HQ60 := Lib.hid (HQ50.out.via hb6)
              have HQ61 := Lib.hid (HQ51.out.via hb6)
              have HM6 := Lib.hid (HM5.out.via hb6)
              have HB6 := Lib.hid (HB5.out.trans (hb6.mono HB5.out.size))
              have HF : Hid (4096 < (digs (x ^ k).natAbs).length) := by
                show _ < _
                rw [HE.out] at hfit
                exact pow_way (Nat.div_le_self _ _) hfit
              have HL6 := Lib.hid hL6
              clear hr hL6 hb6 hfit p0 p1 f0 f1 w0 w1 r0 r1
              have ⟨p0, p1, f0, f1, _⟩ := HQ6.out
              go_wp2
              go_roundw
              case rel =>
                exact ⟨j, 16, false, A6, n6, c6, by omega, rfl, rfl, HQ6.out.set _ _, .inr ⟨rfl, rfl, HL6.out.setP HQ6.out _ _, HF.out⟩, HQ60.out.far (by omega) _ _, HQ61.out.far (by omega) _ _, HM6.out.setP HQ6.out _ _, below_set2 HB6.out (by omega) _ _⟩
              case measure => simp [intOf]
        · obtain ⟨A4, n4, c4, rfl, hL4, hb4⟩ := hr2
          have HQ := Lib.hid (HP.out.via hb4)
          have HQ0 := Lib.hid (HP0.out.via hb4)
          have HQ1 := Lib.hid (HP1.out.via hb4)
          have HM := Lib.hid (HL.out.via hb4)
          have HL4 := Lib.hid hL4
          have HB4 := Lib.hid (HB.out.trans (hb4.mono HB.out.size))
          have HF : Hid (4096 < (digs (x ^ k).natAbs).length) := by
            show _ < _
            have hYY : y * y = x ^ (2 * (k / 2 ^ (j + 1))) := by rw [← HYe.out, ← Int.pow_add]; congr 1; omega
            rw [hYY] at hfit
            refine pow_way ?_ hfit
            have h1 : 2 * (k / 2 ^ (j + 1)) = 2 * (k / 2 ^ j / 2) := by rw [Nat.pow_succ, ← Nat.div_div_eq_div_mul]
            have h2 : k / 2 ^ j ≤ k := Nat.div_le_self _ _
            omega
          clear hr hL4 hb4 hfit p0 p1 w0 w1 r0 r1
          have ⟨p0, p1, f0, f1, _⟩ := HQ.out
          obtain ⟨d, hd⟩ : ∃ d, k / 2 ^ j = d := ⟨_, rfl⟩
          have hdq : (k : Int) / 2 ^ j = (d : Int) := by rw [cast_shr, hd]
          have hdk : d ≤ k := by rw [← hd]; exact Nat.div_le_self _ _
          have hj9 : j < 16 := by omega
          clear hd
          have hand := and_one d (by omega)
          rcases Nat.mod_two_eq_zero_or_one d with hd2 | hd2
          · rw [hd2] at hand
            have hand1 : ¬ bits .and .i64 (d : Int) 1 = 1 := by rw [hand]; decide
            clear hand
            go_wp2
            go_roundw
            case rel =>
              exact ⟨j, 16, false, A4, n4, c4, by omega, rfl, rfl, HQ.out.set _ _, .inr ⟨rfl, rfl, HL4.out.setP HQ.out _ _, HF.out⟩, HQ0.out.far (by omega) _ _, HQ1.out.far (by omega) _ _, HM.out.setP HQ.out _ _, below_set2 HB4.out (by omega) _ _⟩
            case measure => simp [intOf]
          · rw [hd2] at hand
            have hand1 : bits .and .i64 (d : Int) 1 = 1 := by rw [hand]; rfl
            clear hand
            go_wp2
            go_roundw
            case rel =>
              exact ⟨j, 16, false, A4, n4, c4, by omega, rfl, rfl, HQ.out.set _ _, .inr ⟨rfl, rfl, HL4.out.setP HQ.out _ _, HF.out⟩, HQ0.out.far (by omega) _ _, HQ1.out.far (by omega) _ _, HM.out.setP HQ.out _ _, below_set2 HB4.out (by omega) _ _⟩
            case measure => simp [intOf]
    · have HFit := Lib.hid (rz_big (w := w) hbig)
      have HY0 := Lib.hid hY0
      clear hY0
      go_wp2
      all_goals exact post_ws Tryz.results88 rfl rfl r0 r1 (by rw [HFit.out]; exact ⟨A', n', c', rfl, HY0.out.setP HP1.out _ _, below_set2 HB.out (by omega) _ _⟩)
end Go.Proofs.YtbplbbkmfbjkfaaGreatDoor

/- Package frac: power, must of a string. -/
namespace Go.Proofs.YtbplbbkmfbjkfaaGreatDoor
open Go.RowKit

theorem sz_ten (k : Nat) (hk : k ≤ 999) : Sz 126 ((10 : Int) ^ k) := by
  obtain ⟨e, he⟩ : ∃ e, e = 32 * 126 := ⟨_, rfl⟩
  have h4 : 4 * k < e := by omega
  have h3 : (4294967296 : Nat) ^ 126 = 2 ^ e := by rw [he, show (4294967296 : Nat) = 2 ^ 32 from rfl, ← Nat.pow_mul]
  clear he
  show ((10 : Int) ^ k).natAbs < 4294967296 ^ 126
  rw [Int.natAbs_pow, h3]
  show 10 ^ k < 2 ^ e
  have h1 : 10 ^ k ≤ 16 ^ k := Nat.pow_le_pow_left (by decide) k
  rw [show (16 : Nat) = 2 ^ 4 from rfl, ← Nat.pow_mul] at h1
  exact Nat.lt_of_le_of_lt h1 (Nat.pow_lt_pow_right (by decide) h4)
set_option maxRecDepth 100000 in
set_option maxHeartbeats 2000000 in
theorem power_n (w : World) (k : Nat) (hk : k ≤ 999) :
    Calls Tryz.prog 59 #[.int .i64 (k : Int)] w (RVz w ((10 : Int) ^ k)) := by
  go_enter Tryz.func59, Tryz.ntmps59
  have QR := Lib.hid (Pr.new w _ rfl (.bool false) (.slice none 0 0) 24)
  have BW : Hid (Below w.heap.size w (w.alloc (.cells #[.bool false, .slice none 0 0] 24))) := below_alloc (Below.refl _ _) _
  go_wp2_with fail
  refine (from_any _ 10 (by omega) (by omega)).mono ?_
  rintro e w1 ⟨A1, n1, c1, rfl, hL1, hb⟩
  have L1 := Lib.hid hL1
  replace QR := Lib.hid (QR.out.via hb)
  replace BW := Lib.hid (btr BW.out hb)
  clear hb hL1
  go_wp2_with fail
  refine (pow_ok _ A1 n1 c1 k 10 L1.out (by decide) (by omega) rfl).mono ?_
  intro e w2 hr
  obtain ⟨A2, n2, c2, rfl, hL2, hb⟩ := rz_rn (sz_ten k hk) (by omega) hr
  have L2 := Lib.hid hL2
  replace QR := Lib.hid (QR.out.via hb)
  replace BW := Lib.hid (btr BW.out hb)
  obtain ⟨np, hnp⟩ : ∃ b, decide ((10 : Int) ^ k < 0) = b := ⟨_, rfl⟩
  rw [hnp]
  have HNp := Lib.hid hnp
  clear hb hL2 hr hnp L1
  go_wp2_with fail
  refine (must_ok _ _ _ _ _).mono ?_
  rintro e w3 ⟨rfl, hb⟩
  replace L2 := Lib.hid (L2.out.via hb)
  replace QR := Lib.hid (QR.out.via hb)
  replace BW := Lib.hid (btr BW.out hb)
  clear hb
  have ⟨q0, q1, f0, f1, ql⟩ := QR.out
  go_wp2
  have KS := QR.out.set (.bool np) (.slice A2 n2 c2)
  exact post_w1 Tryz.results59 rfl rfl KS.c0 KS.c1 ⟨A2, n2, c2, by rw [HNp.out], L2.out.setP QR.out _ _, below_set2 BW.out (Nat.le_refl _) _ _⟩

set_option maxHeartbeats 400000 in
theorem musts_ok (w : World) (s : ByteArray) :
    Calls Tryz.prog 53 #[.string s, .int .i64 0] w fun e w' => e = .returned (.string s) ∧ w = w' := by
  go_enter Tryz.func53, Tryz.ntmps53
  go_wp2_with fail
  refine (pass_ok _).mono ?_
  rintro e w1 ⟨rfl, rfl⟩
  go_wp2
  go_ret
  exact ⟨rfl, rfl⟩
end Go.Proofs.YtbplbbkmfbjkfaaGreatDoor

/- Package frac: change with a closure that holds one variable. -/
namespace Go.Proofs.YtbplbbkmfbjkfaaGreatDoor
open Go.RowKit

/-- A variable that holds a closure with one captured value. -/
structure Fbp (w : World) (g : Nat) (f : FuncId) (p : Value) : Prop where
  c0 : w.cell? ⟨g, 0, none⟩ = some (.func (.func f) #[] #[p])
  lt : g < w.heap.size
theorem Fbp.via {w w' : World} {g : Nat} {f : FuncId} {p : Value} (h : Fbp w g f p) (hb : Below w.heap.size w w') : Fbp w' g f p := ⟨(hb.cell (p := ⟨g, 0, none⟩) h.lt).trans h.c0, Nat.lt_of_lt_of_le h.lt hb.size⟩

set_option maxRecDepth 100000 in
set_option maxHeartbeats 2000000 in
theorem changesp_ok (w : World) (g0 ga : Nat) (f : FuncId) (p : Value) (na da : Bool) (A B : Option Addr) (n m ca cb : Nat) (xs ys : List Nat) (hf : Fbp w g0 f p) (qa : Qd w ga (.bool na) (.slice A n ca) (.bool da) (.slice B m cb)) (hA : Lm w w.heap.size A n ca xs) (hB : Lm w w.heap.size B m cb ys) (hv : fchk na xs da ys = 0) (t : ByteArray)
    (hcf : ∀ (u : Value) (W : World), (callFunc f #[u, p]).run Tryz.prog W = .ok (.enter f #[u, p]) W)
    (H : ∀ W, Below w.heap.size w W → Lm W W.heap.size A n ca xs → Lm W W.heap.size B m cb ys → Calls Tryz.prog f #[fv na A n ca da B m cb, p] W (RSs W t)) :
    Calls Tryz.prog 51 #[.pointer (some ⟨g0, 0, none⟩), .pointer (some ⟨ga, 0, none⟩)] w (RSs w t) := by
  have HF := Lib.hid hf
  have QA := Lib.hid qa
  have LA := Lib.hid hA
  have LB := Lib.hid hB
  have HV := Lib.hid hv
  have HH := Lib.hid H
  clear hA hB hv hf qa H
  go_enter Tryz.func51, Tryz.ntmps51
  have hg0 : g0 < w.heap.size := HF.out.lt
  have hga : ga < w.heap.size := QA.out.lt
  have HKS : Hid (∀ X : World, Below w.heap.size w X → X.cell? ⟨g0, 0, none⟩ = some (.func (.func f) #[] #[p]) ∧ X.cell? ⟨ga, 0, none⟩ = some (.bool na) ∧ X.cell? ⟨ga, 1, none⟩ = some (.slice A n ca) ∧ X.cell? ⟨ga, 2, none⟩ = some (.bool da) ∧ X.cell? ⟨ga, 3, none⟩ = some (.slice B m cb)) := fun X h => ⟨(h.cell (p := ⟨g0, 0, none⟩) hg0).trans HF.out.c0, (QA.out.via h).c0, (QA.out.via h).c1, (QA.out.via h).c2, (QA.out.via h).c3⟩
  go_upto_region 1 with (fail)
  go_region_held3 (fun w' => w'.cell? ⟨g0, 0, none⟩ = some (.func (.func f) #[] #[p]) ∧ w'.cell? ⟨ga, 0, none⟩ = some (.bool na) ∧ w'.cell? ⟨ga, 1, none⟩ = some (.slice A n ca) ∧ w'.cell? ⟨ga, 2, none⟩ = some (.bool da) ∧ w'.cell? ⟨ga, 3, none⟩ = some (.slice B m cb))
    (first | (refine HKS.out _ ?_; (repeat' (first | exact Be | exact Bc | exact (Below.refl _ _).drew | exact Below.refl _ _ | refine Below.setCell ?_ ?_ _)); all_goals (first | omega | (simp; done) | (simp; omega))))
    (first
     | (go_at_call 52; refine (known_ok _ na da A B n m ca cb xs ys (by first | exact LA.out.drew | exact LA.out) (by first | exact LB.out.drew | exact LB.out) HV.out).mono ?_; rintro e wc ⟨rfl, hbc⟩; have Bc : Below w.heap.size w wc := (by first | exact (Below.refl _ _).drew.trans hbc | exact hbc))
     | (refine (HH.out _ Bc (LA.out.via Bc) (LB.out.via Bc)).mono ?_; rintro e we ⟨rfl, hbe⟩; have Be : Below w.heap.size w we := btr Bc hbe)
     | fail)
  all_goals
    go_wp2
    go_ret
    exact ⟨rfl, Be⟩

set_option maxRecDepth 100000 in
set_option maxHeartbeats 2000000 in
theorem changesp_g (w : World) (f : FuncId) (p : Value) (na da : Bool) (A B : Option Addr) (n m ca cb : Nat) (xs ys : List Nat) (hA : Lm w w.heap.size A n ca xs) (hB : Lm w w.heap.size B m cb ys) (t : ByteArray) (err : Int)
    (H : ∀ W g0 ga, Below w.heap.size w W → Fbp W g0 f p → Qd W ga (.bool na) (.slice A n ca) (.bool da) (.slice B m cb) → Lm W W.heap.size A n ca xs → Lm W W.heap.size B m cb ys → Calls Tryz.prog 50 #[.func (.func 51) #[] #[.pointer (some ⟨g0, 0, none⟩), .pointer (some ⟨ga, 0, none⟩)]] W (RSE W t err)) :
    Calls Tryz.prog 23 #[fv na A n ca da B m cb, .func (.func f) #[] #[p]] w (RSE w t err) := by
  have hmf : ∀ (fn : Fn) (first cap : Array Value) (w : World), (Instr.makeFunc fn first cap).run Tryz.prog w = .ok (.func fn first cap) w := fun _ _ _ _ => rfl
  have HH := Lib.hid H
  have HA := Lib.hid hA
  have HB := Lib.hid hB
  clear H hA hB
  go_enter Tryz.func23, Tryz.ntmps23
  have QA := Lib.hid ((Qd.new w _ rfl (.bool na) (.slice A n ca) (.bool da) (.slice B m cb) 26).alloc (.cells #[.func (.func f) #[] #[p]] 55))
  have QF : Hid (Fbp ((w.alloc (.cells #[.bool na, .slice A n ca, .bool da, .slice B m cb] 26)).alloc (.cells #[.func (.func f) #[] #[p]] 55)) (w.heap.size + 1) f p) := ⟨by go_simp, by simp⟩
  have BW : Hid (Below w.heap.size w ((w.alloc (.cells #[.bool na, .slice A n ca, .bool da, .slice B m cb] 26)).alloc (.cells #[.func (.func f) #[] #[p]] 55))) := below_alloc (below_alloc (Below.refl _ _) _) _
  have LA : Hid (Lm ((w.alloc (.cells #[.bool na, .slice A n ca, .bool da, .slice B m cb] 26)).alloc (.cells #[.func (.func f) #[] #[p]] 55)) ((w.alloc (.cells #[.bool na, .slice A n ca, .bool da, .slice B m cb] 26)).alloc (.cells #[.func (.func f) #[] #[p]] 55)).heap.size A n ca xs) := ((HA.out.box _).box _)
  have LB : Hid (Lm ((w.alloc (.cells #[.bool na, .slice A n ca, .bool da, .slice B m cb] 26)).alloc (.cells #[.func (.func f) #[] #[p]] 55)) ((w.alloc (.cells #[.bool na, .slice A n ca, .bool da, .slice B m cb] 26)).alloc (.cells #[.func (.func f) #[] #[p]] 55)).heap.size B m cb ys) := ((HB.out.box _).box _)
  clear HA HB
  go_wp2_with fail
  refine (HH.out _ (w.heap.size + 1) w.heap.size BW.out QF.out QA.out LA.out LB.out).mono ?_
  rintro e w1 ⟨rfl, hb⟩
  have BB := Lib.hid (btr BW.out hb)
  clear hb
  go_wp2
  go_returns
  exact ⟨rfl, BB.out⟩
end Go.Proofs.YtbplbbkmfbjkfaaGreatDoor

/- Package frac: pointed. -/
namespace Go.Proofs.YtbplbbkmfbjkfaaGreatDoor
open Go.RowKit

/-- Digits with zeros in front, so that there are more than k of them. -/
def pad0 (s : List UInt8) (k : Nat) : List UInt8 := List.replicate (k + 1 - s.length) 48 ++ s
/-- Digits with a point in front of the last k ones. -/
def ptd (s : List UInt8) (k : Nat) : List UInt8 := if k = 0 then s else (pad0 s k).take ((pad0 s k).length - k) ++ 46 :: (pad0 s k).drop ((pad0 s k).length - k)
theorem point_eq (T : List UInt8) (a : Nat) : ((⟨T.toArray⟩ : ByteArray).extract 0 a ++ ⟨#[46]⟩ ++ (⟨T.toArray⟩ : ByteArray).extract a T.length) = ⟨(T.take a ++ 46 :: T.drop a).toArray⟩ := by
  apply ByteArray.ext
  simp [ByteArray.data_append, ByteArray.data_extract]
  exact List.take_of_length_le (by simp)
set_option maxRecDepth 100000 in
set_option maxHeartbeats 1000000 in
theorem pointed_any (w : World) (s : List UInt8) (k : Nat) (hk : k ≤ 50) (hs : s.length ≤ 1000000) :
    Calls Tryz.prog 62 #[.string ⟨s.toArray⟩, .int .i64 (k : Int)] w fun e w' => e = .returned (.string ⟨(ptd s k).toArray⟩) ∧ Below w.heap.size w w' := by
  have hsz : (⟨s.toArray⟩ : ByteArray).size = s.length := by simp [ByteArray.size]
  by_cases h0 : k = 0
  · subst h0
    go_enter Tryz.func62, Tryz.ntmps62
    go_wp2
    go_ret
    exact ⟨by unfold ptd; rw [if_pos rfl]; rfl, Below.refl _ _⟩
  · have k1 : decide ((k : Int) = 0) = false := decide_eq_false (by omega)
    have k2 : ((k : Int) == 0) = false := by simp [h0]
    go_enter Tryz.func62, Tryz.ntmps62
    go_wp2
    go_loop [0, 14] (fun t i => ∃ j : Nat, j ≤ k + 1 - s.length ∧ i = .int .i64 j ∧ t = .string ⟨(List.replicate j 48 ++ s).toArray⟩) (fun _ i => k + 1 - s.length - (intOf i).toNat)
    case atStart => exact ⟨0, Nat.zero_le _, rfl, rfl⟩
    case round =>
      obtain ⟨j, hj, rfl, rfl⟩ := hrel
      by_cases hlt : j < k + 1 - s.length
      · have hl : (j : Int) < (k : Int) + 1 - (s.length : Int) := by omega
        go_wp2
        refine ⟨⟨j + 1, by omega, by go_num, ?_⟩, by simp [intOf]; omega⟩
        rw [List.replicate_succ]
        rfl
      · have hl : decide ((j : Int) < (k : Int) + 1 - (s.length : Int)) = false := decide_eq_false (by omega)
        have HT : Hid (List.replicate j 48 ++ s = pad0 s k) := by
          show _ = _
          unfold pad0
          rw [show j = k + 1 - s.length by omega]
        have hT : (List.replicate j 48 ++ s).length = (pad0 s k).length := by rw [HT.out]
        have hP : k < (pad0 s k).length := by unfold pad0; rw [List.length_append, List.length_replicate]; omega
        have hP2 : (pad0 s k).length ≤ 2000000 := by unfold pad0; rw [List.length_append, List.length_replicate]; omega
        have HR : Hid (ptd s k = (pad0 s k).take ((pad0 s k).length - k) ++ 46 :: (pad0 s k).drop ((pad0 s k).length - k)) := by
          show _ = _
          unfold ptd
          rw [if_neg h0]
        rw [HT.out]
        clear HT hT
        generalize pad0 s k = T at *
        have hsT : (⟨T.toArray⟩ : ByteArray).size = T.length := by simp [ByteArray.size]
        go_wp2
        go_region
        all_goals
          go_wp2
          go_ret
          exact ⟨by rw [HR.out, ← point_eq]; rfl, (Below.refl _ _).drew⟩
end Go.Proofs.YtbplbbkmfbjkfaaGreatDoor

/- Package frac: the reader of numerals: skip, digits. -/
namespace Go.Proofs.YtbplbbkmfbjkfaaGreatDoor
open Go.RowKit

theorem cut_sk (c : UInt8) (l : List UInt8) (w : World) :
    Calls Tryz.prog 60 #[.string ⟨l.toArray⟩, .string ⟨#[c]⟩] w fun e w' => e = .returned (.tuple #[.string ⟨(sk c l).2.toArray⟩, .bool (sk c l).1]) ∧ w' = w := by
  refine (cut_any ⟨l.toArray⟩ ⟨#[c]⟩ w).mono ?_
  rintro e w' ⟨rfl, rfl⟩
  refine ⟨?_, rfl⟩
  have h := sk_pfx c l
  show Ending.returned (.tuple #[.string ⟨(Lib.trimPrefix l [c]).toArray⟩, .bool (Lib.hasPrefix l [c])]) = _
  rw [h.1, h.2]
theorem ext_take (T : List UInt8) (a : Nat) : (⟨T.toArray⟩ : ByteArray).extract 0 a = ⟨(T.take a).toArray⟩ := by
  apply ByteArray.ext
  simp [ByteArray.data_extract]
theorem ext_drop (T : List UInt8) (a : Nat) : (⟨T.toArray⟩ : ByteArray).extract a T.length = ⟨(T.drop a).toArray⟩ := by
  apply ByteArray.ext
  simp [ByteArray.data_extract]
  exact List.take_of_length_le (by simp)

set_option maxRecDepth 100000 in
set_option maxHeartbeats 1000000 in
theorem skip_any (w : World) (g : Nat) (c : UInt8) (l : List UInt8) (hs : Sb w g l) :
    Calls Tryz.prog 34 #[.pointer (some ⟨g, 0, none⟩), .string ⟨#[c]⟩] w fun e w' => e = .returned (.bool (sk c l).1) ∧ Sb w' g (sk c l).2 ∧ Bex w.heap.size g w w' := by
  have HS := Lib.hid hs
  have c0 := hs.c0
  have f0 := hs.f0
  clear hs
  go_enter Tryz.func34, Tryz.ntmps34
  go_wp2_with fail
  refine (cut_sk c l _).mono ?_
  rintro e w1 ⟨rfl, rfl⟩
  go_wp2
  go_ret
  exact ⟨rfl, HS.out.set _, (Bex.of (Below.refl _ _)).set 0 _⟩

/-- What the reader's digits are: without any there is no numeral. -/
def RDg (w : World) (g : Nat) (l : List UInt8) (e : Ending) (w' : World) : Prop := if dg l = [] then e = Pan 12 ∧ Bex w.heap.size g w w' else e = .returned (.string ⟨(dg l).toArray⟩) ∧ Sb w' g (dr l) ∧ Bex w.heap.size g w w'
set_option maxRecDepth 100000 in
set_option maxHeartbeats 1000000 in
theorem digits_any (w : World) (g : Nat) (l : List UInt8) (hs : Sb w g l) (hl : l.length ≤ 1000000) :
    Calls Tryz.prog 66 #[.pointer (some ⟨g, 0, none⟩)] w (RDg w g l) := by
  have HS := Lib.hid hs
  have c0 := hs.c0
  have f0 := hs.f0
  have hz := str_size l
  clear hs
  go_enter Tryz.func66, Tryz.ntmps66
  go_upto_block 0 with (fail)
  go_cut [3] (fun s3 wx => s3 = .int .i64 ((dg l).length : Int) ∧ wx = w)
  case first =>
    go_wp2
    go_loop [3, 12] (fun a b => ∃ i : Nat, i ≤ l.length ∧ a = .int .i64 i ∧ b = .int .i64 i ∧ (l.take i).all isDig = true) (fun _ b => l.length - (intOf b).toNat)
    case atStart => exact ⟨0, Nat.zero_le _, rfl, rfl, rfl⟩
    case round =>
      obtain ⟨i, hi, rfl, rfl, hall⟩ := hrel
      have HAll := Lib.hid hall
      clear hall
      by_cases hp : i < l.length
      · have hps2 : i < (⟨l.toArray⟩ : ByteArray).size := by rw [hz]; exact hp
        have hge := str_get l i hp hps2
        by_cases hd : isDig (l[i]'hp) = true
        · have HT : Hid ((l.take (i + 1)).all isDig = true) := by
            show _ = _
            rw [take_snoc_ l i hp, List.all_append, HAll.out, Bool.true_and]
            simp [hd]
          have hd2 : 48 ≤ (l[i]'hp).toNat ∧ (l[i]'hp).toNat ≤ 57 := by unfold isDig at hd; simpa using hd
          obtain ⟨hd3, hd4⟩ := hd2
          generalize (l[i]'hp) = x at *
          go_wp2
          exact ⟨⟨i + 1, by omega, by go_num, by go_num, HT.out⟩, by simp [intOf]; omega⟩
        · have HC : Hid ((dg l).length = i) := by
            show _ = _
            have h1 := (dg_cut l i HAll.out fun _ => by simpa using hd).1
            rw [h1, List.length_take]
            omega
          have hd2 : (l[i]'hp).toNat < 48 ∨ 57 < (l[i]'hp).toNat := by
            unfold isDig at hd
            simp at hd
            omega
          generalize (l[i]'hp) = x at *
          rcases hd2 with hd3 | hd3
          · go_wp2
            go_meet
            exact ⟨by rw [HC.out], rfl⟩
          · have hd4 : decide ((x.toNat : Int) < 48) = false := decide_eq_false (by omega)
            have hd5 : ¬ (x.toNat : Int) < 48 := by omega
            have hd6 : (57 : Int) < (x.toNat : Int) := by omega
            go_wp2
            go_meet
            exact ⟨by rw [HC.out], rfl⟩
      · have HC : Hid ((dg l).length = i) := by
          show _ = _
          have h1 := (dg_cut l i HAll.out fun h => absurd h hp).1
          rw [h1, List.length_take]
          omega
        have hd4 : decide ((i : Int) < (l.length : Int)) = false := decide_eq_false (by omega)
        go_wp2
        go_meet
        exact ⟨by rw [HC.out], rfl⟩
  case rest =>
    obtain ⟨rfl, rfl⟩ := hcut
    generalize wc = w at *
    have hle := dgr_len l
    by_cases hd : dg l = []
    · rw [hd]
      go_wp2
      refine ⟨rfl, ?_⟩
      unfold RDg
      rw [if_pos hd]
      exact ⟨rfl, Bex.of (Below.refl _ _)⟩
    · have HD := Lib.hid hd
      have h0 : 0 < (dg l).length := List.length_pos_iff.2 hd
      have h1 : ((dg l).length : Int) ≠ 0 := by omega
      have h2 : decide (((dg l).length : Int) = 0) = false := decide_eq_false (by omega)
      have e1 : (⟨l.toArray⟩ : ByteArray).extract 0 (dg l).length = ⟨(dg l).toArray⟩ := by
        rw [ext_take]
        have h3 : dg l ++ dr l = l := List.takeWhile_append_dropWhile
        have h4 : l.take (dg l).length = dg l := (congrArg (List.take (dg l).length) h3.symm).trans List.take_left
        rw [h4]
      have e2 : (⟨l.toArray⟩ : ByteArray).extract (dg l).length l.length = ⟨(dr l).toArray⟩ := by
        rw [ext_drop]
        have h3 : dg l ++ dr l = l := List.takeWhile_append_dropWhile
        have h4 : l.drop (dg l).length = dr l := (congrArg (List.drop (dg l).length) h3.symm).trans List.drop_left
        rw [h4]
      have HE1 := Lib.hid e1
      have HE2 := Lib.hid e2
      clear e1 e2
      generalize hk : (dg l).length = k at *
      go_wp2
      go_ret
      unfold RDg
      rw [if_neg HD.out]
      exact ⟨by rw [← HE1.out]; rfl, by rw [HE2.out]; exact HS.out.set _, (Bex.of (Below.refl _ _)).set 0 _⟩
end Go.Proofs.YtbplbbkmfbjkfaaGreatDoor

/- planisphereref01.Parse. -/
namespace Go.Proofs.YtbplbbkmfbjkfaaGreatDoor
open Go.RowKit

theorem Lm.oneK (w : World) (x k : Nat) (X : Int) (hk : w.heap.size = k) (hX : X = (x : Int)) (hx : x < 4294967296) :
    Lm (w.alloc (.cells #[.int .u32 X] 79)) (w.alloc (.cells #[.int .u32 X] 79)).heap.size (some ⟨k, 0, none⟩) 1 1 [x] := by
  subst hk
  exact Lm.one w x X hX hx
/-- What the reference's Parse returns once a sign is off. -/
def RP (w : World) (neg : Bool) (t : List UInt8) (e : Ending) (w' : World) : Prop :=
  if t.all isDig = true then RW w (mkN neg (decV t)) (mkL (decV t)) (mkE (decV t)) e w' else RW w false [] 12 e w'
theorem rp_not {w : World} {neg : Bool} {t : List UInt8} {k : Nat} (hk : k < t.length) (h : (t[k]'hk).toNat < 48 ∨ 57 < (t[k]'hk).toNat) : RP w neg t = RW w false [] 12 := by
  have h1 : t.all isDig = false := by
    rw [List.all_eq_false]
    exact ⟨t[k]'hk, List.getElem_mem hk, by unfold isDig; simp; omega⟩
  funext e w'
  unfold RP
  rw [h1, if_neg (by simp)]
theorem rp_yes {w : World} {neg : Bool} {t : List UInt8} (h : t.all isDig = true) : RP w neg t = RW w (mkN neg (decV t)) (mkL (decV t)) (mkE (decV t)) := by
  funext e w'
  unfold RP
  rw [if_pos h]

set_option maxRecDepth 100000 in
set_option maxHeartbeats 2000000 in
theorem rp_neg (w : World) (c : UInt8) (u : List UInt8) (hl : (c :: u).length ≤ 3000) (h48 : c.toNat ≠ 48) :
    Calls Tryz.prog 42 #[.string ⟨(45 :: c :: u).toArray⟩] w (RP w true (c :: u)) := by
  have hx0 : ∀ h, ((⟨(45 :: c :: u).toArray⟩ : ByteArray)[0]'h).toNat = 45 := fun _ => rfl
  have hx1 : ∀ h, ((⟨(c :: u).toArray⟩ : ByteArray)[0]'h).toNat = c.toNat := fun _ => rfl
  have h49 : ((c.toNat : Int) == 48) = false := by simp; omega
  have hsl : ∀ n, n = u.length + 1 + 1 → (⟨(45 :: c :: u).toArray⟩ : ByteArray).extract 1 n = ⟨(c :: u).toArray⟩ := by
    rintro n rfl
    rw [Lib.extract_eq]
    simp
  have P1 : Pr (w.alloc (.cells #[.bool false, .slice none 0 0] 24)) w.heap.size (.bool false) (.slice none 0 0) := Pr.new w _ rfl _ _ _
  have B1 := Lib.hid ((Below.refl w.heap.size w).alloc (Nat.le_refl _) (.cells #[.bool false, .slice none 0 0] 24))
  have HZ : Hid ((w.alloc (.cells #[.bool false, .slice none 0 0] 24)).heap.size = w.heap.size + 1) := by show (w.heap.push _).size = _; rw [Array.size_push]
  go_enter Tryz.func42, Tryz.ntmps42
  go_wp2
  generalize hW0 : w.alloc (.cells #[.bool false, .slice none 0 0] 24) = W0 at *
  clear hx0 hx1 h49 hsl hW0
  generalize c :: u = t at *
  go_loopw [3, 5] (fun _ i wr => ∃ k : Nat, k ≤ t.length ∧ i = .int .i64 k ∧ wr = W0 ∧ (t.take k).all isDig = true) (fun _ i _ => t.length - (intOf i).toNat)
  case atStart => exact ⟨0, Nat.zero_le _, rfl, rfl, rfl⟩
  case round =>
    obtain ⟨k, hk, rfl, hw, hall⟩ := hrel
    have hw2 := hw.symm
    clear hw
    subst hw2
    have HAll := Lib.hid hall
    clear hall
    have ⟨c0, c1, f0, f1, lt1⟩ := P1
    by_cases hlt : k < t.length
    · have hx : ∀ h, ((⟨t.toArray⟩ : ByteArray)[k]'h).toNat = (t[k]'hlt).toNat := fun _ => rfl
      by_cases hd : 48 ≤ (t[k]'hlt).toNat ∧ (t[k]'hlt).toNat ≤ 57
      · have HD : Hid (isDig (t[k]'hlt) = true) := by show _ = _; unfold isDig; simp [hd.1, hd.2]
        have HT : Hid ((t.take (k + 1)).all isDig = true) := by
          show _ = _
          rw [take_snoc_ t k hlt, List.all_append, HAll.out, List.all_cons, HD.out]
          rfl
        obtain ⟨hd1, hd2⟩ := hd
        generalize (t[k]'hlt).toNat = x at *
        go_wp2
        go_roundw
        case rel =>
          repeat apply Exists.intro
          refine ⟨⟨k + 1, ?_, ?_, trivial, HT.out⟩, rfl⟩
          · omega
          · go_num
        case measure => simp [intOf]; omega
      · have HF := Lib.hid (rp_not (w := w) (neg := true) hlt (by omega))
        rw [HF.out]
        generalize (t[k]'hlt).toNat = x at *
        by_cases h48 : x < 48
        · clear hd
          go_wp2
          exact post_ws Tryz.results42 rfl rfl c0 c1 ⟨none, 0, 0, rfl, Lm.nil _ _, below_set2 B1.out (by omega) _ _⟩
        · have h57 : 57 < x := by omega
          clear hd
          go_wp2
          exact post_ws Tryz.results42 rfl rfl c0 c1 ⟨none, 0, 0, rfl, Lm.nil _ _, below_set2 B1.out (by omega) _ _⟩
    · obtain rfl : k = t.length := by omega
      have HA : Hid (t.all isDig = true) := by
        have e := HAll.out
        rw [List.take_length] at e
        exact e
      rw [rp_yes HA.out]
      clear hlt HAll
      go_wp2
      go_loopw [3, 6, 7] (fun _ lv iv wr => ∃ k c : Nat, ∃ A : Option Addr, k ≤ t.length ∧ iv = .int .i64 k ∧ lv = .slice A (digs (decV (t.take k))).length c ∧ Lm wr wr.heap.size A (digs (decV (t.take k))).length c (digs (decV (t.take k))) ∧ Below W0.heap.size W0 wr) (fun _ _ iv _ => t.length - (intOf iv).toNat)
      case atStart => exact ⟨0, 0, none, Nat.zero_le _, rfl, rfl, Lm.nil _ _, Below.refl _ _⟩
      case round =>
        obtain ⟨k, ca, A, hk2, rfl, rfl, hL, hb⟩ := hrel
        have HL := Lib.hid hL
        have HBl := Lib.hid hb
        have hcA := hL.cap
        have hxA := hL.max
        have hln := decT_len HA.out k
        have Pr_ := P1.below hb P1.lt
        clear hL hb c0 c1 f0 f1 lt1
        have ⟨c0, c1, f0, f1, lt1⟩ := Pr_
        by_cases hlt : k < t.length
        · have hx : ∀ h, ((⟨t.toArray⟩ : ByteArray)[k]'h).toNat = (t[k]'hlt).toNat := fun _ => rfl
          have ⟨hd1, hd2⟩ := all_get HA.out hlt
          have HT := Lib.hid (decV_take hlt)
          have hln1 := decT_len HA.out (k + 1)
          generalize (t[k]'hlt).toNat = x at *
          generalize hnd : (digs (decV (t.take k))).length = n at *
          go_wp2_with fail
          have HWX : Hid (IntKind.u32.wrap (IntKind.u8.wrap ((x : Int) - 48)) = ((x - 48 : Nat) : Int)) := by
            show _ = _
            have e1 : IntKind.u8.wrap ((x : Int) - 48) = (x : Int) - 48 := by rw [IntKind.wrap_u8]; omega
            rw [e1, IntKind.wrap_u32]
            omega
          go_region_with (first
            | (go_at_call 45; refine (rtimes_any _ A _ n 1 ca 1 (digs (decV (t.take k))) [10] (10 * decV (t.take k)) (by (repeat (first | exact HL.out | apply Lm.drewN | apply Lm.drew | apply Lm.box))) (by (repeat (first | exact Lm.oneK _ 10 _ _ (by simp) rfl (by omega) | apply Lm.drewN | apply Lm.drew | apply Lm.box))) (by omega) (by omega) (by rw [digs_val]; rfl)).mono ?_; rintro e w1 ⟨A1, c1, ts, rfl, hL1, hv1, hb1⟩; have b1 : Below W0.heap.size W0 w1 := by { refine (HBl.out).trans (Below.mono ?_ (HBl.out).size); first | exact hb1 | exact bbox hb1 | exact (Below.refl _ _).drew.trans hb1 | exact bbox ((Below.refl _ _).drew.trans hb1) | exact bbox (bbox hb1) | exact bbox (bbox ((Below.refl _ _).drew.trans hb1)) })
            | (go_at_call 78; refine (rplus_any _ A1 _ (n + 1) 1 c1 1 (n + 1) ts [x - 48] (10 * decV (t.take k) + (x - 48)) (by (repeat (first | exact hL1 | apply Lm.drewN | apply Lm.drew | apply Lm.box))) (by (repeat (first | exact Lm.oneK _ (x - 48) _ _ (by simp) HWX.out (by omega) | apply Lm.drewN | apply Lm.drew | apply Lm.box | refine Lm.via ?_ hb1))) (by omega) (by omega) (by rw [hv1]; rfl)).mono ?_; rintro e w2 ⟨A2, c2, ts2, rfl, hL2, hv2, hb2⟩; have b2 : Below W0.heap.size W0 w2 := by { refine (b1).trans (Below.mono ?_ (b1).size); first | exact hb2 | exact bbox hb2 | exact (Below.refl _ _).drew.trans hb2 | exact bbox ((Below.refl _ _).drew.trans hb2) | exact bbox (bbox hb2) | exact bbox (bbox ((Below.refl _ _).drew.trans hb2)) })
            | (go_at_call 77; refine (rtrim_any _ A2 (n + 1 + 1) c2 ts2 (decV (t.take (k + 1))) (by (repeat (first | exact hL2 | apply Lm.drewN | apply Lm.drew | apply Lm.box))) (by (rw [hv2, HT.out]; omega)) (by omega)).mono ?_; rintro e w3 ⟨A3, c3, rfl, hL3, hb3⟩; have b3 : Below W0.heap.size W0 w3 := by { refine (b2).trans (Below.mono ?_ (b2).size); first | exact hb3 | exact bbox hb3 | exact (Below.refl _ _).drew.trans hb3 | exact bbox ((Below.refl _ _).drew.trans hb3) | exact bbox (bbox hb3) | exact bbox (bbox ((Below.refl _ _).drew.trans hb3)) })
            | (trace_state; fail))
          all_goals
            have HL3 := Lib.hid hL3
            have HB3 := Lib.hid b3
            have HT3 : Hid ((digs (decV (t.take (k + 1)))).length ≤ 3000) := Nat.le_trans hln1 hl
            have ht3 : (digs (decV (t.take (k + 1)))).length ≤ 3000 := HT3.out
            clear hL1 hL2 hL3 hb1 hb2 hb3 b1 b2 b3
            have ⟨d0, d1, g0, g1, lt3⟩ := P1.below HB3.out P1.lt
            generalize hn3 : (digs (decV (t.take (k + 1)))).length = n3 at *
            go_wp2
            go_roundw
            case rel =>
              repeat apply Exists.intro
              refine ⟨⟨k + 1, c3, A3, ?_, ?_, ?_, ?_, HB3.out⟩, rfl⟩
              · omega
              · go_num
              · rw [hn3]
              · rw [hn3]; exact HL3.out
            case measure => simp [intOf]; omega
        · obtain rfl : k = t.length := by omega
          rw [List.take_length] at HL
          rw [List.take_length] at hln
          clear hlt
          have hng : (t.length : Int) < (t.length : Int) + 1 := by omega
          have hnd : decide ((t.length : Int) < (t.length : Int) + 1) = true := by simp; omega
          have Pb := Lib.hid Pr_
          clear Pr_
          go_wp2_with fail
          refine (rmade_any _ _ A _ ca (digs (decV t)) (decV t) HL.out (digs_val _) (by omega)).mono ?_
          rintro e w4 ⟨A4, n4, c4, rfl, hL4, hb4⟩
          have HL4 := Lib.hid hL4
          have P4 := Pb.out.via hb4
          have B4 := Lib.hid (HBl.out.trans (hb4.mono HBl.out.size))
          clear hL4 hb4 c0 c1 f0 f1 lt1
          have ⟨c0, c1, f0, f1, lt1⟩ := P4
          go_wp2
          exact post_ws Tryz.results42 rfl rfl c0 c1 (by rw [rp_yes HA.out]; exact ⟨A4, n4, c4, by first | rfl | (rw [hnd]; rfl), HL4.out.setP P4 _ _, below_set2 (B1.out.trans (B4.out.mono B1.out.size)) (by omega) _ _⟩)
end Go.Proofs.YtbplbbkmfbjkfaaGreatDoor

/- planisphereref01.Parse: no sign. -/
namespace Go.Proofs.YtbplbbkmfbjkfaaGreatDoor
open Go.RowKit

set_option maxRecDepth 100000 in
set_option maxHeartbeats 2000000 in
theorem rp_pos (w : World) (c : UInt8) (u : List UInt8) (hl : (c :: u).length ≤ 3000) (h45 : c.toNat ≠ 45) (h48 : c.toNat ≠ 48) :
    Calls Tryz.prog 42 #[.string ⟨(c :: u).toArray⟩] w (RP w false (c :: u)) := by
  have hx0 : ∀ h, ((⟨(c :: u).toArray⟩ : ByteArray)[0]'h).toNat = c.toNat := fun _ => rfl
  have h49 : ((c.toNat : Int) == 48) = false := by simp; omega
  have h50 : ((c.toNat : Int) == 45) = false := by simp; omega
  have hx1 := hx0
  have hsl := hx0
  have P1 : Pr (w.alloc (.cells #[.bool false, .slice none 0 0] 24)) w.heap.size (.bool false) (.slice none 0 0) := Pr.new w _ rfl _ _ _
  have B1 := Lib.hid ((Below.refl w.heap.size w).alloc (Nat.le_refl _) (.cells #[.bool false, .slice none 0 0] 24))
  have HZ : Hid ((w.alloc (.cells #[.bool false, .slice none 0 0] 24)).heap.size = w.heap.size + 1) := by show (w.heap.push _).size = _; rw [Array.size_push]
  go_enter Tryz.func42, Tryz.ntmps42
  go_wp2
  generalize hW0 : w.alloc (.cells #[.bool false, .slice none 0 0] 24) = W0 at *
  clear hx0 hx1 h49 hsl hW0
  generalize c :: u = t at *
  go_loopw [3, 5] (fun _ i wr => ∃ k : Nat, k ≤ t.length ∧ i = .int .i64 k ∧ wr = W0 ∧ (t.take k).all isDig = true) (fun _ i _ => t.length - (intOf i).toNat)
  case atStart => exact ⟨0, Nat.zero_le _, rfl, rfl, rfl⟩
  case round =>
    obtain ⟨k, hk, rfl, hw, hall⟩ := hrel
    have hw2 := hw.symm
    clear hw
    subst hw2
    have HAll := Lib.hid hall
    clear hall
    have ⟨c0, c1, f0, f1, lt1⟩ := P1
    by_cases hlt : k < t.length
    · have hx : ∀ h, ((⟨t.toArray⟩ : ByteArray)[k]'h).toNat = (t[k]'hlt).toNat := fun _ => rfl
      by_cases hd : 48 ≤ (t[k]'hlt).toNat ∧ (t[k]'hlt).toNat ≤ 57
      · have HD : Hid (isDig (t[k]'hlt) = true) := by show _ = _; unfold isDig; simp [hd.1, hd.2]
        have HT : Hid ((t.take (k + 1)).all isDig = true) := by
          show _ = _
          rw [take_snoc_ t k hlt, List.all_append, HAll.out, List.all_cons, HD.out]
          rfl
        obtain ⟨hd1, hd2⟩ := hd
        generalize (t[k]'hlt).toNat = x at *
        go_wp2
        go_roundw
        case rel =>
          repeat apply Exists.intro
          refine ⟨⟨k + 1, ?_, ?_, trivial, HT.out⟩, rfl⟩
          · omega
          · go_num
        case measure => simp [intOf]; omega
      · have HF := Lib.hid (rp_not (w := w) (neg := false) hlt (by omega))
        rw [HF.out]
        generalize (t[k]'hlt).toNat = x at *
        by_cases h48 : x < 48
        · clear hd
          go_wp2
          exact post_ws Tryz.results42 rfl rfl c0 c1 ⟨none, 0, 0, rfl, Lm.nil _ _, below_set2 B1.out (by omega) _ _⟩
        · have h57 : 57 < x := by omega
          clear hd
          go_wp2
          exact post_ws Tryz.results42 rfl rfl c0 c1 ⟨none, 0, 0, rfl, Lm.nil _ _, below_set2 B1.out (by omega) _ _⟩
    · obtain rfl : k = t.length := by omega
      have HA : Hid (t.all isDig = true) := by
        have e := HAll.out
        rw [List.take_length] at e
        exact e
      rw [rp_yes HA.out]
      clear hlt HAll
      go_wp2
      go_loopw [3, 6, 7] (fun _ lv iv wr => ∃ k c : Nat, ∃ A : Option Addr, k ≤ t.length ∧ iv = .int .i64 k ∧ lv = .slice A (digs (decV (t.take k))).length c ∧ Lm wr wr.heap.size A (digs (decV (t.take k))).length c (digs (decV (t.take k))) ∧ Below W0.heap.size W0 wr) (fun _ _ iv _ => t.length - (intOf iv).toNat)
      case atStart => exact ⟨0, 0, none, Nat.zero_le _, rfl, rfl, Lm.nil _ _, Below.refl _ _⟩
      case round =>
        obtain ⟨k, ca, A, hk2, rfl, rfl, hL, hb⟩ := hrel
        have HL := Lib.hid hL
        have HBl := Lib.hid hb
        have hcA := hL.cap
        have hxA := hL.max
        have hln := decT_len HA.out k
        have Pr_ := P1.below hb P1.lt
        clear hL hb c0 c1 f0 f1 lt1
        have ⟨c0, c1, f0, f1, lt1⟩ := Pr_
        by_cases hlt : k < t.length
        · have hx : ∀ h, ((⟨t.toArray⟩ : ByteArray)[k]'h).toNat = (t[k]'hlt).toNat := fun _ => rfl
          have ⟨hd1, hd2⟩ := all_get HA.out hlt
          have HT := Lib.hid (decV_take hlt)
          have hln1 := decT_len HA.out (k + 1)
          generalize (t[k]'hlt).toNat = x at *
          generalize hnd : (digs (decV (t.take k))).length = n at *
          go_wp2_with fail
          have HWX : Hid (IntKind.u32.wrap (IntKind.u8.wrap ((x : Int) - 48)) = ((x - 48 : Nat) : Int)) := by
            show _ = _
            have e1 : IntKind.u8.wrap ((x : Int) - 48) = (x : Int) - 48 := by rw [IntKind.wrap_u8]; omega
            rw [e1, IntKind.wrap_u32]
            omega
          go_region_with (first
            | (go_at_call 45; refine (rtimes_any _ A _ n 1 ca 1 (digs (decV (t.take k))) [10] (10 * decV (t.take k)) (by (repeat (first | exact HL.out | apply Lm.drewN | apply Lm.drew | apply Lm.box))) (by (repeat (first | exact Lm.oneK _ 10 _ _ (by simp) rfl (by omega) | apply Lm.drewN | apply Lm.drew | apply Lm.box))) (by omega) (by omega) (by rw [digs_val]; rfl)).mono ?_; rintro e w1 ⟨A1, c1, ts, rfl, hL1, hv1, hb1⟩; have b1 : Below W0.heap.size W0 w1 := by { refine (HBl.out).trans (Below.mono ?_ (HBl.out).size); first | exact hb1 | exact bbox hb1 | exact (Below.refl _ _).drew.trans hb1 | exact bbox ((Below.refl _ _).drew.trans hb1) | exact bbox (bbox hb1) | exact bbox (bbox ((Below.refl _ _).drew.trans hb1)) })
            | (go_at_call 78; refine (rplus_any _ A1 _ (n + 1) 1 c1 1 (n + 1) ts [x - 48] (10 * decV (t.take k) + (x - 48)) (by (repeat (first | exact hL1 | apply Lm.drewN | apply Lm.drew | apply Lm.box))) (by (repeat (first | exact Lm.oneK _ (x - 48) _ _ (by simp) HWX.out (by omega) | apply Lm.drewN | apply Lm.drew | apply Lm.box | refine Lm.via ?_ hb1))) (by omega) (by omega) (by rw [hv1]; rfl)).mono ?_; rintro e w2 ⟨A2, c2, ts2, rfl, hL2, hv2, hb2⟩; have b2 : Below W0.heap.size W0 w2 := by { refine (b1).trans (Below.mono ?_ (b1).size); first | exact hb2 | exact bbox hb2 | exact (Below.refl _ _).drew.trans hb2 | exact bbox ((Below.refl _ _).drew.trans hb2) | exact bbox (bbox hb2) | exact bbox (bbox ((Below.refl _ _).drew.trans hb2)) })
            | (go_at_call 77; refine (rtrim_any _ A2 (n + 1 + 1) c2 ts2 (decV (t.take (k + 1))) (by (repeat (first | exact hL2 | apply Lm.drewN | apply Lm.drew | apply Lm.box))) (by (rw [hv2, HT.out]; omega)) (by omega)).mono ?_; rintro e w3 ⟨A3, c3, rfl, hL3, hb3⟩; have b3 : Below W0.heap.size W0 w3 := by { refine (b2).trans (Below.mono ?_ (b2).size); first | exact hb3 | exact bbox hb3 | exact (Below.refl _ _).drew.trans hb3 | exact bbox ((Below.refl _ _).drew.trans hb3) | exact bbox (bbox hb3) | exact bbox (bbox ((Below.refl _ _).drew.trans hb3)) })
            | (trace_state; fail))
          all_goals
            have HL3 := Lib.hid hL3
            have HB3 := Lib.hid b3
            have HT3 : Hid ((digs (decV (t.take (k + 1)))).length ≤ 3000) := Nat.le_trans hln1 hl
            have ht3 : (digs (decV (t.take (k + 1)))).length ≤ 3000 := HT3.out
            clear hL1 hL2 hL3 hb1 hb2 hb3 b1 b2 b3
            have ⟨d0, d1, g0, g1, lt3⟩ := P1.below HB3.out P1.lt
            generalize hn3 : (digs (decV (t.take (k + 1)))).length = n3 at *
            go_wp2
            go_roundw
            case rel =>
              repeat apply Exists.intro
              refine ⟨⟨k + 1, c3, A3, ?_, ?_, ?_, ?_, HB3.out⟩, rfl⟩
              · omega
              · go_num
              · rw [hn3]
              · rw [hn3]; exact HL3.out
            case measure => simp [intOf]; omega
        · obtain rfl : k = t.length := by omega
          rw [List.take_length] at HL
          rw [List.take_length] at hln
          clear hlt
          have hng : (t.length : Int) < (t.length : Int) + 1 := by omega
          have hnd : decide ((t.length : Int) < (t.length : Int) + 1) = true := by simp; omega
          have Pb := Lib.hid Pr_
          clear Pr_
          go_wp2_with fail
          refine (rmade_any _ _ A _ ca (digs (decV t)) (decV t) HL.out (digs_val _) (by omega)).mono ?_
          rintro e w4 ⟨A4, n4, c4, rfl, hL4, hb4⟩
          have HL4 := Lib.hid hL4
          have P4 := Pb.out.via hb4
          have B4 := Lib.hid (HBl.out.trans (hb4.mono HBl.out.size))
          clear hL4 hb4 c0 c1 f0 f1 lt1
          have ⟨c0, c1, f0, f1, lt1⟩ := P4
          go_wp2
          exact post_ws Tryz.results42 rfl rfl c0 c1 (by rw [rp_yes HA.out]; exact ⟨A4, n4, c4, by first | rfl | (rw [hnd]; rfl), HL4.out.setP P4 _ _, below_set2 (B1.out.trans (B4.out.mono B1.out.size)) (by omega) _ _⟩)
end Go.Proofs.YtbplbbkmfbjkfaaGreatDoor

/- planisphereref01.Parse: 0. -/
namespace Go.Proofs.YtbplbbkmfbjkfaaGreatDoor
open Go.RowKit

set_option maxRecDepth 100000 in
set_option maxHeartbeats 2000000 in
theorem rp_zero (w : World) (c : UInt8) (u : List UInt8) (hl : (c :: u).length ≤ 3000) (h48 : c.toNat = 48) (hu : u.length = 0) :
    Calls Tryz.prog 42 #[.string ⟨(c :: u).toArray⟩] w (RP w false (c :: u)) := by
  have hx0 : ∀ h, ((⟨(c :: u).toArray⟩ : ByteArray)[0]'h).toNat = c.toNat := fun _ => rfl
  have h49 : ((c.toNat : Int) == 48) = true := by simp; omega
  have h50 : ((c.toNat : Int) == 45) = false := by simp; omega
  have hz : decide ((1 : Int) < (u.length : Int) + 1) = false := by simp; omega
  have hx1 := hx0
  have hsl := hx0
  have P1 : Pr (w.alloc (.cells #[.bool false, .slice none 0 0] 24)) w.heap.size (.bool false) (.slice none 0 0) := Pr.new w _ rfl _ _ _
  have B1 := Lib.hid ((Below.refl w.heap.size w).alloc (Nat.le_refl _) (.cells #[.bool false, .slice none 0 0] 24))
  have HZ : Hid ((w.alloc (.cells #[.bool false, .slice none 0 0] 24)).heap.size = w.heap.size + 1) := by show (w.heap.push _).size = _; rw [Array.size_push]
  go_enter Tryz.func42, Tryz.ntmps42
  go_wp2
  generalize hW0 : w.alloc (.cells #[.bool false, .slice none 0 0] 24) = W0 at *
  clear hx0 hx1 h49 hsl hW0
  generalize c :: u = t at *
  go_loopw [3, 5] (fun _ i wr => ∃ k : Nat, k ≤ t.length ∧ i = .int .i64 k ∧ wr = W0 ∧ (t.take k).all isDig = true) (fun _ i _ => t.length - (intOf i).toNat)
  case atStart => exact ⟨0, Nat.zero_le _, rfl, rfl, rfl⟩
  case round =>
    obtain ⟨k, hk, rfl, hw, hall⟩ := hrel
    have hw2 := hw.symm
    clear hw
    subst hw2
    have HAll := Lib.hid hall
    clear hall
    have ⟨c0, c1, f0, f1, lt1⟩ := P1
    by_cases hlt : k < t.length
    · have hx : ∀ h, ((⟨t.toArray⟩ : ByteArray)[k]'h).toNat = (t[k]'hlt).toNat := fun _ => rfl
      by_cases hd : 48 ≤ (t[k]'hlt).toNat ∧ (t[k]'hlt).toNat ≤ 57
      · have HD : Hid (isDig (t[k]'hlt) = true) := by show _ = _; unfold isDig; simp [hd.1, hd.2]
        have HT : Hid ((t.take (k + 1)).all isDig = true) := by
          show _ = _
          rw [take_snoc_ t k hlt, List.all_append, HAll.out, List.all_cons, HD.out]
          rfl
        obtain ⟨hd1, hd2⟩ := hd
        generalize (t[k]'hlt).toNat = x at *
        go_wp2
        go_roundw
        case rel =>
          first
            | exact ⟨k + 1, by omega, by go_num, trivial, HT.out⟩
            | (repeat apply Exists.intro
               refine ⟨⟨k + 1, ?_, ?_, trivial, HT.out⟩, rfl⟩
               · omega
               · go_num)
        case measure => simp [intOf]; omega
      · have HF := Lib.hid (rp_not (w := w) (neg := false) hlt (by omega))
        rw [HF.out]
        generalize (t[k]'hlt).toNat = x at *
        by_cases h48 : x < 48
        · clear hd
          go_wp2
          exact post_ws Tryz.results42 rfl rfl c0 c1 ⟨none, 0, 0, rfl, Lm.nil _ _, below_set2 B1.out (by omega) _ _⟩
        · have h57 : 57 < x := by omega
          clear hd
          go_wp2
          exact post_ws Tryz.results42 rfl rfl c0 c1 ⟨none, 0, 0, rfl, Lm.nil _ _, below_set2 B1.out (by omega) _ _⟩
    · obtain rfl : k = t.length := by omega
      have HA : Hid (t.all isDig = true) := by
        have e := HAll.out
        rw [List.take_length] at e
        exact e
      rw [rp_yes HA.out]
      clear hlt HAll
      go_wp2
      go_loopw [3, 6, 7] (fun _ lv iv wr => ∃ k c : Nat, ∃ A : Option Addr, k ≤ t.length ∧ iv = .int .i64 k ∧ lv = .slice A (digs (decV (t.take k))).length c ∧ Lm wr wr.heap.size A (digs (decV (t.take k))).length c (digs (decV (t.take k))) ∧ Below W0.heap.size W0 wr) (fun _ _ iv _ => t.length - (intOf iv).toNat)
      case atStart => exact ⟨0, 0, none, Nat.zero_le _, rfl, rfl, Lm.nil _ _, Below.refl _ _⟩
      case round =>
        obtain ⟨k, ca, A, hk2, rfl, rfl, hL, hb⟩ := hrel
        have HL := Lib.hid hL
        have HBl := Lib.hid hb
        have hcA := hL.cap
        have hxA := hL.max
        have hln := decT_len HA.out k
        have Pr_ := P1.below hb P1.lt
        clear hL hb c0 c1 f0 f1 lt1
        have ⟨c0, c1, f0, f1, lt1⟩ := Pr_
        by_cases hlt : k < t.length
        · have hx : ∀ h, ((⟨t.toArray⟩ : ByteArray)[k]'h).toNat = (t[k]'hlt).toNat := fun _ => rfl
          have ⟨hd1, hd2⟩ := all_get HA.out hlt
          have HT := Lib.hid (decV_take hlt)
          have hln1 := decT_len HA.out (k + 1)
          generalize (t[k]'hlt).toNat = x at *
          generalize hnd : (digs (decV (t.take k))).length = n at *
          go_wp2_with fail
          have HWX : Hid (IntKind.u32.wrap (IntKind.u8.wrap ((x : Int) - 48)) = ((x - 48 : Nat) : Int)) := by
            show _ = _
            have e1 : IntKind.u8.wrap ((x : Int) - 48) = (x : Int) - 48 := by rw [IntKind.wrap_u8]; omega
            rw [e1, IntKind.wrap_u32]
            omega
          go_region_with (first
            | (go_at_call 45; refine (rtimes_any _ A _ n 1 ca 1 (digs (decV (t.take k))) [10] (10 * decV (t.take k)) (by (repeat (first | exact HL.out | apply Lm.drewN | apply Lm.drew | apply Lm.box))) (by (repeat (first | exact Lm.oneK _ 10 _ _ (by simp) rfl (by omega) | apply Lm.drewN | apply Lm.drew | apply Lm.box))) (by omega) (by omega) (by rw [digs_val]; rfl)).mono ?_; rintro e w1 ⟨A1, c1, ts, rfl, hL1, hv1, hb1⟩; have b1 : Below W0.heap.size W0 w1 := by { refine (HBl.out).trans (Below.mono ?_ (HBl.out).size); first | exact hb1 | exact bbox hb1 | exact (Below.refl _ _).drew.trans hb1 | exact bbox ((Below.refl _ _).drew.trans hb1) | exact bbox (bbox hb1) | exact bbox (bbox ((Below.refl _ _).drew.trans hb1)) })
            | (go_at_call 78; refine (rplus_any _ A1 _ (n + 1) 1 c1 1 (n + 1) ts [x - 48] (10 * decV (t.take k) + (x - 48)) (by (repeat (first | exact hL1 | apply Lm.drewN | apply Lm.drew | apply Lm.box))) (by (repeat (first | exact Lm.oneK _ (x - 48) _ _ (by simp) HWX.out (by omega) | apply Lm.drewN | apply Lm.drew | apply Lm.box | refine Lm.via ?_ hb1))) (by omega) (by omega) (by rw [hv1]; rfl)).mono ?_; rintro e w2 ⟨A2, c2, ts2, rfl, hL2, hv2, hb2⟩; have b2 : Below W0.heap.size W0 w2 := by { refine (b1).trans (Below.mono ?_ (b1).size); first | exact hb2 | exact bbox hb2 | exact (Below.refl _ _).drew.trans hb2 | exact bbox ((Below.refl _ _).drew.trans hb2) | exact bbox (bbox hb2) | exact bbox (bbox ((Below.refl _ _).drew.trans hb2)) })
            | (go_at_call 77; refine (rtrim_any _ A2 (n + 1 + 1) c2 ts2 (decV (t.take (k + 1))) (by (repeat (first | exact hL2 | apply Lm.drewN | apply Lm.drew | apply Lm.box))) (by (rw [hv2, HT.out]; omega)) (by omega)).mono ?_; rintro e w3 ⟨A3, c3, rfl, hL3, hb3⟩; have b3 : Below W0.heap.size W0 w3 := by { refine (b2).trans (Below.mono ?_ (b2).size); first | exact hb3 | exact bbox hb3 | exact (Below.refl _ _).drew.trans hb3 | exact bbox ((Below.refl _ _).drew.trans hb3) | exact bbox (bbox hb3) | exact bbox (bbox ((Below.refl _ _).drew.trans hb3)) })
            | fail)
          all_goals
            have HL3 := Lib.hid hL3
            have HB3 := Lib.hid b3
            have HT3 : Hid ((digs (decV (t.take (k + 1)))).length ≤ 3000) := Nat.le_trans hln1 hl
            have ht3 : (digs (decV (t.take (k + 1)))).length ≤ 3000 := HT3.out
            clear hL1 hL2 hL3 hb1 hb2 hb3 b1 b2 b3
            have ⟨d0, d1, g0, g1, lt3⟩ := P1.below HB3.out P1.lt
            generalize hn3 : (digs (decV (t.take (k + 1)))).length = n3 at *
            go_wp2
            go_roundw
            case rel =>
              first
                | exact ⟨k + 1, c3, A3, by omega, by go_num, by rw [hn3], by rw [hn3]; exact HL3.out, HB3.out⟩
                | (repeat apply Exists.intro
                   refine ⟨⟨k + 1, c3, A3, ?_, ?_, ?_, ?_, HB3.out⟩, rfl⟩
                   · omega
                   · go_num
                   · rw [hn3]
                   · rw [hn3]; exact HL3.out)
            case measure => simp [intOf]; omega
        · obtain rfl : k = t.length := by omega
          rw [List.take_length] at HL
          rw [List.take_length] at hln
          clear hlt
          have hng : (t.length : Int) < (t.length : Int) + 1 := by omega
          have hnd : decide ((t.length : Int) < (t.length : Int) + 1) = true := by simp; omega
          have Pb := Lib.hid Pr_
          clear Pr_
          go_wp2_with fail
          refine (rmade_any _ _ A _ ca (digs (decV t)) (decV t) HL.out (digs_val _) (by omega)).mono ?_
          rintro e w4 ⟨A4, n4, c4, rfl, hL4, hb4⟩
          have HL4 := Lib.hid hL4
          have P4 := Pb.out.via hb4
          have B4 := Lib.hid (HBl.out.trans (hb4.mono HBl.out.size))
          clear hL4 hb4 c0 c1 f0 f1 lt1
          have ⟨c0, c1, f0, f1, lt1⟩ := P4
          go_wp2
          exact post_ws Tryz.results42 rfl rfl c0 c1 (by rw [rp_yes HA.out]; exact ⟨A4, n4, c4, by first | rfl | (rw [hnd]; rfl), HL4.out.setP P4 _ _, below_set2 (B1.out.trans (B4.out.mono B1.out.size)) (by omega) _ _⟩)
end Go.Proofs.YtbplbbkmfbjkfaaGreatDoor

/- planisphereref01.Parse: what has no form; Parse at every string. -/
namespace Go.Proofs.YtbplbbkmfbjkfaaGreatDoor
open Go.RowKit

set_option maxRecDepth 100000 in
set_option maxHeartbeats 1000000 in
theorem rpf_nil (w : World)  :
    Calls Tryz.prog 42 #[.string ⟨([] : List UInt8).toArray⟩] w (RW w false [] 12) := by
  have P1 : Pr (w.alloc (.cells #[.bool false, .slice none 0 0] 24)) w.heap.size (.bool false) (.slice none 0 0) := Pr.new w _ rfl _ _ _
  have B1 := Lib.hid ((Below.refl w.heap.size w).alloc (Nat.le_refl _) (.cells #[.bool false, .slice none 0 0] 24))
  go_enter Tryz.func42, Tryz.ntmps42
  go_wp2
  exact post_w Tryz.results42 rfl rfl P1.c0 P1.c1 ⟨none, 0, 0, rfl, Lm.nil _ _, B1.out⟩

set_option maxRecDepth 100000 in
set_option maxHeartbeats 1000000 in
theorem rpf_sign (w : World)  :
    Calls Tryz.prog 42 #[.string ⟨([45] : List UInt8).toArray⟩] w (RW w false [] 12) := by
  have hx0 : ∀ h, ((⟨([45] : List UInt8).toArray⟩ : ByteArray)[0]'h).toNat = 45 := fun _ => rfl
  have hsl : (⟨([45] : List UInt8).toArray⟩ : ByteArray).extract 1 1 = ⟨#[]⟩ := by rw [Lib.extract_eq]; simp
  have P1 : Pr (w.alloc (.cells #[.bool false, .slice none 0 0] 24)) w.heap.size (.bool false) (.slice none 0 0) := Pr.new w _ rfl _ _ _
  have B1 := Lib.hid ((Below.refl w.heap.size w).alloc (Nat.le_refl _) (.cells #[.bool false, .slice none 0 0] 24))
  go_enter Tryz.func42, Tryz.ntmps42
  go_wp2
  exact post_w Tryz.results42 rfl rfl P1.c0 P1.c1 ⟨none, 0, 0, rfl, Lm.nil _ _, B1.out⟩

set_option maxRecDepth 100000 in
set_option maxHeartbeats 1000000 in
theorem rpf_nzero (w : World) (u : List UInt8) :
    Calls Tryz.prog 42 #[.string ⟨(45 :: 48 :: u : List UInt8).toArray⟩] w (RW w false [] 12) := by
  have hx0 : ∀ h, ((⟨(45 :: 48 :: u : List UInt8).toArray⟩ : ByteArray)[0]'h).toNat = 45 := fun _ => rfl
  have hx1 : ∀ h, ((⟨(48 :: u : List UInt8).toArray⟩ : ByteArray)[0]'h).toNat = 48 := fun _ => rfl
  have hsl : ∀ n, n = u.length + 1 + 1 → (⟨(45 :: 48 :: u).toArray⟩ : ByteArray).extract 1 n = ⟨(48 :: u).toArray⟩ := by
    rintro n rfl
    rw [Lib.extract_eq]
    simp
  have P1 : Pr (w.alloc (.cells #[.bool false, .slice none 0 0] 24)) w.heap.size (.bool false) (.slice none 0 0) := Pr.new w _ rfl _ _ _
  have B1 := Lib.hid ((Below.refl w.heap.size w).alloc (Nat.le_refl _) (.cells #[.bool false, .slice none 0 0] 24))
  go_enter Tryz.func42, Tryz.ntmps42
  go_wp2
  exact post_w Tryz.results42 rfl rfl P1.c0 P1.c1 ⟨none, 0, 0, rfl, Lm.nil _ _, B1.out⟩

set_option maxRecDepth 100000 in
set_option maxHeartbeats 1000000 in
theorem rpf_zero (w : World) (d : UInt8) (u : List UInt8) :
    Calls Tryz.prog 42 #[.string ⟨(48 :: d :: u : List UInt8).toArray⟩] w (RW w false [] 12) := by
  have hx0 : ∀ h, ((⟨(48 :: d :: u : List UInt8).toArray⟩ : ByteArray)[0]'h).toNat = 48 := fun _ => rfl
  have P1 : Pr (w.alloc (.cells #[.bool false, .slice none 0 0] 24)) w.heap.size (.bool false) (.slice none 0 0) := Pr.new w _ rfl _ _ _
  have B1 := Lib.hid ((Below.refl w.heap.size w).alloc (Nat.le_refl _) (.cells #[.bool false, .slice none 0 0] 24))
  go_enter Tryz.func42, Tryz.ntmps42
  go_wp2
  exact post_w Tryz.results42 rfl rfl P1.c0 P1.c1 ⟨none, 0, 0, rfl, Lm.nil _ _, B1.out⟩

/-- What Parse returns. -/
def RPz (w : World) (l : List UInt8) (e : Ending) (w' : World) : Prop := if pOk l = true then RW w (mkN (minus l).1 (decV (minus l).2)) (mkL (decV (minus l).2)) (mkE (decV (minus l).2)) e w' else RW w false [] 12 e w'
theorem rpz_rp {w : World} {neg : Bool} {t : List UInt8} {l : List UInt8} (hm : minus l = (neg, t)) (h : t.all isDig = true → pOk l = true) : RP w neg t = RPz w l := by
  funext e w'
  unfold RP RPz
  rw [hm]
  by_cases h1 : t.all isDig = true
  · rw [if_pos h1, if_pos (h h1)]
  · have h2 : ¬ pOk l = true := fun h2 => by
      unfold pOk at h2
      rw [hm, Bool.and_eq_true] at h2
      exact h1 (txtOk_all h2.1)
    rw [if_neg h1, if_neg h2]
theorem rpz_bad {w : World} {l : List UInt8} (h : pOk l = false) : RPz w l = RW w false [] 12 := by
  funext e w'
  unfold RPz
  rw [h, if_neg (by simp)]
theorem minus_ne {c : UInt8} {u : List UInt8} (h : c.toNat ≠ 45) : minus (c :: u) = (false, c :: u) := by
  unfold minus
  split
  · rename_i e
    injection e with e _
    subst e
    exact absurd rfl h
  · rfl
theorem rparse_any (w : World) (l : List UInt8) (hl : l.length ≤ 3000) : Calls Tryz.prog 42 #[.string ⟨l.toArray⟩] w (RPz w l) := by
  rcases l with _ | ⟨c, u⟩
  · rw [rpz_bad (by decide)]
    exact rpf_nil w
  · by_cases h45 : c.toNat = 45
    · obtain rfl : c = 45 := UInt8.toNat_inj.1 h45
      rcases u with _ | ⟨d, v⟩
      · rw [rpz_bad (by decide)]
        exact rpf_sign w
      · by_cases h48 : d.toNat = 48
        · obtain rfl : d = 48 := UInt8.toNat_inj.1 h48
          rw [rpz_bad]
          · exact rpf_nzero w v
          · show (txtOk (48 :: v) && !(true && decide (48 :: v = [48]))) = false
            cases v with
            | nil => decide
            | cons x v => unfold txtOk; simp
        · rw [← rpz_rp (neg := true) (t := d :: v) rfl]
          · exact rp_neg w d v (by simp only [List.length_cons] at hl ⊢; omega) h48
          · intro h
            show (txtOk (d :: v) && !(true && decide (d :: v = [48]))) = true
            have hd : d ≠ 48 := fun e => h48 (by rw [e]; rfl)
            unfold txtOk
            rw [h]
            simp [hd]
    · by_cases h48 : c.toNat = 48
      · obtain rfl : c = 48 := UInt8.toNat_inj.1 h48
        rcases u with _ | ⟨d, v⟩
        · rw [← rpz_rp (neg := false) (t := [48]) (minus_ne h45) (fun _ => by decide)]
          exact rp_zero w 48 [] (by simp) rfl rfl
        · rw [rpz_bad]
          · exact rpf_zero w d v
          · unfold pOk
            rw [minus_ne h45]
            unfold txtOk
            simp
      · rw [← rpz_rp (neg := false) (t := c :: u) (minus_ne h45)]
        · exact rp_pos w c u hl h45 h48
        · intro h
          have hd : c ≠ 48 := fun e => h48 (by rw [e]; rfl)
          unfold pOk
          rw [minus_ne h45]
          unfold txtOk
          rw [h]
          simp [hd]
end Go.Proofs.YtbplbbkmfbjkfaaGreatDoor

/- planisphereref01.Text where a number is bad; Parse and Text in whole numbers. -/
namespace Go.Proofs.YtbplbbkmfbjkfaaGreatDoor
open Go.RowKit

theorem rtext_n (w : World) (A : Option Addr) (n c k : Nat) (x : Int) {na : Bool} (hA : Lm w w.heap.size A n c (digs x.natAbs)) (hx : Sz k x) (hk : k ≤ 4096) (ha : decide (x < 0) = na) :
    Calls Tryz.prog 26 #[.agg #[.bool na, .slice A n c]] w fun e w' => e = .returned (.tuple #[.string ⟨(txt (decide (x < 0)) x.natAbs).toArray⟩, .int .i64 0]) ∧ Below w.heap.size w w' := by
  subst ha
  exact rtext_ok w _ A n c _ hA (chk_z hx hk)
theorem rparse_n (w : World) (l : List UInt8) (h : pOk l = true) (hl : l.length ≤ 3000) :
    Calls Tryz.prog 42 #[.string ⟨l.toArray⟩] w (RN w (pZ l)) := by
  have h1 := rparse_any w l hl
  have e : RPz w l = RW w (mkN (minus l).1 (decV (minus l).2)) (mkL (decV (minus l).2)) (mkE (decV (minus l).2)) := by funext e w'; unfold RPz; rw [if_pos h]
  rw [e, ← pZ_neg h, ← pZ_abs] at h1
  have h2 := mkN_z (pZ_sz h hl) (by omega)
  rw [h2.1, h2.2.1, h2.2.2] at h1
  exact h1
end Go.Proofs.YtbplbbkmfbjkfaaGreatDoor

/- The reference's Pow. -/
namespace Go.Proofs.YtbplbbkmfbjkfaaGreatDoor
open Go.RowKit

theorem rmul_rz (w : World) (A B : Option Addr) (n m ca cb : Nat) (x y : Int) {na nb : Bool} (hA : Lm w w.heap.size A n ca (digs x.natAbs)) (hB : Lm w w.heap.size B m cb (digs y.natAbs)) (hx : (digs x.natAbs).length ≤ 4096) (hy : (digs y.natAbs).length ≤ 4096) (ha : decide (x < 0) = na) (hb : decide (y < 0) = nb) :
    Calls Tryz.prog 19 #[.agg #[.bool na, .slice A n ca], .agg #[.bool nb, .slice B m cb]] w (RZ w (x * y)) := by
  subst ha hb
  have h := rmul_ok w _ _ A B n m ca cb _ _ hA hB (chkB_z (digs_len.1 hx) (Nat.le_refl _) (digs_len.1 hy) (Nat.le_refl _))
  have e1 := rz_of w (decide (x < 0) != decide (y < 0)) (x.natAbs * y.natAbs) (z := x * y) (by rw [← toI_mul, toI_self, toI_self])
  rw [e1] at h
  exact h

set_option maxRecDepth 100000 in
set_option maxHeartbeats 2000000 in
theorem rpow_ok (w : World) (A : Option Addr) (n c k : Nat) (x : Int) {na : Bool} (h : Lm w w.heap.size A n c (digs x.natAbs)) (hx : (digs x.natAbs).length ≤ 4096) (hk : k ≤ 1000) (ha : decide (x < 0) = na) :
    Calls Tryz.prog 46 #[.agg #[.bool na, .slice A n c], .int .i64 (k : Int)] w (RZ w (x ^ k)) := by
  have HH := Lib.hid h
  have HX := Lib.hid hx
  have HN := Lib.hid ha
  have HC : Hid (chk na (digs x.natAbs) = 0) := by show _ = _; rw [← ha]; exact chk_z (digs_len.1 hx) (Nat.le_refl _)
  have hkd : decide ((k : Int) < 0) = false := decide_eq_false (by omega)
  have hkd2 : decide ((1000 : Int) < (k : Int)) = false := decide_eq_false (by omega)
  clear h hx ha
  go_enter Tryz.func46, Tryz.ntmps46
  go_wp2_with fail
  refine (rcheck_ok _ _ _ _ _ _ ((HH.out.box _).box _) HC.out).mono ?_
  rintro e w1 ⟨rfl, hb1⟩
  have P0 := Lib.hid (((Pr.new w _ rfl (.bool na) (.slice A n c) 24).alloc (.cells #[.bool false, .slice none 0 0] 24)).via hb1)
  have P1 := Lib.hid ((Pr.new (w.alloc (.cells #[.bool na, .slice A n c] 24)) (w.heap.size + 1) (by simp) (.bool false) (.slice none 0 0) 24).via hb1)
  have L1 := Lib.hid (((HH.out.box _).box _).via hb1)
  have B1 := Lib.hid (bbox (bbox hb1))
  clear hb1
  go_wp2_with fail
  refine (rfrom_any _ 1 (by omega) (by omega)).mono ?_
  rintro e w2 ⟨A2, n2, c2, rfl, hL2, hb2⟩
  have P0' := Lib.hid (P0.out.via hb2)
  have P1' := Lib.hid (P1.out.via hb2)
  have L1' := Lib.hid (L1.out.via hb2)
  have B2 := Lib.hid (B1.out.trans (hb2.mono B1.out.size))
  have L2 := Lib.hid hL2
  clear hL2 hb2 P0 P1 L1 B1
  have P2 := Lib.hid (Pr.new w2 _ rfl (.bool false) (.slice A2 n2 c2) 24)
  have P0 := Lib.hid (P0'.out.alloc (.cells #[.bool false, .slice A2 n2 c2] 24))
  have P1 := Lib.hid (P1'.out.alloc (.cells #[.bool false, .slice A2 n2 c2] 24))
  have L1 := Lib.hid (L1'.out.box (.cells #[.bool false, .slice A2 n2 c2] 24))
  have L3 := Lib.hid (L2.out.box (.cells #[.bool false, .slice A2 n2 c2] 24))
  have B3 := Lib.hid (B2.out.alloc B2.out.size (.cells #[.bool false, .slice A2 n2 c2] 24))
  have hg7 : w.heap.size + 1 < w2.heap.size := P1'.out.lt
  have hd1 : decide ((1 : Int) < 0) = false := rfl
  clear P0' P1' L1' L2 B2
  go_wp2
  generalize w2.alloc (.cells #[.bool false, .slice A2 n2 c2] 24) = W3 at *
  generalize w2.heap.size = g at *
  go_loopw [7] (fun iv wr => ∃ (j : Nat) (ny : Bool) (A' : Option Addr) (n' c' : Nat), j ≤ k ∧ iv = .int .i64 (j : Int) ∧ Pr wr g (.bool ny) (.slice A' n' c') ∧ Lm wr wr.heap.size A' n' c' (digs (x ^ j).natAbs) ∧ ny = decide (x ^ j < 0) ∧ (digs (x ^ j).natAbs).length ≤ 4096 ∧
      Pr wr w.heap.size (.bool na) (.slice A n c) ∧ Pr wr (w.heap.size + 1) (.bool false) (.slice none 0 0) ∧ Lm wr wr.heap.size A n c (digs x.natAbs) ∧ Below w.heap.size w wr) (fun iv _ => k - (intOf iv).toNat)
  case atStart =>
    refine ⟨0, false, A2, n2, c2, Nat.zero_le _, rfl, P2.out, ?_, ?_, ?_, P0.out, P1.out, L1.out, B3.out⟩
    · rw [Int.pow_zero]; exact L3.out
    · rw [Int.pow_zero]; rfl
    · rw [Int.pow_zero]; decide
  case round =>
    obtain ⟨j, ny, A', n', c', hj, rfl, hP, hY, hny, hyl, hP0, hP1, hL, hB⟩ := hrel
    have HP := Lib.hid hP
    have HP0 := Lib.hid hP0
    have HP1 := Lib.hid hP1
    have HL := Lib.hid hL
    have HB := Lib.hid hB
    have HY := Lib.hid hY
    have HNy := Lib.hid hny.symm
    have HFy := Lib.hid hyl
    clear P0 P1 P2 L1 L3 B3 hP hP0 hP1 hL hB hY hny hyl
    have ⟨p0, p1, _, _, _⟩ := HP.out
    have ⟨w0, w1, _, _, _⟩ := HP0.out
    have ⟨r0, r1, _, _, _⟩ := HP1.out
    by_cases hlt : j < k
    · go_wp2_with fail
      refine (rmul_rz _ _ _ _ _ _ _ (x ^ j) x HY.out HL.out HFy.out HX.out HNy.out HN.out).mono ?_
      intro e w4 hr
      rcases rz_cases hr with ⟨hfit, hr2⟩ | ⟨hfit, hr2⟩
      · obtain ⟨A4, n4, c4, rfl, hL4, hb4⟩ := hr2
        have HE : Hid (x ^ j * x = x ^ (j + 1)) := (Int.pow_succ x j).symm
        have hfit' := hfit
        rw [HE.out] at hL4 hfit'
        have HF := Lib.hid hfit'
        obtain ⟨nz, hnz⟩ : ∃ b, decide (x ^ j * x < 0) = b := ⟨_, rfl⟩
        rw [hnz]
        rw [HE.out] at hnz
        have HNz := Lib.hid hnz.symm
        have HQ := Lib.hid (HP.out.via hb4)
        have HQ0 := Lib.hid (HP0.out.via hb4)
        have HQ1 := Lib.hid (HP1.out.via hb4)
        have HM := Lib.hid (HL.out.via hb4)
        have HL4 := Lib.hid hL4
        have HB4 := Lib.hid (HB.out.trans (hb4.mono HB.out.size))
        clear hr hfit hfit' hL4 hb4 hnz p0 p1 w0 w1 r0 r1 HP HP0 HP1 HL HY HB
        have ⟨p0, p1, f0, f1, _⟩ := HQ.out
        go_wp2
        go_roundw
        case rel =>
          refine ⟨j + 1, nz, A4, n4, c4, by omega, by go_num, (HQ.out.set _ _).alloc _, (HL4.out.setP HQ.out _ _).box _, HNz.out, HF.out, (HQ0.out.far (by omega) _ _).alloc _, (HQ1.out.far (by omega) _ _).alloc _, (HM.out.setP HQ.out _ _).box _, ?_⟩
          have hb := below_set2 HB4.out (g := g) (by omega) (.bool nz) (.slice A4 n4 c4)
          exact hb.alloc hb.size _
        case measure => simp [intOf]; omega
      · have HF : Hid (4096 < (digs (x ^ k).natAbs).length) := by
          show _ < _
          have hE : x ^ j * x = x ^ (j + 1) := (Int.pow_succ x j).symm
          rw [hE] at hfit
          exact pow_way (show j + 1 ≤ k by omega) hfit
        obtain ⟨A4, n4, c4, rfl, hL4, hb4⟩ := hr2
        have HFit := Lib.hid (rz_big (w := w) HF.out)
        have HR4 := Lib.hid (HP1.out.via hb4)
        have HB4 := Lib.hid (HB.out.trans (hb4.mono HB.out.size))
        clear hr hfit hL4 hb4 p0 p1 w0 w1 r0 r1 HP HP0 HP1 HL HY HB
        have ⟨r0, r1, rf0, rf1, _⟩ := HR4.out
        go_wp2
        refine post_w Tryz.results46 rfl rfl ((HR4.out.set _ _).alloc _).c0 ((HR4.out.set _ _).alloc _).c1 ?_
        rw [HFit.out]
        have hb := below_set2 HB4.out (g := w.heap.size + 1) (by omega) (.bool false) (.slice none 0 0)
        exact ⟨none, 0, 0, rfl, Lm.nil _ _, hb.alloc hb.size _⟩
    · obtain rfl : j = k := by omega
      have HFit := Lib.hid (rz_fit (w := w) HFy.out)
      obtain rfl := HNy.out.symm
      obtain ⟨ny, hny⟩ : ∃ b, decide (x ^ j < 0) = b := ⟨_, rfl⟩
      rw [hny] at HP HFit p0
      go_wp2
      exact post_ws Tryz.results46 rfl rfl r0 r1 (by rw [HFit.out]; exact ⟨A', n', c', rfl, HY.out.setP HP1.out _ _, below_set2 HB.out (by omega) _ _⟩)
end Go.Proofs.YtbplbbkmfbjkfaaGreatDoor

