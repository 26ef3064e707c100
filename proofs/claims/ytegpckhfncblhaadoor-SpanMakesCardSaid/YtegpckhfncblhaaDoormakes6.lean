/- Lemmas, part 6. -/
import Derived.Deep.RegionHeld3
import Derived.BigRegion
import Derived.RegionTactic
import Derived.Deep.DeepCutAuto
import Derived.Test.YtegpckhfncblhaaDoormakes5
/- Package frac: Check, Make, Of. -/
namespace Go.Proofs.YtegpckhfncblhaaDoor
open Go.RowKit

theorem btr {a b c : World} (h : Below a.heap.size a b) (h' : Below b.heap.size b c) : Below a.heap.size a c := h.trans (h'.mono h.size)
/-- The error of a fraction: whether it is valid. -/
def fchk (nn : Bool) (xs : List Nat) (dn : Bool) (ys : List Nat) : Int := if chk nn xs = 0 ∧ chk dn ys = 0 ∧ dn = false ∧ ys ≠ [] ∧ Nat.gcd (val xs) (val ys) = 1 then 0 else 8
theorem digs1 : digs 1 = [1] := by decide
theorem eq_one {xs : List Nat} (g : Good xs) (hn : Norm xs) (h : val xs = 1) : xs = [1] := by rw [← digs1]; exact eq_digs g hn h

set_option maxRecDepth 100000 in
set_option maxHeartbeats 1000000 in
theorem fcheck_one (w : World) (nn dn : Bool) (A B : Option Addr) (n m ca cb : Nat) (xs ys : List Nat) (hA : Lm w w.heap.size A n ca xs) (hB : Lm w w.heap.size B m cb ys) (hd : dn = false) (hy : ys = digs 1) :
    Calls Tryd.prog 8 #[fv nn A n ca dn B m cb] w fun e w' => e = .returned (.int .i64 (chk nn xs)) ∧ Below w.heap.size w w' := by
  have HA := Lib.hid hA
  have HB := Lib.hid hB
  clear hA hB
  subst hd hy
  go_enter Tryd.func8, Tryd.ntmps8
  go_wp2_with fail
  refine (isOne_yes _ B m cb (HB.out.box _)).mono ?_
  rintro e w1 ⟨rfl, hb1⟩
  have Q1 := (Qd.new w _ rfl (.bool nn) (.slice A n ca) (.bool false) (.slice B m cb) 26).via hb1
  have LA := Lib.hid ((HA.out.box _).via hb1)
  have LB := Lib.hid ((HB.out.box _).via hb1)
  have B1 := Lib.hid (bbox hb1)
  have HQ := Lib.hid Q1
  have ⟨q0, q1, q2, q3, _, _, _, _, ql⟩ := Q1
  clear hb1 Q1 HA HB
  go_wp2_with fail
  refine (check_any _ nn A n ca xs LA.out).mono ?_
  rintro e w2 ⟨rfl, hb2⟩
  go_wp2
  go_ret
  exact ⟨rfl, btr B1.out hb2⟩
set_option maxRecDepth 100000 in
set_option maxHeartbeats 1000000 in
theorem fcheck_sign (w : World) (nn dn : Bool) (A B : Option Addr) (n m ca cb : Nat) (xs ys : List Nat) (hA : Lm w w.heap.size A n ca xs) (hB : Lm w w.heap.size B m cb ys) (hno : dn = true ∨ ys ≠ [1]) (s t : Int) (hst : t ≠ 0 ∨ t = 0 ∧ s ≤ 0) (hS : ∀ W, Lm W W.heap.size B m cb ys → Calls Tryd.prog 21 #[.agg #[.bool dn, .slice B m cb]] W fun e w' => e = .returned (.tuple #[.int .i64 s, .int .i64 t]) ∧ Below W.heap.size W w') :
    Calls Tryd.prog 8 #[fv nn A n ca dn B m cb] w fun e w' => e = .returned (.int .i64 8) ∧ Below w.heap.size w w' := by
  have HA := Lib.hid hA
  have HB := Lib.hid hB
  clear hA hB
  have HNO := Lib.hid hno
  clear hno
  have HS := Lib.hid hS
  clear hS
  have hst2 : (t != 0) = true ∨ t = 0 ∧ s ≤ 0 := by
    rcases hst with h | h
    · exact .inl (by simpa using h)
    · exact .inr h
  clear hst
  go_enter Tryd.func8, Tryd.ntmps8
  go_wp2_with fail
  refine (isOne_no _ dn B m cb ys (HB.out.box _) HNO.out).mono ?_
  rintro e w1 ⟨rfl, hb1⟩
  have Q1 := (Qd.new w _ rfl (.bool nn) (.slice A n ca) (.bool dn) (.slice B m cb) 26).via hb1
  have LA := Lib.hid ((HA.out.box _).via hb1)
  have LB := Lib.hid ((HB.out.box _).via hb1)
  have B1 := Lib.hid (bbox hb1)
  have HQ := Lib.hid Q1
  have ⟨q0, q1, q2, q3, _, _, _, _, ql⟩ := Q1
  clear hb1 Q1 HA HB
  go_wp2_with fail
  refine (HS.out _ LB.out).mono ?_
  rintro e w2 ⟨rfl, hb2⟩
  have B2 := Lib.hid (btr B1.out hb2)
  clear hb2 q0 q1 q2 q3 ql
  rcases hst2 with h | ⟨rfl, h⟩
  · go_wp2
    go_ret
    exact ⟨rfl, B2.out⟩
  · go_wp2
    go_ret
    exact ⟨rfl, B2.out⟩
set_option maxRecDepth 100000 in
set_option maxHeartbeats 1000000 in
theorem fcheck_gbad (w : World) (nn dn : Bool) (A B : Option Addr) (n m ca cb : Nat) (xs ys : List Nat) (hA : Lm w w.heap.size A n ca xs) (hB : Lm w w.heap.size B m cb ys) (hno : dn = true ∨ ys ≠ [1]) (hS : ∀ W, Lm W W.heap.size B m cb ys → Calls Tryd.prog 21 #[.agg #[.bool dn, .slice B m cb]] W fun e w' => e = .returned (.tuple #[.int .i64 1, .int .i64 0]) ∧ Below W.heap.size W w') (hv : chkB nn xs dn ys = 8) :
    Calls Tryd.prog 8 #[fv nn A n ca dn B m cb] w fun e w' => e = .returned (.int .i64 8) ∧ Below w.heap.size w w' := by
  have HA := Lib.hid hA
  have HB := Lib.hid hB
  clear hA hB
  have HNO := Lib.hid hno
  clear hno
  have HS := Lib.hid hS
  have HV := Lib.hid hv
  clear hS hv
  go_enter Tryd.func8, Tryd.ntmps8
  go_wp2_with fail
  refine (isOne_no _ dn B m cb ys (HB.out.box _) HNO.out).mono ?_
  rintro e w1 ⟨rfl, hb1⟩
  have Q1 := (Qd.new w _ rfl (.bool nn) (.slice A n ca) (.bool dn) (.slice B m cb) 26).via hb1
  have LA := Lib.hid ((HA.out.box _).via hb1)
  have LB := Lib.hid ((HB.out.box _).via hb1)
  have B1 := Lib.hid (bbox hb1)
  have HQ := Lib.hid Q1
  have ⟨q0, q1, q2, q3, _, _, _, _, ql⟩ := Q1
  clear hb1 Q1 HA HB
  go_wp2_with fail
  refine (HS.out _ LB.out).mono ?_
  rintro e w2 ⟨rfl, hb2⟩
  have Q2 := HQ.out.via hb2
  have LA2 := Lib.hid (LA.out.via hb2)
  have LB2 := Lib.hid (LB.out.via hb2)
  have B2 := Lib.hid (btr B1.out hb2)
  clear hb2 q0 q1 q2 q3 ql LA LB B1 HQ
  have ⟨q0, q1, q2, q3, _, _, _, _, ql⟩ := Q2
  go_wp2_with fail
  refine (gcd_bad _ nn dn A B n m ca cb xs ys LA2.out LB2.out HV.out).mono ?_
  rintro e w3 ⟨A3, n3, c3, rfl, _, hb3⟩
  have B3 := Lib.hid (btr B2.out hb3)
  clear hb3 q0 q1 q2 q3 ql Q2
  go_wp2
  go_ret
  exact ⟨rfl, B3.out.alloc B3.out.size _⟩
set_option maxRecDepth 100000 in
set_option maxHeartbeats 1000000 in
theorem fcheck_gno (w : World) (nn dn : Bool) (A B : Option Addr) (n m ca cb : Nat) (xs ys : List Nat) (hA : Lm w w.heap.size A n ca xs) (hB : Lm w w.heap.size B m cb ys) (hno : dn = true ∨ ys ≠ [1]) (hS : ∀ W, Lm W W.heap.size B m cb ys → Calls Tryd.prog 21 #[.agg #[.bool dn, .slice B m cb]] W fun e w' => e = .returned (.tuple #[.int .i64 1, .int .i64 0]) ∧ Below W.heap.size W w') (g : Nat) (hg : g ≠ 1) (HGG : ∀ W, Lm W W.heap.size A n ca xs → Lm W W.heap.size B m cb ys → Calls Tryd.prog 22 #[.agg #[.bool nn, .slice A n ca], .agg #[.bool dn, .slice B m cb]] W (RW W false (digs g) 0)) :
    Calls Tryd.prog 8 #[fv nn A n ca dn B m cb] w fun e w' => e = .returned (.int .i64 8) ∧ Below w.heap.size w w' := by
  have HA := Lib.hid hA
  have HB := Lib.hid hB
  clear hA hB
  have HNO := Lib.hid hno
  clear hno
  have HS := Lib.hid hS
  have HG := Lib.hid HGG
  have HN : Hid (false = true ∨ digs g ≠ [1]) := .inr fun e => hg (by rw [← digs_val g, e]; rfl)
  clear hS HGG hg
  go_enter Tryd.func8, Tryd.ntmps8
  go_wp2_with fail
  refine (isOne_no _ dn B m cb ys (HB.out.box _) HNO.out).mono ?_
  rintro e w1 ⟨rfl, hb1⟩
  have Q1 := (Qd.new w _ rfl (.bool nn) (.slice A n ca) (.bool dn) (.slice B m cb) 26).via hb1
  have LA := Lib.hid ((HA.out.box _).via hb1)
  have LB := Lib.hid ((HB.out.box _).via hb1)
  have B1 := Lib.hid (bbox hb1)
  have HQ := Lib.hid Q1
  have ⟨q0, q1, q2, q3, _, _, _, _, ql⟩ := Q1
  clear hb1 Q1 HA HB
  go_wp2_with fail
  refine (HS.out _ LB.out).mono ?_
  rintro e w2 ⟨rfl, hb2⟩
  have Q2 := HQ.out.via hb2
  have LA2 := Lib.hid (LA.out.via hb2)
  have LB2 := Lib.hid (LB.out.via hb2)
  have B2 := Lib.hid (btr B1.out hb2)
  clear hb2 q0 q1 q2 q3 ql LA LB B1 HQ
  have ⟨q0, q1, q2, q3, _, _, _, _, ql⟩ := Q2
  go_wp2_with fail
  refine (HG.out _ LA2.out LB2.out).mono ?_
  rintro e w3 ⟨A3, n3, c3, rfl, hL3, hb3⟩
  have B3 := Lib.hid (btr B2.out hb3)
  have L3 := Lib.hid hL3
  clear hb3 hL3 q0 q1 q2 q3 ql Q2
  go_wp2_with fail
  refine (isOne_no _ false A3 n3 c3 (digs g) (L3.out.box _) HN.out).mono ?_
  rintro e w4 ⟨rfl, hb4⟩
  go_wp2
  go_ret
  exact ⟨rfl, btr B3.out (bbox hb4)⟩
set_option maxRecDepth 100000 in
set_option maxHeartbeats 1000000 in
theorem fcheck_gyes (w : World) (nn dn : Bool) (A B : Option Addr) (n m ca cb : Nat) (xs ys : List Nat) (hA : Lm w w.heap.size A n ca xs) (hB : Lm w w.heap.size B m cb ys) (hno : dn = true ∨ ys ≠ [1]) (hS : ∀ W, Lm W W.heap.size B m cb ys → Calls Tryd.prog 21 #[.agg #[.bool dn, .slice B m cb]] W fun e w' => e = .returned (.tuple #[.int .i64 1, .int .i64 0]) ∧ Below W.heap.size W w') (g : Nat) (hg : g = 1) (HGG : ∀ W, Lm W W.heap.size A n ca xs → Lm W W.heap.size B m cb ys → Calls Tryd.prog 22 #[.agg #[.bool nn, .slice A n ca], .agg #[.bool dn, .slice B m cb]] W (RW W false (digs g) 0)) :
    Calls Tryd.prog 8 #[fv nn A n ca dn B m cb] w fun e w' => e = .returned (.int .i64 0) ∧ Below w.heap.size w w' := by
  have HA := Lib.hid hA
  have HB := Lib.hid hB
  clear hA hB
  subst hg
  have HNO := Lib.hid hno
  clear hno
  have HS := Lib.hid hS
  have HG := Lib.hid HGG
  clear hS HGG
  go_enter Tryd.func8, Tryd.ntmps8
  go_wp2_with fail
  refine (isOne_no _ dn B m cb ys (HB.out.box _) HNO.out).mono ?_
  rintro e w1 ⟨rfl, hb1⟩
  have Q1 := (Qd.new w _ rfl (.bool nn) (.slice A n ca) (.bool dn) (.slice B m cb) 26).via hb1
  have LA := Lib.hid ((HA.out.box _).via hb1)
  have LB := Lib.hid ((HB.out.box _).via hb1)
  have B1 := Lib.hid (bbox hb1)
  have HQ := Lib.hid Q1
  have ⟨q0, q1, q2, q3, _, _, _, _, ql⟩ := Q1
  clear hb1 Q1 HA HB
  go_wp2_with fail
  refine (HS.out _ LB.out).mono ?_
  rintro e w2 ⟨rfl, hb2⟩
  have Q2 := HQ.out.via hb2
  have LA2 := Lib.hid (LA.out.via hb2)
  have LB2 := Lib.hid (LB.out.via hb2)
  have B2 := Lib.hid (btr B1.out hb2)
  clear hb2 q0 q1 q2 q3 ql LA LB B1 HQ
  have ⟨q0, q1, q2, q3, _, _, _, _, ql⟩ := Q2
  go_wp2_with fail
  refine (HG.out _ LA2.out LB2.out).mono ?_
  rintro e w3 ⟨A3, n3, c3, rfl, hL3, hb3⟩
  have B3 := Lib.hid (btr B2.out hb3)
  have L3 := Lib.hid hL3
  clear hb3 hL3 q0 q1 q2 q3 ql Q2
  go_wp2_with fail
  refine (isOne_yes _ A3 n3 c3 (L3.out.box _)).mono ?_
  rintro e w4 ⟨rfl, hb4⟩
  go_wp2
  go_ret
  exact ⟨rfl, btr B3.out (bbox hb4)⟩
theorem fcheck_any (w : World) (nn dn : Bool) (A B : Option Addr) (n m ca cb : Nat) (xs ys : List Nat) (hA : Lm w w.heap.size A n ca xs) (hB : Lm w w.heap.size B m cb ys) :
    Calls Tryd.prog 8 #[fv nn A n ca dn B m cb] w fun e w' => e = .returned (.int .i64 (fchk nn xs dn ys)) ∧ Below w.heap.size w w' := by
  by_cases h1 : dn = false ∧ ys = [1]
  · obtain ⟨rfl, rfl⟩ := h1
    have e : fchk nn xs false [1] = chk nn xs := by
      unfold fchk
      rcases chk_cases nn xs with hc | hc
      · rw [if_pos ⟨hc, by decide, rfl, by simp, by simp [val_cons, val_nil]⟩, hc]
      · rw [if_neg (fun h => by have := h.1; omega), hc]
    rw [e]
    exact fcheck_one w nn false A B n m ca cb xs [1] hA hB rfl digs1.symm
  · have hno : dn = true ∨ ys ≠ [1] := by
      cases dn
      · exact .inr fun h => h1 ⟨rfl, h⟩
      · exact .inl rfl
    rcases chk_cases dn ys with hc | hc
    · by_cases h2 : dn = false ∧ ys ≠ []
      · obtain ⟨rfl, h2⟩ := h2
        have hd := chk_digs hc hB.good
        have hvp : 0 < val ys := val_pos (chk_ok.1 hc).2.1 h2
        have hS : ∀ W, Lm W W.heap.size B m cb ys → Calls Tryd.prog 21 #[.agg #[.bool false, .slice B m cb]] W fun e w' => e = .returned (.tuple #[.int .i64 1, .int .i64 0]) ∧ Below W.heap.size W w' := by
          intro W hW
          have hc2 := hc
          rw [hd] at hW hc2
          have h := sign_ok W false B m cb _ hW hc2
          have e1 : signZ false (val ys) = 1 := by unfold signZ sideZ; rw [if_neg (by omega)]; rfl
          rw [e1] at h
          exact h
        rcases chk_cases nn xs with hn | hn
        · have hd2 := chk_digs hn hA.good
          have hB2 : chkB nn xs false ys = 0 := chkB_ok.2 ⟨hn, hc⟩
          have hG : ∀ W, Lm W W.heap.size A n ca xs → Lm W W.heap.size B m cb ys → Calls Tryd.prog 22 #[.agg #[.bool nn, .slice A n ca], .agg #[.bool false, .slice B m cb]] W (RW W false (digs (Nat.gcd (val xs) (val ys))) 0) := by
            intro W h3 h4
            have l1 := (chk_ok.1 hn).1
            have l2 := (chk_ok.1 hc).1
            have hB3 := hB2
            rw [hd2] at h3 l1 hB3
            rw [hd] at h4 l2 hB3
            have h := gcd_any W nn false A B n m ca cb _ _ h3 h4 hB3 (by rw [← h3.len]; exact l1) (by rw [← h4.len]; exact l2)
            have hgl : (digs (Nat.gcd (val xs) (val ys))).length ≤ 4096 := Nat.le_trans (digs_mono (Nat.gcd_le_right _ hvp)) l2
            have e1 : mkN false (Nat.gcd (val xs) (val ys)) = false := by unfold mkN; simp
            have e2 : mkL (Nat.gcd (val xs) (val ys)) = digs (Nat.gcd (val xs) (val ys)) := by unfold mkL; rw [if_pos hgl]
            have e3 : mkE (Nat.gcd (val xs) (val ys)) = 0 := by unfold mkE; rw [if_pos hgl]
            rw [e1, e2, e3] at h
            exact h
          by_cases hg : Nat.gcd (val xs) (val ys) = 1
          · have e : fchk nn xs false ys = 0 := by unfold fchk; rw [if_pos ⟨hn, hc, rfl, h2, hg⟩]
            rw [e]
            exact fcheck_gyes w nn false A B n m ca cb xs ys hA hB hno hS _ hg hG
          · have e : fchk nn xs false ys = 8 := by unfold fchk; rw [if_neg (fun h => hg h.2.2.2.2)]
            rw [e]
            exact fcheck_gno w nn false A B n m ca cb xs ys hA hB hno hS _ hg hG
        · have e : fchk nn xs false ys = 8 := by unfold fchk; rw [if_neg (fun h => by have := h.1; omega)]
          rw [e]
          exact fcheck_gbad w nn false A B n m ca cb xs ys hA hB hno hS (by rcases chkB_cases nn xs false ys with h | h; (have := (chkB_ok.1 h).1; omega); exact h)
      · have e : fchk nn xs dn ys = 8 := by unfold fchk; rw [if_neg (fun h => h2 ⟨h.2.2.1, h.2.2.2.1⟩)]
        rw [e]
        have hd := chk_digs hc hB.good
        refine fcheck_sign w nn dn A B n m ca cb xs ys hA hB hno (signZ dn (val ys)) 0 (.inr ⟨rfl, ?_⟩) fun W hW => ?_
        · unfold signZ sideZ
          cases dn
          · have : ys = [] := Classical.byContradiction fun h => h2 ⟨rfl, h⟩
            subst this
            simp [val_nil]
          · split <;> simp
        · have hc2 := hc
          rw [hd] at hW hc2
          exact sign_ok W dn B m cb _ hW hc2
    · have e : fchk nn xs dn ys = 8 := by unfold fchk; rw [if_neg (fun h => by have := h.2.1; omega)]
      rw [e]
      exact fcheck_sign w nn dn A B n m ca cb xs ys hA hB hno 0 8 (.inl (by decide)) fun W hW => sign_bad W dn B m cb ys hW hc
end Go.Proofs.YtegpckhfncblhaaDoor

/- The reference for fractions: Check, Reduced, Same, Great. -/
namespace Go.Proofs.YtegpckhfncblhaaDoor
open Go.RowKit

theorem sign_of {x p z : Int} (h : x = p * z) (hz : z ≠ 0) : decide (p < 0) = (decide (x < 0) != decide (z < 0) && decide (p ≠ 0)) := by
  subst h
  rcases Int.lt_trichotomy p 0 with hp | hp | hp
  · rcases Int.lt_or_gt_of_ne hz with h | h
    · have := Int.mul_pos_of_neg_of_neg hp h
      rw [decide_eq_true hp, decide_eq_false (show ¬ p * z < 0 by omega), decide_eq_true h, decide_eq_true (show p ≠ 0 by omega)]; rfl
    · have := Int.mul_neg_of_neg_of_pos hp h
      rw [decide_eq_true hp, decide_eq_true this, decide_eq_false (show ¬ z < 0 by omega), decide_eq_true (show p ≠ 0 by omega)]; rfl
  · subst hp; simp
  · rcases Int.lt_or_gt_of_ne hz with h | h
    · have := Int.mul_neg_of_pos_of_neg hp h
      rw [decide_eq_false (show ¬ p < 0 by omega), decide_eq_true this, decide_eq_true h]; rfl
    · have := Int.mul_pos hp h
      rw [decide_eq_false (show ¬ p < 0 by omega), decide_eq_false (show ¬ p * z < 0 by omega), decide_eq_false (show ¬ z < 0 by omega)]; rfl
/-- The reference's DivMod where the second number divides the first one. -/
theorem rdiv_x (w : World) (A B : Option Addr) (n m ca cb k : Nat) (x z p : Int) (hA : Lm w w.heap.size A n ca (digs x.natAbs)) (hB : Lm w w.heap.size B m cb (digs z.natAbs)) (hx : Sz k x) (hz : Sz k z) (hk : k ≤ 2000) (hz0 : z ≠ 0) (hp : x = p * z)
    {na nb : Bool} (ha : decide (x < 0) = na) (hb : decide (z < 0) = nb) :
    Calls Tryd.prog 16 #[.agg #[.bool na, .slice A n ca], .agg #[.bool nb, .slice B m cb]] w fun e w' => ∃ A n c g A' n' c', e = .returned (.tuple #[.agg #[.bool (decide (p < 0)), .slice A n c], .agg #[.bool g, .slice A' n' c'], .int .i64 0]) ∧ Lm w' w'.heap.size A n c (digs p.natAbs) ∧ Below w.heap.size w w' := by
  have hv := chkB_z hx (show k ≤ 4096 by omega) hz (show k ≤ 4096 by omega)
  have hs := sign_of hp hz0
  rw [ha, hb] at hv hs
  have hbp : 0 < z.natAbs := by omega
  have e1 : x.natAbs = p.natAbs * z.natAbs := by rw [hp, Int.natAbs_mul]
  have e2 : x.natAbs / z.natAbs = p.natAbs := by rw [e1]; exact Nat.mul_div_cancel _ hbp
  have e3 : x.natAbs % z.natAbs = 0 := by rw [e1]; exact Nat.mul_mod_left _ _
  have hpl : (digs p.natAbs).length ≤ 4096 := by
    rw [← e2]
    exact Nat.le_trans (digs_mono (Nat.div_le_self _ _)) (Nat.le_trans hx.len (by omega))
  have hdz : decide (p.natAbs ≠ 0) = decide (p ≠ 0) := by rw [decide_eq_decide]; omega
  by_cases hsame : na = nb
  · have h := rdivmod_same w na nb A B n m ca cb _ _ hA hB hv hbp hsame (decide (0 < x.natAbs % z.natAbs)) rfl
    refine h.mono fun e w' hr => ?_
    obtain ⟨A1, n1, c1, A2, n2, c2, he, h1, _, hbl⟩ := hr
    rw [e2] at he h1
    have e4 : mkN false p.natAbs = decide (p < 0) := by rw [hs, hsame]; unfold mkN; simp
    rw [e4] at he
    exact ⟨A1, n1, c1, _, A2, n2, c2, he, h1, hbl⟩
  · have hs2 : na = true ∧ nb = false ∨ na = false ∧ nb = true := by cases na <;> cases nb <;> simp_all
    have h := rdivmod_exact w na nb A B n m ca cb _ _ hA hB hv hbp hs2 e3
    refine h.mono fun e w' hr => ?_
    obtain ⟨A1, n1, c1, A2, n2, c2, he, h1, _, hbl⟩ := hr
    rw [e2] at he h1
    have e4 : mkN true p.natAbs = decide (p < 0) := by
      rw [hs]
      unfold mkN
      rw [decide_eq_true hpl, hdz]
      rcases hs2 with ⟨h1, h2⟩ | ⟨h1, h2⟩ <;> rw [h1, h2] <;> simp
    rw [e4] at he
    exact ⟨A1, n1, c1, _, A2, n2, c2, he, h1, hbl⟩

set_option maxRecDepth 100000 in
set_option maxHeartbeats 1000000 in
theorem rfcheck_nbad (w : World) (nn dn : Bool) (A B : Option Addr) (n m ca cb : Nat) (xs ys : List Nat) (hA : Lm w w.heap.size A n ca xs) (hB : Lm w w.heap.size B m cb ys) (hn : chk nn xs = 8) :
    Calls Tryd.prog 13 #[fv nn A n ca dn B m cb] w fun e w' => e = .returned (.int .i64 8) ∧ Below w.heap.size w w' := by
  have HA := Lib.hid hA
  have HB := Lib.hid hB
  have HN := Lib.hid hn
  clear hn
  clear hA hB
  go_enter Tryd.func13, Tryd.ntmps13
  go_wp2_with fail
  refine (rcheck_bad _ nn A n ca xs (HA.out.box _) HN.out).mono ?_
  rintro e w1 ⟨rfl, hb1⟩
  have Q1 := (Qd.new w _ rfl (.bool nn) (.slice A n ca) (.bool dn) (.slice B m cb) 26).via hb1
  have LA := Lib.hid ((HA.out.box _).via hb1)
  have LB := Lib.hid ((HB.out.box _).via hb1)
  have B1 := Lib.hid (bbox hb1)
  have HQ := Lib.hid Q1
  have ⟨q0, q1, q2, q3, _, _, _, _, ql⟩ := Q1
  clear hb1 Q1 HA HB
  go_wp2
  go_ret
  exact ⟨rfl, B1.out⟩
set_option maxRecDepth 100000 in
set_option maxHeartbeats 1000000 in
theorem rfcheck_dbad (w : World) (nn dn : Bool) (A B : Option Addr) (n m ca cb : Nat) (xs ys : List Nat) (hA : Lm w w.heap.size A n ca xs) (hB : Lm w w.heap.size B m cb ys) (hn : chk nn xs = 0) (hd : chk dn ys = 8) :
    Calls Tryd.prog 13 #[fv nn A n ca dn B m cb] w fun e w' => e = .returned (.int .i64 8) ∧ Below w.heap.size w w' := by
  have HA := Lib.hid hA
  have HB := Lib.hid hB
  have HN := Lib.hid hn
  have HD := Lib.hid hd
  clear hn hd
  clear hA hB
  go_enter Tryd.func13, Tryd.ntmps13
  go_wp2_with fail
  refine (rcheck_ok _ nn A n ca xs (HA.out.box _) HN.out).mono ?_
  rintro e w1 ⟨rfl, hb1⟩
  have Q1 := (Qd.new w _ rfl (.bool nn) (.slice A n ca) (.bool dn) (.slice B m cb) 26).via hb1
  have LA := Lib.hid ((HA.out.box _).via hb1)
  have LB := Lib.hid ((HB.out.box _).via hb1)
  have B1 := Lib.hid (bbox hb1)
  have HQ := Lib.hid Q1
  have ⟨q0, q1, q2, q3, _, _, _, _, ql⟩ := Q1
  clear hb1 Q1 HA HB
  go_wp2_with fail
  refine (rcheck_bad _ dn B m cb ys LB.out HD.out).mono ?_
  rintro e w2 ⟨rfl, hb2⟩
  have B2 := Lib.hid (btr B1.out hb2)
  clear hb2
  go_wp2
  go_ret
  exact ⟨rfl, B2.out⟩
set_option maxRecDepth 100000 in
set_option maxHeartbeats 1000000 in
theorem rfcheck_neg (w : World) (nn dn : Bool) (A B : Option Addr) (n m ca cb : Nat) (xs ys : List Nat) (hA : Lm w w.heap.size A n ca xs) (hB : Lm w w.heap.size B m cb ys) (hn : chk nn xs = 0) (hd : chk dn ys = 0) (ht : dn = true) :
    Calls Tryd.prog 13 #[fv nn A n ca dn B m cb] w fun e w' => e = .returned (.int .i64 8) ∧ Below w.heap.size w w' := by
  have HA := Lib.hid hA
  have HB := Lib.hid hB
  subst ht
  have HN := Lib.hid hn
  have HD := Lib.hid hd
  clear hn hd
  clear hA hB
  go_enter Tryd.func13, Tryd.ntmps13
  go_wp2_with fail
  refine (rcheck_ok _ nn A n ca xs (HA.out.box _) HN.out).mono ?_
  rintro e w1 ⟨rfl, hb1⟩
  have Q1 := (Qd.new w _ rfl (.bool nn) (.slice A n ca) (.bool true) (.slice B m cb) 26).via hb1
  have LA := Lib.hid ((HA.out.box _).via hb1)
  have LB := Lib.hid ((HB.out.box _).via hb1)
  have B1 := Lib.hid (bbox hb1)
  have HQ := Lib.hid Q1
  have ⟨q0, q1, q2, q3, _, _, _, _, ql⟩ := Q1
  clear hb1 Q1 HA HB
  go_wp2_with fail
  refine (rcheck_ok _ true B m cb ys LB.out HD.out).mono ?_
  rintro e w2 ⟨rfl, hb2⟩
  have B2 := Lib.hid (btr B1.out hb2)
  have Q2 := HQ.out.via hb2
  have LA2 := Lib.hid (LA.out.via hb2)
  have LB2 := Lib.hid (LB.out.via hb2)
  have HQ2 := Lib.hid Q2
  clear hb2 q0 q1 q2 q3 ql LA LB HQ
  have ⟨q0, q1, q2, q3, _, _, _, _, ql⟩ := Q2
  clear Q2
  go_wp2
  go_ret
  exact ⟨rfl, B2.out⟩
set_option maxRecDepth 100000 in
set_option maxHeartbeats 1000000 in
theorem rfcheck_zero (w : World) (nn dn : Bool) (A B : Option Addr) (n m ca cb : Nat) (xs ys : List Nat) (hA : Lm w w.heap.size A n ca xs) (hB : Lm w w.heap.size B m cb ys) (hn : chk nn xs = 0) (hd : chk dn ys = 0) (ht : dn = false) (hz : ys = []) :
    Calls Tryd.prog 13 #[fv nn A n ca dn B m cb] w fun e w' => e = .returned (.int .i64 8) ∧ Below w.heap.size w w' := by
  have HA := Lib.hid hA
  have HB := Lib.hid hB
  subst ht hz
  obtain rfl : m = 0 := HB.out.len.symm
  have HN := Lib.hid hn
  have HD := Lib.hid hd
  clear hn hd
  clear hA hB
  go_enter Tryd.func13, Tryd.ntmps13
  go_wp2_with fail
  refine (rcheck_ok _ nn A n ca xs (HA.out.box _) HN.out).mono ?_
  rintro e w1 ⟨rfl, hb1⟩
  have Q1 := (Qd.new w _ rfl (.bool nn) (.slice A n ca) (.bool false) (.slice B 0 cb) 26).via hb1
  have LA := Lib.hid ((HA.out.box _).via hb1)
  have LB := Lib.hid ((HB.out.box _).via hb1)
  have B1 := Lib.hid (bbox hb1)
  have HQ := Lib.hid Q1
  have ⟨q0, q1, q2, q3, _, _, _, _, ql⟩ := Q1
  clear hb1 Q1 HA HB
  go_wp2_with fail
  refine (rcheck_ok _ false B 0 cb [] LB.out HD.out).mono ?_
  rintro e w2 ⟨rfl, hb2⟩
  have B2 := Lib.hid (btr B1.out hb2)
  have Q2 := HQ.out.via hb2
  have LA2 := Lib.hid (LA.out.via hb2)
  have LB2 := Lib.hid (LB.out.via hb2)
  have HQ2 := Lib.hid Q2
  clear hb2 q0 q1 q2 q3 ql LA LB HQ
  have ⟨q0, q1, q2, q3, _, _, _, _, ql⟩ := Q2
  clear Q2
  go_wp2
  go_ret
  exact ⟨rfl, B2.out⟩
set_option maxRecDepth 100000 in
set_option maxHeartbeats 1000000 in
theorem rfcheck_gcd (w : World) (nn dn : Bool) (A B : Option Addr) (n m ca cb : Nat) (xs ys : List Nat) (hA : Lm w w.heap.size A n ca xs) (hB : Lm w w.heap.size B m cb ys) (hn : chk nn xs = 0) (hd : chk dn ys = 0) (ht : dn = false) (hz : ys ≠ []) (g : Nat) (hgg : Nat.gcd (val xs) (val ys) = g) (r : Int) (hr : r = if g = 1 then 0 else 8) :
    Calls Tryd.prog 13 #[fv nn A n ca dn B m cb] w fun e w' => e = .returned (.int .i64 r) ∧ Below w.heap.size w w' := by
  have HA := Lib.hid hA
  have HB := Lib.hid hB
  subst ht
  have hm0 : 0 < m := by
    rcases Nat.eq_zero_or_pos m with h | h
    · exact absurd (List.eq_nil_of_length_eq_zero (by rw [HB.out.len]; exact h)) hz
    · exact h
  have hmz : ((m : Int) == 0) = false := by simp; omega
  have hcc := HB.out.cap
  have hcx := HB.out.max
  have HG0 := Lib.hid hgg
  have HR := Lib.hid hr
  have HV : Hid (chkB nn (digs (val xs)) false (digs (val ys)) = 0) := by
    show _ = _
    rw [← chk_digs hn HA.out.good, ← chk_digs hd HB.out.good]
    exact chkB_ok.2 ⟨hn, hd⟩
  have HDA := Lib.hid (chk_digs hn HA.out.good)
  have HDB := Lib.hid (chk_digs hd HB.out.good)
  have HGL : Hid ((digs g).length ≤ 4096) := by
    show _ ≤ _
    rw [← hgg]
    have h1 := (chk_ok.1 hd).1
    rw [chk_digs hd HB.out.good] at h1
    exact Nat.le_trans (digs_mono (Nat.gcd_le_right _ (val_pos (chk_ok.1 hd).2.1 hz))) h1
  clear hr hz hgg
  have HN := Lib.hid hn
  have HD := Lib.hid hd
  clear hn hd
  clear hA hB
  go_enter Tryd.func13, Tryd.ntmps13
  go_wp2_with fail
  refine (rcheck_ok _ nn A n ca xs (HA.out.box _) HN.out).mono ?_
  rintro e w1 ⟨rfl, hb1⟩
  have Q1 := (Qd.new w _ rfl (.bool nn) (.slice A n ca) (.bool false) (.slice B m cb) 26).via hb1
  have LA := Lib.hid ((HA.out.box _).via hb1)
  have LB := Lib.hid ((HB.out.box _).via hb1)
  have B1 := Lib.hid (bbox hb1)
  have HQ := Lib.hid Q1
  have ⟨q0, q1, q2, q3, _, _, _, _, ql⟩ := Q1
  clear hb1 Q1 HA HB
  go_wp2_with fail
  refine (rcheck_ok _ false B m cb ys LB.out HD.out).mono ?_
  rintro e w2 ⟨rfl, hb2⟩
  have B2 := Lib.hid (btr B1.out hb2)
  have Q2 := HQ.out.via hb2
  have LA2 := Lib.hid (LA.out.via hb2)
  have LB2 := Lib.hid (LB.out.via hb2)
  have HQ2 := Lib.hid Q2
  clear hb2 q0 q1 q2 q3 ql LA LB HQ
  have ⟨q0, q1, q2, q3, _, _, _, _, ql⟩ := Q2
  clear Q2
  have hA2 : Lm w2 w2.heap.size A n ca (digs (val xs)) := by rw [← HDA.out]; exact LA2.out
  have hB2 : Lm w2 w2.heap.size B m cb (digs (val ys)) := by rw [← HDB.out]; exact LB2.out
  have KA := Lib.hid hA2
  have KB := Lib.hid hB2
  clear hA2 hB2
  go_wp2_with fail
  have hcall := rgcd_ok w2 nn false A B n m ca cb _ _ KA.out KB.out HV.out
  rw [HG0.out] at hcall
  refine hcall.mono ?_
  clear hcall
  rintro e w3 ⟨A3, n3, c3, rfl, hL3, hb3⟩
  have e1 : mkN false g = false := by unfold mkN; simp
  have e2 : mkL g = digs g := by unfold mkL; rw [if_pos HGL.out]
  have e3 : mkE g = 0 := by unfold mkE; rw [if_pos HGL.out]
  rw [e1, e3]
  rw [e2] at hL3
  have L3 := Lib.hid (hL3.box (.cells #[.bool false, .slice A3 n3 c3] 24))
  have P3 := Lib.hid (Pr.new w3 _ rfl (.bool false) (.slice A3 n3 c3) 24)
  have B3 := Lib.hid ((btr B2.out hb3).alloc (btr B2.out hb3).size (.cells #[.bool false, .slice A3 n3 c3] 24))
  have HSB : Hid (sameB false (digs g) false (digs 1) = decide (g = 1)) := by
    show _ = _
    by_cases h : g = 1
    · rw [h, sameB_self]; rfl
    · rw [decide_eq_false h]
      unfold sameB
      have h2 : cmpL (digs g) (digs 1) ≠ 0 := fun e => h (by have := (cmpL_eq (digs_good _) (digs_good _)).1 e; rw [← digs_val g, this]; rfl)
      simp [h2]
  clear hL3 hb3 e1 e2 e3 q0 q1 q2 q3 ql KA KB LA2 LB2 HQ2 B1 B2
  have hd1 : decide ((1 : Int) < 0) = false := rfl
  go_wp2_with fail
  generalize w3.alloc (.cells #[.bool false, .slice A3 n3 c3] 24) = W3 at *
  generalize w3.heap.size = g3 at *
  have ⟨p0, p1, _, _, pl⟩ := P3.out
  have hrf := fun w => rfrom_any w 1 (by omega) (by omega)
  rw [hd1] at hrf
  have HRF := Lib.hid hrf
  clear hrf hd1
  go_region_held3 (fun w' => w'.cell? ⟨g3, 0, none⟩ = some (.bool false) ∧ w'.cell? ⟨g3, 1, none⟩ = some (.slice A3 n3 c3))
    (first
     | exact ⟨p0, p1⟩
     | exact ⟨(P3.out.via Bb).c0, (P3.out.via Bb).c1⟩
     | exact ⟨(P3.out.via Ba).c0, (P3.out.via Ba).c1⟩
     | exact ⟨P3.out.drew.c0, P3.out.drew.c1⟩)
    (first
     | (go_at_call 35; refine (HRF.out _).mono ?_; rintro e wa ⟨Aa, na', ca', rfl, hLa, hba⟩; have Ba : Below W3.heap.size W3 wa := (by first | exact hba | exact (Below.refl _ _).drew.trans hba); have L3a := L3.out.via Ba)
     | (go_at_call 34; refine (rsame_any _ false false A3 Aa n3 na' c3 ca' (digs g) (digs 1) L3a hLa).mono ?_; rintro e wb ⟨rfl, hbb⟩; have Bb := btr Ba hbb)
     | fail)
  all_goals
    rw [HSB.out]
    have BE := Lib.hid (btr B3.out Bb)
    have hR := HR.out
    by_cases hg : g = 1
    · rw [if_pos hg] at hR
      rw [decide_eq_true hg]
      subst hR
      clear hg
      go_wp2
      go_ret
      exact ⟨rfl, BE.out⟩
    · rw [if_neg hg] at hR
      rw [decide_eq_false hg]
      subst hR
      clear hg
      go_wp2
      go_ret
      exact ⟨rfl, BE.out⟩
theorem rfcheck_any (w : World) (nn dn : Bool) (A B : Option Addr) (n m ca cb : Nat) (xs ys : List Nat) (hA : Lm w w.heap.size A n ca xs) (hB : Lm w w.heap.size B m cb ys) :
    Calls Tryd.prog 13 #[fv nn A n ca dn B m cb] w fun e w' => e = .returned (.int .i64 (fchk nn xs dn ys)) ∧ Below w.heap.size w w' := by
  rcases chk_cases nn xs with hn | hn
  · rcases chk_cases dn ys with hd | hd
    · cases hdn : dn
      · subst hdn
        by_cases hz : ys = []
        · have e : fchk nn xs false ys = 8 := by unfold fchk; rw [if_neg (fun h => h.2.2.2.1 hz)]
          rw [e]
          exact rfcheck_zero w nn false A B n m ca cb xs ys hA hB hn hd rfl hz
        · refine rfcheck_gcd w nn false A B n m ca cb xs ys hA hB hn hd rfl hz _ rfl _ ?_
          unfold fchk
          by_cases hg : Nat.gcd (val xs) (val ys) = 1
          · rw [if_pos ⟨hn, hd, rfl, hz, hg⟩, if_pos hg]
          · rw [if_neg (fun h => hg h.2.2.2.2), if_neg hg]
      · subst hdn
        have e : fchk nn xs true ys = 8 := by unfold fchk; rw [if_neg (fun h => by cases h.2.2.1)]
        rw [e]
        exact rfcheck_neg w nn true A B n m ca cb xs ys hA hB hn hd rfl
    · have e : fchk nn xs dn ys = 8 := by unfold fchk; rw [if_neg (fun h => by have := h.2.1; omega)]
      rw [e]
      exact rfcheck_dbad w nn dn A B n m ca cb xs ys hA hB hn hd
  · have e : fchk nn xs dn ys = 8 := by unfold fchk; rw [if_neg (fun h => by have := h.1; omega)]
    rw [e]
    exact rfcheck_nbad w nn dn A B n m ca cb xs ys hA hB hn
end Go.Proofs.YtegpckhfncblhaaDoor

/- The numbers of intervals: quotients of products, rounded down and up; what lies beyond the range is clamped. -/
namespace Go.Proofs.YtegpckhfncblhaaDoor

/-- The error of an interval. -/
def ivC (lo hi : Int) : Int := if lo < -2305843009213693952 ∨ hi < lo ∨ 2305843009213693952 < hi then 8 else 0
theorem ivC_cases (lo hi : Int) : ivC lo hi = 0 ∧ -2305843009213693952 ≤ lo ∧ lo ≤ hi ∧ hi ≤ 2305843009213693952 ∨ ivC lo hi = 8 ∧ (lo < -2305843009213693952 ∨ hi < lo ∨ 2305843009213693952 < hi) := by
  unfold ivC
  by_cases h : lo < -2305843009213693952 ∨ hi < lo ∨ 2305843009213693952 < hi
  · rw [if_pos h]; exact .inr ⟨rfl, h⟩
  · rw [if_neg h]; exact .inl ⟨rfl, by omega, by omega, by omega⟩
theorem ivC_ok {lo hi : Int} (h1 : -2305843009213693952 ≤ lo) (h2 : lo ≤ hi) (h3 : hi ≤ 2305843009213693952) : ivC lo hi = 0 := by
  unfold ivC; rw [if_neg (by omega)]
theorem ivC_bad {lo hi : Int} (h : lo < -2305843009213693952 ∨ hi < lo ∨ 2305843009213693952 < hi) : ivC lo hi = 8 := by
  unfold ivC; rw [if_pos h]
/-- What is beyond the range becomes one more than the greatest end. -/
def cl (z : Int) : Int := max (-2305843009213693953) (min 2305843009213693953 z)
theorem cl_in {z : Int} (h1 : -2305843009213693952 ≤ z) (h2 : z ≤ 2305843009213693952) : cl z = z := by unfold cl; omega
theorem cl_min (a b : Int) : cl (min a b) = min (cl a) (cl b) := by unfold cl; omega
theorem cl_max (a b : Int) : cl (max a b) = max (cl a) (cl b) := by unfold cl; omega
theorem cl_neg (a : Int) : cl (-a) = -cl a := by unfold cl; omega
theorem cl_mono {a b : Int} (h : a ≤ b) : cl a ≤ cl b := by unfold cl; omega
theorem cl_cl (a : Int) : cl (cl a) = cl a := by unfold cl; omega
/-- The ends that a result has, or ErrRange. -/
structure Out where
  lo : Int
  hi : Int
  err : Int
def mkI (lo hi : Int) : Out := if lo < -2305843009213693952 ∨ 2305843009213693952 < hi then ⟨0, 0, 16⟩ else ⟨lo, hi, 0⟩
theorem mkI_in {lo hi : Int} (h1 : -2305843009213693952 ≤ lo) (h2 : hi ≤ 2305843009213693952) : mkI lo hi = ⟨lo, hi, 0⟩ := by unfold mkI; rw [if_neg (by omega)]
theorem mkI_out {lo hi : Int} (h : lo < -2305843009213693952 ∨ 2305843009213693952 < hi) : mkI lo hi = ⟨0, 0, 16⟩ := by unfold mkI; rw [if_pos h]
theorem mkI_cl {lo hi lo' hi' : Int} (h1 : cl lo = cl lo') (h2 : cl hi = cl hi') (_h3 : lo ≤ hi) (_h4 : lo' ≤ hi') : mkI lo hi = mkI lo' hi' := by
  unfold mkI cl at *
  by_cases h : lo < -2305843009213693952 ∨ 2305843009213693952 < hi
  · rw [if_pos h, if_pos (by omega)]
  · rw [if_neg h, if_neg (by omega)]
    have e1 : lo = lo' := by omega
    have e2 : hi = hi' := by omega
    rw [e1, e2]

/-- The quotient rounded up. -/
def cdiv (p d : Int) : Int := -((-p) / d)
theorem fdiv_mono {p q d : Int} (hd : 0 < d) (h : p ≤ q) : p / d ≤ q / d := Int.ediv_le_ediv hd h
theorem cdiv_mono {p q d : Int} (hd : 0 < d) (h : p ≤ q) : cdiv p d ≤ cdiv q d := by
  unfold cdiv
  have := Int.ediv_le_ediv hd (show -q ≤ -p by omega)
  omega
theorem fdiv_le_cdiv {p d : Int} (hd : 0 < d) : p / d ≤ cdiv p d := by
  unfold cdiv
  have h1 := Int.mul_ediv_self_le (x := p) (k := d) (by omega)
  have h2 := Int.mul_ediv_self_le (x := -p) (k := d) (by omega)
  have h3 : d * (p / d + -p / d) ≤ 0 := by rw [Int.mul_add]; omega
  have h4 : p / d + -p / d ≤ 0 := by
    rcases Int.lt_or_le 0 (p / d + -p / d) with h | h
    · have := Int.mul_pos hd h; omega
    · exact h
  omega
theorem cdiv_nat (N D : Nat) (hD : 0 < D) : cdiv (N : Int) (D : Int) = ((N / D + (if N % D = 0 then 0 else 1) : Nat) : Int) := by
  unfold cdiv
  have h1 := Nat.div_add_mod N D
  have h2 := Nat.mod_lt N hD
  have e : -(N : Int) = (-((N / D + (if N % D = 0 then 0 else 1) : Nat) : Int)) * (D : Int) + (if N % D = 0 then 0 else ((D - N % D : Nat) : Int)) := by
    have h1' : (D : Int) * ((N / D : Nat) : Int) + ((N % D : Nat) : Int) = (N : Int) := by rw [← Int.natCast_mul, ← Int.natCast_add, h1]
    generalize N / D = q at *
    generalize N % D = r at *
    by_cases hr : r = 0
    · rw [if_pos hr, if_pos hr, Int.neg_mul, Int.mul_comm, Nat.add_zero]; omega
    · rw [if_neg hr, if_neg hr, Int.neg_mul, Int.natCast_add, Int.add_mul, Int.mul_comm]; omega
  rw [e, Int.add_comm, Int.add_mul_ediv_right _ _ (by omega)]
  have h3 : (if N % D = 0 then (0 : Int) else ((D - N % D : Nat) : Int)) / (D : Int) = 0 := by
    by_cases hr : N % D = 0
    · rw [if_pos hr]; simp
    · rw [if_neg hr]; exact Int.ediv_eq_zero_of_lt (by omega) (by omega)
  rw [h3]; omega
/-- What the program makes of a quotient's whole part: clamped, and one more if there is a rest. -/
def arLo (q : Nat) : Int := ((min q 2305843009213693953 : Nat) : Int)
def arHi (q : Nat) (more : Bool) : Int := arLo q + (if more then 1 else 0)
theorem arLo_cl (q : Nat) : cl (arLo q) = cl (q : Int) := by unfold cl arLo; omega
theorem arHi_cl (N D : Nat) (hD : 0 < D) (more : Bool) (hm : more = true → N % D ≠ 0) (hm2 : more = false → N % D = 0 ∨ 2305843009213693953 ≤ N / D) : cl (arHi (N / D) more) = cl (cdiv (N : Int) (D : Int)) := by
  rw [cdiv_nat N D hD]
  unfold cl arHi arLo
  cases more
  · rcases hm2 rfl with h | h
    · rw [if_pos h]; simp only [Bool.false_eq_true, if_false]; omega
    · simp only [Bool.false_eq_true, if_false]
      by_cases hr : N % D = 0
      · rw [if_pos hr]; omega
      · rw [if_neg hr]; omega
  · rw [if_neg (hm rfl)]; simp only [if_true]; omega
/-- The number of a product. -/
def sgn (neg : Bool) (N : Nat) : Int := if neg then -(N : Int) else (N : Int)
/-- The ends that the program makes of a signed quotient. -/
def ovLo (neg : Bool) (q : Nat) (more : Bool) : Int := if neg then -arHi q more else arLo q
def ovHi (neg : Bool) (q : Nat) (more : Bool) : Int := if neg then -arLo q else arHi q more
theorem ov_le (neg : Bool) (q : Nat) (more : Bool) : ovLo neg q more ≤ ovHi neg q more := by
  unfold ovLo ovHi arHi
  cases neg <;> cases more <;> simp <;> omega
theorem ovLo_cl (neg : Bool) (N D : Nat) (hD : 0 < D) (more : Bool) (hm : more = true → N % D ≠ 0) (hm2 : more = false → N % D = 0 ∨ 2305843009213693953 ≤ N / D) : cl (ovLo neg (N / D) more) = cl (sgn neg N / (D : Int)) := by
  unfold ovLo sgn
  cases neg
  · simp only [Bool.false_eq_true, if_false]; rw [arLo_cl, Int.natCast_ediv]
  · simp only [if_true]; rw [cl_neg, arHi_cl N D hD more hm hm2, ← cl_neg]; unfold cdiv; rw [Int.neg_neg]
theorem ovHi_cl (neg : Bool) (N D : Nat) (hD : 0 < D) (more : Bool) (hm : more = true → N % D ≠ 0) (hm2 : more = false → N % D = 0 ∨ 2305843009213693953 ≤ N / D) : cl (ovHi neg (N / D) more) = cl (cdiv (sgn neg N) (D : Int)) := by
  unfold ovHi sgn
  cases neg
  · simp only [Bool.false_eq_true, if_false]; exact arHi_cl N D hD more hm hm2
  · simp only [if_true]; rw [cl_neg, arLo_cl]; unfold cdiv; rw [Int.neg_neg, ← cl_neg, Int.natCast_ediv]
end Go.Proofs.YtegpckhfncblhaaDoor

/- The numbers of intervals: the corners of products and quotients. -/
namespace Go.Proofs.YtegpckhfncblhaaDoor

theorem fdiv_min {d : Int} (hd : 0 < d) (a b : Int) : min a b / d = min (a / d) (b / d) := by
  rcases Int.le_total a b with h | h
  · have := fdiv_mono hd h; rw [Int.min_eq_left h, Int.min_eq_left this]
  · have := fdiv_mono hd h; rw [Int.min_eq_right h, Int.min_eq_right this]
theorem cdiv_max {d : Int} (hd : 0 < d) (a b : Int) : cdiv (max a b) d = max (cdiv a d) (cdiv b d) := by
  rcases Int.le_total a b with h | h
  · have := cdiv_mono hd h; rw [Int.max_eq_right h, Int.max_eq_right this]
  · have := cdiv_mono hd h; rw [Int.max_eq_left h, Int.max_eq_left this]
def mn4 (a b c d : Int) : Int := min (min (min a b) c) d
def mx4 (a b c d : Int) : Int := max (max (max a b) c) d
theorem mn4_cl {a b c d a' b' c' d' : Int} (h1 : cl a = cl a') (h2 : cl b = cl b') (h3 : cl c = cl c') (h4 : cl d = cl d') : cl (mn4 a b c d) = cl (mn4 a' b' c' d') := by
  unfold mn4; rw [cl_min, cl_min, cl_min, cl_min, cl_min, cl_min, h1, h2, h3, h4]
theorem mx4_cl {a b c d a' b' c' d' : Int} (h1 : cl a = cl a') (h2 : cl b = cl b') (h3 : cl c = cl c') (h4 : cl d = cl d') : cl (mx4 a b c d) = cl (mx4 a' b' c' d') := by
  unfold mx4; rw [cl_max, cl_max, cl_max, cl_max, cl_max, cl_max, h1, h2, h3, h4]
theorem mn4_fdiv {d : Int} (hd : 0 < d) (a b c e : Int) : mn4 a b c e / d = mn4 (a / d) (b / d) (c / d) (e / d) := by
  unfold mn4; rw [fdiv_min hd, fdiv_min hd, fdiv_min hd]
theorem mx4_cdiv {d : Int} (hd : 0 < d) (a b c e : Int) : cdiv (mx4 a b c e) d = mx4 (cdiv a d) (cdiv b d) (cdiv c d) (cdiv e d) := by
  unfold mx4; rw [cdiv_max hd, cdiv_max hd, cdiv_max hd]
theorem mn_mx {a b c d a' b' c' d' : Int} (_h1 : a ≤ a') (_h2 : b ≤ b') (_h3 : c ≤ c') (_h4 : d ≤ d') : mn4 a b c d ≤ mx4 a' b' c' d' := by unfold mn4 mx4; omega

/-- What the reference makes of a quotient's absolute value. -/
def roK (N d : Nat) (b : Bool) : Nat := if 4611686018427387904 ≤ N / d then 4611686018427387904 else N / d + (if b && decide (0 < N % d) then 1 else 0)
def rov (neg up : Bool) (N d : Nat) : Int := sgn neg (roK N d (up != neg))
theorem rov_lo (neg : Bool) (N D : Nat) (hD : 0 < D) : cl (rov neg false N D) = cl (sgn neg N / (D : Int)) := by
  unfold rov sgn roK
  cases neg
  · simp only [Bool.false_eq_true, if_false, bne_self_eq_false, Bool.false_and]
    rw [← Int.natCast_ediv]
    unfold cl
    by_cases h : 4611686018427387904 ≤ N / D
    · rw [if_pos h]; omega
    · rw [if_neg h]; omega
  · have e : -(N : Int) / (D : Int) = -cdiv (N : Int) (D : Int) := by unfold cdiv; rw [Int.neg_neg]
    simp only [if_true, e, cdiv_nat N D hD]
    unfold cl
    by_cases h : 4611686018427387904 ≤ N / D
    · rw [if_pos h]; split <;> omega
    · rw [if_neg h]
      by_cases h0 : N % D = 0
      · rw [if_pos h0, if_neg (by simp; omega)]
      · rw [if_neg h0, if_pos (by simp; omega)]
theorem rov_hi (neg : Bool) (N D : Nat) (hD : 0 < D) : cl (rov neg true N D) = cl (cdiv (sgn neg N) (D : Int)) := by
  unfold rov sgn roK
  cases neg
  · simp only [Bool.false_eq_true, if_false, cdiv_nat N D hD]
    unfold cl
    by_cases h : 4611686018427387904 ≤ N / D
    · rw [if_pos h]; split <;> omega
    · rw [if_neg h]
      by_cases h0 : N % D = 0
      · rw [if_pos h0, if_neg (by simp; omega)]
      · rw [if_neg h0, if_pos (by simp; omega)]
  · have e : cdiv (-(N : Int)) (D : Int) = -((N / D : Nat) : Int) := by unfold cdiv; rw [Int.neg_neg, Int.natCast_ediv]
    simp only [if_true, e, bne_self_eq_false, Bool.false_and, Bool.false_eq_true, if_false]
    unfold cl
    by_cases h : 4611686018427387904 ≤ N / D
    · rw [if_pos h]; omega
    · rw [if_neg h]; omega

/-- The quotient by a number of either sign, with the sign moved to the dividend. -/
theorem quo_mono_div {p d e : Int} (hp : 0 ≤ p) (hd : 0 < d) (h : d ≤ e) : p / e ≤ p / d := by
  rw [Int.le_ediv_iff_mul_le hd]
  have h1 : p / e * e ≤ p := Int.ediv_mul_le p (by omega)
  have h2 : 0 ≤ p / e := Int.ediv_nonneg hp (by omega)
  have h3 := Int.mul_le_mul_of_nonneg_left h h2
  omega
theorem quo_mono_div_neg {p d e : Int} (hp : p ≤ 0) (hd : 0 < d) (h : d ≤ e) : p / d ≤ p / e := by
  rw [Int.le_ediv_iff_mul_le (by omega)]
  have h1 : p / d * d ≤ p := Int.ediv_mul_le p (by omega)
  have h2 : p / d ≤ 0 := by
    rcases Int.lt_or_le 0 (p / d) with h | h
    · have h3 := Int.mul_pos h hd; omega
    · exact h
  have h3 := Int.mul_le_mul_of_nonpos_left h2 h
  omega
theorem cquo_mono_div {p d e : Int} (hp : 0 ≤ p) (hd : 0 < d) (h : d ≤ e) : cdiv p e ≤ cdiv p d := by
  unfold cdiv
  have := quo_mono_div_neg (show -p ≤ 0 by omega) hd h
  omega
theorem cquo_mono_div_neg {p d e : Int} (hp : p ≤ 0) (hd : 0 < d) (h : d ≤ e) : cdiv p d ≤ cdiv p e := by
  unfold cdiv
  have := quo_mono_div (show 0 ≤ -p by omega) hd h
  omega
/-- The least quotient of the corners, the divisor greater than 0. -/
theorem least_quo {p q c d : Int} (hpq : p ≤ q) (hc : 0 < c) (hcd : c ≤ d) : mn4 (p / c) (p / d) (q / c) (q / d) = if p < 0 then p / c else p / d := by
  have h1 := fdiv_mono hc hpq
  have h2 := fdiv_mono (show 0 < d by omega) hpq
  by_cases hp : p < 0
  · rw [if_pos hp]
    have h3 := quo_mono_div_neg (show p ≤ 0 by omega) hc hcd
    unfold mn4; omega
  · rw [if_neg hp]
    have h3 := quo_mono_div (show 0 ≤ p by omega) hc hcd
    have h4 := quo_mono_div (show 0 ≤ q by omega) hc hcd
    unfold mn4; omega
theorem most_quo {p q c d : Int} (hpq : p ≤ q) (hc : 0 < c) (hcd : c ≤ d) : mx4 (cdiv p c) (cdiv p d) (cdiv q c) (cdiv q d) = if 0 < q then cdiv q c else cdiv q d := by
  have h1 := cdiv_mono hc hpq
  have h2 := cdiv_mono (show 0 < d by omega) hpq
  by_cases hq : 0 < q
  · rw [if_pos hq]
    have h3 := cquo_mono_div (show 0 ≤ q by omega) hc hcd
    unfold mx4; omega
  · rw [if_neg hq]
    have h3 := cquo_mono_div_neg (show q ≤ 0 by omega) hc hcd
    have h4 := cquo_mono_div_neg (show p ≤ 0 by omega) hc hcd
    unfold mx4; omega
end Go.Proofs.YtegpckhfncblhaaDoor

/- Intervals: words for their boxes, and Check, made and checkAll on both sides. -/
namespace Go.Proofs.YtegpckhfncblhaaDoor
open Go.RowKit

abbrev iv (lo hi : Int) : Value := .agg #[.int .i64 lo, .int .i64 hi]
abbrev ivB (lo hi : Int) : Obj := .cells #[.int .i64 lo, .int .i64 hi] 28
/-- A call returns an interval and an error; what was there is kept. -/
def RO (w : World) (o : Out) (e : Ending) (w' : World) : Prop := e = .returned (.tuple #[iv o.lo o.hi, .int .i64 o.err]) ∧ Below w.heap.size w w'
/-- A call returns an interval. -/
def RV (w : World) (lo hi : Int) (e : Ending) (w' : World) : Prop := e = .returned (iv lo hi) ∧ Below w.heap.size w w'
/-- A call returns a whole number. -/
def RN1 (w : World) (v : Int) (e : Ending) (w' : World) : Prop := e = .returned (.int .i64 v) ∧ Below w.heap.size w w'
theorem sbtr {a b c : World} (h : Below a.heap.size a b) (h' : Below b.heap.size b c) : Below a.heap.size a c := h.trans (h'.mono h.size)
theorem sbal {a b : World} (h : Below a.heap.size a b) (o : Obj) : Below a.heap.size a (b.alloc o) := h.alloc h.size o
theorem res_iv {fn : Func} {r s : Nat} (hr : fn.results = #[.cell r 28, .tmp s]) {tmps : Array Value} {w : World} {g : Nat} {x y : Value} (ht : tmps.getD r undef = .pointer (some ⟨g, 0, none⟩))
    (p : Pr w g x y) : (results fn tmps).run Tryd.prog w = .ok (.tuple #[.agg #[x, y], tmps.getD s undef]) w := by
  have h0 := p.c0; have h1 := p.c1
  rw [Array.getD_eq_getD_getElem?] at ht
  simp [results, hr, go_sem, ht, h0, h1]
theorem post_iv {fn : Func} {r s : Nat} (hr : fn.results = #[.cell r 28, .tmp s]) {R : Ending → World → Prop} {a : Act} {w : World} {g : Nat} {x y : Value} (ht : a.tmps.getD r undef = .pointer (some ⟨g, 0, none⟩))
    (hd : a.defers = []) (p : Pr w g x y) (h : R (.returned (.tuple #[.agg #[x, y], a.tmps.getD s undef])) w) : bodyPost Tryd.prog fn R .ret a w :=
  bodyPost_ret (res_iv hr ht p) hd h
theorem res_iv1 {fn : Func} {r : Nat} (hr : fn.results = #[.cell r 28]) {tmps : Array Value} {w : World} {g : Nat} {x y : Value} (ht : tmps.getD r undef = .pointer (some ⟨g, 0, none⟩))
    (p : Pr w g x y) : (results fn tmps).run Tryd.prog w = .ok (.agg #[x, y]) w := by
  have h0 := p.c0; have h1 := p.c1
  rw [Array.getD_eq_getD_getElem?] at ht
  simp [results, hr, go_sem, ht, h0, h1]
theorem post_iv1 {fn : Func} {r : Nat} (hr : fn.results = #[.cell r 28]) {R : Ending → World → Prop} {a : Act} {w : World} {g : Nat} {x y : Value} (ht : a.tmps.getD r undef = .pointer (some ⟨g, 0, none⟩))
    (hd : a.defers = []) (p : Pr w g x y) (h : R (.returned (.agg #[x, y])) w) : bodyPost Tryd.prog fn R .ret a w :=
  bodyPost_ret (res_iv1 hr ht p) hd h

set_option maxRecDepth 100000 in
theorem scheck_any (w : World) (lo hi : Int) : Calls Tryd.prog 31 #[iv lo hi] w (RN1 w (ivC lo hi)) := by
  rcases ivC_cases lo hi with ⟨h, h1, h2, h3⟩ | ⟨h, hc⟩
  · rw [h]; clear h
    go_enter Tryd.func31, Tryd.ntmps31
    go_wp2
    go_ret
    exact ⟨rfl, by go_grown⟩
  · rw [h]; clear h
    by_cases h1 : lo < -2305843009213693952
    · clear hc
      go_enter Tryd.func31, Tryd.ntmps31
      go_wp2
      go_ret
      exact ⟨rfl, by go_grown⟩
    · by_cases h2 : hi < lo
      · clear hc
        go_enter Tryd.func31, Tryd.ntmps31
        go_wp2
        go_ret
        exact ⟨rfl, by go_grown⟩
      · have h3 : 2305843009213693952 < hi := by omega
        clear hc
        go_enter Tryd.func31, Tryd.ntmps31
        go_wp2
        go_ret
        exact ⟨rfl, by go_grown⟩
/-- The error of the first one of two intervals that has one. -/
def ivB2 (al ah bl bh : Int) : Int := if ivC al ah = 0 then ivC bl bh else ivC al ah
theorem ivB2_ok {al ah bl bh : Int} (h : ivC al ah = 0) : ivB2 al ah bl bh = ivC bl bh := by unfold ivB2; rw [if_pos h]
theorem ivB2_bad {al ah bl bh : Int} (h : ivC al ah = 8) : ivB2 al ah bl bh = 8 := by unfold ivB2; rw [if_neg (by rw [h]; decide), h]
set_option maxRecDepth 100000 in
theorem rsmade_any (w : World) (lo hi : Int) : Calls Tryd.prog 18 #[.int .i64 lo, .int .i64 hi] w (RO w (mkI lo hi)) := by
  by_cases h1 : lo < -2305843009213693952
  · rw [mkI_out (.inl h1)]
    go_enter Tryd.func18, Tryd.ntmps18
    go_wp2
    exact post_iv Tryd.results18 rfl rfl (Pr.new w _ rfl _ _ _) ⟨rfl, by go_grown⟩
  · by_cases h2 : 2305843009213693952 < hi
    · rw [mkI_out (.inr h2)]
      go_enter Tryd.func18, Tryd.ntmps18
      go_wp2
      exact post_iv Tryd.results18 rfl rfl (Pr.new w _ rfl _ _ _) ⟨rfl, by go_grown⟩
    · rw [mkI_in (by omega) (by omega)]
      go_enter Tryd.func18, Tryd.ntmps18
      go_wp2
      exact post_iv Tryd.results18 rfl rfl (Pr.new w _ rfl _ _ _) ⟨rfl, by go_grown⟩
set_option maxRecDepth 100000 in
theorem smade_any (w : World) (lo hi : Int) (hle : lo ≤ hi) : Calls Tryd.prog 12 #[iv lo hi] w (RO w (mkI lo hi)) := by
  have PA := Lib.hid ((Pr.new w w.heap.size rfl (.int .i64 lo) (.int .i64 hi) 28).alloc (ivB 0 0))
  have PB := Lib.hid (Pr.new (w.alloc (ivB lo hi)) (w.heap.size + 1) (by simp) (.int .i64 0) (.int .i64 0) 28)
  rcases ivC_cases lo hi with ⟨h, h1, _, h2⟩ | ⟨h, hc⟩
  · rw [mkI_in h1 h2]
    have H := Lib.hid h
    clear h h1 h2
    go_enter Tryd.func12, Tryd.ntmps12
    go_wp2_with fail
    refine (scheck_any _ lo hi).mono ?_
    rintro e w1 ⟨rfl, hb⟩
    have P1 := Lib.hid (PA.out.via hb)
    have P2 := Lib.hid (PB.out.via hb)
    have B1 := Lib.hid (bbox (bbox hb))
    clear hb PA PB
    rw [H.out]
    have ⟨a0, a1, _, _, _⟩ := P1.out
    have ⟨b0, b1, f0, f1, bl⟩ := P2.out
    go_wp2
    exact post_iv Tryd.results12 rfl rfl (P2.out.set _ _) ⟨rfl, below_set2 B1.out (by omega) _ _⟩
  · rw [mkI_out (by omega)]
    have H := Lib.hid h
    clear h hc
    go_enter Tryd.func12, Tryd.ntmps12
    go_wp2_with fail
    refine (scheck_any _ lo hi).mono ?_
    rintro e w1 ⟨rfl, hb⟩
    have P1 := Lib.hid (PA.out.via hb)
    have P2 := Lib.hid (PB.out.via hb)
    have B1 := Lib.hid (bbox (bbox hb))
    clear hb PA PB
    rw [H.out]
    have ⟨a0, a1, _, _, _⟩ := P1.out
    have ⟨b0, b1, f0, f1, bl⟩ := P2.out
    go_wp2
    exact post_iv Tryd.results12 rfl rfl (P2.out.set _ _) ⟨rfl, below_set2 B1.out (by omega) _ _⟩
end Go.Proofs.YtegpckhfncblhaaDoor

/- Intervals of fractions: words; Whole on both sides, share of the code. -/
namespace Go.Proofs.YtegpckhfncblhaaDoor
open Go.RowKit

/-- A call returns the number z, which is not negative. -/
def RNN (w : World) (z : Int) (e : Ending) (w' : World) : Prop := ∃ A n c, e = .returned (.tuple #[.agg #[.bool false, .slice A n c], .int .i64 0]) ∧ Lm w' w'.heap.size A n c (digs z.natAbs) ∧ Below w.heap.size w w'
theorem rn_nn {w : World} {z : Int} (hz : 0 ≤ z) {e : Ending} {w' : World} (h : RN w z e w') : RNN w z e w' := by
  unfold RN at h
  rwa [decide_eq_false (by omega)] at h
/-- A call returns quotient and rest of a number by one greater than 0. -/
def RDF (w : World) (x y : Int) (e : Ending) (w' : World) : Prop := ∃ A n c A' n' c', e = .returned (.tuple #[.agg #[.bool (decide (x / y < 0)), .slice A n c], .agg #[.bool false, .slice A' n' c'], .int .i64 0]) ∧ Lm w' w'.heap.size A n c (digs (x / y).natAbs) ∧ Lm w' w'.heap.size A' n' c' (digs (x % y).natAbs) ∧ Below w.heap.size w w'
theorem rd2_f {w : World} {x y : Int} (hy : 0 < y) {e : Ending} {w' : World} (h : RD2 w x y e w') : RDF w x y e w' := by
  obtain ⟨q, r, h1, h2, h3, _, A, n, c, A', n', c', he, hL, hL', hb⟩ := h
  have hr : 0 ≤ r := by
    rcases h3 with h3 | h3
    · omega
    · rw [decide_eq_false (show ¬ y < 0 by omega)] at h3
      have := of_decide_eq_false h3; omega
  obtain ⟨e1, e2⟩ := (Int.ediv_emod_unique (a := x) (b := y) (r := r) (q := q) hy).2 ⟨by rw [h1, Int.mul_comm]; omega, hr, by omega⟩
  refine ⟨A, n, c, A', n', c', ?_, by rw [e1]; exact hL, by rw [e2]; exact hL', hb⟩
  rw [he, e1, decide_eq_false (show ¬ r < 0 by omega)]
theorem RDF.of {w : World} {x y q : Int} (hq : x / y = q) {e : Ending} {w' : World} (h : RDF w x y e w') : ∃ A n c A' n' c', e = .returned (.tuple #[.agg #[.bool (decide (q < 0)), .slice A n c], .agg #[.bool false, .slice A' n' c'], .int .i64 0]) ∧ Lm w' w'.heap.size A n c (digs q.natAbs) ∧ Lm w' w'.heap.size A' n' c' (digs (x % y).natAbs) ∧ Below w.heap.size w w' := by
  subst hq; exact h
theorem div_mod_c {p d : Int} (hd : 0 < d) : cdiv p d = if p % d = 0 then p / d else p / d + 1 := by
  have h1 := Int.mul_ediv_add_emod p d
  have h2 := Int.emod_nonneg p (show d ≠ 0 by omega)
  have h3 := Int.emod_lt_of_pos p hd
  unfold cdiv
  by_cases h : p % d = 0
  · rw [if_pos h]
    have e : -p / d = -(p / d) := ((Int.ediv_emod_unique (a := -p) (b := d) (r := 0) (q := -(p / d)) hd).2 ⟨by rw [Int.mul_neg]; omega, by omega, hd⟩).1
    omega
  · rw [if_neg h]
    have e : -p / d = -(p / d) - 1 := ((Int.ediv_emod_unique (a := -p) (b := d) (r := d - p % d) (q := -(p / d) - 1) hd).2 ⟨by rw [Int.mul_sub, Int.mul_neg]; omega, by omega, by omega⟩).1
    omega
/-- The interval of a fraction. -/
def offO (N D : Int) : Out := mkI (N * 1099511627776 / D) (cdiv (N * 1099511627776) D)
theorem share_eq {N D : Int} (hD : 0 < D) : N * 1099511627776 / D = N / D * 1099511627776 + N % D * 1099511627776 / D ∧ N * 1099511627776 % D = N % D * 1099511627776 % D ∧ 0 ≤ N % D * 1099511627776 / D ∧ N % D * 1099511627776 / D < 1099511627776 := by
  have h1 := Int.mul_ediv_add_emod N D
  have h2 := Int.emod_nonneg N (show D ≠ 0 by omega)
  have h3 := Int.emod_lt_of_pos N hD
  have h4 := Int.mul_ediv_add_emod (N % D * 1099511627776) D
  have h5 := Int.emod_nonneg (N % D * 1099511627776) (show D ≠ 0 by omega)
  have h6 := Int.emod_lt_of_pos (N % D * 1099511627776) hD
  have e : N * 1099511627776 = D * (N / D * 1099511627776 + N % D * 1099511627776 / D) + N % D * 1099511627776 % D := by
    rw [Int.mul_add, ← Int.mul_assoc]
    have : N * 1099511627776 = (D * (N / D) + N % D) * 1099511627776 := by rw [h1]
    rw [this, Int.add_mul]
    omega
  obtain ⟨a1, a2⟩ := (Int.ediv_emod_unique (a := N * 1099511627776) (b := D) (r := N % D * 1099511627776 % D) (q := N / D * 1099511627776 + N % D * 1099511627776 / D) hD).2 ⟨by omega, h5, h6⟩
  refine ⟨a1, a2, Int.ediv_nonneg (by omega) (by omega), Int.ediv_lt_of_lt_mul hD (by rw [Int.mul_comm 1099511627776]; exact Int.mul_lt_mul_of_pos_right h3 (by omega))⟩
theorem sdrewZ {B : Nat} {a w : World} (h : Below B a w) : Below B a w.drew := bdrewN h 1
theorem mk_out {lo hi : Int} (h : lo < -2305843009213693952 ∨ 2305843009213693952 < hi) : mkI lo hi = ⟨0, 0, 16⟩ := by unfold mkI; rw [if_pos h]
theorem off_out {N D : Int} (hD : 0 < D) (h : N / D < -2097152 ∨ 2097152 < N / D) : offO N D = ⟨0, 0, 16⟩ := by
  obtain ⟨h1, h2, h3, h4⟩ := share_eq (N := N) hD
  have h5 := fdiv_le_cdiv (p := N * 1099511627776) hD
  unfold offO
  exact mk_out (by omega)
def whO (n : Int) : Out := if n < -2097152 ∨ 2097152 < n then ⟨0, 0, 16⟩ else ⟨n * 1099511627776, n * 1099511627776, 0⟩
theorem who_out {n : Int} (h : n < -2097152 ∨ 2097152 < n) : whO n = ⟨0, 0, 16⟩ := by unfold whO; rw [if_pos h]
theorem who_in {n : Int} (h1 : -2097152 ≤ n) (h2 : n ≤ 2097152) : whO n = ⟨n * 1099511627776, n * 1099511627776, 0⟩ := by unfold whO; rw [if_neg (by omega)]
set_option maxRecDepth 100000 in
set_option maxHeartbeats 1000000 in
theorem swhole_any (w : World) (n : Int) (hn1 : -9223372036854775808 ≤ n) (hn2 : n ≤ 9223372036854775807) : Calls Tryd.prog 6 #[.int .i64 n] w (RO w (whO n)) := by
  have PR := Lib.hid (Pr.new w w.heap.size rfl (.int .i64 0) (.int .i64 0) 28)
  have BW : Hid (Below w.heap.size w (w.alloc (.cells #[.int .i64 0, .int .i64 0] 28))) := sbal (Below.refl _ _) _
  rcases Int.lt_or_le n (-2097152) with h | h
  · rw [who_out (.inl h)]
    go_enter Tryd.func6, Tryd.ntmps6
    have ⟨r0, r1, r2, r3, r4⟩ := PR.out
    go_wp2
    first
    | exact post_iv Tryd.results6 rfl rfl (PR.out.set _ _) ⟨rfl, below_set2 BW.out (by omega) _ _⟩
    | exact post_iv Tryd.results6 rfl rfl PR.out ⟨rfl, BW.out⟩
  · rcases Int.lt_or_le 2097152 n with h2 | h2
    · rw [who_out (.inr h2)]
      have hnb : decide (n < -2097152) = false := decide_eq_false (by omega)
      go_enter Tryd.func6, Tryd.ntmps6
      have ⟨r0, r1, r2, r3, r4⟩ := PR.out
      go_wp2
      first
      | exact post_iv Tryd.results6 rfl rfl (PR.out.set _ _) ⟨rfl, below_set2 BW.out (by omega) _ _⟩
      | exact post_iv Tryd.results6 rfl rfl PR.out ⟨rfl, BW.out⟩
    · rw [who_in h h2]
      have hnb : decide (n < -2097152) = false := decide_eq_false (by omega)
      have hnb2 : decide (2097152 < n) = false := decide_eq_false (by omega)
      have hw : IntKind.i64.wrap (n * 1099511627776) = n * 1099511627776 := IntWalk.i64_in _ (by omega)
      go_enter Tryd.func6, Tryd.ntmps6
      have ⟨r0, r1, r2, r3, r4⟩ := PR.out
      go_wp2
      exact post_iv Tryd.results6 rfl rfl (Pr.new w _ rfl _ _ _) ⟨rfl, sbal (Below.refl _ _) _⟩
set_option maxRecDepth 100000 in
set_option maxHeartbeats 1000000 in
theorem rwhole_any (w : World) (n : Int) (hn1 : -9223372036854775808 ≤ n) (hn2 : n ≤ 9223372036854775807) : Calls Tryd.prog 7 #[.int .i64 n] w (RO w (whO n)) := by
  have PR := Lib.hid (Pr.new w w.heap.size rfl (.int .i64 0) (.int .i64 0) 28)
  have BW : Hid (Below w.heap.size w (w.alloc (.cells #[.int .i64 0, .int .i64 0] 28))) := sbal (Below.refl _ _) _
  rcases Int.lt_or_le n (-2097152) with h | h
  · rw [who_out (.inl h)]
    go_enter Tryd.func7, Tryd.ntmps7
    have ⟨r0, r1, r2, r3, r4⟩ := PR.out
    go_wp2
    first
    | exact post_iv Tryd.results7 rfl rfl (PR.out.set _ _) ⟨rfl, below_set2 BW.out (by omega) _ _⟩
    | exact post_iv Tryd.results7 rfl rfl PR.out ⟨rfl, BW.out⟩
  · rcases Int.lt_or_le 2097152 n with h2 | h2
    · rw [who_out (.inr h2)]
      have hnb : decide (n < -2097152) = false := decide_eq_false (by omega)
      go_enter Tryd.func7, Tryd.ntmps7
      have ⟨r0, r1, r2, r3, r4⟩ := PR.out
      go_wp2
      first
      | exact post_iv Tryd.results7 rfl rfl (PR.out.set _ _) ⟨rfl, below_set2 BW.out (by omega) _ _⟩
      | exact post_iv Tryd.results7 rfl rfl PR.out ⟨rfl, BW.out⟩
    · rw [who_in h h2]
      have hnb : decide (n < -2097152) = false := decide_eq_false (by omega)
      have hnb2 : decide (2097152 < n) = false := decide_eq_false (by omega)
      have hw : IntKind.i64.wrap (n * 1099511627776) = n * 1099511627776 := IntWalk.i64_in _ (by omega)
      go_enter Tryd.func7, Tryd.ntmps7
      have ⟨r0, r1, r2, r3, r4⟩ := PR.out
      go_wp2
      exact post_iv Tryd.results7 rfl rfl (Pr.new w _ rfl _ _ _) ⟨rfl, sbal (Below.refl _ _) _⟩
set_option maxRecDepth 100000 in
set_option maxHeartbeats 2000000 in
theorem share_n (w : World) (A B : Option Addr) (n m ca cb k : Nat) (r D : Int) (hA : Lm w w.heap.size A n ca (digs r.natAbs)) (hB : Lm w w.heap.size B m cb (digs D.natAbs)) (hr0 : 0 ≤ r) (hrD : r < D) (hk : k ≤ 1000) (hs : Sz k D) :
    Calls Tryd.prog 11 #[.agg #[.bool false, .slice A n ca], .agg #[.bool false, .slice B m cb]] w fun e w' => e = .returned (.tuple #[.int .i64 (r * 1099511627776 / D), .bool (decide (0 < r * 1099511627776 % D))]) ∧ Below w.heap.size w w' := by
  have HA := Lib.hid hA
  have HB := Lib.hid hB
  have hsr : Sz k r := by unfold Sz at *; omega
  obtain ⟨X, hX⟩ : ∃ X, X = r * 1099511627776 := ⟨_, rfl⟩
  have hX0 : 0 ≤ X := by omega
  have hp : (2 : Int) ^ 40 = 1099511627776 := by decide
  have hsX : Sz (k + 8) X := by rw [hX, ← hp]; exact hsr.mul (sz_two 40 (by omega))
  have hsh : ∀ W, Lm W W.heap.size A n ca (digs r.natAbs) → Calls Tryd.prog 29 #[.agg #[.bool false, .slice A n ca], .int .i64 40] W (RNN W X) := fun W L => by
    have h := shup_n W A n ca 40 r L k hsr (by omega) (by omega) (decide_eq_false (show ¬ r < 0 by omega))
    rw [hp, ← hX] at h
    exact h.mono fun e w' h => rn_nn hX0 h
  have hdm : ∀ W A' n' c', Lm W W.heap.size A' n' c' (digs X.natAbs) → Lm W W.heap.size B m cb (digs D.natAbs) → Calls Tryd.prog 9 #[.agg #[.bool false, .slice A' n' c'], .agg #[.bool false, .slice B m cb]] W (RDF W X D) := fun W A' n' c' L1 L2 =>
    (divmod_n W A' B n' m c' cb (k + 8) X D L1 L2 hsX (hs.mono (by omega)) (by omega) (by omega) (decide_eq_false (by omega)) (decide_eq_false (by omega))).mono fun e w' h => rd2_f (by omega) h
  rw [← hX]
  have hu1 : 0 ≤ X / D := Int.ediv_nonneg hX0 (by omega)
  have hu2 : X / D < 1099511627776 := Int.ediv_lt_of_lt_mul (by omega) (by rw [hX, Int.mul_comm 1099511627776]; exact Int.mul_lt_mul_of_pos_right hrD (by omega))
  have hsu : Sz 2 (X / D) := by unfold Sz; omega
  have hin : ∀ W A' n' c', Lm W W.heap.size A' n' c' (digs (X / D).natAbs) → Calls Tryd.prog 10 #[.agg #[.bool (decide (X / D < 0)), .slice A' n' c']] W fun e w' => e = .returned (.tuple #[.int .i64 (X / D), .int .i64 0]) ∧ Below W.heap.size W w' := fun W A' n' c' L => by
    have h := int_n W A' n' c' 2 (X / D) L hsu (by omega) rfl
    have e1 : i64V (X / D) = X / D := by unfold i64V; rw [if_pos (by omega)]
    have e2 : i64E (X / D) = 0 := by unfold i64E; rw [if_pos (by omega)]
    rwa [e1, e2] at h
  have hm0 : 0 ≤ X % D := Int.emod_nonneg X (by omega)
  have hlen : ∀ n' : Nat, (digs (X % D).natAbs).length = n' → (0 < n' ↔ 0 < X % D) := fun n' h => by rw [← h, digs_pos]; omega
  have HSF := Lib.hid hsh
  unfold RDF at hdm
  have HDM := Lib.hid hdm
  have HIN := Lib.hid hin
  have HLN := Lib.hid hlen
  clear hsh hdm hin hlen hu1 hu2 hsu hm0 hsX hX0 hp hX hsr hA hB hr0 hrD hs
  generalize X / D = u at *
  generalize X % D = v at *
  go_enter Tryd.func11, Tryd.ntmps11
  have QA := Lib.hid ((Pr.new w (w.heap.size) rfl (.bool false) (.slice A n ca) 24).alloc (.cells #[.bool false, .slice B m cb] 24))
  have QB := Lib.hid (Pr.new (w.alloc (.cells #[.bool false, .slice A n ca] 24)) (w.heap.size + 1) (by simp) (.bool false) (.slice B m cb) 24)
  have LA := Lib.hid ((HA.out.box (.cells #[.bool false, .slice A n ca] 24)).box (.cells #[.bool false, .slice B m cb] 24))
  have LB := Lib.hid ((HB.out.box (.cells #[.bool false, .slice A n ca] 24)).box (.cells #[.bool false, .slice B m cb] 24))
  have BW : Hid (Below w.heap.size w ((w.alloc (.cells #[.bool false, .slice A n ca] 24)).alloc (.cells #[.bool false, .slice B m cb] 24))) := (sbal (sbal (Below.refl _ _) _) _)
  clear HA HB
  go_wp2_with fail
  generalize (w.alloc (.cells #[.bool false, .slice A n ca] 24)).alloc (.cells #[.bool false, .slice B m cb] 24) = W0 at *
  refine (HSF.out _ LA.out).mono ?_
  rintro e w1 ⟨A1, n1, c1, rfl, hL1, hb⟩
  replace QA := Lib.hid (QA.out.via hb)
  replace QB := Lib.hid (QB.out.via hb)
  replace LA := Lib.hid (LA.out.via hb)
  replace LB := Lib.hid (LB.out.via hb)
  replace BW := Lib.hid (btr BW.out hb)
  have L1 := Lib.hid hL1
  clear hb hL1
  have ⟨rQA0, rQA1, rQA2, rQA3, rQAl⟩ := QA.out
  have ⟨rQB0, rQB1, rQB2, rQB3, rQBl⟩ := QB.out
  go_wp2_with fail
  clear rQA0 rQA1 rQA2 rQA3 rQAl rQB0 rQB1 rQB2 rQB3 rQBl
  replace QA := Lib.hid (QA.out.alloc (.cells #[.bool false, .slice A1 n1 c1] 24))
  replace QB := Lib.hid (QB.out.alloc (.cells #[.bool false, .slice A1 n1 c1] 24))
  replace LA := Lib.hid (LA.out.box (.cells #[.bool false, .slice A1 n1 c1] 24))
  replace LB := Lib.hid (LB.out.box (.cells #[.bool false, .slice A1 n1 c1] 24))
  replace L1 := Lib.hid (L1.out.box (.cells #[.bool false, .slice A1 n1 c1] 24))
  have Q1 := Lib.hid (Pr.new w1 _ rfl (.bool false) (.slice A1 n1 c1) 24)
  replace BW := Lib.hid (sbal BW.out (.cells #[.bool false, .slice A1 n1 c1] 24))
  generalize w1.alloc (.cells #[.bool false, .slice A1 n1 c1] 24) = W1 at *
  generalize w1.heap.size = g1 at *
  have ⟨rQ10, rQ11, rQ12, rQ13, rQ1l⟩ := Q1.out
  have ⟨rQB0, rQB1, rQB2, rQB3, rQBl⟩ := QB.out
  go_wp2_with fail
  clear rQ10 rQ11 rQ12 rQ13 rQ1l rQB0 rQB1 rQB2 rQB3 rQBl
  obtain ⟨zu, hzu⟩ : ∃ b, decide (u < 0) = b := ⟨_, rfl⟩
  rw [hzu] at HDM HIN
  clear hzu
  refine (HDM.out _ _ _ _ L1.out LB.out).mono ?_
  rintro e w2 ⟨A2, n2, c2, A3, n3, c3, rfl, hL2, hL3, hb⟩
  clear L1
  clear LB
  clear LA
  clear Q1
  clear QB
  replace QA := Lib.hid (QA.out.via hb)
  replace BW := Lib.hid (btr BW.out hb)
  have L2 := Lib.hid hL2
  have L3 := Lib.hid hL3
  clear hb hL2 hL3
  have ⟨rQA0, rQA1, rQA2, rQA3, rQAl⟩ := QA.out
  go_wp2_with fail
  clear rQA0 rQA1 rQA2 rQA3 rQAl
  have hn3 := HLN.out _ L3.out.len
  have Q8 := Lib.hid (Pr.new ((w2.setCell ⟨w.heap.size, 0, none⟩ (.bool false)).setCell ⟨w.heap.size, 1, none⟩ (.slice A3 n3 c3)) w2.heap.size (size_set2 _ _ _ _) (.bool zu) (.slice A2 n2 c2) 24)
  have L8 := Lib.hid ((L2.out.setP QA.out (.bool false) (.slice A3 n3 c3)).box (.cells #[.bool zu, .slice A2 n2 c2] 24))
  replace BW := Lib.hid (sbal (below_set2 BW.out (g := w.heap.size) (Nat.le_refl _) (.bool false) (.slice A3 n3 c3)) (.cells #[.bool zu, .slice A2 n2 c2] 24))
  replace QA := Lib.hid ((QA.out.set (.bool false) (.slice A3 n3 c3)).alloc (.cells #[.bool zu, .slice A2 n2 c2] 24))
  clear L2 L3 HDM HSF HLN
  generalize ((w2.setCell ⟨w.heap.size, 0, none⟩ (.bool false)).setCell ⟨w.heap.size, 1, none⟩ (.slice A3 n3 c3)).alloc (.cells #[.bool zu, .slice A2 n2 c2] 24) = W8 at *
  generalize w2.heap.size = g8 at *
  (try go_wp2_with fail)
  refine (HIN.out _ _ _ _ L8.out).mono ?_
  rintro e w3 ⟨rfl, hb⟩
  clear Q8
  clear L8
  replace QA := Lib.hid (QA.out.via hb)
  replace BW := Lib.hid (btr BW.out hb)
  clear hb
  rcases Nat.eq_zero_or_pos n3 with h0 | h0
  · subst h0
    have hv : decide (0 < v) = false := decide_eq_false (fun h => by have := hn3.2 h; omega)
    have HVV := Lib.hid hv
    clear hv hn3
    have ⟨a0, a1, _, _, _⟩ := QA.out
    go_wp2_with fail
    go_region
    go_wp2
    go_ret2
    exact ⟨by rw [HVV.out]; rfl, sdrewZ BW.out⟩
  · have hv : decide (0 < v) = true := decide_eq_true (hn3.1 h0)
    have HVV := Lib.hid hv
    have h0i : (0 : Int) < (n3 : Int) := by omega
    clear hv hn3
    have ⟨a0, a1, _, _, _⟩ := QA.out
    go_wp2_with fail
    go_region
    go_wp2
    go_ret2
    exact ⟨by rw [HVV.out]; rfl, sdrewZ BW.out⟩
end Go.Proofs.YtegpckhfncblhaaDoor

/- Intervals of fractions: Of of the code. -/
namespace Go.Proofs.YtegpckhfncblhaaDoor
open Go.RowKit

theorem Pr.farB {w : World} {g h : Nat} {x y : Value} (p : Pr w g x y) (hne : g ≠ h) (i : Nat) (z : Value) : Pr (w.setCell ⟨h, i, none⟩ z) g x y := by
  have h1 := p.c0; have h2 := p.c1; have h3 := p.f0; have h4 := p.f1; have h5 := p.lt
  have hne2 : ¬ h = g := fun e => hne e.symm
  exact ⟨by go_simp, by go_simp, by simpa using h3, by simpa using h4, by simpa [World.size_setCell] using h5⟩
theorem ret_out {a b c : Int} {o : Out} (h : o = ⟨a, b, c⟩) : Ending.returned (.tuple #[iv a b, .int .i64 c]) = .returned (.tuple #[iv o.lo o.hi, .int .i64 o.err]) := by rw [h]
theorem ret_mk {X Y : Int} {o : Out} (h : mkI X Y = o) : Ending.returned (.tuple #[iv (mkI X Y).lo (mkI X Y).hi, .int .i64 (mkI X Y).err]) = .returned (.tuple #[iv o.lo o.hi, .int .i64 o.err]) := by rw [h]
theorem i64_out {q : Int} (h : ¬ (-9223372036854775808 ≤ q ∧ q ≤ 9223372036854775807)) : i64V q = 0 ∧ i64E q = 16 := ⟨by unfold i64V; rw [if_neg h], by unfold i64E; rw [if_neg h]⟩
theorem i64_in' {q : Int} (h : -9223372036854775808 ≤ q ∧ q ≤ 9223372036854775807) : i64V q = q ∧ i64E q = 0 := ⟨by unfold i64V; rw [if_pos h], by unfold i64E; rw [if_pos h]⟩
set_option maxRecDepth 100000 in
set_option maxHeartbeats 2000000 in
theorem sof_a (w : World) (na : Bool) (A B : Option Addr) (n m ca cb : Nat) (N D : Int) (hA : Lm w w.heap.size A n ca (digs N.natAbs)) (hB : Lm w w.heap.size B m cb (digs D.natAbs)) (hD : 0 < D) (hsN : Sz 300 N) (hsD : Sz 300 D) (hg : fchk na (digs N.natAbs) false (digs D.natAbs) = 0) (ha : decide (N < 0) = na) (h : ¬ (-9223372036854775808 ≤ N / D ∧ N / D ≤ 9223372036854775807)) : Calls Tryd.prog 4 #[fv na A n ca false B m cb] w (RO w (offO N D)) := by
  have HA := Lib.hid hA
  have HB := Lib.hid hB
  have hck : ∀ W, Lm W W.heap.size A n ca (digs N.natAbs) → Lm W W.heap.size B m cb (digs D.natAbs) → Calls Tryd.prog 8 #[fv na A n ca false B m cb] W (RN1 W 0) := fun W L1 L2 => by
    have h := fcheck_any W na false A B n m ca cb _ _ L1 L2
    rw [hg] at h
    exact h
  obtain ⟨q, hq⟩ : ∃ q, N / D = q := ⟨_, rfl⟩
  have hsq : Sz 300 q := by
    have h1 := Int.mul_ediv_add_emod N D
    have h2 := Int.emod_nonneg N (show D ≠ 0 by omega)
    have h3 := Int.emod_lt_of_pos N hD
    rw [hq] at h1
    unfold Sz at *
    have h4 : q.natAbs ≤ N.natAbs := by
      rcases Int.lt_or_le q 0 with h | h
      · have h5 : D * q ≤ 1 * q := Int.mul_le_mul_of_nonpos_right (by omega) (by omega)
        have h6 : D * q = -(D * (-q)) := by rw [Int.mul_neg]; omega
        have h7 : 0 ≤ (D - 1) * (-q - 1) := Int.mul_nonneg (by omega) (by omega)
        have h8 : (D - 1) * (-q - 1) = D * (-q) - D + q + 1 := by grind
        omega
      · have h5 : 1 * q ≤ D * q := Int.mul_le_mul_of_nonneg_right (by omega) h
        omega
    omega
  have hdm : ∀ W, Lm W W.heap.size A n ca (digs N.natAbs) → Lm W W.heap.size B m cb (digs D.natAbs) → Calls Tryd.prog 9 #[.agg #[.bool na, .slice A n ca], .agg #[.bool false, .slice B m cb]] W fun e w' => ∃ A n c A' n' c', e = .returned (.tuple #[.agg #[.bool (decide (q < 0)), .slice A n c], .agg #[.bool false, .slice A' n' c'], .int .i64 0]) ∧ Lm w' w'.heap.size A n c (digs q.natAbs) ∧ Lm w' w'.heap.size A' n' c' (digs (N % D).natAbs) ∧ Below W.heap.size W w' := fun W L1 L2 =>
    (divmod_n W A B n m ca cb 300 N D L1 L2 hsN hsD (by omega) (by omega) ha (decide_eq_false (by omega))).mono fun e w' h => RDF.of hq (rd2_f hD h)
  have hin : ∀ W A' n' c', Lm W W.heap.size A' n' c' (digs q.natAbs) → Calls Tryd.prog 10 #[.agg #[.bool (decide (q < 0)), .slice A' n' c']] W fun e w' => e = .returned (.tuple #[.int .i64 (i64V q), .int .i64 (i64E q)]) ∧ Below W.heap.size W w' := fun W A' n' c' L => int_n W A' n' c' 300 q L hsq (by omega) rfl
  have HM := Lib.hid (off_out (N := N) hD (by omega))
  rw [hq] at h
  rw [(i64_out h).1, (i64_out h).2] at hin
  clear h
  have HCK := Lib.hid hck
  have HDM := Lib.hid hdm
  have HIN := Lib.hid hin
  clear hck hdm hin hsq hsN hsD hg ha hA hB
  have HD := Lib.hid hD
  have HQ := Lib.hid hq
  clear hD hq
  obtain ⟨zq, hzq⟩ : ∃ b, decide (q < 0) = b := ⟨_, rfl⟩
  rw [hzq] at HDM HIN
  clear hzq
  go_enter Tryd.func4, Tryd.ntmps4
  have QF := Lib.hid ((Qd.new w (w.heap.size) rfl (.bool na) (.slice A n ca) (.bool false) (.slice B m cb) 26).alloc (.cells #[.int .i64 0, .int .i64 0] 28))
  have QR := Lib.hid (Pr.new (w.alloc (.cells #[.bool na, .slice A n ca, .bool false, .slice B m cb] 26)) (w.heap.size + 1) (by simp) (.int .i64 0) (.int .i64 0) 28)
  have LA := Lib.hid ((HA.out.box (.cells #[.bool na, .slice A n ca, .bool false, .slice B m cb] 26)).box (.cells #[.int .i64 0, .int .i64 0] 28))
  have LB := Lib.hid ((HB.out.box (.cells #[.bool na, .slice A n ca, .bool false, .slice B m cb] 26)).box (.cells #[.int .i64 0, .int .i64 0] 28))
  have BW : Hid (Below w.heap.size w ((w.alloc (.cells #[.bool na, .slice A n ca, .bool false, .slice B m cb] 26)).alloc (.cells #[.int .i64 0, .int .i64 0] 28))) := (sbal (sbal (Below.refl _ _) _) _)
  clear HA HB
  go_wp2_with fail
  generalize (w.alloc (.cells #[.bool na, .slice A n ca, .bool false, .slice B m cb] 26)).alloc (.cells #[.int .i64 0, .int .i64 0] 28) = W0 at *
  refine (HCK.out _ LA.out LB.out).mono ?_
  rintro e w1 ⟨rfl, hb⟩
  replace QF := Lib.hid (QF.out.via hb)
  replace QR := Lib.hid (QR.out.via hb)
  replace LA := Lib.hid (LA.out.via hb)
  replace LB := Lib.hid (LB.out.via hb)
  replace BW := Lib.hid (btr BW.out hb)
  clear hb
  have ⟨rQF0, rQF1, rQF2, rQF3, rQF4, rQF5, rQF6, rQF7, rQFl⟩ := QF.out
  go_wp2_with fail
  clear rQF0 rQF1 rQF2 rQF3 rQF4 rQF5 rQF6 rQF7 rQFl
  refine (HDM.out _ LA.out LB.out).mono ?_
  rintro e w2 ⟨A1, n1, c1, A2, n2, c2, rfl, hL1, hL2, hb⟩
  replace QF := Lib.hid (QF.out.via hb)
  replace QR := Lib.hid (QR.out.via hb)
  replace LA := Lib.hid (LA.out.via hb)
  replace LB := Lib.hid (LB.out.via hb)
  replace BW := Lib.hid (btr BW.out hb)
  have L1 := Lib.hid hL1
  have L2 := Lib.hid hL2
  clear hb hL1 hL2
  have ⟨rQF0, rQF1, rQF2, rQF3, rQF4, rQF5, rQF6, rQF7, rQFl⟩ := QF.out
  go_wp2_with fail
  clear rQF0 rQF1 rQF2 rQF3 rQF4 rQF5 rQF6 rQF7 rQFl
  replace QF := Lib.hid ((QF.out.alloc (.cells #[.bool zq, .slice A1 n1 c1] 24)).alloc (.cells #[.bool false, .slice A2 n2 c2] 24))
  replace QR := Lib.hid ((QR.out.alloc (.cells #[.bool zq, .slice A1 n1 c1] 24)).alloc (.cells #[.bool false, .slice A2 n2 c2] 24))
  replace LA := Lib.hid ((LA.out.box (.cells #[.bool zq, .slice A1 n1 c1] 24)).box (.cells #[.bool false, .slice A2 n2 c2] 24))
  replace LB := Lib.hid ((LB.out.box (.cells #[.bool zq, .slice A1 n1 c1] 24)).box (.cells #[.bool false, .slice A2 n2 c2] 24))
  replace L1 := Lib.hid ((L1.out.box (.cells #[.bool zq, .slice A1 n1 c1] 24)).box (.cells #[.bool false, .slice A2 n2 c2] 24))
  replace L2 := Lib.hid ((L2.out.box (.cells #[.bool zq, .slice A1 n1 c1] 24)).box (.cells #[.bool false, .slice A2 n2 c2] 24))
  have Q5 := Lib.hid ((Pr.new w2 _ rfl (.bool zq) (.slice A1 n1 c1) 24).alloc (.cells #[.bool false, .slice A2 n2 c2] 24))
  have Q6 := Lib.hid (Pr.new (w2.alloc (.cells #[.bool zq, .slice A1 n1 c1] 24)) (w2.heap.size + 1) (by simp) (.bool false) (.slice A2 n2 c2) 24)
  replace BW := Lib.hid (sbal (sbal BW.out (.cells #[.bool zq, .slice A1 n1 c1] 24)) (.cells #[.bool false, .slice A2 n2 c2] 24))
  generalize (w2.alloc (.cells #[.bool zq, .slice A1 n1 c1] 24)).alloc (.cells #[.bool false, .slice A2 n2 c2] 24) = W2 at *
  generalize w2.heap.size = g2 at *
  refine (HIN.out _ _ _ _ L1.out).mono ?_
  rintro e w3 ⟨rfl, hb⟩
  clear Q5
  clear L1
  clear LA
  replace QF := Lib.hid (QF.out.via hb)
  replace QR := Lib.hid (QR.out.via hb)
  replace LB := Lib.hid (LB.out.via hb)
  replace L2 := Lib.hid (L2.out.via hb)
  replace Q6 := Lib.hid (Q6.out.via hb)
  replace BW := Lib.hid (btr BW.out hb)
  clear hb
  have ⟨rQR0, rQR1, rQR2, rQR3, rQRl⟩ := QR.out
  go_wp2
  exact post_iv Tryd.results4 rfl rfl (QR.out.set _ _) ⟨ret_out HM.out, below_set2 BW.out (by omega) _ _⟩
set_option maxRecDepth 100000 in
set_option maxHeartbeats 2000000 in
theorem sof_b (w : World) (na : Bool) (A B : Option Addr) (n m ca cb : Nat) (N D : Int) (hA : Lm w w.heap.size A n ca (digs N.natAbs)) (hB : Lm w w.heap.size B m cb (digs D.natAbs)) (hD : 0 < D) (hsN : Sz 300 N) (hsD : Sz 300 D) (hg : fchk na (digs N.natAbs) false (digs D.natAbs) = 0) (ha : decide (N < 0) = na) (h : -9223372036854775808 ≤ N / D ∧ N / D ≤ 9223372036854775807) (h2 : N / D < -2097152 ∨ 2097152 < N / D) : Calls Tryd.prog 4 #[fv na A n ca false B m cb] w (RO w (offO N D)) := by
  have HA := Lib.hid hA
  have HB := Lib.hid hB
  have hck : ∀ W, Lm W W.heap.size A n ca (digs N.natAbs) → Lm W W.heap.size B m cb (digs D.natAbs) → Calls Tryd.prog 8 #[fv na A n ca false B m cb] W (RN1 W 0) := fun W L1 L2 => by
    have h := fcheck_any W na false A B n m ca cb _ _ L1 L2
    rw [hg] at h
    exact h
  obtain ⟨q, hq⟩ : ∃ q, N / D = q := ⟨_, rfl⟩
  have hsq : Sz 300 q := by
    have h1 := Int.mul_ediv_add_emod N D
    have h2 := Int.emod_nonneg N (show D ≠ 0 by omega)
    have h3 := Int.emod_lt_of_pos N hD
    rw [hq] at h1
    unfold Sz at *
    have h4 : q.natAbs ≤ N.natAbs := by
      rcases Int.lt_or_le q 0 with h | h
      · have h5 : D * q ≤ 1 * q := Int.mul_le_mul_of_nonpos_right (by omega) (by omega)
        have h6 : D * q = -(D * (-q)) := by rw [Int.mul_neg]; omega
        have h7 : 0 ≤ (D - 1) * (-q - 1) := Int.mul_nonneg (by omega) (by omega)
        have h8 : (D - 1) * (-q - 1) = D * (-q) - D + q + 1 := by grind
        omega
      · have h5 : 1 * q ≤ D * q := Int.mul_le_mul_of_nonneg_right (by omega) h
        omega
    omega
  have hdm : ∀ W, Lm W W.heap.size A n ca (digs N.natAbs) → Lm W W.heap.size B m cb (digs D.natAbs) → Calls Tryd.prog 9 #[.agg #[.bool na, .slice A n ca], .agg #[.bool false, .slice B m cb]] W fun e w' => ∃ A n c A' n' c', e = .returned (.tuple #[.agg #[.bool (decide (q < 0)), .slice A n c], .agg #[.bool false, .slice A' n' c'], .int .i64 0]) ∧ Lm w' w'.heap.size A n c (digs q.natAbs) ∧ Lm w' w'.heap.size A' n' c' (digs (N % D).natAbs) ∧ Below W.heap.size W w' := fun W L1 L2 =>
    (divmod_n W A B n m ca cb 300 N D L1 L2 hsN hsD (by omega) (by omega) ha (decide_eq_false (by omega))).mono fun e w' h => RDF.of hq (rd2_f hD h)
  have hin : ∀ W A' n' c', Lm W W.heap.size A' n' c' (digs q.natAbs) → Calls Tryd.prog 10 #[.agg #[.bool (decide (q < 0)), .slice A' n' c']] W fun e w' => e = .returned (.tuple #[.int .i64 (i64V q), .int .i64 (i64E q)]) ∧ Below W.heap.size W w' := fun W A' n' c' L => int_n W A' n' c' 300 q L hsq (by omega) rfl
  have HM := Lib.hid (off_out (N := N) hD h2)
  rw [hq] at h h2
  rw [(i64_in' h).1, (i64_in' h).2] at hin
  have hwh := fun W => swhole_any W q h.1 h.2
  rw [who_out h2] at hwh
  have HWH := Lib.hid hwh
  clear h h2 hwh
  have HCK := Lib.hid hck
  have HDM := Lib.hid hdm
  have HIN := Lib.hid hin
  clear hck hdm hin hsq hsN hsD hg ha hA hB
  have HD := Lib.hid hD
  have HQ := Lib.hid hq
  clear hD hq
  obtain ⟨zq, hzq⟩ : ∃ b, decide (q < 0) = b := ⟨_, rfl⟩
  rw [hzq] at HDM HIN
  clear hzq
  go_enter Tryd.func4, Tryd.ntmps4
  have QF := Lib.hid ((Qd.new w (w.heap.size) rfl (.bool na) (.slice A n ca) (.bool false) (.slice B m cb) 26).alloc (.cells #[.int .i64 0, .int .i64 0] 28))
  have QR := Lib.hid (Pr.new (w.alloc (.cells #[.bool na, .slice A n ca, .bool false, .slice B m cb] 26)) (w.heap.size + 1) (by simp) (.int .i64 0) (.int .i64 0) 28)
  have LA := Lib.hid ((HA.out.box (.cells #[.bool na, .slice A n ca, .bool false, .slice B m cb] 26)).box (.cells #[.int .i64 0, .int .i64 0] 28))
  have LB := Lib.hid ((HB.out.box (.cells #[.bool na, .slice A n ca, .bool false, .slice B m cb] 26)).box (.cells #[.int .i64 0, .int .i64 0] 28))
  have BW : Hid (Below w.heap.size w ((w.alloc (.cells #[.bool na, .slice A n ca, .bool false, .slice B m cb] 26)).alloc (.cells #[.int .i64 0, .int .i64 0] 28))) := (sbal (sbal (Below.refl _ _) _) _)
  clear HA HB
  go_wp2_with fail
  generalize (w.alloc (.cells #[.bool na, .slice A n ca, .bool false, .slice B m cb] 26)).alloc (.cells #[.int .i64 0, .int .i64 0] 28) = W0 at *
  refine (HCK.out _ LA.out LB.out).mono ?_
  rintro e w1 ⟨rfl, hb⟩
  replace QF := Lib.hid (QF.out.via hb)
  replace QR := Lib.hid (QR.out.via hb)
  replace LA := Lib.hid (LA.out.via hb)
  replace LB := Lib.hid (LB.out.via hb)
  replace BW := Lib.hid (btr BW.out hb)
  clear hb
  have ⟨rQF0, rQF1, rQF2, rQF3, rQF4, rQF5, rQF6, rQF7, rQFl⟩ := QF.out
  go_wp2_with fail
  clear rQF0 rQF1 rQF2 rQF3 rQF4 rQF5 rQF6 rQF7 rQFl
  refine (HDM.out _ LA.out LB.out).mono ?_
  rintro e w2 ⟨A1, n1, c1, A2, n2, c2, rfl, hL1, hL2, hb⟩
  replace QF := Lib.hid (QF.out.via hb)
  replace QR := Lib.hid (QR.out.via hb)
  replace LA := Lib.hid (LA.out.via hb)
  replace LB := Lib.hid (LB.out.via hb)
  replace BW := Lib.hid (btr BW.out hb)
  have L1 := Lib.hid hL1
  have L2 := Lib.hid hL2
  clear hb hL1 hL2
  have ⟨rQF0, rQF1, rQF2, rQF3, rQF4, rQF5, rQF6, rQF7, rQFl⟩ := QF.out
  go_wp2_with fail
  clear rQF0 rQF1 rQF2 rQF3 rQF4 rQF5 rQF6 rQF7 rQFl
  replace QF := Lib.hid ((QF.out.alloc (.cells #[.bool zq, .slice A1 n1 c1] 24)).alloc (.cells #[.bool false, .slice A2 n2 c2] 24))
  replace QR := Lib.hid ((QR.out.alloc (.cells #[.bool zq, .slice A1 n1 c1] 24)).alloc (.cells #[.bool false, .slice A2 n2 c2] 24))
  replace LA := Lib.hid ((LA.out.box (.cells #[.bool zq, .slice A1 n1 c1] 24)).box (.cells #[.bool false, .slice A2 n2 c2] 24))
  replace LB := Lib.hid ((LB.out.box (.cells #[.bool zq, .slice A1 n1 c1] 24)).box (.cells #[.bool false, .slice A2 n2 c2] 24))
  replace L1 := Lib.hid ((L1.out.box (.cells #[.bool zq, .slice A1 n1 c1] 24)).box (.cells #[.bool false, .slice A2 n2 c2] 24))
  replace L2 := Lib.hid ((L2.out.box (.cells #[.bool zq, .slice A1 n1 c1] 24)).box (.cells #[.bool false, .slice A2 n2 c2] 24))
  have Q5 := Lib.hid ((Pr.new w2 _ rfl (.bool zq) (.slice A1 n1 c1) 24).alloc (.cells #[.bool false, .slice A2 n2 c2] 24))
  have Q6 := Lib.hid (Pr.new (w2.alloc (.cells #[.bool zq, .slice A1 n1 c1] 24)) (w2.heap.size + 1) (by simp) (.bool false) (.slice A2 n2 c2) 24)
  replace BW := Lib.hid (sbal (sbal BW.out (.cells #[.bool zq, .slice A1 n1 c1] 24)) (.cells #[.bool false, .slice A2 n2 c2] 24))
  generalize (w2.alloc (.cells #[.bool zq, .slice A1 n1 c1] 24)).alloc (.cells #[.bool false, .slice A2 n2 c2] 24) = W2 at *
  generalize w2.heap.size = g2 at *
  refine (HIN.out _ _ _ _ L1.out).mono ?_
  rintro e w3 ⟨rfl, hb⟩
  clear Q5
  clear L1
  clear LA
  replace QF := Lib.hid (QF.out.via hb)
  replace QR := Lib.hid (QR.out.via hb)
  replace LB := Lib.hid (LB.out.via hb)
  replace L2 := Lib.hid (L2.out.via hb)
  replace Q6 := Lib.hid (Q6.out.via hb)
  replace BW := Lib.hid (btr BW.out hb)
  clear hb
  have ⟨rQ60, rQ61, rQ62, rQ63, rQ6l⟩ := Q6.out
  go_wp2_with fail
  clear rQ60 rQ61 rQ62 rQ63 rQ6l
  refine (HWH.out _).mono ?_
  rintro e w4 ⟨rfl, hb⟩
  clear Q6
  clear L2
  clear LB
  clear QF
  replace QR := Lib.hid (QR.out.via hb)
  replace BW := Lib.hid (btr BW.out hb)
  clear hb
  have ⟨rQR0, rQR1, rQR2, rQR3, rQRl⟩ := QR.out
  go_wp2
  exact post_iv Tryd.results4 rfl rfl ((QR.out.set _ _).alloc _) ⟨ret_out HM.out, sbal (below_set2 BW.out (by omega) _ _) _⟩
set_option maxRecDepth 100000 in
set_option maxHeartbeats 2000000 in
theorem sof_c0 (w : World) (na : Bool) (A B : Option Addr) (n m ca cb : Nat) (N D : Int) (hA : Lm w w.heap.size A n ca (digs N.natAbs)) (hB : Lm w w.heap.size B m cb (digs D.natAbs)) (hD : 0 < D) (hsN : Sz 300 N) (hsD : Sz 300 D) (hg : fchk na (digs N.natAbs) false (digs D.natAbs) = 0) (ha : decide (N < 0) = na) (h1 : -2097152 ≤ N / D) (h2 : N / D ≤ 2097152) (h3 : N * 1099511627776 % D = 0) : Calls Tryd.prog 4 #[fv na A n ca false B m cb] w (RO w (offO N D)) := by
  have HA := Lib.hid hA
  have HB := Lib.hid hB
  have hck : ∀ W, Lm W W.heap.size A n ca (digs N.natAbs) → Lm W W.heap.size B m cb (digs D.natAbs) → Calls Tryd.prog 8 #[fv na A n ca false B m cb] W (RN1 W 0) := fun W L1 L2 => by
    have h := fcheck_any W na false A B n m ca cb _ _ L1 L2
    rw [hg] at h
    exact h
  obtain ⟨q, hq⟩ : ∃ q, N / D = q := ⟨_, rfl⟩
  have hsq : Sz 300 q := by
    have h1 := Int.mul_ediv_add_emod N D
    have h2 := Int.emod_nonneg N (show D ≠ 0 by omega)
    have h3 := Int.emod_lt_of_pos N hD
    rw [hq] at h1
    unfold Sz at *
    have h4 : q.natAbs ≤ N.natAbs := by
      rcases Int.lt_or_le q 0 with h | h
      · have h5 : D * q ≤ 1 * q := Int.mul_le_mul_of_nonpos_right (by omega) (by omega)
        have h6 : D * q = -(D * (-q)) := by rw [Int.mul_neg]; omega
        have h7 : 0 ≤ (D - 1) * (-q - 1) := Int.mul_nonneg (by omega) (by omega)
        have h8 : (D - 1) * (-q - 1) = D * (-q) - D + q + 1 := by grind
        omega
      · have h5 : 1 * q ≤ D * q := Int.mul_le_mul_of_nonneg_right (by omega) h
        omega
    omega
  have hdm : ∀ W, Lm W W.heap.size A n ca (digs N.natAbs) → Lm W W.heap.size B m cb (digs D.natAbs) → Calls Tryd.prog 9 #[.agg #[.bool na, .slice A n ca], .agg #[.bool false, .slice B m cb]] W fun e w' => ∃ A n c A' n' c', e = .returned (.tuple #[.agg #[.bool (decide (q < 0)), .slice A n c], .agg #[.bool false, .slice A' n' c'], .int .i64 0]) ∧ Lm w' w'.heap.size A n c (digs q.natAbs) ∧ Lm w' w'.heap.size A' n' c' (digs (N % D).natAbs) ∧ Below W.heap.size W w' := fun W L1 L2 =>
    (divmod_n W A B n m ca cb 300 N D L1 L2 hsN hsD (by omega) (by omega) ha (decide_eq_false (by omega))).mono fun e w' h => RDF.of hq (rd2_f hD h)
  have hin : ∀ W A' n' c', Lm W W.heap.size A' n' c' (digs q.natAbs) → Calls Tryd.prog 10 #[.agg #[.bool (decide (q < 0)), .slice A' n' c']] W fun e w' => e = .returned (.tuple #[.int .i64 (i64V q), .int .i64 (i64E q)]) ∧ Below W.heap.size W w' := fun W A' n' c' L => int_n W A' n' c' 300 q L hsq (by omega) rfl
  obtain ⟨s1, s2, s3, s4⟩ := share_eq (N := N) hD
  have hr0 := Int.emod_nonneg N (show D ≠ 0 by omega)
  have hr1 := Int.emod_lt_of_pos N hD
  have hsh : ∀ W A' n' c', Lm W W.heap.size A' n' c' (digs (N % D).natAbs) → Lm W W.heap.size B m cb (digs D.natAbs) → Calls Tryd.prog 11 #[.agg #[.bool false, .slice A' n' c'], .agg #[.bool false, .slice B m cb]] W fun e w' => e = .returned (.tuple #[.int .i64 (N % D * 1099511627776 / D), .bool false]) ∧ Below W.heap.size W w' := fun W A' n' c' L1 L2 => by
    have h := share_n W A' B n' m c' cb 300 (N % D) D L1 L2 hr0 hr1 (by omega) hsD
    rw [← s2] at h
    rwa [decide_eq_false (by omega)] at h
  obtain ⟨u, hu⟩ : ∃ u, u = N % D * 1099511627776 / D := ⟨_, rfl⟩
  rw [← hu] at hsh s1 s3 s4
  rw [hq] at h1 h2 s1
  obtain ⟨L0, hL0⟩ : ∃ L0, L0 = q * 1099511627776 := ⟨_, rfl⟩
  rw [← hL0] at s1
  have hl1 : -2305843009213693952 ≤ L0 := by omega
  have hl2 : L0 ≤ 2305843009213693952 := by omega
  have hw1 : IntKind.i64.wrap (L0 + u) = L0 + u := IntWalk.i64_in _ (by omega)
  have hw2 : IntKind.i64.wrap (L0 + u + 1) = L0 + u + 1 := IntWalk.i64_in _ (by omega)
  have HM : Hid (mkI (L0 + u) (L0 + u) = offO N D) := by show _ = _; unfold offO; rw [div_mod_c hD, if_pos h3, s1]
  rw [(i64_in' (q := q) (by omega)).1, (i64_in' (q := q) (by omega)).2] at hin
  have hwh := fun W => swhole_any W q (by omega) (by omega)
  rw [who_in h1 h2, ← hL0] at hwh
  have HWH := Lib.hid hwh
  have HSH := Lib.hid hsh
  clear hwh hsh s1 s2 s3 s4 hr0 hr1 hu hL0 h1 h2 h3
  have HCK := Lib.hid hck
  have HDM := Lib.hid hdm
  have HIN := Lib.hid hin
  clear hck hdm hin hsq hsN hsD hg ha hA hB
  have HD := Lib.hid hD
  have HQ := Lib.hid hq
  clear hD hq
  obtain ⟨zq, hzq⟩ : ∃ b, decide (q < 0) = b := ⟨_, rfl⟩
  rw [hzq] at HDM HIN
  clear hzq
  go_enter Tryd.func4, Tryd.ntmps4
  have QF := Lib.hid ((Qd.new w (w.heap.size) rfl (.bool na) (.slice A n ca) (.bool false) (.slice B m cb) 26).alloc (.cells #[.int .i64 0, .int .i64 0] 28))
  have QR := Lib.hid (Pr.new (w.alloc (.cells #[.bool na, .slice A n ca, .bool false, .slice B m cb] 26)) (w.heap.size + 1) (by simp) (.int .i64 0) (.int .i64 0) 28)
  have LA := Lib.hid ((HA.out.box (.cells #[.bool na, .slice A n ca, .bool false, .slice B m cb] 26)).box (.cells #[.int .i64 0, .int .i64 0] 28))
  have LB := Lib.hid ((HB.out.box (.cells #[.bool na, .slice A n ca, .bool false, .slice B m cb] 26)).box (.cells #[.int .i64 0, .int .i64 0] 28))
  have BW : Hid (Below w.heap.size w ((w.alloc (.cells #[.bool na, .slice A n ca, .bool false, .slice B m cb] 26)).alloc (.cells #[.int .i64 0, .int .i64 0] 28))) := (sbal (sbal (Below.refl _ _) _) _)
  clear HA HB
  go_wp2_with fail
  generalize (w.alloc (.cells #[.bool na, .slice A n ca, .bool false, .slice B m cb] 26)).alloc (.cells #[.int .i64 0, .int .i64 0] 28) = W0 at *
  refine (HCK.out _ LA.out LB.out).mono ?_
  rintro e w1 ⟨rfl, hb⟩
  replace QF := Lib.hid (QF.out.via hb)
  replace QR := Lib.hid (QR.out.via hb)
  replace LA := Lib.hid (LA.out.via hb)
  replace LB := Lib.hid (LB.out.via hb)
  replace BW := Lib.hid (btr BW.out hb)
  clear hb
  have ⟨rQF0, rQF1, rQF2, rQF3, rQF4, rQF5, rQF6, rQF7, rQFl⟩ := QF.out
  go_wp2_with fail
  clear rQF0 rQF1 rQF2 rQF3 rQF4 rQF5 rQF6 rQF7 rQFl
  refine (HDM.out _ LA.out LB.out).mono ?_
  rintro e w2 ⟨A1, n1, c1, A2, n2, c2, rfl, hL1, hL2, hb⟩
  replace QF := Lib.hid (QF.out.via hb)
  replace QR := Lib.hid (QR.out.via hb)
  replace LA := Lib.hid (LA.out.via hb)
  replace LB := Lib.hid (LB.out.via hb)
  replace BW := Lib.hid (btr BW.out hb)
  have L1 := Lib.hid hL1
  have L2 := Lib.hid hL2
  clear hb hL1 hL2
  have ⟨rQF0, rQF1, rQF2, rQF3, rQF4, rQF5, rQF6, rQF7, rQFl⟩ := QF.out
  go_wp2_with fail
  clear rQF0 rQF1 rQF2 rQF3 rQF4 rQF5 rQF6 rQF7 rQFl
  replace QF := Lib.hid ((QF.out.alloc (.cells #[.bool zq, .slice A1 n1 c1] 24)).alloc (.cells #[.bool false, .slice A2 n2 c2] 24))
  replace QR := Lib.hid ((QR.out.alloc (.cells #[.bool zq, .slice A1 n1 c1] 24)).alloc (.cells #[.bool false, .slice A2 n2 c2] 24))
  replace LA := Lib.hid ((LA.out.box (.cells #[.bool zq, .slice A1 n1 c1] 24)).box (.cells #[.bool false, .slice A2 n2 c2] 24))
  replace LB := Lib.hid ((LB.out.box (.cells #[.bool zq, .slice A1 n1 c1] 24)).box (.cells #[.bool false, .slice A2 n2 c2] 24))
  replace L1 := Lib.hid ((L1.out.box (.cells #[.bool zq, .slice A1 n1 c1] 24)).box (.cells #[.bool false, .slice A2 n2 c2] 24))
  replace L2 := Lib.hid ((L2.out.box (.cells #[.bool zq, .slice A1 n1 c1] 24)).box (.cells #[.bool false, .slice A2 n2 c2] 24))
  have Q5 := Lib.hid ((Pr.new w2 _ rfl (.bool zq) (.slice A1 n1 c1) 24).alloc (.cells #[.bool false, .slice A2 n2 c2] 24))
  have Q6 := Lib.hid (Pr.new (w2.alloc (.cells #[.bool zq, .slice A1 n1 c1] 24)) (w2.heap.size + 1) (by simp) (.bool false) (.slice A2 n2 c2) 24)
  replace BW := Lib.hid (sbal (sbal BW.out (.cells #[.bool zq, .slice A1 n1 c1] 24)) (.cells #[.bool false, .slice A2 n2 c2] 24))
  generalize (w2.alloc (.cells #[.bool zq, .slice A1 n1 c1] 24)).alloc (.cells #[.bool false, .slice A2 n2 c2] 24) = W2 at *
  generalize w2.heap.size = g2 at *
  refine (HIN.out _ _ _ _ L1.out).mono ?_
  rintro e w3 ⟨rfl, hb⟩
  clear Q5
  clear L1
  clear LA
  replace QF := Lib.hid (QF.out.via hb)
  replace QR := Lib.hid (QR.out.via hb)
  replace LB := Lib.hid (LB.out.via hb)
  replace L2 := Lib.hid (L2.out.via hb)
  replace Q6 := Lib.hid (Q6.out.via hb)
  replace BW := Lib.hid (btr BW.out hb)
  clear hb
  have ⟨rQ60, rQ61, rQ62, rQ63, rQ6l⟩ := Q6.out
  go_wp2_with fail
  clear rQ60 rQ61 rQ62 rQ63 rQ6l
  refine (HWH.out _).mono ?_
  rintro e w4 ⟨rfl, hb⟩
  replace QF := Lib.hid (QF.out.via hb)
  replace QR := Lib.hid (QR.out.via hb)
  replace LB := Lib.hid (LB.out.via hb)
  replace L2 := Lib.hid (L2.out.via hb)
  replace Q6 := Lib.hid (Q6.out.via hb)
  replace BW := Lib.hid (btr BW.out hb)
  clear hb
  have hgrB := QR.out.lt
  have ⟨rQF0, rQF1, rQF2, rQF3, rQF4, rQF5, rQF6, rQF7, rQFl⟩ := QF.out
  have ⟨rQ60, rQ61, rQ62, rQ63, rQ6l⟩ := Q6.out
  go_wp2_with fail
  clear rQF0 rQF1 rQF2 rQF3 rQF4 rQF5 rQF6 rQF7 rQFl rQ60 rQ61 rQ62 rQ63 rQ6l
  replace QF := Lib.hid (QF.out.alloc (.cells #[.int .i64 L0, .int .i64 L0] 28))
  replace QR := Lib.hid (QR.out.alloc (.cells #[.int .i64 L0, .int .i64 L0] 28))
  replace LB := Lib.hid (LB.out.box (.cells #[.int .i64 L0, .int .i64 L0] 28))
  replace L2 := Lib.hid (L2.out.box (.cells #[.int .i64 L0, .int .i64 L0] 28))
  replace Q6 := Lib.hid (Q6.out.alloc (.cells #[.int .i64 L0, .int .i64 L0] 28))
  have Q10 := Lib.hid (Pr.new w4 _ rfl (.int .i64 L0) (.int .i64 L0) 28)
  replace BW := Lib.hid (sbal BW.out (.cells #[.int .i64 L0, .int .i64 L0] 28))
  generalize w4.alloc (.cells #[.int .i64 L0, .int .i64 L0] 28) = W4 at *
  generalize w4.heap.size = g4 at *
  have hgr : w.heap.size + 1 < g4 := hgrB
  refine (HSH.out _ _ _ _ L2.out LB.out).mono ?_
  rintro e w5 ⟨rfl, hb⟩
  replace QF := Lib.hid (QF.out.via hb)
  replace QR := Lib.hid (QR.out.via hb)
  replace LB := Lib.hid (LB.out.via hb)
  replace L2 := Lib.hid (L2.out.via hb)
  replace Q6 := Lib.hid (Q6.out.via hb)
  replace Q10 := Lib.hid (Q10.out.via hb)
  replace BW := Lib.hid (btr BW.out hb)
  clear hb
  clear Q6
  clear L2
  clear LB
  clear QF
  have ⟨rQ100, rQ101, rQ102, rQ103, rQ10l⟩ := Q10.out
  go_upto_region 14 with (fail)
  clear rQ100 rQ101 rQ102 rQ103 rQ10l
  replace QR := Lib.hid (QR.out.far (h := g4) (Nat.ne_of_lt hgr) (.int .i64 (L0 + u)) (.int .i64 (L0 + u)))
  replace Q10 := Lib.hid (Q10.out.set (.int .i64 (L0 + u)) (.int .i64 (L0 + u)))
  replace BW := Lib.hid (below_set2 BW.out (g := g4) (by omega) (.int .i64 (L0 + u)) (.int .i64 (L0 + u)))
  generalize (w5.setCell ⟨g4, 0, none⟩ (.int .i64 (L0 + u))).setCell ⟨g4, 1, none⟩ (.int .i64 (L0 + u)) = W9 at *
  have ⟨rQ100, rQ101, rQ102, rQ103, rQ10l⟩ := Q10.out
  go_wp2_with fail
  clear rQ100 rQ101 rQ102 rQ103 rQ10l
  clear Q10
  refine (smade_any _ (L0 + u) (L0 + u) (by omega)).mono ?_
  rintro e w6 ⟨rfl, hb⟩
  replace QR := Lib.hid (QR.out.via hb)
  replace BW := Lib.hid (btr BW.out hb)
  clear hb
  have ⟨rQR0, rQR1, rQR2, rQR3, rQRl⟩ := QR.out
  go_wp2
  exact post_iv Tryd.results4 rfl rfl (QR.out.set _ _) ⟨ret_mk HM.out, below_set2 BW.out (by omega) _ _⟩
set_option maxRecDepth 100000 in
set_option maxHeartbeats 2000000 in
theorem sof_c1 (w : World) (na : Bool) (A B : Option Addr) (n m ca cb : Nat) (N D : Int) (hA : Lm w w.heap.size A n ca (digs N.natAbs)) (hB : Lm w w.heap.size B m cb (digs D.natAbs)) (hD : 0 < D) (hsN : Sz 300 N) (hsD : Sz 300 D) (hg : fchk na (digs N.natAbs) false (digs D.natAbs) = 0) (ha : decide (N < 0) = na) (h1 : -2097152 ≤ N / D) (h2 : N / D ≤ 2097152) (h3 : 0 < N * 1099511627776 % D) : Calls Tryd.prog 4 #[fv na A n ca false B m cb] w (RO w (offO N D)) := by
  have HA := Lib.hid hA
  have HB := Lib.hid hB
  have hck : ∀ W, Lm W W.heap.size A n ca (digs N.natAbs) → Lm W W.heap.size B m cb (digs D.natAbs) → Calls Tryd.prog 8 #[fv na A n ca false B m cb] W (RN1 W 0) := fun W L1 L2 => by
    have h := fcheck_any W na false A B n m ca cb _ _ L1 L2
    rw [hg] at h
    exact h
  obtain ⟨q, hq⟩ : ∃ q, N / D = q := ⟨_, rfl⟩
  have hsq : Sz 300 q := by
    have h1 := Int.mul_ediv_add_emod N D
    have h2 := Int.emod_nonneg N (show D ≠ 0 by omega)
    have h3 := Int.emod_lt_of_pos N hD
    rw [hq] at h1
    unfold Sz at *
    have h4 : q.natAbs ≤ N.natAbs := by
      rcases Int.lt_or_le q 0 with h | h
      · have h5 : D * q ≤ 1 * q := Int.mul_le_mul_of_nonpos_right (by omega) (by omega)
        have h6 : D * q = -(D * (-q)) := by rw [Int.mul_neg]; omega
        have h7 : 0 ≤ (D - 1) * (-q - 1) := Int.mul_nonneg (by omega) (by omega)
        have h8 : (D - 1) * (-q - 1) = D * (-q) - D + q + 1 := by grind
        omega
      · have h5 : 1 * q ≤ D * q := Int.mul_le_mul_of_nonneg_right (by omega) h
        omega
    omega
  have hdm : ∀ W, Lm W W.heap.size A n ca (digs N.natAbs) → Lm W W.heap.size B m cb (digs D.natAbs) → Calls Tryd.prog 9 #[.agg #[.bool na, .slice A n ca], .agg #[.bool false, .slice B m cb]] W fun e w' => ∃ A n c A' n' c', e = .returned (.tuple #[.agg #[.bool (decide (q < 0)), .slice A n c], .agg #[.bool false, .slice A' n' c'], .int .i64 0]) ∧ Lm w' w'.heap.size A n c (digs q.natAbs) ∧ Lm w' w'.heap.size A' n' c' (digs (N % D).natAbs) ∧ Below W.heap.size W w' := fun W L1 L2 =>
    (divmod_n W A B n m ca cb 300 N D L1 L2 hsN hsD (by omega) (by omega) ha (decide_eq_false (by omega))).mono fun e w' h => RDF.of hq (rd2_f hD h)
  have hin : ∀ W A' n' c', Lm W W.heap.size A' n' c' (digs q.natAbs) → Calls Tryd.prog 10 #[.agg #[.bool (decide (q < 0)), .slice A' n' c']] W fun e w' => e = .returned (.tuple #[.int .i64 (i64V q), .int .i64 (i64E q)]) ∧ Below W.heap.size W w' := fun W A' n' c' L => int_n W A' n' c' 300 q L hsq (by omega) rfl
  obtain ⟨s1, s2, s3, s4⟩ := share_eq (N := N) hD
  have hr0 := Int.emod_nonneg N (show D ≠ 0 by omega)
  have hr1 := Int.emod_lt_of_pos N hD
  have hsh : ∀ W A' n' c', Lm W W.heap.size A' n' c' (digs (N % D).natAbs) → Lm W W.heap.size B m cb (digs D.natAbs) → Calls Tryd.prog 11 #[.agg #[.bool false, .slice A' n' c'], .agg #[.bool false, .slice B m cb]] W fun e w' => e = .returned (.tuple #[.int .i64 (N % D * 1099511627776 / D), .bool true]) ∧ Below W.heap.size W w' := fun W A' n' c' L1 L2 => by
    have h := share_n W A' B n' m c' cb 300 (N % D) D L1 L2 hr0 hr1 (by omega) hsD
    rw [← s2] at h
    rwa [decide_eq_true h3] at h
  obtain ⟨u, hu⟩ : ∃ u, u = N % D * 1099511627776 / D := ⟨_, rfl⟩
  rw [← hu] at hsh s1 s3 s4
  rw [hq] at h1 h2 s1
  obtain ⟨L0, hL0⟩ : ∃ L0, L0 = q * 1099511627776 := ⟨_, rfl⟩
  rw [← hL0] at s1
  have hl1 : -2305843009213693952 ≤ L0 := by omega
  have hl2 : L0 ≤ 2305843009213693952 := by omega
  have hw1 : IntKind.i64.wrap (L0 + u) = L0 + u := IntWalk.i64_in _ (by omega)
  have hw2 : IntKind.i64.wrap (L0 + u + 1) = L0 + u + 1 := IntWalk.i64_in _ (by omega)
  have HM : Hid (mkI (L0 + u) (L0 + u + 1) = offO N D) := by show _ = _; unfold offO; rw [div_mod_c hD, if_neg (by omega), s1]
  rw [(i64_in' (q := q) (by omega)).1, (i64_in' (q := q) (by omega)).2] at hin
  have hwh := fun W => swhole_any W q (by omega) (by omega)
  rw [who_in h1 h2, ← hL0] at hwh
  have HWH := Lib.hid hwh
  have HSH := Lib.hid hsh
  clear hwh hsh s1 s2 s3 s4 hr0 hr1 hu hL0 h1 h2 h3
  have HCK := Lib.hid hck
  have HDM := Lib.hid hdm
  have HIN := Lib.hid hin
  clear hck hdm hin hsq hsN hsD hg ha hA hB
  have HD := Lib.hid hD
  have HQ := Lib.hid hq
  clear hD hq
  obtain ⟨zq, hzq⟩ : ∃ b, decide (q < 0) = b := ⟨_, rfl⟩
  rw [hzq] at HDM HIN
  clear hzq
  go_enter Tryd.func4, Tryd.ntmps4
  have QF := Lib.hid ((Qd.new w (w.heap.size) rfl (.bool na) (.slice A n ca) (.bool false) (.slice B m cb) 26).alloc (.cells #[.int .i64 0, .int .i64 0] 28))
  have QR := Lib.hid (Pr.new (w.alloc (.cells #[.bool na, .slice A n ca, .bool false, .slice B m cb] 26)) (w.heap.size + 1) (by simp) (.int .i64 0) (.int .i64 0) 28)
  have LA := Lib.hid ((HA.out.box (.cells #[.bool na, .slice A n ca, .bool false, .slice B m cb] 26)).box (.cells #[.int .i64 0, .int .i64 0] 28))
  have LB := Lib.hid ((HB.out.box (.cells #[.bool na, .slice A n ca, .bool false, .slice B m cb] 26)).box (.cells #[.int .i64 0, .int .i64 0] 28))
  have BW : Hid (Below w.heap.size w ((w.alloc (.cells #[.bool na, .slice A n ca, .bool false, .slice B m cb] 26)).alloc (.cells #[.int .i64 0, .int .i64 0] 28))) := (sbal (sbal (Below.refl _ _) _) _)
  clear HA HB
  go_wp2_with fail
  generalize (w.alloc (.cells #[.bool na, .slice A n ca, .bool false, .slice B m cb] 26)).alloc (.cells #[.int .i64 0, .int .i64 0] 28) = W0 at *
  refine (HCK.out _ LA.out LB.out).mono ?_
  rintro e w1 ⟨rfl, hb⟩
  replace QF := Lib.hid (QF.out.via hb)
  replace QR := Lib.hid (QR.out.via hb)
  replace LA := Lib.hid (LA.out.via hb)
  replace LB := Lib.hid (LB.out.via hb)
  replace BW := Lib.hid (btr BW.out hb)
  clear hb
  have ⟨rQF0, rQF1, rQF2, rQF3, rQF4, rQF5, rQF6, rQF7, rQFl⟩ := QF.out
  go_wp2_with fail
  clear rQF0 rQF1 rQF2 rQF3 rQF4 rQF5 rQF6 rQF7 rQFl
  refine (HDM.out _ LA.out LB.out).mono ?_
  rintro e w2 ⟨A1, n1, c1, A2, n2, c2, rfl, hL1, hL2, hb⟩
  replace QF := Lib.hid (QF.out.via hb)
  replace QR := Lib.hid (QR.out.via hb)
  replace LA := Lib.hid (LA.out.via hb)
  replace LB := Lib.hid (LB.out.via hb)
  replace BW := Lib.hid (btr BW.out hb)
  have L1 := Lib.hid hL1
  have L2 := Lib.hid hL2
  clear hb hL1 hL2
  have ⟨rQF0, rQF1, rQF2, rQF3, rQF4, rQF5, rQF6, rQF7, rQFl⟩ := QF.out
  go_wp2_with fail
  clear rQF0 rQF1 rQF2 rQF3 rQF4 rQF5 rQF6 rQF7 rQFl
  replace QF := Lib.hid ((QF.out.alloc (.cells #[.bool zq, .slice A1 n1 c1] 24)).alloc (.cells #[.bool false, .slice A2 n2 c2] 24))
  replace QR := Lib.hid ((QR.out.alloc (.cells #[.bool zq, .slice A1 n1 c1] 24)).alloc (.cells #[.bool false, .slice A2 n2 c2] 24))
  replace LA := Lib.hid ((LA.out.box (.cells #[.bool zq, .slice A1 n1 c1] 24)).box (.cells #[.bool false, .slice A2 n2 c2] 24))
  replace LB := Lib.hid ((LB.out.box (.cells #[.bool zq, .slice A1 n1 c1] 24)).box (.cells #[.bool false, .slice A2 n2 c2] 24))
  replace L1 := Lib.hid ((L1.out.box (.cells #[.bool zq, .slice A1 n1 c1] 24)).box (.cells #[.bool false, .slice A2 n2 c2] 24))
  replace L2 := Lib.hid ((L2.out.box (.cells #[.bool zq, .slice A1 n1 c1] 24)).box (.cells #[.bool false, .slice A2 n2 c2] 24))
  have Q5 := Lib.hid ((Pr.new w2 _ rfl (.bool zq) (.slice A1 n1 c1) 24).alloc (.cells #[.bool false, .slice A2 n2 c2] 24))
  have Q6 := Lib.hid (Pr.new (w2.alloc (.cells #[.bool zq, .slice A1 n1 c1] 24)) (w2.heap.size + 1) (by simp) (.bool false) (.slice A2 n2 c2) 24)
  replace BW := Lib.hid (sbal (sbal BW.out (.cells #[.bool zq, .slice A1 n1 c1] 24)) (.cells #[.bool false, .slice A2 n2 c2] 24))
  generalize (w2.alloc (.cells #[.bool zq, .slice A1 n1 c1] 24)).alloc (.cells #[.bool false, .slice A2 n2 c2] 24) = W2 at *
  generalize w2.heap.size = g2 at *
  refine (HIN.out _ _ _ _ L1.out).mono ?_
  rintro e w3 ⟨rfl, hb⟩
  clear Q5
  clear L1
  clear LA
  replace QF := Lib.hid (QF.out.via hb)
  replace QR := Lib.hid (QR.out.via hb)
  replace LB := Lib.hid (LB.out.via hb)
  replace L2 := Lib.hid (L2.out.via hb)
  replace Q6 := Lib.hid (Q6.out.via hb)
  replace BW := Lib.hid (btr BW.out hb)
  clear hb
  have ⟨rQ60, rQ61, rQ62, rQ63, rQ6l⟩ := Q6.out
  go_wp2_with fail
  clear rQ60 rQ61 rQ62 rQ63 rQ6l
  refine (HWH.out _).mono ?_
  rintro e w4 ⟨rfl, hb⟩
  replace QF := Lib.hid (QF.out.via hb)
  replace QR := Lib.hid (QR.out.via hb)
  replace LB := Lib.hid (LB.out.via hb)
  replace L2 := Lib.hid (L2.out.via hb)
  replace Q6 := Lib.hid (Q6.out.via hb)
  replace BW := Lib.hid (btr BW.out hb)
  clear hb
  have hgrB := QR.out.lt
  have ⟨rQF0, rQF1, rQF2, rQF3, rQF4, rQF5, rQF6, rQF7, rQFl⟩ := QF.out
  have ⟨rQ60, rQ61, rQ62, rQ63, rQ6l⟩ := Q6.out
  go_wp2_with fail
  clear rQF0 rQF1 rQF2 rQF3 rQF4 rQF5 rQF6 rQF7 rQFl rQ60 rQ61 rQ62 rQ63 rQ6l
  replace QF := Lib.hid (QF.out.alloc (.cells #[.int .i64 L0, .int .i64 L0] 28))
  replace QR := Lib.hid (QR.out.alloc (.cells #[.int .i64 L0, .int .i64 L0] 28))
  replace LB := Lib.hid (LB.out.box (.cells #[.int .i64 L0, .int .i64 L0] 28))
  replace L2 := Lib.hid (L2.out.box (.cells #[.int .i64 L0, .int .i64 L0] 28))
  replace Q6 := Lib.hid (Q6.out.alloc (.cells #[.int .i64 L0, .int .i64 L0] 28))
  have Q10 := Lib.hid (Pr.new w4 _ rfl (.int .i64 L0) (.int .i64 L0) 28)
  replace BW := Lib.hid (sbal BW.out (.cells #[.int .i64 L0, .int .i64 L0] 28))
  generalize w4.alloc (.cells #[.int .i64 L0, .int .i64 L0] 28) = W4 at *
  generalize w4.heap.size = g4 at *
  have hgr : w.heap.size + 1 < g4 := hgrB
  refine (HSH.out _ _ _ _ L2.out LB.out).mono ?_
  rintro e w5 ⟨rfl, hb⟩
  replace QF := Lib.hid (QF.out.via hb)
  replace QR := Lib.hid (QR.out.via hb)
  replace LB := Lib.hid (LB.out.via hb)
  replace L2 := Lib.hid (L2.out.via hb)
  replace Q6 := Lib.hid (Q6.out.via hb)
  replace Q10 := Lib.hid (Q10.out.via hb)
  replace BW := Lib.hid (btr BW.out hb)
  clear hb
  clear Q6
  clear L2
  clear LB
  clear QF
  have ⟨rQ100, rQ101, rQ102, rQ103, rQ10l⟩ := Q10.out
  go_upto_region 14 with (fail)
  clear rQ100 rQ101 rQ102 rQ103 rQ10l
  replace QR := Lib.hid (QR.out.far (h := g4) (Nat.ne_of_lt hgr) (.int .i64 (L0 + u)) (.int .i64 (L0 + u)))
  replace Q10 := Lib.hid (Q10.out.set (.int .i64 (L0 + u)) (.int .i64 (L0 + u)))
  replace BW := Lib.hid (below_set2 BW.out (g := g4) (by omega) (.int .i64 (L0 + u)) (.int .i64 (L0 + u)))
  generalize (w5.setCell ⟨g4, 0, none⟩ (.int .i64 (L0 + u))).setCell ⟨g4, 1, none⟩ (.int .i64 (L0 + u)) = W9 at *
  have ⟨rQ100, rQ101, rQ102, rQ103, rQ10l⟩ := Q10.out
  go_wp2_with fail
  clear rQ100 rQ101 rQ102 rQ103 rQ10l
  replace QR := Lib.hid (QR.out.farB (h := g4) (Nat.ne_of_lt hgr) 1 (.int .i64 (L0 + u + 1)))
  replace BW := Lib.hid (BW.out.setCell (p := ⟨g4, 1, none⟩) (by show _ ≤ g4; omega) (.int .i64 (L0 + u + 1)))
  clear Q10
  generalize W9.setCell ⟨g4, 1, none⟩ (.int .i64 (L0 + u + 1)) = W10 at *
  refine (smade_any _ (L0 + u) (L0 + u + 1) (by omega)).mono ?_
  rintro e w6 ⟨rfl, hb⟩
  replace QR := Lib.hid (QR.out.via hb)
  replace BW := Lib.hid (btr BW.out hb)
  clear hb
  have ⟨rQR0, rQR1, rQR2, rQR3, rQRl⟩ := QR.out
  go_wp2
  exact post_iv Tryd.results4 rfl rfl (QR.out.set _ _) ⟨ret_mk HM.out, below_set2 BW.out (by omega) _ _⟩
end Go.Proofs.YtegpckhfncblhaaDoor

