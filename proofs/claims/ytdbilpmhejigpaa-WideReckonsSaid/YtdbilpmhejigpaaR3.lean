/-
  Contracts of the reference's both, Same, Compared.
-/
import Derived.Test.YtdbilpmhejigpaaR2
namespace Go.Proofs.Ytdbilpmhejigpaa
open Go.RowKit

set_option maxRecDepth 100000 in
set_option maxHeartbeats 400000 in
theorem rboth_any (w : World) (na nb : Bool) (A B : Option Addr) (n m ca cb : Nat) (xs ys : List Nat) (hA : Lm w w.heap.size A n ca xs) (hB : Lm w w.heap.size B m cb ys) (v : Int) (hv : chkB na xs nb ys = v) :
    Calls Try.prog 34 #[.agg #[.bool na, .slice A n ca], .agg #[.bool nb, .slice B m cb]] w fun e w' => e = .returned (.int .i64 v) ∧ Below w.heap.size w w' := by
  have HA := Lib.hid hA
  have HB := Lib.hid hB
  have HV := Lib.hid hv
  clear hv
  rcases chk_cases na xs with hc | hc
  · have HC := Lib.hid hc
    have HE : Hid (chkB na xs nb ys = chk nb ys) := by show _ = _; unfold chkB; rw [if_pos hc]
    clear hc
    go_enter Try.func34, Try.ntmps34
    go_wp2_with fail
    refine (rcheck_ok _ _ _ _ _ _ ((HA.out.box _).box _) HC.out).mono ?_
    rintro e w1 ⟨rfl, hb1⟩
    have ⟨hx0, hx1, hy0, hy1, hf0, hf1, hsz⟩ := box2 hb1
    go_wp2_with fail
    refine (rcheck_any _ _ _ _ _ _ (((HB.out.box _).box _).via hb1)).mono ?_
    rintro e w2 ⟨rfl, hb2⟩
    go_wp2
    go_ret
    exact ⟨ret_int (by rw [← HV.out, HE.out]), (bbox (bbox hb1)).trans (hb2.mono (by omega))⟩
  · have HC := Lib.hid hc
    have HE : Hid (chkB na xs nb ys = 8) := by show _ = _; unfold chkB; rw [if_neg (by omega), hc]
    clear hc
    go_enter Try.func34, Try.ntmps34
    go_wp2_with fail
    refine (rcheck_bad _ _ _ _ _ _ ((HA.out.box _).box _) HC.out).mono ?_
    rintro e w1 ⟨rfl, hb1⟩
    have ⟨hx0, hx1, hy0, hy1, hf0, hf1, hsz⟩ := box2 hb1
    go_wp2_with fail
    refine (rcheck_bad _ _ _ _ _ _ (((HA.out.box _).box _).via hb1) HC.out).mono ?_
    rintro e w2 ⟨rfl, hb2⟩
    go_wp2
    go_ret
    exact ⟨ret_int (by rw [← HV.out, HE.out]), (bbox (bbox hb1)).trans (hb2.mono (by omega))⟩

def sameB (na : Bool) (xs : List Nat) (nb : Bool) (ys : List Nat) : Bool := na == nb && cmpL xs ys == 0
theorem sameB_self (na : Bool) (xs : List Nat) : sameB na xs na xs = true := by
  unfold sameB
  rw [cmpL_of_drop rfl]
  cases na <;> rfl
set_option maxRecDepth 100000 in
set_option maxHeartbeats 400000 in
theorem rsame_any (w : World) (na nb : Bool) (A B : Option Addr) (n m ca cb : Nat) (xs ys : List Nat) (hA : Lm w w.heap.size A n ca xs) (hB : Lm w w.heap.size B m cb ys) :
    Calls Try.prog 15 #[.agg #[.bool na, .slice A n ca], .agg #[.bool nb, .slice B m cb]] w fun e w' => e = .returned (.bool (sameB na xs nb ys)) ∧ Below w.heap.size w w' := by
  have HA := Lib.hid hA
  have HB := Lib.hid hB
  by_cases hne : na = nb
  · have HS : Hid (sameB na xs nb ys = (cmpL xs ys == 0)) := by show _ = _; unfold sameB; subst hne; cases na <;> rfl
    have hbe : (na == nb) = true := by simpa using hne
    clear hne
    go_enter Try.func15, Try.ntmps15
    go_wp2_with (go_at_call 46; refine (rcompare_any _ _ _ _ _ _ xs ys _ ((HA.out.box _).box _) ((HB.out.box _).box _)).mono ?_; rintro e w1 ⟨rfl, d, rfl⟩)
    go_ret
    refine ⟨by rw [HS.out]; rfl, bdrewN (((Below.refl _ _).alloc (Nat.le_refl _) _).alloc (by simp) _) _⟩
  · have HS : Hid (sameB na xs nb ys = false) := by show _ = _; unfold sameB; cases na <;> cases nb <;> first | rfl | exact absurd rfl hne
    have hbe : (na == nb) = false := by simpa using hne
    clear hne
    go_enter Try.func15, Try.ntmps15
    go_wp2
    go_ret
    refine ⟨by rw [HS.out]; rfl, ((Below.refl _ _).alloc (Nat.le_refl _) _).alloc (by simp) _⟩

theorem cmpN_neg (a b : Nat) : cmpN b a = -1 * cmpN a b := by
  rcases Nat.lt_trichotomy a b with h | h | h
  · rw [cmpN_lt h, cmpN_gt h]; rfl
  · subst h; rw [cmpN_self]; rfl
  · rw [cmpN_lt h, cmpN_gt h]; rfl
set_option maxRecDepth 100000 in
set_option maxHeartbeats 400000 in
theorem rcompared_any (w : World) (na nb : Bool) (A B : Option Addr) (n m ca cb a b : Nat) (hA : Lm w w.heap.size A n ca (digs a)) (hB : Lm w w.heap.size B m cb (digs b)) (hva : na = true → a ≠ 0) (hvb : nb = true → b ≠ 0) :
    Calls Try.prog 51 #[.agg #[.bool na, .slice A n ca], .agg #[.bool nb, .slice B m cb]] w fun e w' => e = .returned (.int .i64 (cmpZ (toI na a) (toI nb b))) ∧ Below w.heap.size w w' := by
  have HA := Lib.hid hA
  have HB := Lib.hid hB
  have HC := Lib.hid (cmp_toI hva hvb)
  have HN : Hid (cmpL (digs a) (digs b) = cmpN a b) := by show _ = _; rw [cmpL_norm (digs_good _) (digs_good _) (digs_norm _) (digs_norm _), digs_val, digs_val]
  have HM : Hid (cmpL (digs b) (digs a) = -1 * cmpN a b) := by show _ = _; rw [cmpL_norm (digs_good _) (digs_good _) (digs_norm _) (digs_norm _), digs_val, digs_val, cmpN_neg]
  clear hva hvb
  have hbl := ((Below.refl w.heap.size w).alloc (Nat.le_refl _) (.cells #[.bool na, .slice A n ca] 24)).alloc (by simp) (.cells #[.bool nb, .slice B m cb] 24)
  have HBL := Lib.hid hbl
  clear hbl
  cases na <;> cases nb
  · have HE : Hid (cmpZ (toI false a) (toI false b) = cmpL (digs a) (digs b)) := by show _ = _; rw [HC.out, HN.out, if_pos rfl]; exact Int.one_mul _
    clear HC HN HM
    go_enter Try.func51, Try.ntmps51
    go_wp2_with (go_at_call 46; refine (rcompare_any _ _ _ _ _ _ (digs a) (digs b) _ ((HA.out.box _).box _) ((HB.out.box _).box _)).mono ?_; rintro e w1 ⟨rfl, d, rfl⟩)
    go_ret
    exact ⟨ret_int HE.out.symm, bdrewN HBL.out _⟩
  · have HE : Hid (cmpZ (toI false a) (toI true b) = 1) := by show _ = _; rw [HC.out, if_neg (by decide)]; rfl
    clear HC HN HM
    go_enter Try.func51, Try.ntmps51
    go_wp2
    go_ret
    exact ⟨ret_int HE.out.symm, HBL.out⟩
  · have HE : Hid (cmpZ (toI true a) (toI false b) = -1) := by show _ = _; rw [HC.out, if_neg (by decide)]; rfl
    clear HC HN HM
    go_enter Try.func51, Try.ntmps51
    go_wp2
    go_ret
    exact ⟨ret_int HE.out.symm, HBL.out⟩
  · have HE : Hid (cmpZ (toI true a) (toI true b) = cmpL (digs b) (digs a)) := by show _ = _; rw [HC.out, HM.out, if_pos rfl]; rfl
    clear HC HN HM
    go_enter Try.func51, Try.ntmps51
    go_wp2_with (go_at_call 46; refine (rcompare_any _ _ _ _ _ _ (digs b) (digs a) _ ((HB.out.box _).box _) ((HA.out.box _).box _)).mono ?_; rintro e w1 ⟨rfl, d, rfl⟩)
    go_ret
    exact ⟨ret_int HE.out.symm, bdrewN HBL.out _⟩

end Go.Proofs.Ytdbilpmhejigpaa
