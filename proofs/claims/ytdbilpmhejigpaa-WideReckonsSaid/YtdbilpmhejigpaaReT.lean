/- Contracts of both sides for any two numbers, valid or not: Add, Sub, Mul, DivMod. -/
import Derived.Test.YtdbilpmhejigpaaR18
import Derived.Test.YtdbilpmhejigpaaAskT
namespace Go.Proofs.Ytdbilpmhejigpaa
open Go.RowKit

def rtN (c z : Int) : Bool := if c = 0 then mkN (decide (z < 0)) z.natAbs else false
def rtL (c z : Int) : List Nat := if c = 0 then mkL z.natAbs else []
def rtE (c z : Int) : Int := if c = 0 then mkE z.natAbs else 8
theorem rt_ok (w : World) {c z : Int} (h : c = 0) : RW w (rtN c z) (rtL c z) (rtE c z) = RZ w z := by
  unfold rtN rtL rtE
  rw [if_pos h, if_pos h, if_pos h]
  rfl
theorem rt_bad (w : World) {c z : Int} (h : c = 8) : RW w (rtN c z) (rtL c z) (rtE c z) = RW w false [] 8 := by
  unfold rtN rtL rtE
  rw [if_neg (not_zero h), if_neg (not_zero h), if_neg (not_zero h)]

section
variable (w : World) (na nb : Bool) (A B : Option Addr) (n m ca cb : Nat) (xs ys : List Nat) (hA : Lm w w.heap.size A n ca xs) (hB : Lm w w.heap.size B m cb ys)
include hA hB
theorem add_t : Calls Try.prog 7 #[.agg #[.bool na, .slice A n ca], .agg #[.bool nb, .slice B m cb]] w (RW w (rtN (chkB na xs nb ys) (toI na (val xs) + toI nb (val ys))) (rtL (chkB na xs nb ys) (toI na (val xs) + toI nb (val ys))) (rtE (chkB na xs nb ys) (toI na (val xs) + toI nb (val ys)))) := by
  rcases chkB_cases na xs nb ys with hc | hc
  · rw [rt_ok w hc]
    have e1 := chk_digs (chkB_ok.1 hc).1 hA.good
    have e2 := chk_digs (chkB_ok.1 hc).2 hB.good
    rw [e1] at hA hc
    rw [e2] at hB hc
    exact add_ok w na nb A B n m ca cb _ _ hA hB hc
  · rw [rt_bad w hc]
    exact add_bad w na nb A B n m ca cb xs ys hA hB hc
theorem radd_t : Calls Try.prog 8 #[.agg #[.bool na, .slice A n ca], .agg #[.bool nb, .slice B m cb]] w (RW w (rtN (chkB na xs nb ys) (toI na (val xs) + toI nb (val ys))) (rtL (chkB na xs nb ys) (toI na (val xs) + toI nb (val ys))) (rtE (chkB na xs nb ys) (toI na (val xs) + toI nb (val ys)))) := by
  rcases chkB_cases na xs nb ys with hc | hc
  · rw [rt_ok w hc]
    have e1 := chk_digs (chkB_ok.1 hc).1 hA.good
    have e2 := chk_digs (chkB_ok.1 hc).2 hB.good
    rw [e1] at hA hc
    rw [e2] at hB hc
    exact radd_ok w na nb A B n m ca cb _ _ hA hB hc
  · rw [rt_bad w hc]
    exact radd_bad w na nb A B n m ca cb xs ys hA hB hc
theorem sub_t : Calls Try.prog 9 #[.agg #[.bool na, .slice A n ca], .agg #[.bool nb, .slice B m cb]] w (RW w (rtN (chkB na xs nb ys) (toI na (val xs) - toI nb (val ys))) (rtL (chkB na xs nb ys) (toI na (val xs) - toI nb (val ys))) (rtE (chkB na xs nb ys) (toI na (val xs) - toI nb (val ys)))) := by
  rcases chkB_cases na xs nb ys with hc | hc
  · rw [rt_ok w hc]
    have e1 := chk_digs (chkB_ok.1 hc).1 hA.good
    have e2 := chk_digs (chkB_ok.1 hc).2 hB.good
    rw [e1] at hA hc
    rw [e2] at hB hc
    exact sub_ok w na nb A B n m ca cb _ _ hA hB hc
  · rw [rt_bad w hc]
    exact sub_bad w na nb A B n m ca cb xs ys hA hB hc
theorem rsub_t : Calls Try.prog 10 #[.agg #[.bool na, .slice A n ca], .agg #[.bool nb, .slice B m cb]] w (RW w (rtN (chkB na xs nb ys) (toI na (val xs) - toI nb (val ys))) (rtL (chkB na xs nb ys) (toI na (val xs) - toI nb (val ys))) (rtE (chkB na xs nb ys) (toI na (val xs) - toI nb (val ys)))) := by
  rcases chkB_cases na xs nb ys with hc | hc
  · rw [rt_ok w hc]
    have e1 := chk_digs (chkB_ok.1 hc).1 hA.good
    have e2 := chk_digs (chkB_ok.1 hc).2 hB.good
    rw [e1] at hA hc
    rw [e2] at hB hc
    exact rsub_ok w na nb A B n m ca cb _ _ hA hB hc
  · rw [rt_bad w hc]
    exact rsub_bad w na nb A B n m ca cb xs ys hA hB hc
theorem mul_t : Calls Try.prog 11 #[.agg #[.bool na, .slice A n ca], .agg #[.bool nb, .slice B m cb]] w (RW w (rtN (chkB na xs nb ys) (toI na (val xs) * toI nb (val ys))) (rtL (chkB na xs nb ys) (toI na (val xs) * toI nb (val ys))) (rtE (chkB na xs nb ys) (toI na (val xs) * toI nb (val ys)))) := by
  rcases chkB_cases na xs nb ys with hc | hc
  · rw [rt_ok w hc, ← rz_of w (na != nb) (val xs * val ys) (toI_mul _ _ _ _)]
    have e1 := chk_digs (chkB_ok.1 hc).1 hA.good
    have e2 := chk_digs (chkB_ok.1 hc).2 hB.good
    rw [e1] at hA hc
    rw [e2] at hB hc
    exact mul_ok w na nb A B n m ca cb _ _ hA hB hc
  · rw [rt_bad w hc]
    exact mul_bad w na nb A B n m ca cb xs ys hA hB hc
theorem rmul_t : Calls Try.prog 12 #[.agg #[.bool na, .slice A n ca], .agg #[.bool nb, .slice B m cb]] w (RW w (rtN (chkB na xs nb ys) (toI na (val xs) * toI nb (val ys))) (rtL (chkB na xs nb ys) (toI na (val xs) * toI nb (val ys))) (rtE (chkB na xs nb ys) (toI na (val xs) * toI nb (val ys)))) := by
  rcases chkB_cases na xs nb ys with hc | hc
  · rw [rt_ok w hc, ← rz_of w (na != nb) (val xs * val ys) (toI_mul _ _ _ _)]
    have e1 := chk_digs (chkB_ok.1 hc).1 hA.good
    have e2 := chk_digs (chkB_ok.1 hc).2 hB.good
    rw [e1] at hA hc
    rw [e2] at hB hc
    exact rmul_ok w na nb A B n m ca cb _ _ hA hB hc
  · rw [rt_bad w hc]
    exact rmul_bad w na nb A B n m ca cb xs ys hA hB hc
end

/-- What DivMod returns: the quotient's sign and limbs, the remainder's, the error. -/
def dmT (na : Bool) (xs : List Nat) (nb : Bool) (ys : List Nat) : Bool × List Nat × Bool × List Nat × Int :=
  if chkB na xs nb ys = 0 then
    if val ys = 0 then (false, [], false, [], 18)
    else if na = nb then (mkN false (val xs / val ys), digs (val xs / val ys), mkN nb (val xs % val ys), digs (val xs % val ys), 0)
    else if val xs % val ys = 0 then (mkN true (val xs / val ys), digs (val xs / val ys), mkN nb 0, digs 0, 0)
    else (mkN true (val xs / val ys + 1), digs (val xs / val ys + 1), mkN nb (val ys - val xs % val ys), digs (val ys - val xs % val ys), 0)
  else (false, [], false, [], 8)
theorem signs_ne {na nb : Bool} (h : ¬ na = nb) : na = true ∧ nb = false ∨ na = false ∧ nb = true := by cases na <;> cases nb <;> simp at h ⊢
theorem mkN_zero (neg : Bool) : mkN neg 0 = false := by unfold mkN; simp

section
variable (w : World) (na nb : Bool) (A B : Option Addr) (n m ca cb : Nat) (xs ys : List Nat) (hA : Lm w w.heap.size A n ca xs) (hB : Lm w w.heap.size B m cb ys)
include hA hB
theorem divmod_t : Calls Try.prog 13 #[.agg #[.bool na, .slice A n ca], .agg #[.bool nb, .slice B m cb]] w (RWW w (dmT na xs nb ys).1 (dmT na xs nb ys).2.1 (dmT na xs nb ys).2.2.1 (dmT na xs nb ys).2.2.2.1 (dmT na xs nb ys).2.2.2.2) := by
  unfold dmT
  rcases chkB_cases na xs nb ys with hc | hc
  · rw [if_pos hc]
    have e1 := chk_digs (chkB_ok.1 hc).1 hA.good
    have e2 := chk_digs (chkB_ok.1 hc).2 hB.good
    by_cases h0 : val ys = 0
    · rw [if_pos h0]
      have hy : ys = [] := by rw [e2, h0]; rfl
      subst hy
      obtain rfl : m = 0 := hB.len.symm
      exact divmod_zero w na nb A B n ca cb xs hA hB hc
    · rw [if_neg h0]
      generalize val xs = a at *
      generalize val ys = b at *
      subst e1 e2
      have hb : 0 < b := by omega
      by_cases hs : na = nb
      · rw [if_pos hs]
        exact divmod_same w na nb A B n m ca cb a b hA hB hc hb hs
      · rw [if_neg hs]
        by_cases hr : a % b = 0
        · rw [if_pos hr]
          have h := divmod_exact w na nb A B n m ca cb a b hA hB hc hb (signs_ne hs) hr
          rwa [hr] at h
        · rw [if_neg hr]
          exact divmod_down w na nb A B n m ca cb a b hA hB hc hb (signs_ne hs) (by omega)
  · rw [if_neg (not_zero hc)]
    exact divmod_bad w na nb A B n m ca cb xs ys hA hB hc
theorem rdivmod_t : Calls Try.prog 14 #[.agg #[.bool na, .slice A n ca], .agg #[.bool nb, .slice B m cb]] w (RWW w (dmT na xs nb ys).1 (dmT na xs nb ys).2.1 (dmT na xs nb ys).2.2.1 (dmT na xs nb ys).2.2.2.1 (dmT na xs nb ys).2.2.2.2) := by
  unfold dmT
  rcases chkB_cases na xs nb ys with hc | hc
  · rw [if_pos hc]
    have e1 := chk_digs (chkB_ok.1 hc).1 hA.good
    have e2 := chk_digs (chkB_ok.1 hc).2 hB.good
    by_cases h0 : val ys = 0
    · rw [if_pos h0]
      have hy : ys = [] := by rw [e2, h0]; rfl
      subst hy
      obtain rfl : m = 0 := hB.len.symm
      exact rdivmod_zero w na nb A B n ca cb xs hA hB hc
    · rw [if_neg h0]
      generalize val xs = a at *
      generalize val ys = b at *
      subst e1 e2
      have hb : 0 < b := by omega
      by_cases hs : na = nb
      · rw [if_pos hs]
        exact rdivmod_same w na nb A B n m ca cb a b hA hB hc hb hs _ rfl
      · rw [if_neg hs]
        by_cases hr : a % b = 0
        · rw [if_pos hr]
          have h := rdivmod_exact w na nb A B n m ca cb a b hA hB hc hb (signs_ne hs) hr
          rwa [hr, mkN_zero, ← mkN_zero nb] at h
        · rw [if_neg hr]
          exact rdivmod_down w na nb A B n m ca cb a b hA hB hc hb (signs_ne hs) (by omega)
  · rw [if_neg (not_zero hc)]
    exact rdivmod_bad w na nb A B n m ca cb xs ys hA hB hc
end
end Go.Proofs.Ytdbilpmhejigpaa
