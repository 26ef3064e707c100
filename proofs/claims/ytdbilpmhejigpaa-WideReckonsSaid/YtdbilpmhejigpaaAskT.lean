/-
  The contracts of both sides for any number, valid or not: what the functions of the chapter return, as functions of the number's reading.
-/
import Derived.Test.YtdbilpmhejigpaaR6
namespace Go.Proofs.Ytdbilpmhejigpaa
open Go.RowKit

def intVT (neg : Bool) (xs : List Nat) : Int := if chk neg xs = 0 then intV neg (val xs) else 0
def intET (neg : Bool) (xs : List Nat) : Int := if chk neg xs = 0 then intE neg (val xs) else 8
def unN (neg' neg : Bool) (xs : List Nat) : Bool := if chk neg xs = 0 then mkN neg' (val xs) else false
def unL (neg : Bool) (xs : List Nat) : List Nat := if chk neg xs = 0 then mkL (val xs) else []
def unE (neg : Bool) (xs : List Nat) : Int := if chk neg xs = 0 then mkE (val xs) else 8
def cmpVT (na : Bool) (xs : List Nat) (nb : Bool) (ys : List Nat) : Int := if chkB na xs nb ys = 0 then cmpZ (toI na (val xs)) (toI nb (val ys)) else 0
def cmpET (na : Bool) (xs : List Nat) (nb : Bool) (ys : List Nat) : Int := if chkB na xs nb ys = 0 then 0 else 8
def signVT (neg : Bool) (xs : List Nat) : Int := if chk neg xs = 0 then signZ neg (val xs) else 0
def errT (neg : Bool) (xs : List Nat) : Int := if chk neg xs = 0 then 0 else 8
def bitsVT (neg : Bool) (xs : List Nat) : Int := if chk neg xs = 0 then (lenS xs : Int) else 0
theorem not_zero {x : Int} (h : x = 8) : ¬ x = 0 := by omega

theorem int_t (w : World) (neg : Bool) (A : Option Addr) (n c : Nat) (xs : List Nat) (h : Lm w w.heap.size A n c xs) :
    Calls Try.prog 16 #[.agg #[.bool neg, .slice A n c]] w fun e w' => e = .returned (.tuple #[.int .i64 (intVT neg xs), .int .i64 (intET neg xs)]) ∧ Below w.heap.size w w' := by
  unfold intVT intET
  rcases chk_cases neg xs with hc | hc
  · rw [if_pos hc, if_pos hc]
    exact int_ok w neg A n c xs _ h hc rfl
  · rw [if_neg (not_zero hc), if_neg (not_zero hc)]
    exact int_bad w neg A n c xs h hc

theorem rint_t (w : World) (neg : Bool) (A : Option Addr) (n c : Nat) (xs : List Nat) (h : Lm w w.heap.size A n c xs) :
    Calls Try.prog 17 #[.agg #[.bool neg, .slice A n c]] w fun e w' => e = .returned (.tuple #[.int .i64 (intVT neg xs), .int .i64 (intET neg xs)]) ∧ Below w.heap.size w w' := by
  unfold intVT intET
  rcases chk_cases neg xs with hc | hc
  · rw [if_pos hc, if_pos hc]
    exact rint_ok w neg A n c xs _ h hc rfl
  · rw [if_neg (not_zero hc), if_neg (not_zero hc)]
    exact rint_bad w neg A n c xs h hc

theorem neg_t (w : World) (neg : Bool) (A : Option Addr) (n c : Nat) (xs : List Nat) (h : Lm w w.heap.size A n c xs) :
    Calls Try.prog 18 #[.agg #[.bool neg, .slice A n c]] w (RW w (unN (!neg) neg xs) (unL neg xs) (unE neg xs)) := by
  unfold unN unL unE
  rcases chk_cases neg xs with hc | hc
  · rw [if_pos hc, if_pos hc, if_pos hc]
    have e := chk_digs hc h.good
    rw [e] at h hc
    exact neg_ok w neg A n c _ h hc
  · rw [if_neg (not_zero hc), if_neg (not_zero hc), if_neg (not_zero hc)]
    exact neg_bad w neg A n c xs h hc

theorem rneg_t (w : World) (neg : Bool) (A : Option Addr) (n c : Nat) (xs : List Nat) (h : Lm w w.heap.size A n c xs) :
    Calls Try.prog 19 #[.agg #[.bool neg, .slice A n c]] w (RW w (unN (!neg) neg xs) (unL neg xs) (unE neg xs)) := by
  unfold unN unL unE
  rcases chk_cases neg xs with hc | hc
  · rw [if_pos hc, if_pos hc, if_pos hc]
    have e := chk_digs hc h.good
    rw [e] at h hc
    exact rneg_ok w neg A n c _ h hc
  · rw [if_neg (not_zero hc), if_neg (not_zero hc), if_neg (not_zero hc)]
    exact rneg_bad w neg A n c xs h hc

theorem abs_t (w : World) (neg : Bool) (A : Option Addr) (n c : Nat) (xs : List Nat) (h : Lm w w.heap.size A n c xs) :
    Calls Try.prog 20 #[.agg #[.bool neg, .slice A n c]] w (RW w (unN false neg xs) (unL neg xs) (unE neg xs)) := by
  unfold unN unL unE
  rcases chk_cases neg xs with hc | hc
  · rw [if_pos hc, if_pos hc, if_pos hc]
    have e := chk_digs hc h.good
    rw [e] at h hc
    exact abs_ok w neg A n c _ h hc
  · rw [if_neg (not_zero hc), if_neg (not_zero hc), if_neg (not_zero hc)]
    exact abs_bad w neg A n c xs h hc

theorem rabs_t (w : World) (neg : Bool) (A : Option Addr) (n c : Nat) (xs : List Nat) (h : Lm w w.heap.size A n c xs) :
    Calls Try.prog 21 #[.agg #[.bool neg, .slice A n c]] w (RW w (unN false neg xs) (unL neg xs) (unE neg xs)) := by
  unfold unN unL unE
  rcases chk_cases neg xs with hc | hc
  · rw [if_pos hc, if_pos hc, if_pos hc]
    have e := chk_digs hc h.good
    rw [e] at h hc
    exact rabs_ok w neg A n c _ h hc
  · rw [if_neg (not_zero hc), if_neg (not_zero hc), if_neg (not_zero hc)]
    exact rabs_bad w neg A n c xs h hc

theorem cmp_t (w : World) (na nb : Bool) (A B : Option Addr) (n m ca cb : Nat) (xs ys : List Nat) (hA : Lm w w.heap.size A n ca xs) (hB : Lm w w.heap.size B m cb ys) :
    Calls Try.prog 22 #[.agg #[.bool na, .slice A n ca], .agg #[.bool nb, .slice B m cb]] w fun e w' => e = .returned (.tuple #[.int .i64 (cmpVT na xs nb ys), .int .i64 (cmpET na xs nb ys)]) ∧ Below w.heap.size w w' := by
  unfold cmpVT cmpET
  rcases chkB_cases na xs nb ys with hc | hc
  · rw [if_pos hc, if_pos hc]
    have e1 := chk_digs (chkB_ok.1 hc).1 hA.good
    have e2 := chk_digs (chkB_ok.1 hc).2 hB.good
    rw [e1] at hA hc
    rw [e2] at hB hc
    exact cmp_ok w na nb A B n m ca cb _ _ hA hB hc
  · rw [if_neg (not_zero hc), if_neg (not_zero hc)]
    exact cmp_bad w na nb A B n m ca cb xs ys hA hB hc

theorem rcmp_t (w : World) (na nb : Bool) (A B : Option Addr) (n m ca cb : Nat) (xs ys : List Nat) (hA : Lm w w.heap.size A n ca xs) (hB : Lm w w.heap.size B m cb ys) :
    Calls Try.prog 23 #[.agg #[.bool na, .slice A n ca], .agg #[.bool nb, .slice B m cb]] w fun e w' => e = .returned (.tuple #[.int .i64 (cmpVT na xs nb ys), .int .i64 (cmpET na xs nb ys)]) ∧ Below w.heap.size w w' := by
  unfold cmpVT cmpET
  rcases chkB_cases na xs nb ys with hc | hc
  · rw [if_pos hc, if_pos hc]
    have e1 := chk_digs (chkB_ok.1 hc).1 hA.good
    have e2 := chk_digs (chkB_ok.1 hc).2 hB.good
    rw [e1] at hA hc
    rw [e2] at hB hc
    exact rcmp_ok w na nb A B n m ca cb _ _ hA hB hc
  · rw [if_neg (not_zero hc), if_neg (not_zero hc)]
    exact rcmp_bad w na nb A B n m ca cb xs ys hA hB hc

theorem sign_t (w : World) (neg : Bool) (A : Option Addr) (n c : Nat) (xs : List Nat) (h : Lm w w.heap.size A n c xs) :
    Calls Try.prog 24 #[.agg #[.bool neg, .slice A n c]] w fun e w' => e = .returned (.tuple #[.int .i64 (signVT neg xs), .int .i64 (errT neg xs)]) ∧ Below w.heap.size w w' := by
  unfold signVT errT
  rcases chk_cases neg xs with hc | hc
  · rw [if_pos hc, if_pos hc]
    have e := chk_digs hc h.good
    rw [e] at h hc
    exact sign_ok w neg A n c _ h hc
  · rw [if_neg (not_zero hc), if_neg (not_zero hc)]
    exact sign_bad w neg A n c xs h hc

theorem rsign_t (w : World) (neg : Bool) (A : Option Addr) (n c : Nat) (xs : List Nat) (h : Lm w w.heap.size A n c xs) :
    Calls Try.prog 25 #[.agg #[.bool neg, .slice A n c]] w fun e w' => e = .returned (.tuple #[.int .i64 (signVT neg xs), .int .i64 (errT neg xs)]) ∧ Below w.heap.size w w' := by
  unfold signVT errT
  rcases chk_cases neg xs with hc | hc
  · rw [if_pos hc, if_pos hc]
    have e := chk_digs hc h.good
    rw [e] at h hc
    exact rsign_ok w neg A n c _ h hc
  · rw [if_neg (not_zero hc), if_neg (not_zero hc)]
    exact rsign_bad w neg A n c xs h hc

theorem bits_t (w : World) (neg : Bool) (A : Option Addr) (n c : Nat) (xs : List Nat) (h : Lm w w.heap.size A n c xs) :
    Calls Try.prog 26 #[.agg #[.bool neg, .slice A n c]] w fun e w' => e = .returned (.tuple #[.int .i64 (bitsVT neg xs), .int .i64 (errT neg xs)]) ∧ Below w.heap.size w w' := by
  unfold bitsVT errT
  rcases chk_cases neg xs with hc | hc
  · rw [if_pos hc, if_pos hc]
    exact bits_ok w neg A n c xs h hc
  · rw [if_neg (not_zero hc), if_neg (not_zero hc)]
    exact bits_bad w neg A n c xs h hc

theorem rbits_t (w : World) (neg : Bool) (A : Option Addr) (n c : Nat) (xs : List Nat) (h : Lm w w.heap.size A n c xs) :
    Calls Try.prog 27 #[.agg #[.bool neg, .slice A n c]] w fun e w' => e = .returned (.tuple #[.int .i64 (bitsVT neg xs), .int .i64 (errT neg xs)]) ∧ Below w.heap.size w w' := by
  unfold bitsVT errT
  rcases chk_cases neg xs with hc | hc
  · rw [if_pos hc, if_pos hc]
    exact rbits_ok w neg A n c xs h hc
  · rw [if_neg (not_zero hc), if_neg (not_zero hc)]
    exact rbits_bad w neg A n c xs h hc

theorem rsame_self (w : World) (na : Bool) (A B : Option Addr) (n m ca cb : Nat) (xs : List Nat) (hA : Lm w w.heap.size A n ca xs) (hB : Lm w w.heap.size B m cb xs) :
    Calls Try.prog 15 #[.agg #[.bool na, .slice A n ca], .agg #[.bool na, .slice B m cb]] w fun e w' => e = .returned (.bool true) ∧ Below w.heap.size w w' :=
  (rsame_any w na na A B n m ca cb xs xs hA hB).mono fun _ _ ⟨he, hb⟩ => ⟨by rw [he, sameB_self], hb⟩

end Go.Proofs.Ytdbilpmhejigpaa
