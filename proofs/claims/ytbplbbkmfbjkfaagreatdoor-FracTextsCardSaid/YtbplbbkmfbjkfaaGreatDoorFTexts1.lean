/- Lemmas of several claims. -/
import Derived.Lib.Hide
import Derived.Test.YtbplbbkmfbjkfaaGreatDoorProg
import Derived.Handy
import Derived.WalkSpells
import Derived.WalkLawsBesides
import Derived.Laws.AppendOwnNone
import Derived.ProofKit
import Derived.SizedLaws
import Derived.Lib.SmallJoins
import Derived.Deep.RegionHeld3
import Derived.BigQuiet
import Derived.Deep.QuietTactic
import Derived.RangeFuncBox
import Derived.Deep.DeepCutAuto
import Derived.RangeFuncNested
import Derived.RangeFuncBound
import Derived.RangeFuncCalls
import Derived.RangeFuncLeaves
import Derived.Shelf.Abstract
import Derived.Shelf.RegionOpen
import Derived.OwnWalkIn
import Derived.TacticsInMore
import Derived.LoopNIn
import Derived.LoopIn
/-
  Plain mathematics of limbs: lists of numbers below 2^32, lowest first, and the numbers that they stand for. No program is named here.
-/
namespace Go.Proofs.YtbplbbkmfbjkfaaGreatDoor

theorem pow_add_ (n m : Nat) : (4294967296 : Nat) ^ (n + m) = 4294967296 ^ n * 4294967296 ^ m := Nat.pow_add ..
theorem pow_pos_ (n : Nat) : 0 < (4294967296 : Nat) ^ n := Nat.pow_pos (by omega)
theorem pow_succ_ (n : Nat) : (4294967296 : Nat) ^ (n + 1) = 4294967296 * 4294967296 ^ n := by rw [Nat.pow_succ, Nat.mul_comm]
theorem pow_mono_ {n m : Nat} (h : n ≤ m) : (4294967296 : Nat) ^ n ≤ 4294967296 ^ m := Nat.pow_le_pow_right (by omega) h

def val : List Nat → Nat
  | [] => 0
  | x :: xs => x + 4294967296 * val xs
def Good (xs : List Nat) : Prop := ∀ x ∈ xs, x < 4294967296
def Norm (xs : List Nat) : Prop := xs.getLast? ≠ some 0
def digsF : Nat → Nat → List Nat
  | 0, _ => []
  | f + 1, n => if n = 0 then [] else n % 4294967296 :: digsF f (n / 4294967296)
def digs (n : Nat) : List Nat := digsF n n

theorem Good.nil : Good [] := fun _ h => by cases h
theorem Good.cons {x : Nat} {xs : List Nat} (hx : x < 4294967296) (h : Good xs) : Good (x :: xs) := by
  intro y hy
  rcases List.mem_cons.1 hy with rfl | hy
  · exact hx
  · exact h y hy
theorem Good.tail {x : Nat} {xs : List Nat} (h : Good (x :: xs)) : Good xs := fun y hy => h y (List.mem_cons_of_mem _ hy)
theorem Good.head {x : Nat} {xs : List Nat} (h : Good (x :: xs)) : x < 4294967296 := h x (List.mem_cons_self ..)
theorem Good.append {xs ys : List Nat} (hx : Good xs) (hy : Good ys) : Good (xs ++ ys) := by
  intro y h
  rcases List.mem_append.1 h with h | h
  · exact hx y h
  · exact hy y h
theorem Good.take {xs : List Nat} (h : Good xs) (k : Nat) : Good (xs.take k) := fun y hy => h y (List.mem_of_mem_take hy)
theorem Good.drop {xs : List Nat} (h : Good xs) (k : Nat) : Good (xs.drop k) := fun y hy => h y (List.mem_of_mem_drop hy)
theorem Good.get {xs : List Nat} (h : Good xs) (k : Nat) : xs[k]?.getD 0 < 4294967296 := by
  rcases Nat.lt_or_ge k xs.length with hk | hk
  · rw [List.getElem?_eq_getElem hk]
    exact h _ (List.getElem_mem hk)
  · rw [List.getElem?_eq_none hk]
    simp

theorem val_nil : val [] = 0 := rfl
theorem val_cons (x : Nat) (xs : List Nat) : val (x :: xs) = x + 4294967296 * val xs := rfl
theorem val_append (xs ys : List Nat) : val (xs ++ ys) = val xs + 4294967296 ^ xs.length * val ys := by
  induction xs with
  | nil => simp [val_nil]
  | cons x xs ih =>
    simp only [List.cons_append, val_cons, ih, List.length_cons, pow_succ_, Nat.mul_add, Nat.mul_assoc]
    omega
theorem val_snoc (xs : List Nat) (y : Nat) : val (xs ++ [y]) = val xs + 4294967296 ^ xs.length * y := by rw [val_append]; simp [val_nil, val_cons]
theorem val_lt {xs : List Nat} (h : Good xs) : val xs < 4294967296 ^ xs.length := by
  induction xs with
  | nil => simp [val_nil]
  | cons x xs ih =>
    have h1 := ih h.tail
    have h2 := h.head
    simp only [val_cons, List.length_cons, pow_succ_]
    omega
theorem val_zero {xs : List Nat} (h : ∀ x ∈ xs, x = 0) : val xs = 0 := by
  induction xs with
  | nil => rfl
  | cons x xs ih =>
    have h1 := ih fun y hy => h y (List.mem_cons_of_mem _ hy)
    have h2 := h x (List.mem_cons_self ..)
    simp [h1, h2, val_cons]
theorem val_split (xs : List Nat) (k : Nat) (hk : k ≤ xs.length) : val xs = val (xs.take k) + 4294967296 ^ k * val (xs.drop k) := by
  have h := val_append (xs.take k) (xs.drop k)
  rw [List.take_append_drop, List.length_take, Nat.min_eq_left hk] at h
  exact h
theorem take_snoc_ {α : Type} (xs : List α) (k : Nat) (h : k < xs.length) : xs.take (k + 1) = xs.take k ++ [xs[k]] := by
  rw [List.take_succ_eq_append_getElem h]
theorem take_snocD (xs : List Nat) (k : Nat) (h : k < xs.length) : xs.take (k + 1) = xs.take k ++ [xs[k]?.getD 0] := by
  rw [List.take_succ_eq_append_getElem h, List.getElem?_eq_getElem h]; rfl
theorem val_take_succ (xs : List Nat) (k : Nat) (h : k < xs.length) : val (xs.take (k + 1)) = val (xs.take k) + 4294967296 ^ k * xs[k]?.getD 0 := by
  rw [take_snocD xs k h, val_snoc, List.length_take, Nat.min_eq_left (by omega)]
/-- Beyond the list's end there is nothing to add. -/
theorem val_take_succ' (xs : List Nat) (k : Nat) : val (xs.take (k + 1)) = val (xs.take k) + 4294967296 ^ k * xs[k]?.getD 0 := by
  rcases Nat.lt_or_ge k xs.length with h | h
  · exact val_take_succ xs k h
  · rw [List.take_of_length_le (by omega), List.take_of_length_le (by omega), List.getElem?_eq_none h]
    simp
theorem drop_cons_ (xs : List Nat) (k : Nat) (h : k < xs.length) : xs.drop k = xs[k]?.getD 0 :: xs.drop (k + 1) := by
  rw [List.drop_eq_getElem_cons h, List.getElem?_eq_getElem h]; rfl

theorem Norm.nil : Norm [] := by simp [Norm]
theorem Norm.tail {x : Nat} {xs : List Nat} (h : Norm (x :: xs)) : Norm xs := by
  cases xs with
  | nil => exact Norm.nil
  | cons y ys => unfold Norm at h ⊢; rw [List.getLast?_cons_cons] at h; exact h
theorem val_pos {xs : List Nat} (h : Norm xs) (hne : xs ≠ []) : 0 < val xs := by
  induction xs with
  | nil => exact absurd rfl hne
  | cons x xs ih =>
    cases xs with
    | nil =>
      simp [Norm] at h
      simp only [val_cons, val_nil]
      omega
    | cons y ys =>
      have := ih h.tail (by simp)
      simp only [val_cons] at this ⊢
      omega
theorem uniq {xs ys : List Nat} (gx : Good xs) (gy : Good ys) (nx : Norm xs) (ny : Norm ys) (h : val xs = val ys) : xs = ys := by
  induction xs generalizing ys with
  | nil =>
    cases ys with
    | nil => rfl
    | cons y ys => have := val_pos ny (by simp); rw [← h] at this; simp [val_nil] at this
  | cons x xs ih =>
    cases ys with
    | nil => have := val_pos nx (by simp); rw [h] at this; simp [val_nil] at this
    | cons y ys =>
      have h1 := gx.head
      have h2 := gy.head
      simp only [val_cons] at h
      have e1 : x = y := by omega
      have e2 : val xs = val ys := by omega
      rw [e1, ih gx.tail gy.tail nx.tail ny.tail e2]

theorem digsF_val : ∀ (f n : Nat), n ≤ f → val (digsF f n) = n := by
  intro f
  induction f with
  | zero => intro n h; simp [digsF, val_nil]; omega
  | succ f ih =>
    intro n h
    unfold digsF
    split
    · simp [val_nil]; omega
    · rw [val_cons, ih _ (by omega)]
      omega
theorem digsF_good : ∀ (f n : Nat), Good (digsF f n) := by
  intro f
  induction f with
  | zero => intro n; exact Good.nil
  | succ f ih =>
    intro n
    unfold digsF
    split
    · exact Good.nil
    · exact (ih _).cons (Nat.mod_lt _ (by omega))
theorem digsF_norm : ∀ (f n : Nat), n ≤ f → Norm (digsF f n) := by
  intro f
  induction f with
  | zero => intro n _; exact Norm.nil
  | succ f ih =>
    intro n h
    unfold digsF
    split
    · exact Norm.nil
    · have h1 := ih (n / 4294967296) (by omega)
      have h2 := digsF_val f (n / 4294967296) (by omega)
      revert h1 h2
      cases digsF f (n / 4294967296) with
      | nil => intro _ h2; simp [Norm, val_nil] at h2 ⊢; omega
      | cons y ys => intro h1 _; unfold Norm at h1 ⊢; rw [List.getLast?_cons_cons]; exact h1
theorem digs_val (n : Nat) : val (digs n) = n := digsF_val n n (Nat.le_refl _)
theorem digs_good (n : Nat) : Good (digs n) := digsF_good n n
theorem digs_norm (n : Nat) : Norm (digs n) := digsF_norm n n (Nat.le_refl _)
theorem eq_digs {xs : List Nat} {n : Nat} (g : Good xs) (nx : Norm xs) (h : val xs = n) : xs = digs n :=
  uniq g (digs_good n) nx (digs_norm n) (by rw [h, digs_val])
theorem digs_zero : digs 0 = [] := rfl
theorem digs_nil {n : Nat} : digs n = [] ↔ n = 0 := by
  constructor
  · intro h; rw [← digs_val n, h]; rfl
  · rintro rfl; rfl
theorem digs_pos {n : Nat} : 0 < (digs n).length ↔ 0 < n := by
  rw [List.length_pos_iff, Ne, digs_nil]
  omega

/-- A normal list of k limbs or more stands for a number of at least B^(k-1). -/
theorem val_ge {xs : List Nat} (nx : Norm xs) (k : Nat) (hk : k < xs.length) : 4294967296 ^ k ≤ val xs := by
  induction xs generalizing k with
  | nil => simp at hk
  | cons x xs ih =>
    cases k with
    | zero => have := val_pos nx (by simp); rw [Nat.pow_zero]; omega
    | succ k =>
      have := ih nx.tail k (by simpa using hk)
      rw [pow_succ_, val_cons]
      omega
theorem len_le_of_lt {xs : List Nat} (nx : Norm xs) {k : Nat} (h : val xs < 4294967296 ^ k) : xs.length ≤ k := by
  rcases Nat.lt_or_ge k xs.length with hk | hk
  · have := val_ge nx k hk
    omega
  · exact hk
theorem digs_len {n k : Nat} : (digs n).length ≤ k ↔ n < 4294967296 ^ k := by
  constructor
  · intro h
    have h1 := val_lt (digs_good n)
    rw [digs_val] at h1
    exact Nat.lt_of_lt_of_le h1 (pow_mono_ h)
  · intro h
    exact len_le_of_lt (digs_norm n) (by rw [digs_val]; exact h)
theorem lt_of_len {xs ys : List Nat} (gx : Good xs) (ny : Norm ys) (h : xs.length < ys.length) : val xs < val ys := by
  have h1 := val_lt gx
  have h2 := val_ge ny xs.length h
  omega

theorem mul_len {a b n m : Nat} (ha : (digs a).length = n) (hb : (digs b).length = m) (hn : 0 < n) (hm : 0 < m) : n + m - 1 ≤ (digs (a * b)).length := by
  have h1 := val_ge (digs_norm a) (n - 1) (by omega)
  have h2 := val_ge (digs_norm b) (m - 1) (by omega)
  rw [digs_val] at h1 h2
  have h3 := Nat.mul_le_mul h1 h2
  rw [← pow_add_] at h3
  rcases Nat.lt_or_ge (digs (a * b)).length (n + m - 1) with h | h
  · have h4 := (digs_len (n := a * b) (k := n - 1 + (m - 1))).1 (by omega)
    omega
  · exact h

/-! ### Trimming -/
def tr (xs : List Nat) : Nat → Nat
  | 0 => 0
  | k + 1 => if xs[k]?.getD 0 = 0 then tr xs k else k + 1
theorem tr_le (xs : List Nat) (n : Nat) : tr xs n ≤ n := by
  induction n with
  | zero => exact Nat.le_refl _
  | succ k ih => unfold tr; split <;> omega
theorem tr_take (xs : List Nat) (n : Nat) : val (xs.take (tr xs n)) = val (xs.take n) := by
  induction n with
  | zero => rfl
  | succ k ih =>
    unfold tr
    split
    · next h => rw [ih, val_take_succ', h]; simp
    · rfl
theorem tr_norm (xs : List Nat) (n : Nat) (hn : n ≤ xs.length) : Norm (xs.take (tr xs n)) := by
  induction n with
  | zero => exact Norm.nil
  | succ k ih =>
    unfold tr
    split
    · exact ih (by omega)
    · next h =>
      unfold Norm
      rw [take_snocD xs k (by omega), List.getLast?_concat]
      simpa using h
theorem tr_digs {xs : List Nat} (g : Good xs) {n : Nat} (hn : xs.length = n) : xs.take (tr xs n) = digs (val xs) := by
  subst hn
  refine eq_digs (g.take _) (tr_norm xs _ (Nat.le_refl _)) ?_
  rw [tr_take, List.take_length]
theorem tr_len {xs : List Nat} (g : Good xs) {n : Nat} (hn : xs.length = n) : tr xs n = (digs (val xs)).length := by
  rw [← tr_digs g hn, List.length_take]
  have := tr_le xs n
  omega

/-! ### Comparison -/
def cmpN (a b : Nat) : Int := if a < b then -1 else if a = b then 0 else 1
/-- How lists of limbs are compared: longer ones are greater; else the numbers decide. -/
def cmpL (xs ys : List Nat) : Int := if xs.length < ys.length then -1 else if ys.length < xs.length then 1 else cmpN (val xs) (val ys)
theorem cmpN_eq {a b : Nat} : cmpN a b = 0 ↔ a = b := by unfold cmpN; split <;> (try split) <;> omega
theorem cmpN_lt {a b : Nat} (h : a < b) : cmpN a b = -1 := by unfold cmpN; rw [if_pos h]
theorem cmpN_gt {a b : Nat} (h : b < a) : cmpN a b = 1 := by unfold cmpN; rw [if_neg (by omega), if_neg (by omega)]
theorem cmpN_self (a : Nat) : cmpN a a = 0 := cmpN_eq.2 rfl
theorem eq_of_val {xs ys : List Nat} (gx : Good xs) (gy : Good ys) (hl : xs.length = ys.length) (h : val xs = val ys) : xs = ys := by
  induction xs generalizing ys with
  | nil => cases ys with
    | nil => rfl
    | cons y ys => simp at hl
  | cons x xs ih => cases ys with
    | nil => simp at hl
    | cons y ys =>
      have h1 := gx.head
      have h2 := gy.head
      simp only [val_cons] at h
      have e1 : x = y := by omega
      rw [e1, ih gx.tail gy.tail (by simpa using hl) (by omega)]
theorem cmpL_eq {xs ys : List Nat} (gx : Good xs) (gy : Good ys) : cmpL xs ys = 0 ↔ xs = ys := by
  unfold cmpL
  constructor
  · intro h
    split at h
    · omega
    · split at h
      · omega
      · exact eq_of_val gx gy (by omega) (cmpN_eq.1 h)
  · rintro rfl
    simp [cmpN_self]
theorem cmpL_norm {xs ys : List Nat} (gx : Good xs) (gy : Good ys) (nx : Norm xs) (ny : Norm ys) : cmpL xs ys = cmpN (val xs) (val ys) := by
  unfold cmpL
  split
  · next h => rw [cmpN_lt (lt_of_len gx ny h)]
  · split
    · next h => rw [cmpN_gt (lt_of_len gy nx h)]
    · rfl
/-- The highest limb that differs decides. -/
theorem val_lt_of {xs ys : List Nat} {k n : Nat} (gx : Good xs) (hx : xs.length = n) (hy : ys.length = n) (hk : k < n) (hd : xs.drop (k + 1) = ys.drop (k + 1)) (h : xs[k]?.getD 0 < ys[k]?.getD 0) : val xs < val ys := by
  have e1 := val_split xs (k + 1) (by omega)
  have e2 := val_split ys (k + 1) (by omega)
  have t1 := val_take_succ xs k (by omega)
  have t2 := val_take_succ ys k (by omega)
  have l1 : val (xs.take k) < 4294967296 ^ k := by
    have := val_lt (gx.take k)
    rwa [List.length_take, Nat.min_eq_left (by omega)] at this
  rw [hd] at e1
  have m : 4294967296 ^ k * (xs[k]?.getD 0 + 1) ≤ 4294967296 ^ k * ys[k]?.getD 0 := Nat.mul_le_mul_left _ (by omega)
  rw [Nat.mul_add, Nat.mul_one] at m
  omega
theorem drop_step {xs ys : List Nat} {k n : Nat} (hx : xs.length = n) (hy : ys.length = n) (hk : k < n) (hd : xs.drop (k + 1) = ys.drop (k + 1)) (h : xs[k]?.getD 0 = ys[k]?.getD 0) : xs.drop k = ys.drop k := by
  rw [drop_cons_ xs k (by omega), drop_cons_ ys k (by omega), hd, h]
theorem cmpL_of_drop {xs ys : List Nat} (h : xs.drop 0 = ys.drop 0) : cmpL xs ys = 0 := by
  simp only [List.drop_zero] at h
  subst h
  simp [cmpL, cmpN_self]
theorem cmpL_at {xs ys : List Nat} {k n : Nat} (gx : Good xs) (gy : Good ys) (hx : xs.length = n) (hy : ys.length = n) (hk : k < n) (hd : xs.drop (k + 1) = ys.drop (k + 1)) (h : xs[k]?.getD 0 ≠ ys[k]?.getD 0) :
    cmpL xs ys = cmpN (xs[k]?.getD 0) (ys[k]?.getD 0) := by
  unfold cmpL
  rw [if_neg (by omega), if_neg (by omega)]
  rcases Nat.lt_or_ge (xs[k]?.getD 0) (ys[k]?.getD 0) with h1 | h1
  · have h2 := val_lt_of gx hx hy hk hd h1; rw [cmpN_lt h1, cmpN_lt h2]
  · have h3 : ys[k]?.getD 0 < xs[k]?.getD 0 := by omega
    have h2 := val_lt_of gy hy hx hk hd.symm h3
    rw [cmpN_gt h3, cmpN_gt h2]

end Go.Proofs.YtbplbbkmfbjkfaaGreatDoor

/-
  Words for memory: a slice value that reads as a list of limbs (uint32), kept by whatever leaves the blocks below a bound alone.
-/
namespace Go.Proofs.YtbplbbkmfbjkfaaGreatDoor
open Go.RowKit

/-- A slice value '.slice A n c' reads as the limbs xs and lies below block B. -/
structure Lm (w : World) (B : Nat) (A : Option Addr) (n c : Nat) (xs : List Nat) : Prop where
  len : xs.length = n
  good : Good xs
  cap : n ≤ c
  max : c ≤ 9223372036854775807
  nil_ : A = none → c = 0
  at_ : 0 < n → ∃ b off, A = some ⟨b, off, none⟩ ∧ b < B ∧ ∀ j, j < n → w.cell? ⟨b, off + j, none⟩ = some (.int .u32 (xs[j]?.getD 0 : Nat))

section
variable {w w' : World} {B B' n c : Nat} {A : Option Addr} {xs : List Nat}
theorem Lm.nil (w : World) (B : Nat) : Lm w B none 0 0 [] := ⟨rfl, Good.nil, Nat.zero_le _, by omega, fun _ => rfl, fun h => absurd h (by omega)⟩
theorem Lm.keep (h : Lm w B A n c xs) (hk : ∀ b o, b < B → w'.cell? ⟨b, o, none⟩ = w.cell? ⟨b, o, none⟩) : Lm w' B A n c xs :=
  ⟨h.len, h.good, h.cap, h.max, h.nil_, fun hn => by
    obtain ⟨b, off, e, hb, hc⟩ := h.at_ hn
    exact ⟨b, off, e, hb, fun j hj => (hk b (off + j) hb).trans (hc j hj)⟩⟩
theorem Lm.mono (h : Lm w B A n c xs) (hB : B ≤ B') : Lm w B' A n c xs :=
  ⟨h.len, h.good, h.cap, h.max, h.nil_, fun hn => by
    obtain ⟨b, off, e, hb, hc⟩ := h.at_ hn
    exact ⟨b, off, e, by omega, hc⟩⟩
theorem Lm.below (h : Lm w B A n c xs) (hb : Below B w w') : Lm w' B A n c xs := h.keep fun b o hp => hb.cell (p := ⟨b, o, none⟩) hp
/-- Behind a call that keeps all that was there. -/
theorem Lm.on (h : Lm w B A n c xs) (hB : B ≤ w.heap.size) (hb : Below w.heap.size w w') : Lm w' w'.heap.size A n c xs :=
  (h.below (hb.mono hB)).mono (Nat.le_trans hB hb.size)
theorem Lm.drewN (h : Lm w w.heap.size A n c xs) (k : Nat) : Lm (w.drewN k) (w.drewN k).heap.size A n c xs := ⟨h.len, h.good, h.cap, h.max, h.nil_, h.at_⟩
theorem Lm.box (h : Lm w w.heap.size A n c xs) (o : Obj) : Lm (w.alloc o) (w.alloc o).heap.size A n c xs := (h.below ((Below.refl _ _).alloc (Nat.le_refl _) o)).mono (by simp)
theorem Lm.via (h : Lm w w.heap.size A n c xs) (hb : Below w.heap.size w w') : Lm w' w'.heap.size A n c xs := h.on (Nat.le_refl _) hb
theorem bbox {o : Obj} (hb : Below (w.alloc o).heap.size (w.alloc o) w') : Below w.heap.size w w' := ((Below.refl _ _).alloc (Nat.le_refl _) o).trans (hb.mono (by simp))
theorem Lm.drew (h : Lm w w.heap.size A n c xs) : Lm w.drew w.drew.heap.size A n c xs := ⟨h.len, h.good, h.cap, h.max, h.nil_, h.at_⟩
theorem Lm.take (h : Lm w B A n c xs) {m : Nat} (hm : m ≤ n) : Lm w B A m c (xs.take m) :=
  ⟨by rw [List.length_take, h.len]; omega, h.good.take m, Nat.le_trans hm h.cap, h.max, h.nil_, fun hn => by
    obtain ⟨b, off, e, hb, hc⟩ := h.at_ (by omega)
    refine ⟨b, off, e, hb, fun j hj => ?_⟩
    rw [hc j (by omega), List.getElem?_take_of_lt hj]⟩
theorem Lm.trim (h : Lm w B A n c xs) : Lm w B A (digs (val xs)).length c (digs (val xs)) := by
  have h1 := h.take (tr_le xs n)
  rw [tr_digs h.good h.len] at h1
  rwa [tr_len h.good h.len] at h1
theorem Lm.trim' (h : Lm w B A n c xs) {v : Nat} (hv : val xs = v) : Lm w B A (digs v).length c (digs v) := by subst hv; exact h.trim
/-- A new block of two limbs reads so. -/
theorem Lm.two (w : World) (k : Nat) (t : TypeId) (x y : Nat) (X Y : Int) (hk : w.heap.size = k) (hX : X = (x : Int)) (hY : Y = (y : Int)) (hx : x < 4294967296) (hy : y < 4294967296) :
    Lm (w.alloc (.cells #[.int .u32 X, .int .u32 Y] t)) (k + 1) (some ⟨k, 0, none⟩) 2 2 [x, y] := by
  subst hX hY hk
  exact ⟨rfl, (Good.nil.cons hy).cons hx, Nat.le_refl _, by omega, fun h => (by cases h), fun _ => ⟨_, 0, rfl, by omega, fun j hj => by
    match j, hj with
    | 0, _ => go_simp
    | 1, _ => go_simp⟩⟩
/-- The limb at k, where there is one. -/
theorem Lm.cell (h : Lm w B A n c xs) {k : Nat} (hk : k < n) : ∃ b off, A = some ⟨b, off, none⟩ ∧ b < B ∧ w.cell? ⟨b, off + k, none⟩ = some (.int .u32 (xs[k]?.getD 0 : Nat)) := by
  obtain ⟨b, off, e, hb, hc⟩ := h.at_ (by omega)
  exact ⟨b, off, e, hb, hc k hk⟩
end

/-- In a region that draws: a callee that leaves the world alone. -/
theorem quiet_eq {P : Program} {f : FuncId} {args : Array Value} {w : World} {n : Nat} {v : Value}
    (h : Calls P f args (w.drewN n) fun e w' => e = .returned v ∧ w.drewN n = w') : Calls P f args (w.drewN n) fun e w'' => e = .returned v ∧ ∃ m, w'' = w.drewN m :=
  h.mono fun _ _ ⟨he, hm⟩ => ⟨he, n, hm.symm⟩
theorem bdrewN {B : Nat} {a w : World} (h : Below B a w) (k : Nat) : Below B a (w.drewN k) := ⟨h.os, h.tape, h.output, h.size, h.block⟩
theorem val2 (v : Nat) (h : v < 18446744073709551616) : val [v % 4294967296, v / 4294967296 % 4294967296] = v := by
  simp only [val_cons, val_nil]
  omega
/-! ### Rows of the call's own -/
def u32c (x : Nat) : Value := .int .u32 (x : Int)
theorem getD_map (ts : List Nat) (j : Nat) (h : j < ts.length) : (ts.map u32c)[j]? = some (.int .u32 (ts[j]?.getD 0 : Nat)) := by
  rw [List.getElem?_map, List.getElem?_eq_getElem h]; rfl
theorem add_lit (b off j : Nat) : (⟨b, off, none⟩ : Addr).add j = ⟨b, off + j, none⟩ := by unfold Addr.add; split <;> simp_all
/-- A row of the call's own reads as its limbs. -/
theorem Lm.own {w : World} {base : Nat} {e : TypeId} {v : Value} {n : Nat} {ts : List Nat} (h : w.ownsRow base e 1 v n (ts.map u32c)) (g : Good ts) : ∃ A c, v = .slice A n c ∧ Lm w w.heap.size A n c ts := by
  have hl : ts.length = n := by have := h.1; simpa using this
  rcases h.2 with ⟨rfl, rfl⟩ | ⟨gb, cap, cur, rfl, hb, hg, hn, hm, hs, ht⟩
  · obtain rfl : ts = [] := List.eq_nil_of_length_eq_zero hl
    exact ⟨none, 0, rfl, Lm.nil _ _⟩
  · refine ⟨_, _, rfl, hl, g, hn, by simp only [maxLen] at hm; omega, fun h => (by cases h), fun _ => ⟨gb, 0, rfl, (Array.getElem?_eq_some_iff.1 hg).1, fun j hj => ?_⟩⟩
    have hc := h.cells (g := gb) rfl j _ (getD_map ts j (by omega))
    rwa [add_lit] at hc
theorem Lm.cells {w : World} {B n c : Nat} {ad : Addr} {xs : List Nat} (h : Lm w B (some ad) n c xs) : ∀ j u, (xs.map u32c)[j]? = some u → w.cell? (ad.add j) = some u := by
  intro j u hu
  have hj : j < xs.length := by
    rcases Nat.lt_or_ge j xs.length with hj | hj
    · exact hj
    · rw [List.getElem?_eq_none (by simpa using hj)] at hu; cases hu
  rw [getD_map xs j hj] at hu
  obtain ⟨b, off, e, _, hc⟩ := h.at_ (by rw [← h.len]; omega)
  injection e with e
  subst e
  rw [add_lit, hc j (by rw [← h.len]; exact hj), ← hu]
theorem u32c_one (xs : List Nat) : ∀ u ∈ xs.map u32c, u.oneCell' = true := by
  intro u hu
  obtain ⟨x, _, rfl⟩ := List.mem_map.1 hu
  rfl

/-- 'append(out, xs...)' where out is the call's own, and xs reads as limbs: nil, empty or not. -/
theorem wpList_append_lm {P : Program} (w : World) {ops : Array Oper} {rest : List Oper} {o : Oper} {a : Act} {Q : Exit → Act → World → Prop} (hgd : o.guard = none) (s x : Operand) (t : TypeId)
    (ho : o.op = .call { callee := .builtin .append, args := #[s, x], argTypes := #[t, t] })
    (base : Nat) (e : TypeId) (i : TypeInfo) (ht : P.underlying t = some (.slice e)) (hi : P.info? e = some i) (hz : i.zero = some (.int .u32 0))
    (hsize : i.size = 1) (hby : i.bytes = 4)
    (v : Value) (n : Nat) (ts : List Value) (hs : a.eval s = v) (hown : w.ownsRow base e 1 v n ts)
    (B : Nat) (A : Option Addr) (m c : Nat) (xs : List Nat) (hx : a.eval x = .slice A m c) (hr : Lm w B A m c xs)
    (h63 : n + m ≤ maxLen) (hbytes : (n + m) * 4 ≤ 140737488355328) (hbase : base ≤ w.heap.size)
    (h : ∀ v' w', w'.ownsRow base e 1 v' (n + m) (ts ++ xs.map u32c) → w.grownBy w' v.ownBlock → wpList P ops Q rest (a.put o.dst v') w') : wpList P ops Q (o :: rest) a w := by
  rcases A with _ | ad
  · have hm : m = 0 := by
      rcases Nat.eq_zero_or_pos m with h0 | h0
      · exact h0
      · obtain ⟨b, off, e, _⟩ := hr.at_ h0
        cases e
    subst hm
    obtain rfl := hr.nil_ rfl
    obtain rfl : xs = [] := List.eq_nil_of_length_eq_zero hr.len
    refine wpList_append_own_none hgd s x t ho base e i 1 ht hi v n ts hs hown hx ?_
    exact h v w (by simpa using hown) (World.grownBy.refl w _)
  · exact wpList_append_own w hgd s x t ho base e i _ 1 4 ht hi hz hsize hby rfl (by omega) v n ts hs hown ad m c (xs.map u32c) hx (by simp [hr.len]) hr.cells (u32c_one xs) h63 hbytes hbase fun v' w' h1 h2 _ => h v' w' h1 h2

theorem bcell {W w1 : World} (hb : Below W.heap.size W w1) : (∀ b o, b < W.heap.size → w1.cell? ⟨b, o, none⟩ = W.cell? ⟨b, o, none⟩) ∧ (∀ b o, b < W.heap.size → w1.frozen? ⟨b, o, none⟩ = W.frozen? ⟨b, o, none⟩) :=
  ⟨fun b o h => hb.cell (p := ⟨b, o, none⟩) h, fun b o h => hb.frozen (p := ⟨b, o, none⟩) h⟩
/-- Two boxes of two cells, behind a call that keeps what was there. -/
theorem box2 {w w1 : World} {t t' : TypeId} {x0 x1 y0 y1 : Value} (hb : Below ((w.alloc (.cells #[x0, x1] t)).alloc (.cells #[y0, y1] t')).heap.size ((w.alloc (.cells #[x0, x1] t)).alloc (.cells #[y0, y1] t')) w1) :
    w1.cell? ⟨w.heap.size, 0, none⟩ = some x0 ∧ w1.cell? ⟨w.heap.size, 1, none⟩ = some x1 ∧ w1.cell? ⟨w.heap.size + 1, 0, none⟩ = some y0 ∧ w1.cell? ⟨w.heap.size + 1, 1, none⟩ = some y1 ∧
    w1.frozen? ⟨w.heap.size + 1, 0, none⟩ = false ∧ w1.frozen? ⟨w.heap.size + 1, 1, none⟩ = false ∧ w.heap.size + 1 < w1.heap.size := by
  obtain ⟨hc, hf⟩ := bcell hb
  have hs := hb.size
  simp only [World.size_alloc] at hs hc hf
  refine ⟨?_, ?_, ?_, ?_, ?_, ?_, by omega⟩
  · rw [hc _ _ (by omega)]; go_simp
  · rw [hc _ _ (by omega)]; go_simp
  · rw [hc _ _ (by omega)]; go_simp
  · rw [hc _ _ (by omega)]; go_simp
  · rw [hf _ _ (by omega)]; go_simp
  · rw [hf _ _ (by omega)]; go_simp
theorem box3 {w w1 : World} {t t' t'' : TypeId} {x0 x1 y0 y1 z0 z1 : Value}
    (hb : Below (((w.alloc (.cells #[x0, x1] t)).alloc (.cells #[y0, y1] t')).alloc (.cells #[z0, z1] t'')).heap.size (((w.alloc (.cells #[x0, x1] t)).alloc (.cells #[y0, y1] t')).alloc (.cells #[z0, z1] t'')) w1) :
    w1.cell? ⟨w.heap.size, 0, none⟩ = some x0 ∧ w1.cell? ⟨w.heap.size, 1, none⟩ = some x1 ∧ w1.cell? ⟨w.heap.size + 1, 0, none⟩ = some y0 ∧ w1.cell? ⟨w.heap.size + 1, 1, none⟩ = some y1 ∧
    w1.cell? ⟨w.heap.size + 1 + 1, 0, none⟩ = some z0 ∧ w1.cell? ⟨w.heap.size + 1 + 1, 1, none⟩ = some z1 ∧ w1.frozen? ⟨w.heap.size + 1 + 1, 0, none⟩ = false ∧ w1.frozen? ⟨w.heap.size + 1 + 1, 1, none⟩ = false ∧ w.heap.size + 1 + 1 < w1.heap.size := by
  obtain ⟨hc, hf⟩ := bcell hb
  have hs := hb.size
  simp only [World.size_alloc] at hs hc hf
  refine ⟨?_, ?_, ?_, ?_, ?_, ?_, ?_, ?_, by omega⟩
  · rw [hc _ _ (by omega)]; go_simp
  · rw [hc _ _ (by omega)]; go_simp
  · rw [hc _ _ (by omega)]; go_simp
  · rw [hc _ _ (by omega)]; go_simp
  · rw [hc _ _ (by omega)]; go_simp
  · rw [hc _ _ (by omega)]; go_simp
  · rw [hf _ _ (by omega)]; go_simp
  · rw [hf _ _ (by omega)]; go_simp
theorem box1 {w w1 : World} {t : TypeId} {y0 y1 : Value} (hb : Below (w.alloc (.cells #[y0, y1] t)).heap.size (w.alloc (.cells #[y0, y1] t)) w1) :
    w1.cell? ⟨w.heap.size, 0, none⟩ = some y0 ∧ w1.cell? ⟨w.heap.size, 1, none⟩ = some y1 ∧ w1.frozen? ⟨w.heap.size, 0, none⟩ = false ∧ w1.frozen? ⟨w.heap.size, 1, none⟩ = false ∧ w.heap.size < w1.heap.size := by
  obtain ⟨hc, hf⟩ := bcell hb
  have hs := hb.size
  simp only [World.size_alloc] at hs hc hf
  refine ⟨?_, ?_, ?_, ?_, by omega⟩
  · rw [hc _ _ (by omega)]; go_simp
  · rw [hc _ _ (by omega)]; go_simp
  · rw [hf _ _ (by omega)]; go_simp
  · rw [hf _ _ (by omega)]; go_simp
theorem ret_bool {a b : Bool} (h : a = b) : Ending.returned (.bool a) = .returned (.bool b) := by rw [h]
theorem ret_slice {A : Option Addr} {m m' c : Nat} (h : m = m') : Ending.returned (.slice A m c) = .returned (.slice A m' c) := by rw [h]
theorem ret2_int {k l : IntKind} {a b a' b' : Int} (h : a = b) (h' : a' = b') : Ending.returned (.tuple #[.int k a, .int l a']) = .returned (.tuple #[.int k b, .int l b']) := by rw [h, h']
theorem ret_int {k : IntKind} {a b : Int} (h : a = b) : Ending.returned (.int k a) = .returned (.int k b) := by rw [h]

/-- The results of a function that returns a number, laid in two cells of a block, and one value more. -/
theorem res_w {fn : Func} {r s : Nat} (hr : fn.results = #[.cell r 24, .tmp s]) {tmps : Array Value} {w : World} {g : Nat} {x y : Value} (ht : tmps.getD r undef = .pointer (some ⟨g, 0, none⟩))
    (h0 : w.cell? ⟨g, 0, none⟩ = some x) (h1 : w.cell? ⟨g, 1, none⟩ = some y) : (results fn tmps).run Tryz.prog w = .ok (.tuple #[.agg #[x, y], tmps.getD s undef]) w := by
  rw [Array.getD_eq_getD_getElem?] at ht
  simp [results, hr, go_sem, ht, h0, h1]
theorem post_w {fn : Func} {r s : Nat} (hr : fn.results = #[.cell r 24, .tmp s]) {R : Ending → World → Prop} {a : Act} {w : World} {g : Nat} {x y : Value} (ht : a.tmps.getD r undef = .pointer (some ⟨g, 0, none⟩))
    (hd : a.defers = []) (h0 : w.cell? ⟨g, 0, none⟩ = some x) (h1 : w.cell? ⟨g, 1, none⟩ = some y) (h : R (.returned (.tuple #[.agg #[x, y], a.tmps.getD s undef])) w) : bodyPost Tryz.prog fn R .ret a w :=
  bodyPost_ret (res_w hr ht h0 h1) hd h
theorem set2 {w : World} {g : Nat} {u0 u1 : Value} (x y : Value) (h0 : w.cell? ⟨g, 0, none⟩ = some u0) (h1 : w.cell? ⟨g, 1, none⟩ = some u1) :
    ((w.setCell ⟨g, 0, none⟩ x).setCell ⟨g, 1, none⟩ y).cell? ⟨g, 0, none⟩ = some x ∧ ((w.setCell ⟨g, 0, none⟩ x).setCell ⟨g, 1, none⟩ y).cell? ⟨g, 1, none⟩ = some y := by
  constructor
  · rw [World.cell?_setCell_other _ _ _ _ (by simp)]
    exact World.cell?_setCell_same _ _ _ h0
  · refine World.cell?_setCell_same (u := u1) _ _ _ ?_
    rw [World.cell?_setCell_other _ _ _ _ (by simp)]
    exact h1
/-- .. where the number was just stored. -/
theorem post_ws {fn : Func} {r s : Nat} (hr : fn.results = #[.cell r 24, .tmp s]) {R : Ending → World → Prop} {a : Act} {w : World} {g : Nat} {x y u0 u1 : Value} (ht : a.tmps.getD r undef = .pointer (some ⟨g, 0, none⟩))
    (hd : a.defers = []) (h0 : w.cell? ⟨g, 0, none⟩ = some u0) (h1 : w.cell? ⟨g, 1, none⟩ = some u1)
    (h : R (.returned (.tuple #[.agg #[x, y], a.tmps.getD s undef])) ((w.setCell ⟨g, 0, none⟩ x).setCell ⟨g, 1, none⟩ y)) : bodyPost Tryz.prog fn R .ret a ((w.setCell ⟨g, 0, none⟩ x).setCell ⟨g, 1, none⟩ y) :=
  post_w hr ht hd (set2 x y h0 h1).1 (set2 x y h0 h1).2 h
theorem keep2 {w0 w2 : World} {g : Nat} {x y : Value} (hb : Below w0.heap.size w0 w2) (hg : g < w0.heap.size) (h : w0.cell? ⟨g, 0, none⟩ = some x ∧ w0.cell? ⟨g, 1, none⟩ = some y) :
    w2.cell? ⟨g, 0, none⟩ = some x ∧ w2.cell? ⟨g, 1, none⟩ = some y := ⟨(hb.cell (p := ⟨g, 0, none⟩) hg).trans h.1, (hb.cell (p := ⟨g, 1, none⟩) hg).trans h.2⟩
theorem keepF {w0 w2 : World} {g : Nat} (hb : Below w0.heap.size w0 w2) (hg : g < w0.heap.size) (h : w0.frozen? ⟨g, 0, none⟩ = false ∧ w0.frozen? ⟨g, 1, none⟩ = false) :
    w2.frozen? ⟨g, 0, none⟩ = false ∧ w2.frozen? ⟨g, 1, none⟩ = false := ⟨(hb.frozen (p := ⟨g, 0, none⟩) hg).trans h.1, (hb.frozen (p := ⟨g, 1, none⟩) hg).trans h.2⟩
theorem res_w1 {fn : Func} {r : Nat} (hr : fn.results = #[.cell r 24]) {tmps : Array Value} {w : World} {g : Nat} {x y : Value} (ht : tmps.getD r undef = .pointer (some ⟨g, 0, none⟩))
    (h0 : w.cell? ⟨g, 0, none⟩ = some x) (h1 : w.cell? ⟨g, 1, none⟩ = some y) : (results fn tmps).run Tryz.prog w = .ok (.agg #[x, y]) w := by
  rw [Array.getD_eq_getD_getElem?] at ht
  simp [results, hr, go_sem, ht, h0, h1]
theorem post_w1 {fn : Func} {r : Nat} (hr : fn.results = #[.cell r 24]) {R : Ending → World → Prop} {a : Act} {w : World} {g : Nat} {x y : Value} (ht : a.tmps.getD r undef = .pointer (some ⟨g, 0, none⟩))
    (hd : a.defers = []) (h0 : w.cell? ⟨g, 0, none⟩ = some x) (h1 : w.cell? ⟨g, 1, none⟩ = some y) (h : R (.returned (.agg #[x, y])) w) : bodyPost Tryz.prog fn R .ret a w :=
  bodyPost_ret (res_w1 hr ht h0 h1) hd h
theorem alloc2 {w : World} {g : Nat} {x y : Value} (o : Obj) (hg : g < w.heap.size) (h0 : w.cell? ⟨g, 0, none⟩ = some x) (h1 : w.cell? ⟨g, 1, none⟩ = some y) :
    (w.alloc o).cell? ⟨g, 0, none⟩ = some x ∧ (w.alloc o).cell? ⟨g, 1, none⟩ = some y := ⟨(World.cell?_alloc_lt w o _ hg).trans h0, (World.cell?_alloc_lt w o _ hg).trans h1⟩
/-- A store of a number into its own two cells touches no limb. -/
theorem Lm.set2 {w : World} {n c : Nat} {A : Option Addr} {xs : List Nat} (h : Lm w w.heap.size A n c xs) {g n0 c0 : Nat} {p : Bool} {A0 : Option Addr}
    (h0 : w.cell? ⟨g, 0, none⟩ = some (.bool p)) (h1 : w.cell? ⟨g, 1, none⟩ = some (.slice A0 n0 c0)) (x y : Value) :
    Lm ((w.setCell ⟨g, 0, none⟩ x).setCell ⟨g, 1, none⟩ y) ((w.setCell ⟨g, 0, none⟩ x).setCell ⟨g, 1, none⟩ y).heap.size A n c xs := by
  have hs : ((w.setCell ⟨g, 0, none⟩ x).setCell ⟨g, 1, none⟩ y).heap.size = w.heap.size := by simp [World.size_setCell]
  rw [hs]
  refine ⟨h.len, h.good, h.cap, h.max, h.nil_, fun hn => ?_⟩
  obtain ⟨b, off, e, hb, hc⟩ := h.at_ hn
  refine ⟨b, off, e, hb, fun j hj => ?_⟩
  have hcj := hc j hj
  rw [World.cell?_setCell_other, World.cell?_setCell_other]
  · exact hcj
  · intro e2
    rw [← e2, h0] at hcj
    cases hcj
  · intro e2
    rw [← e2, h1] at hcj
    cases hcj
theorem far2 {w : World} {g h : Nat} {u0 u1 : Value} (x y : Value) (hne : g ≠ h) (p : w.cell? ⟨g, 0, none⟩ = some u0 ∧ w.cell? ⟨g, 1, none⟩ = some u1) :
    ((w.setCell ⟨h, 0, none⟩ x).setCell ⟨h, 1, none⟩ y).cell? ⟨g, 0, none⟩ = some u0 ∧ ((w.setCell ⟨h, 0, none⟩ x).setCell ⟨h, 1, none⟩ y).cell? ⟨g, 1, none⟩ = some u1 := by
  constructor
  · rw [World.cell?_setCell_other _ _ _ _ (fun e => hne (congrArg Addr.block e).symm), World.cell?_setCell_other _ _ _ _ (fun e => hne (congrArg Addr.block e).symm)]
    exact p.1
  · rw [World.cell?_setCell_other _ _ _ _ (fun e => hne (congrArg Addr.block e).symm), World.cell?_setCell_other _ _ _ _ (fun e => hne (congrArg Addr.block e).symm)]
    exact p.2
/-- Stores into a block beyond what was there. -/
theorem below_set2 {B : Nat} {w w1 : World} (h : Below B w w1) {g : Nat} (hg : B ≤ g) (x y : Value) : Below B w ((w1.setCell ⟨g, 0, none⟩ x).setCell ⟨g, 1, none⟩ y) :=
  (h.setCell (p := ⟨g, 0, none⟩) hg x).setCell (p := ⟨g, 1, none⟩) hg y
/-- The error of a number: whether it is valid. -/
def chk (neg : Bool) (xs : List Nat) : Int := if 4096 < xs.length then 8 else if xs = [] ∧ neg = true then 8 else if xs.getLast? = some 0 then 8 else 0
theorem chk_ok {neg : Bool} {xs : List Nat} : chk neg xs = 0 ↔ xs.length ≤ 4096 ∧ Norm xs ∧ (neg = true → xs ≠ []) := by
  unfold chk Norm
  constructor
  · intro h
    split at h
    · omega
    · split at h
      · omega
      · next h2 =>
        split at h
        · omega
        · next h3 => exact ⟨by omega, h3, fun hn e => h2 ⟨e, hn⟩⟩
  · rintro ⟨h1, h2, h3⟩
    rw [if_neg (by omega), if_neg (fun h => h3 h.2 h.1), if_neg h2]
theorem chk_cases (neg : Bool) (xs : List Nat) : chk neg xs = 0 ∨ chk neg xs = 8 := by
  unfold chk
  split
  · exact .inr rfl
  · split
    · exact .inr rfl
    · split
      · exact .inr rfl
      · exact .inl rfl
theorem chk_digs {neg : Bool} {xs : List Nat} (hc : chk neg xs = 0) (g : Good xs) : xs = digs (val xs) := eq_digs g (chk_ok.1 hc).2.1 rfl
theorem last_get {xs : List Nat} (h : 0 < xs.length) : xs.getLast? = some 0 ↔ xs[xs.length - 1]?.getD 0 = 0 := by
  rw [List.getLast?_eq_getElem?, List.getElem?_eq_getElem (by omega)]
  simp

/-- The number with a sign and an absolute value, where it has a valid form: its sign, its limbs, the error. -/
def mkN (neg : Bool) (v : Nat) : Bool := decide ((digs v).length ≤ 4096) && (neg && decide (v ≠ 0))
def mkL (v : Nat) : List Nat := if (digs v).length ≤ 4096 then digs v else []
def mkE (v : Nat) : Int := if (digs v).length ≤ 4096 then 0 else 16
/-- A call returns a number that reads so, and an error; what was there is kept. -/
def RW (w : World) (neg : Bool) (xs : List Nat) (err : Int) (e : Ending) (w' : World) : Prop :=
  ∃ A n c, e = .returned (.tuple #[.agg #[.bool neg, .slice A n c], .int .i64 err]) ∧ Lm w' w'.heap.size A n c xs ∧ Below w.heap.size w w'

theorem drewN_add (w : World) (a b : Nat) : (w.drewN a).drewN b = w.drewN (a + b) := by
  unfold World.drewN
  rw [Nat.add_assoc]
end Go.Proofs.YtbplbbkmfbjkfaaGreatDoor

/-
  A number that came in: its value and what it reads as.
-/
namespace Go.Proofs.YtbplbbkmfbjkfaaGreatDoor
open Go.ChangeShapes Go.WideShapes Go.ChangeAt Go.RowKit Go.Joins

theorem cells_u32 : Tryz.prog.cellsOf 79 = 1 := by kernel_rfl
theorem cells_wide : Tryz.prog.cellsOf 24 = 2 := by kernel_rfl
theorem laidOut : laidOutB Tryz.prog = true := by kernel_rfl
theorem wf_u32 {n : Int} (h : (Lit.int .u32 n).wf = true) : 0 ≤ n ∧ n < 4294967296 := by
  have h1 : IntKind.u32.min = 0 := rfl
  have h2 : IntKind.u32.max = 4294967295 := rfl
  simp only [Lit.wf, Bool.and_eq_true, decide_eq_true_eq] at h
  omega

end Go.Proofs.YtbplbbkmfbjkfaaGreatDoor

/- Pairs of cells: the boxes of numbers. -/
namespace Go.Proofs.YtbplbbkmfbjkfaaGreatDoor
open Go.RowKit

/-- Block g holds the two cells of a number, and may be written. -/
structure Pr (w : World) (g : Nat) (x y : Value) : Prop where
  c0 : w.cell? ⟨g, 0, none⟩ = some x
  c1 : w.cell? ⟨g, 1, none⟩ = some y
  f0 : w.frozen? ⟨g, 0, none⟩ = false
  f1 : w.frozen? ⟨g, 1, none⟩ = false
  lt : g < w.heap.size
section
variable {w w' : World} {g h : Nat} {x y : Value}
theorem Pr.new (w : World) (k : Nat) (hk : w.heap.size = k) (x y : Value) (t : TypeId) : Pr (w.alloc (.cells #[x, y] t)) k x y := by
  subst hk
  refine ⟨?_, ?_, ?_, ?_, by simp⟩ <;> go_simp
theorem Pr.via (p : Pr w g x y) (hb : Below w.heap.size w w') : Pr w' g x y :=
  ⟨(hb.cell (p := ⟨g, 0, none⟩) p.lt).trans p.c0, (hb.cell (p := ⟨g, 1, none⟩) p.lt).trans p.c1, (hb.frozen (p := ⟨g, 0, none⟩) p.lt).trans p.f0, (hb.frozen (p := ⟨g, 1, none⟩) p.lt).trans p.f1, Nat.lt_of_lt_of_le p.lt hb.size⟩
theorem Pr.below (p : Pr w g x y) {B : Nat} (hb : Below B w w') (hg : g < B) : Pr w' g x y :=
  ⟨(hb.cell (p := ⟨g, 0, none⟩) hg).trans p.c0, (hb.cell (p := ⟨g, 1, none⟩) hg).trans p.c1, (hb.frozen (p := ⟨g, 0, none⟩) hg).trans p.f0, (hb.frozen (p := ⟨g, 1, none⟩) hg).trans p.f1, Nat.lt_of_lt_of_le p.lt hb.size⟩
theorem Pr.alloc (p : Pr w g x y) (o : Obj) : Pr (w.alloc o) g x y := p.via ((Below.refl _ _).alloc (Nat.le_refl _) o)
theorem Pr.drew (p : Pr w g x y) : Pr w.drew g x y := ⟨p.c0, p.c1, p.f0, p.f1, p.lt⟩
theorem Pr.drewN (p : Pr w g x y) (k : Nat) : Pr (w.drewN k) g x y := ⟨p.c0, p.c1, p.f0, p.f1, p.lt⟩
theorem size_set2 (w : World) (h : Nat) (x y : Value) : ((w.setCell ⟨h, 0, none⟩ x).setCell ⟨h, 1, none⟩ y).heap.size = w.heap.size := by simp [World.size_setCell]
theorem Pr.set (p : Pr w g x y) (x' y' : Value) : Pr ((w.setCell ⟨g, 0, none⟩ x').setCell ⟨g, 1, none⟩ y') g x' y' :=
  ⟨(set2 x' y' p.c0 p.c1).1, (set2 x' y' p.c0 p.c1).2, by have := p.f0; simpa using this, by have := p.f1; simpa using this, by rw [size_set2]; exact p.lt⟩
theorem Pr.far (p : Pr w g x y) (hne : g ≠ h) (x' y' : Value) : Pr ((w.setCell ⟨h, 0, none⟩ x').setCell ⟨h, 1, none⟩ y') g x y :=
  ⟨(far2 x' y' hne ⟨p.c0, p.c1⟩).1, (far2 x' y' hne ⟨p.c0, p.c1⟩).2, by have := p.f0; simpa using this, by have := p.f1; simpa using this, by rw [size_set2]; exact p.lt⟩
end
theorem Lm.setP {w : World} {n c : Nat} {A : Option Addr} {xs : List Nat} (h : Lm w w.heap.size A n c xs) {g n0 c0 : Nat} {b : Bool} {A0 : Option Addr} (p : Pr w g (.bool b) (.slice A0 n0 c0)) (x y : Value) :
    Lm ((w.setCell ⟨g, 0, none⟩ x).setCell ⟨g, 1, none⟩ y) ((w.setCell ⟨g, 0, none⟩ x).setCell ⟨g, 1, none⟩ y).heap.size A n c xs := h.set2 p.c0 p.c1 x y

/-- The results of a function that returns two numbers and one value more. -/
theorem res_ww {fn : Func} {r s u : Nat} (hr : fn.results = #[.cell r 24, .cell s 24, .tmp u]) {tmps : Array Value} {w : World} {g h : Nat} {x y x' y' : Value}
    (ht : tmps.getD r undef = .pointer (some ⟨g, 0, none⟩)) (hs : tmps.getD s undef = .pointer (some ⟨h, 0, none⟩)) (p : Pr w g x y) (q : Pr w h x' y') :
    (results fn tmps).run Tryz.prog w = .ok (.tuple #[.agg #[x, y], .agg #[x', y'], tmps.getD u undef]) w := by
  rw [Array.getD_eq_getD_getElem?] at ht hs
  simp [results, hr, go_sem, ht, hs, p.c0, p.c1, q.c0, q.c1]
theorem post_ww {fn : Func} {r s u : Nat} (hr : fn.results = #[.cell r 24, .cell s 24, .tmp u]) {R : Ending → World → Prop} {a : Act} {w : World} {g h : Nat} {x y x' y' : Value}
    (ht : a.tmps.getD r undef = .pointer (some ⟨g, 0, none⟩)) (hs : a.tmps.getD s undef = .pointer (some ⟨h, 0, none⟩)) (hd : a.defers = []) (p : Pr w g x y) (q : Pr w h x' y')
    (hR : R (.returned (.tuple #[.agg #[x, y], .agg #[x', y'], a.tmps.getD u undef])) w) : bodyPost Tryz.prog fn R .ret a w :=
  bodyPost_ret (res_ww hr ht hs p q) hd hR

/-- Four boxes of two cells, behind a call that keeps what was there. -/
theorem boxes4 {w w1 : World} {t0 t1 t2 t3 : TypeId} {a0 a1 b0 b1 q0 q1 r0 r1 : Value}
    (hb : Below ((((w.alloc (.cells #[a0, a1] t0)).alloc (.cells #[b0, b1] t1)).alloc (.cells #[q0, q1] t2)).alloc (.cells #[r0, r1] t3)).heap.size ((((w.alloc (.cells #[a0, a1] t0)).alloc (.cells #[b0, b1] t1)).alloc (.cells #[q0, q1] t2)).alloc (.cells #[r0, r1] t3)) w1) :
    Pr w1 w.heap.size a0 a1 ∧ Pr w1 (w.heap.size + 1) b0 b1 ∧ Pr w1 (w.heap.size + 1 + 1) q0 q1 ∧ Pr w1 (w.heap.size + 1 + 1 + 1) r0 r1 :=
  ⟨((((Pr.new w w.heap.size rfl a0 a1 t0).alloc _).alloc _).alloc _).via hb, (((Pr.new (w.alloc (.cells #[a0, a1] t0)) (w.heap.size + 1) (by simp) b0 b1 t1).alloc _).alloc _).via hb,
    ((Pr.new ((w.alloc (.cells #[a0, a1] t0)).alloc (.cells #[b0, b1] t1)) (w.heap.size + 1 + 1) (by simp) q0 q1 t2).alloc _).via hb,
    (Pr.new (((w.alloc (.cells #[a0, a1] t0)).alloc (.cells #[b0, b1] t1)).alloc (.cells #[q0, q1] t2)) (w.heap.size + 1 + 1 + 1) (by simp) r0 r1 t3).via hb⟩

end Go.Proofs.YtbplbbkmfbjkfaaGreatDoor

/-
  Contracts of the small functions of package wide: Check, trim, made.
-/
namespace Go.Proofs.YtbplbbkmfbjkfaaGreatDoor
open Go.RowKit

set_option maxRecDepth 100000 in
set_option maxHeartbeats 400000 in
theorem trim_any (w : World) (B : Nat) (A : Option Addr) (n c : Nat) (xs : List Nat) (v : Nat) (h : Lm w B A n c xs) (hv : val xs = v) :
    Calls Tryz.prog 103 #[.slice A n c] w fun e w' => e = .returned (.slice A (digs v).length c) ∧ w = w' := by
  subst hv
  have hr := h.max
  have hcn := h.cap
  have HD := Lib.hid (tr_len h.good h.len)
  go_enter Tryz.func103, Tryz.ntmps103
  go_wp2
  go_loop [3] (fun v => ∃ k : Nat, k ≤ n ∧ v = .int .i64 k ∧ tr xs k = tr xs n) (fun v => (intOf v).toNat)
  case atStart => exact ⟨n, Nat.le_refl _, rfl, rfl⟩
  case round =>
    obtain ⟨k, hk, rfl, ht⟩ := hrel
    have HT := Lib.hid ht
    clear ht
    rcases k with _ | k
    · go_wp2
      go_ret
      exact ⟨ret_slice (by rw [← HD.out, ← HT.out]; rfl), rfl⟩
    · obtain ⟨b, off, rfl, hb, hck⟩ := h.cell (k := k) (by omega)
      by_cases hz : xs[k]?.getD 0 = 0
      · have HZ := Lib.hid hz
        have hz' : (((xs[k]?.getD 0 : Nat) : Int) == 0) = true := by simp [hz]
        clear hz
        go_wp2
        go_round
        case rel => exact ⟨k, by omega, rfl, by rw [← HT.out, tr, if_pos HZ.out]⟩
        case measure => simp [intOf]
      · have HZ := Lib.hid hz
        have hz' : (((xs[k]?.getD 0 : Nat) : Int) == 0) = false := by simp [hz]
        clear hz
        go_wp2
        go_ret
        exact ⟨ret_slice (by rw [← HD.out, ← HT.out, tr, if_neg HZ.out]), rfl⟩

set_option maxRecDepth 100000 in
set_option maxHeartbeats 400000 in
theorem check_any (w : World) (neg : Bool) (A : Option Addr) (n c : Nat) (xs : List Nat) (h : Lm w w.heap.size A n c xs) :
    Calls Tryz.prog 70 #[.agg #[.bool neg, .slice A n c]] w fun e w' => e = .returned (.int .i64 (chk neg xs)) ∧ Below w.heap.size w w' := by
  have hr := h.max
  have hcn := h.cap
  have hl := h.len
  by_cases h1 : 4096 < n
  · have HC : Hid (chk neg xs = 8) := by unfold chk; rw [if_pos (by omega)]; exact (rfl : (8 : Int) = 8)
    go_enter Tryz.func70, Tryz.ntmps70
    go_wp2
    go_ret
    exact ⟨ret_int HC.out.symm, by go_grown⟩
  · rcases n with _ | n
    · have hx : xs = [] := List.eq_nil_of_length_eq_zero hl
      have HC : Hid (chk neg xs = if neg = true then 8 else 0) := by show _ = _; unfold chk; simp [hx]
      clear hx
      cases neg
      · go_enter Tryz.func70, Tryz.ntmps70
        go_wp2
        go_ret
        exact ⟨ret_int HC.out.symm, by go_grown⟩
      · go_enter Tryz.func70, Tryz.ntmps70
        go_wp2
        go_ret
        exact ⟨ret_int HC.out.symm, by go_grown⟩
    · obtain ⟨b, off, rfl, hb, hck⟩ := h.cell (k := n) (by omega)
      have hlast := last_get (xs := xs) (by omega)
      rw [hl] at hlast
      have hne : xs ≠ [] := by rintro rfl; simp at hl
      have HC : Hid (chk neg xs = if xs[n]?.getD 0 = 0 then 8 else 0) := by
        unfold chk
        rw [if_neg (by omega), if_neg (fun e => hne e.1)]
        simp only [hlast]
        exact (rfl : _ = _)
      clear hlast hne hl
      by_cases hz : xs[n]?.getD 0 = 0
      · have HZ := Lib.hid hz
        have hz' : (((xs[n]?.getD 0 : Nat) : Int) == 0) = true := by simp [hz]
        clear hz
        go_enter Tryz.func70, Tryz.ntmps70
        go_wp2
        go_ret
        exact ⟨ret_int (by rw [HC.out, if_pos HZ.out]), by go_grown⟩
      · have HZ := Lib.hid hz
        have hz' : (((xs[n]?.getD 0 : Nat) : Int) == 0) = false := by simp [hz]
        clear hz
        go_enter Tryz.func70, Tryz.ntmps70
        go_wp2
        go_ret
        exact ⟨ret_int (by rw [HC.out, if_neg HZ.out]), by go_grown⟩

set_option maxRecDepth 100000 in
set_option maxHeartbeats 400000 in
theorem made_any (w : World) (neg : Bool) (A : Option Addr) (n c v : Nat) (h : Lm w w.heap.size A n c (digs v)) :
    Calls Tryz.prog 71 #[.bool neg, .slice A n c] w (RW w (mkN neg v) (mkL v) (mkE v)) := by
  have hr := h.max
  have hcn := h.cap
  have hl := h.len
  by_cases h1 : 4096 < n
  · have HN : Hid (mkN neg v = false) := by show _ = _; unfold mkN; rw [decide_eq_false (by omega)]; rfl
    have HL : Hid (mkL v = []) := by show _ = _; unfold mkL; rw [if_neg (by omega)]
    have HE : Hid (mkE v = 16) := by show _ = _; unfold mkE; rw [if_neg (by omega)]
    clear hl
    go_enter Tryz.func71, Tryz.ntmps71
    go_wp2
    go_returns
    refine ⟨none, 0, 0, by rw [HN.out, HE.out], by rw [HL.out]; exact Lm.nil _ _, by go_grown⟩
  · by_cases h0 : n = 0
    · subst h0
      have hv : v = 0 := digs_nil.1 (List.eq_nil_of_length_eq_zero hl)
      subst hv
      clear hl
      go_enter Tryz.func71, Tryz.ntmps71
      go_wp2
      go_returns
      refine ⟨none, 0, 0, by simp [mkN, mkE, digs_zero], by simp only [mkL, digs_zero]; exact Lm.nil _ _, by go_grown⟩
    · have hv : v ≠ 0 := by rintro rfl; simp [digs_zero] at hl; omega
      have HN : Hid (mkN neg v = neg) := by show _ = _; unfold mkN; rw [decide_eq_true (by omega), decide_eq_true hv]; simp
      have HL : Hid (mkL v = digs v) := by show _ = _; unfold mkL; rw [if_pos (by omega)]
      have HE : Hid (mkE v = 0) := by show _ = _; unfold mkE; rw [if_pos (by omega)]
      have h0' : ((n : Int) == 0) = false := by simp; omega
      clear hl hv
      go_enter Tryz.func71, Tryz.ntmps71
      go_wp2
      go_returns
      refine ⟨A, n, c, by rw [HN.out, HE.out], by rw [HL.out]; exact (h.below ((Below.refl _ _).alloc (Nat.le_refl _) _)).mono (by simp), by go_grown⟩

def sideZ (neg : Bool) : Int := if neg = true then -1 else 1
set_option maxHeartbeats 400000 in
theorem side_any (w : World) (neg : Bool) :
    Calls Tryz.prog 75 #[.bool neg] w fun e w' => e = .returned (.int .i64 (sideZ neg)) ∧ w = w' := by
  cases neg
  · go_enter Tryz.func75, Tryz.ntmps75
    go_wp2
    go_ret
    exact ⟨rfl, rfl⟩
  · go_enter Tryz.func75, Tryz.ntmps75
    go_wp2
    go_ret
    exact ⟨rfl, rfl⟩

set_option maxHeartbeats 400000 in
theorem limb_any (w : World) (A : Option Addr) (n c : Nat) (xs : List Nat) (i : Int) (h : Lm w w.heap.size A n c xs) (h0 : 0 ≤ i) (h9 : i ≤ 9223372036854775807) :
    Calls Tryz.prog 130 #[.slice A n c, .int .i64 i] w fun e w' => e = .returned (.int .u64 (xs[i.toNat]?.getD 0 : Nat)) ∧ w = w' := by
  have hr := h.max
  have hcn := h.cap
  obtain ⟨k, rfl⟩ := Int.eq_ofNat_of_zero_le h0
  rw [Int.toNat_natCast]
  by_cases hk : k < n
  · obtain ⟨b, off, rfl, hb, hck⟩ := h.cell hk
    have hg := h.good.get k
    go_enter Tryz.func130, Tryz.ntmps130
    go_wp2
    go_ret
    exact ⟨rfl, rfl⟩
  · have hl := h.len
    have HX : Hid (xs[k]?.getD 0 = 0) := by rw [List.getElem?_eq_none (by omega)]; exact (rfl : (0 : Nat) = 0)
    clear hl
    go_enter Tryz.func130, Tryz.ntmps130
    go_wp2
    go_ret
    exact ⟨ret_int (by rw [HX.out]; rfl), rfl⟩

set_option maxHeartbeats 400000 in
theorem from_any (w : World) (m : Int) (h1 : -9223372036854775808 ≤ m) (h2 : m ≤ 9223372036854775807) :
    Calls Tryz.prog 89 #[.int .i64 m] w fun e w' => ∃ A n c, e = .returned (.agg #[.bool (decide (m < 0)), .slice A n c]) ∧ Lm w' w'.heap.size A n c (digs m.natAbs) ∧ Below w.heap.size w w' := by
  obtain ⟨v, hv⟩ : ∃ v, v = m.natAbs := ⟨_, rfl⟩
  have hv2 : v < 18446744073709551616 := by omega
  have HV := Lib.hid hv
  by_cases hm : m < 0
  · have HM : Hid (decide (m < 0) = true) := by show _ = _; simpa using hm
    have HW : Hid (IntKind.u64.wrap (-IntKind.u64.wrap m) = (v : Int)) := by show _ = _; rw [IntKind.wrap_u64, IntKind.wrap_u64]; omega
    clear hv
    go_enter Tryz.func89, Tryz.ntmps89
    go_wp2_with fail
    rw [HW.out]
    refine (trim_any _ _ _ _ _ _ v (Lm.two _ (w.heap.size + 1) _ (v % 4294967296) (v / 4294967296 % 4294967296) _ _ (by simp) (by omega) (by omega) (by omega) (by omega)) (val2 v hv2)).mono ?_
    rintro e w1 ⟨rfl, rfl⟩
    go_wp2
    go_returns
    rw [← HV.out, HM.out]
    exact ⟨_, _, _, rfl, ((Lm.two _ (w.heap.size + 1) _ (v % 4294967296) (v / 4294967296 % 4294967296) _ _ (by simp) (by omega) (by omega) (by omega) (by omega)).trim' (val2 v hv2)).mono (by simp), by go_grown⟩
  · have HM : Hid (decide (m < 0) = false) := by show _ = _; simpa using hm
    have HW : Hid (m = (v : Int)) := by show _ = _; omega
    clear hv
    go_enter Tryz.func89, Tryz.ntmps89
    go_wp2_with fail
    have hm' := HW.out
    refine (trim_any _ _ _ _ _ _ v (Lm.two _ (w.heap.size + 1) _ (v % 4294967296) (v / 4294967296 % 4294967296) _ _ (by simp) (by omega) (by omega) (by omega) (by omega)) (val2 v hv2)).mono ?_
    clear hm'
    rintro e w1 ⟨rfl, rfl⟩
    go_wp2
    go_returns
    have hm' := HW.out
    rw [← HV.out, HM.out]
    exact ⟨_, _, _, rfl, ((Lm.two _ (w.heap.size + 1) _ (v % 4294967296) (v / 4294967296 % 4294967296) _ _ (by simp) (by omega) (by omega) (by omega) (by omega)).trim' (val2 v hv2)).mono (by simp), by go_grown⟩

theorem check_ok (w : World) (neg : Bool) (A : Option Addr) (n c : Nat) (xs : List Nat) (h : Lm w w.heap.size A n c xs) (hc : chk neg xs = 0) :
    Calls Tryz.prog 70 #[.agg #[.bool neg, .slice A n c]] w fun e w' => e = .returned (.int .i64 0) ∧ Below w.heap.size w w' :=
  (check_any w neg A n c xs h).mono fun _ _ ⟨he, hb⟩ => ⟨by rw [he, hc], hb⟩
theorem check_bad (w : World) (neg : Bool) (A : Option Addr) (n c : Nat) (xs : List Nat) (h : Lm w w.heap.size A n c xs) (hc : chk neg xs = 8) :
    Calls Tryz.prog 70 #[.agg #[.bool neg, .slice A n c]] w fun e w' => e = .returned (.int .i64 8) ∧ Below w.heap.size w w' :=
  (check_any w neg A n c xs h).mono fun _ _ ⟨he, hb⟩ => ⟨by rw [he, hc], hb⟩

end Go.Proofs.YtbplbbkmfbjkfaaGreatDoor

/-
  The 64 binary digits of a number from a place on, out of three limbs.
-/
namespace Go.Proofs.YtbplbbkmfbjkfaaGreatDoor
open Go.RowKit

theorem or_add {a b i : Nat} (h : a < 2 ^ i) : a ||| (2 ^ i * b) = a + 2 ^ i * b := by
  rw [Nat.or_comm, ← Nat.two_pow_add_eq_or_of_lt h, Nat.add_comm]
theorem bits_or (a b : Nat) (ha : a < 18446744073709551616) (hb : b < 18446744073709551616) : bits .or .u64 (a : Int) (b : Int) = ((a ||| b : Nat) : Int) := bits_or_u64_nat a b ha hb
theorem wrap_nat (a : Nat) : IntKind.u64.wrap (a : Int) = ((a % 18446744073709551616 : Nat) : Int) := by rw [IntKind.wrap_u64]; omega

/-- The number's limbs from k on. -/
theorem val_drop (xs : List Nat) (g : Good xs) (k : Nat) : val (xs.drop k) = val xs / 4294967296 ^ k := by
  rcases Nat.lt_or_ge xs.length k with h | h
  · rw [List.drop_of_length_le (by omega), Nat.div_eq_of_lt (Nat.lt_of_lt_of_le (val_lt g) (pow_mono_ (by omega)))]; rfl
  · have e := val_split xs k h
    have l : val (xs.take k) < 4294967296 ^ k := by
      have := val_lt (g.take k)
      rwa [List.length_take, Nat.min_eq_left h] at this
    rw [e, Nat.add_mul_div_left _ _ (pow_pos_ k), Nat.div_eq_of_lt l, Nat.zero_add]
theorem val_step (xs : List Nat) (k : Nat) : val (xs.drop k) = xs[k]?.getD 0 + 4294967296 * val (xs.drop (k + 1)) := by
  rcases Nat.lt_or_ge k xs.length with h | h
  · rw [drop_cons_ xs k h]; rfl
  · rw [List.drop_of_length_le h, List.drop_of_length_le (by omega), List.getElem?_eq_none h]; rfl

def win (v p : Nat) : Nat := v / 2 ^ p % 18446744073709551616
theorem win_lt (v p : Nat) : win v p < 18446744073709551616 := Nat.mod_lt _ (by omega)

theorem win_math (u z k x2 r : Nat) (hk : k < 32) (hu : u < 18446744073709551616) (hz : z = x2 + 4294967296 * r) :
    (u + 18446744073709551616 * z) / 2 ^ k % 18446744073709551616 = u / 2 ^ k + 2 ^ (64 - k) * (x2 % 2 ^ k) ∧ u / 2 ^ k < 2 ^ (64 - k) := by
  have hP : 2 ^ (64 - k) * 2 ^ k = 18446744073709551616 := by rw [← Nat.pow_add, Nat.sub_add_cancel (by omega)]
  have hq : 0 < 2 ^ k := Nat.pow_pos (by omega)
  have hPp : 0 < 2 ^ (64 - k) := Nat.pow_pos (by omega)
  have h1 : u / 2 ^ k < 2 ^ (64 - k) := (Nat.div_lt_iff_lt_mul hq).2 (by rw [hP]; exact hu)
  have hB : 4294967296 = 2 ^ k * 2 ^ (32 - k) := by rw [← Nat.pow_add, Nat.add_sub_cancel' (by omega)]
  have h2 : z % 2 ^ k = x2 % 2 ^ k := by
    rw [hz, hB, Nat.mul_assoc, Nat.add_mul_mod_self_left]
  have h3 : (u + 18446744073709551616 * z) / 2 ^ k = u / 2 ^ k + 2 ^ (64 - k) * z := by
    rw [← hP, Nat.mul_comm (2 ^ (64 - k)) (2 ^ k), Nat.mul_assoc, Nat.add_mul_div_left _ _ hq]
  refine ⟨?_, h1⟩
  rw [h3]
  have h4 := Nat.mod_mul (a := 2 ^ (64 - k)) (b := 2 ^ k) (x := u / 2 ^ k + 2 ^ (64 - k) * z)
  rw [hP] at h4
  rw [h4, Nat.add_mul_mod_self_left, Nat.mod_eq_of_lt h1, Nat.add_mul_div_left _ _ hPp, Nat.div_eq_of_lt h1, Nat.zero_add, h2]

theorem cast_shl (a k : Nat) : (a : Int) * 2 ^ k = ((2 ^ k * a : Nat) : Int) := by rw [Int.natCast_mul, Int.natCast_pow, Int.mul_comm]; rfl
theorem cast_shr (a k : Nat) : (a : Int) / 2 ^ k = ((a / 2 ^ k : Nat) : Int) := by rw [Int.natCast_ediv, Int.natCast_pow]; rfl
theorem win_eq (xs : List Nat) (g : Good xs) (p : Nat) :
    bits .or .u64 (bits .or .u64 ((xs[p / 32]?.getD 0 : Nat) : Int) (IntKind.u64.wrap (((xs[p / 32 + 1]?.getD 0 : Nat) : Int) * 4294967296)) / 2 ^ (p % 32))
      (IntKind.u64.wrap (((xs[p / 32 + 2]?.getD 0 : Nat) : Int) * 2 ^ (64 - p % 32))) = (win (val xs) p : Int) := by
  have g0 := g.get (p / 32)
  have g1 := g.get (p / 32 + 1)
  have g2 := g.get (p / 32 + 2)
  have e0 := val_step xs (p / 32)
  have e1 := val_step xs (p / 32 + 1)
  have e2 := val_step xs (p / 32 + 2)
  have ed := val_drop xs g (p / 32)
  have hp : val xs / 2 ^ p = val xs / 4294967296 ^ (p / 32) / 2 ^ (p % 32) := by
    rw [Nat.div_div_eq_div_mul]
    congr 1
    rw [show (4294967296 : Nat) = 2 ^ 32 from rfl, ← Nat.pow_mul, ← Nat.pow_add, Nat.div_add_mod]
  revert g0 g1 g2 e0 e1 e2
  generalize xs[p / 32]?.getD 0 = x0
  generalize xs[p / 32 + 1]?.getD 0 = x1
  generalize xs[p / 32 + 2]?.getD 0 = x2
  intro g0 g1 g2 e0 e1 e2
  have hm := win_math (x0 + 4294967296 * x1) (x2 + 4294967296 * val (xs.drop (p / 32 + 2 + 1))) (p % 32) x2 _ (Nat.mod_lt _ (by omega)) (by omega) rfl
  have hw : win (val xs) p = (x0 + 4294967296 * x1) / 2 ^ (p % 32) + 2 ^ (64 - p % 32) * (x2 % 2 ^ (p % 32)) := by
    rw [← hm.1, win, hp, ← ed, e0, e1, e2]
    congr 2
    omega
  have a1 : IntKind.u64.wrap ((x1 : Int) * 4294967296) = ((2 ^ 32 * x1 : Nat) : Int) := by rw [IntKind.wrap_u64]; omega
  have a2 : bits .or .u64 (x0 : Int) (IntKind.u64.wrap ((x1 : Int) * 4294967296)) = ((x0 + 4294967296 * x1 : Nat) : Int) := by
    rw [a1, bits_or _ _ (by omega) (by omega), or_add (by omega)]
  have hP : 2 ^ (64 - p % 32) * 2 ^ (p % 32) = 18446744073709551616 := by rw [← Nat.pow_add, Nat.sub_add_cancel (by omega)]
  have a3 : IntKind.u64.wrap ((x2 : Int) * 2 ^ (64 - p % 32)) = ((2 ^ (64 - p % 32) * (x2 % 2 ^ (p % 32)) : Nat) : Int) := by
    rw [cast_shl, wrap_nat, ← hP, Nat.mul_mod_mul_left]
  have hl : (x0 + 4294967296 * x1) / 2 ^ (p % 32) < 18446744073709551616 := Nat.lt_of_le_of_lt (Nat.div_le_self _ _) (by omega)
  have hr : 2 ^ (64 - p % 32) * (x2 % 2 ^ (p % 32)) < 18446744073709551616 := by
    rw [← hP]
    exact Nat.mul_lt_mul_of_pos_left (Nat.mod_lt _ (Nat.pow_pos (by omega))) (Nat.pow_pos (by omega))
  rw [a2, a3, cast_shr, bits_or _ _ hl hr, or_add hm.2, hw]

end Go.Proofs.YtbplbbkmfbjkfaaGreatDoor

/-
  Contracts of functions of package wide: window, Int, Clone, Neg, Abs.
-/
namespace Go.Proofs.YtbplbbkmfbjkfaaGreatDoor
open Go.RowKit

set_option maxHeartbeats 400000 in
theorem window_any (w : World) (A : Option Addr) (n c : Nat) (xs : List Nat) (v : Nat) (p : Int) (h : Lm w w.heap.size A n c xs) (hv : val xs = v) (h0 : 0 ≤ p) (h9 : p ≤ 1000000000000000) :
    Calls Tryz.prog 102 #[.slice A n c, .int .i64 p] w fun e w' => e = .returned (.int .u64 (win v p.toNat : Nat)) ∧ ∃ d, w' = w.drewN d := by
  subst hv
  have HE := Lib.hid (win_eq xs h.good p.toNat)
  have hr := h.max
  have hcn := h.cap
  have HH := Lib.hid h
  go_enter Tryz.func102, Tryz.ntmps102
  go_wp2_with fail
  go_wp2_with (go_at_call 130; refine (limb_any _ _ _ _ _ _ HH.out (by omega) (by omega)).mono ?_; rintro e w' ⟨rfl, rfl⟩)
  have hq0 : 0 ≤ p / 32 := by omega
  have hq1 : 0 ≤ p % 32 := by omega
  have hq2 : 0 ≤ 64 - p % 32 := by omega
  have hs2 : IntKind.i64.wrap (p / 32 + 2) = p / 32 + 2 := IntWalk.i64_in _ (by omega)
  have hs3 : IntKind.i64.wrap (64 - p % 32) = 64 - p % 32 := IntWalk.i64_in _ (by omega)
  go_quiet ((go_at_call 130; exact quiet_eq (limb_any _ _ _ _ _ _ (HH.out.drewN _) (by omega) (by omega))))
  go_wp2
  go_ret
  refine ⟨ret_int ?_, nq, rfl⟩
  have he := HE.out
  have e1 : (p / 32).toNat = p.toNat / 32 := by omega
  have e2 : (p / 32 + 1).toNat = p.toNat / 32 + 1 := by omega
  have e3 : (p / 32 + 2).toNat = p.toNat / 32 + 2 := by omega
  have e4 : (p % 32).toNat = p.toNat % 32 := by omega
  have e5 : (64 - p % 32).toNat = 64 - p.toNat % 32 := by omega
  rw [← he, e2, e3, e1, e4, e5]

def intV (neg : Bool) (v : Nat) : Int := if neg = true then (if v ≤ 9223372036854775808 then -(v : Int) else 0) else (if v < 9223372036854775808 then (v : Int) else 0)
def intE (neg : Bool) (v : Nat) : Int := if neg = true then (if v ≤ 9223372036854775808 then 0 else 16) else (if v < 9223372036854775808 then 0 else 16)

theorem u32_info : (Tryz.prog.info? 79).map (fun i => (i.zero, i.size, i.bytes)) = some (some (.int .u32 0), 1, 4) := by kernel_rfl
theorem slice_u32 : Tryz.prog.underlying 22 = some (.slice 79) := Tryz.underlying22

set_option maxRecDepth 100000 in
set_option maxHeartbeats 400000 in
theorem clone_any (w : World) (A : Option Addr) (n c : Nat) (xs : List Nat) (h : Lm w w.heap.size A n c xs) (hn : n ≤ 1000000000) :
    Calls Tryz.prog 72 #[.slice A n c] w fun e w' => ∃ A' c', e = .returned (.slice A' n c') ∧ Lm w' w'.heap.size A' n c' xs ∧ Below w.heap.size w w' := by
  obtain ⟨i0, hi0, hz0, hz1, hz2⟩ := info_parts u32_info
  have hr := h.max
  have HH := Lib.hid h
  have hnil := fun (w : World) (a : Option Addr) (n c n' c' : Nat) => Lib.run_eql_slice_nil (P := Tryz.prog) w 22 79 a n c n' c' slice_u32
  rcases A with _ | ad
  · have hm : n = 0 := by
      rcases Nat.eq_zero_or_pos n with h0 | h0
      · exact h0
      · obtain ⟨b, off, e, _⟩ := h.at_ h0
        cases e
    subst hm
    obtain rfl := h.nil_ rfl
    go_enter Tryz.func72, Tryz.ntmps72
    go_wp2
    go_ret
    exact ⟨_, _, rfl, HH.out, Below.refl _ _⟩
  · go_enter Tryz.func72, Tryz.ntmps72
    go_wp2_with (at_builtin; refine wpList_append_lm _ rfl _ _ _ rfl w.heap.size _ i0 slice_u32 hi0 hz0 hz1 hz2 _ 0 [] rfl (World.ownsRow_made _ _ _ (Nat.le_refl _) (by simp [maxLen]) rfl) _ _ _ _ xs rfl (HH.out.box _) (by simp only [maxLen]; omega) (by omega) (by simp) ?_; intro v1 w1 hown1 hg1)
    go_ret
    rw [Nat.zero_add, List.nil_append] at hown1
    obtain ⟨A', c', rfl, hL⟩ := Lm.own hown1 HH.out.good
    refine ⟨A', c', rfl, hL, ((Below.refl _ _).alloc (Nat.le_refl _) _).grown hg1 (by simp) (fun k hk => ?_)⟩
    have e : w.heap.size = k := Option.some.inj hk
    omega

set_option maxRecDepth 100000 in
set_option maxHeartbeats 400000 in
theorem neg_ok (w : World) (neg : Bool) (A : Option Addr) (n c v : Nat) (h : Lm w w.heap.size A n c (digs v)) (hc : chk neg (digs v) = 0) :
    Calls Tryz.prog 37 #[.agg #[.bool neg, .slice A n c]] w (RW w (mkN (!neg) v) (mkL v) (mkE v)) := by
  have hl := (chk_ok.1 hc).1
  rw [h.len] at hl
  have HH := Lib.hid h
  have HC := Lib.hid hc
  clear hc
  go_enter Tryz.func37, Tryz.ntmps37
  go_wp2_with (go_at_call 70; refine (check_ok _ _ _ _ _ _ ((HH.out.box _).box _) HC.out).mono ?_; rintro e w1 ⟨rfl, hb1⟩; have ⟨hx0, hx1, hy0, hy1, hf0, hf1, hsz⟩ := box2 hb1)
  have HL := Lib.hid (((HH.out.box _).box _).via hb1)
  go_region_held3 (fun w' => w'.cell? ⟨w.heap.size, 0, none⟩ = some (.bool neg) ∧ w'.cell? ⟨w.heap.size, 1, none⟩ = some (.slice A n c))
    (first | exact ⟨hx0, hx1⟩ | exact hk2 | exact hk3 | go_keep)
    (first
     | (go_at_call 72; refine (clone_any _ _ _ _ (digs v) (by first | exact HL.out | exact HL.out.drew) (by omega)).mono ?_; rintro e w2 ⟨A2, c2, rfl, hL2, hb2⟩; have hg2 : w.heap.size + 1 < w2.heap.size := Nat.lt_of_lt_of_le hsz hb2.size; have hk2 := keep2 hb2 (Nat.lt_of_succ_lt hsz) ⟨hx0, hx1⟩; have hky2 := keep2 hb2 hsz ⟨hy0, hy1⟩; have hkf2 := keepF hb2 hsz ⟨hf0, hf1⟩)
     | (go_at_call 71; refine (made_any _ _ _ _ _ v hL2).mono ?_; rintro e w3 ⟨A3, n3, c3, rfl, hL3, hb3⟩; have hk3 := keep2 hb3 (Nat.lt_of_succ_lt hg2) hk2; have hky3 := keep2 hb3 hg2 hky2; have hkf3 := keepF hb3 hg2 hkf2))
  go_wp2
  exact post_ws Tryz.results37 rfl rfl hky3.1 hky3.2 ⟨A3, n3, c3, rfl, hL3.set2 hky3.1 hky3.2 _ _,
    below_set2 (((bbox (bbox hb1)).drew.trans (hb2.mono (show w.heap.size ≤ w1.heap.size from by omega))).trans (hb3.mono (by omega))) (by omega) _ _⟩

/-- How Go compares ordered values. -/
def cmpZ (a b : Int) : Int := if a < b then -1 else if a = b then 0 else 1

set_option maxHeartbeats 400000 in
theorem cmpint_any (w : World) (a b : Int) :
    Calls Tryz.prog 125 #[.int .i64 a, .int .i64 b] w fun e w' => e = .returned (.int .i64 (cmpZ a b)) ∧ w = w' := by
  have hC : Hid (cmpZ a b = if a < b then -1 else if a = b then 0 else 1) := rfl
  rcases Int.lt_trichotomy a b with h | h | h
  · go_enter Tryz.func125, Tryz.ntmps125
    go_wp2
    go_ret
    exact ⟨ret_int (by rw [hC.out, if_pos h]), rfl⟩
  · subst h
    go_enter Tryz.func125, Tryz.ntmps125
    go_wp2
    go_ret
    exact ⟨ret_int (by rw [hC.out, if_neg (by omega), if_pos True.intro]), rfl⟩
  · go_enter Tryz.func125, Tryz.ntmps125
    go_wp2
    go_ret
    exact ⟨ret_int (by rw [hC.out, if_neg (by omega), if_neg (by omega)]), rfl⟩

set_option maxHeartbeats 400000 in
theorem cmpu32_any (w : World) (a b : Int) :
    Calls Tryz.prog 126 #[.int .u32 a, .int .u32 b] w fun e w' => e = .returned (.int .i64 (cmpZ a b)) ∧ w = w' := by
  have hC : Hid (cmpZ a b = if a < b then -1 else if a = b then 0 else 1) := rfl
  rcases Int.lt_trichotomy a b with h | h | h
  · go_enter Tryz.func126, Tryz.ntmps126
    go_wp2
    go_ret
    exact ⟨ret_int (by rw [hC.out, if_pos h]), rfl⟩
  · subst h
    go_enter Tryz.func126, Tryz.ntmps126
    go_wp2
    go_ret
    exact ⟨ret_int (by rw [hC.out, if_neg (by omega), if_pos True.intro]), rfl⟩
  · go_enter Tryz.func126, Tryz.ntmps126
    go_wp2
    go_ret
    exact ⟨ret_int (by rw [hC.out, if_neg (by omega), if_neg (by omega)]), rfl⟩

end Go.Proofs.YtbplbbkmfbjkfaaGreatDoor

/-
  Plain mathematics of loops over limbs: products by a limb, sums, differences; a part of a list replaced.
-/
namespace Go.Proofs.YtbplbbkmfbjkfaaGreatDoor

theorem get_nat (xs : List Nat) (k : Nat) (h : k < xs.length) : xs[k]? = some (xs[k]?.getD 0) := by
  rw [List.getElem?_eq_getElem h]; rfl

/-! ### A part of a list replaced -/
def spl (cs : List Nat) (off : Nat) (ts : List Nat) : List Nat := cs.take off ++ (ts ++ cs.drop (off + ts.length))
theorem spl_nil (cs : List Nat) (off : Nat) : spl cs off [] = cs := by simp [spl]
theorem spl_len {cs : List Nat} {off : Nat} {ts : List Nat} (h : off + ts.length ≤ cs.length) : (spl cs off ts).length = cs.length := by
  simp [spl]; omega
theorem spl_at {cs : List Nat} {off : Nat} {ts : List Nat} (h : off + ts.length < cs.length) : (spl cs off ts)[off + ts.length]?.getD 0 = cs[off + ts.length]?.getD 0 := by
  unfold spl
  have h1 : (cs.take off).length = off := by rw [List.length_take]; omega
  rw [List.getElem?_append_right (by omega), h1, List.getElem?_append_right (by omega), List.getElem?_drop]
  congr 2
  omega
theorem set_mid (p m q : List Nat) (t : Nat) (hq : 0 < q.length) : (p ++ (m ++ q)).set (p.length + m.length) t = p ++ ((m ++ [t]) ++ q.drop 1) := by
  cases q with
  | nil => simp at hq
  | cons y ys =>
    rw [List.set_append_right _ _ (by omega), Nat.add_sub_cancel_left, List.set_append_right _ _ (by omega), Nat.sub_self]
    simp
theorem spl_set {cs : List Nat} {off : Nat} {ts : List Nat} (t : Nat) (h : off + ts.length < cs.length) : (spl cs off ts).set (off + ts.length) t = spl cs off (ts ++ [t]) := by
  unfold spl
  have h1 : (cs.take off).length = off := by rw [List.length_take]; omega
  have e := set_mid (cs.take off) ts (cs.drop (off + ts.length)) t (by rw [List.length_drop]; omega)
  rw [h1] at e
  rw [e, List.drop_drop, List.length_append]
  rfl
theorem spl_good {cs : List Nat} {off : Nat} {ts : List Nat} (g : Good cs) (h : Good ts) : Good (spl cs off ts) := (g.take _).append (h.append (g.drop _))

/-! ### The product by a limb, added to a list: the limbs and the carry after k rounds -/
def mulK (ps xs : List Nat) (y : Nat) : Nat → List Nat × Nat
  | 0 => ([], 0)
  | k + 1 => let r := mulK ps xs y k
             let s := r.2 + (xs[k]?.getD 0 * y + ps[k]?.getD 0)
             (r.1 ++ [s % 4294967296], s / 4294967296)
theorem mulK_len (ps xs : List Nat) (y k : Nat) : (mulK ps xs y k).1.length = k := by
  induction k with
  | zero => rfl
  | succ k ih => simp [mulK, ih]
theorem mulK_good (ps xs : List Nat) (y k : Nat) : Good (mulK ps xs y k).1 := by
  induction k with
  | zero => exact Good.nil
  | succ k ih => exact ih.append (Good.nil.cons (Nat.mod_lt _ (by omega)))
theorem mul_bd {x y : Nat} (hx : x < 4294967296) (hy : y < 4294967296) : x * y ≤ 18446744065119617025 := by
  have h : x * y ≤ 4294967295 * 4294967295 := Nat.mul_le_mul (by omega) (by omega)
  omega
theorem mulK_carry {ps xs : List Nat} {y : Nat} (hp : Good ps) (hx : Good xs) (hy : y < 4294967296) (k : Nat) : (mulK ps xs y k).2 < 4294967296 := by
  induction k with
  | zero => show 0 < 4294967296; omega
  | succ k ih =>
    show ((mulK ps xs y k).2 + (xs[k]?.getD 0 * y + ps[k]?.getD 0)) / 4294967296 < 4294967296
    have h1 := mul_bd (hx.get k) hy
    have h2 := hp.get k
    omega
theorem mulK_val (ps xs : List Nat) (y k : Nat) : val (mulK ps xs y k).1 + 4294967296 ^ k * (mulK ps xs y k).2 = val (xs.take k) * y + val (ps.take k) := by
  induction k with
  | zero => simp [mulK, val_nil]
  | succ k ih =>
    show val ((mulK ps xs y k).1 ++ [((mulK ps xs y k).2 + (xs[k]?.getD 0 * y + ps[k]?.getD 0)) % 4294967296]) + 4294967296 ^ (k + 1) * (((mulK ps xs y k).2 + (xs[k]?.getD 0 * y + ps[k]?.getD 0)) / 4294967296) = _
    rw [val_snoc, mulK_len, val_take_succ', val_take_succ', Nat.add_mul, pow_succ_]
    generalize hs : (mulK ps xs y k).2 + (xs[k]?.getD 0 * y + ps[k]?.getD 0) = s
    have h1 : 4294967296 ^ k * (s % 4294967296) + 4294967296 * 4294967296 ^ k * (s / 4294967296) = 4294967296 ^ k * s := by
      rw [Nat.mul_comm 4294967296 (4294967296 ^ k), Nat.mul_assoc, ← Nat.mul_add, Nat.mod_add_div]
    have h2 : 4294967296 ^ k * s = 4294967296 ^ k * (mulK ps xs y k).2 + (4294967296 ^ k * xs[k]?.getD 0 * y + 4294967296 ^ k * ps[k]?.getD 0) := by
      rw [← hs, Nat.mul_add, Nat.mul_add, Nat.mul_assoc]
    omega

/-- A round of the product by hand. -/
theorem prod_step {ps xs ys : List Nat} {n m k : Nat} (hx : xs.length = n) (hps : ps.length = n + m) (hk : k < m) (hv : val (ps.take (n + k)) = val xs * val (ys.take k)) :
    val ((spl ps k ((mulK (ps.drop k) xs (ys[k]?.getD 0) n).1 ++ [(mulK (ps.drop k) xs (ys[k]?.getD 0) n).2])).take (n + (k + 1))) = val xs * val (ys.take (k + 1)) := by
  have hl := mulK_len (ps.drop k) xs (ys[k]?.getD 0) n
  have hm := mulK_val (ps.drop k) xs (ys[k]?.getD 0) n
  have hpk : (ps.take k).length = k := by rw [List.length_take]; omega
  have e1 : (spl ps k ((mulK (ps.drop k) xs (ys[k]?.getD 0) n).1 ++ [(mulK (ps.drop k) xs (ys[k]?.getD 0) n).2])).take (n + (k + 1)) = ps.take k ++ ((mulK (ps.drop k) xs (ys[k]?.getD 0) n).1 ++ [(mulK (ps.drop k) xs (ys[k]?.getD 0) n).2]) := by
    unfold spl
    rw [← List.append_assoc]
    refine List.take_left' ?_
    simp [hl]
    omega
  rw [e1, val_append, hpk, val_snoc, hl, hm, val_take_succ']
  have e2 : val (ps.take (n + k)) = val (ps.take k) + 4294967296 ^ k * val ((ps.drop k).take n) := by
    have e3 : ps.take (n + k) = ps.take k ++ (ps.drop k).take n := by
      rw [Nat.add_comm n k, List.take_add]
    rw [e3, val_append, hpk]
  have e5 : xs.take n = xs := List.take_of_length_le (by omega)
  rw [e5]
  rw [hv] at e2
  rw [Nat.mul_add (val xs), e2, Nat.mul_add]
  have e4 : 4294967296 ^ k * (val xs * ys[k]?.getD 0) = val xs * (4294967296 ^ k * ys[k]?.getD 0) := by
    rw [Nat.mul_left_comm]
  omega
theorem spl_after {cs : List Nat} {off : Nat} {ts : List Nat} (h : off + ts.length ≤ cs.length) {j : Nat} (hj : off + ts.length ≤ j) : (spl cs off ts)[j]?.getD 0 = cs[j]?.getD 0 := by
  unfold spl
  have h1 : (cs.take off).length = off := by rw [List.length_take]; omega
  rw [List.getElem?_append_right (by omega), h1, List.getElem?_append_right (by omega), List.getElem?_drop]
  congr 2
  omega
/-- So many zeros. -/
def zer (n : Nat) : List Nat := List.replicate n 0
theorem zer_len (n : Nat) : (zer n).length = n := by simp [zer]
theorem zer_good (n : Nat) : Good (zer n) := by
  intro x hx
  have := (List.mem_replicate.1 hx).2
  omega
theorem zer_get (n j : Nat) : (zer n)[j]?.getD 0 = 0 := by
  unfold zer
  rw [List.getElem?_replicate]
  split <;> rfl
theorem zer_val (n k : Nat) : val ((zer n).take k) = 0 := val_zero fun _ hx => (List.mem_replicate.1 (List.mem_of_mem_take hx)).2

/-! ### The sum of lists, limb by limb -/
def addK (xs ys : List Nat) : Nat → List Nat × Nat
  | 0 => ([], 0)
  | k + 1 => let r := addK xs ys k
             let s := r.2 + (xs[k]?.getD 0 + ys[k]?.getD 0)
             (r.1 ++ [s % 4294967296], s / 4294967296)
theorem addK_len (xs ys : List Nat) (k : Nat) : (addK xs ys k).1.length = k := by
  induction k with
  | zero => rfl
  | succ k ih => simp [addK, ih]
theorem addK_good (xs ys : List Nat) (k : Nat) : Good (addK xs ys k).1 := by
  induction k with
  | zero => exact Good.nil
  | succ k ih => exact ih.append (Good.nil.cons (Nat.mod_lt _ (by omega)))
theorem addK_carry {xs ys : List Nat} (hx : Good xs) (hy : Good ys) (k : Nat) : (addK xs ys k).2 ≤ 1 := by
  induction k with
  | zero => exact Nat.zero_le _
  | succ k ih =>
    show ((addK xs ys k).2 + (xs[k]?.getD 0 + ys[k]?.getD 0)) / 4294967296 ≤ 1
    have h1 := hx.get k
    have h2 := hy.get k
    omega
theorem addK_val (xs ys : List Nat) (k : Nat) : val (addK xs ys k).1 + 4294967296 ^ k * (addK xs ys k).2 = val (xs.take k) + val (ys.take k) := by
  induction k with
  | zero => simp [addK, val_nil]
  | succ k ih =>
    show val ((addK xs ys k).1 ++ [((addK xs ys k).2 + (xs[k]?.getD 0 + ys[k]?.getD 0)) % 4294967296]) + 4294967296 ^ (k + 1) * (((addK xs ys k).2 + (xs[k]?.getD 0 + ys[k]?.getD 0)) / 4294967296) = _
    rw [val_snoc, addK_len, val_take_succ', val_take_succ', pow_succ_]
    generalize hs : (addK xs ys k).2 + (xs[k]?.getD 0 + ys[k]?.getD 0) = s
    have h1 : 4294967296 ^ k * (s % 4294967296) + 4294967296 * 4294967296 ^ k * (s / 4294967296) = 4294967296 ^ k * s := by
      rw [Nat.mul_comm 4294967296 (4294967296 ^ k), Nat.mul_assoc, ← Nat.mul_add, Nat.mod_add_div]
    have h2 : 4294967296 ^ k * s = 4294967296 ^ k * (addK xs ys k).2 + (4294967296 ^ k * xs[k]?.getD 0 + 4294967296 ^ k * ys[k]?.getD 0) := by
      rw [← hs, Nat.mul_add, Nat.mul_add]
    omega

/-- The same over any indices, one after another. -/
def addP (xs ys : List Nat) (ks : List Nat) : List Nat × Nat := ks.foldl (fun r k => (r.1 ++ [(r.2 + (xs[k]?.getD 0 + ys[k]?.getD 0)) % 4294967296], (r.2 + (xs[k]?.getD 0 + ys[k]?.getD 0)) / 4294967296)) ([], 0)
theorem addP_snoc (xs ys ks : List Nat) (k : Nat) : addP xs ys (ks ++ [k]) = ((addP xs ys ks).1 ++ [((addP xs ys ks).2 + (xs[k]?.getD 0 + ys[k]?.getD 0)) % 4294967296], ((addP xs ys ks).2 + (xs[k]?.getD 0 + ys[k]?.getD 0)) / 4294967296) := by
  simp [addP, List.foldl_append]
theorem addP_range (xs ys : List Nat) (n : Nat) : addP xs ys (List.range n) = addK xs ys n := by
  induction n with
  | zero => rfl
  | succ n ih => rw [List.range_succ, addP_snoc, ih]; rfl
theorem snoc_ind {p : List Nat → Prop} (h0 : p []) (h1 : ∀ ks k, p ks → p (ks ++ [k])) (ks : List Nat) : p ks := by
  have h : ∀ l : List Nat, p l.reverse := by
    intro l
    induction l with
    | nil => exact h0
    | cons a l ih => rw [List.reverse_cons]; exact h1 _ _ ih
  have e := h ks.reverse
  rwa [List.reverse_reverse] at e
theorem addP_len (xs ys ks : List Nat) : (addP xs ys ks).1.length = ks.length := by
  induction ks using snoc_ind with
  | h0 => rfl
  | h1 ks k ih => rw [addP_snoc]; simp [ih]
theorem addP_carry {xs ys : List Nat} (hx : Good xs) (hy : Good ys) (ks : List Nat) : (addP xs ys ks).2 ≤ 1 := by
  induction ks using snoc_ind with
  | h0 => exact Nat.zero_le _
  | h1 ks k ih =>
    rw [addP_snoc]
    show ((addP xs ys ks).2 + (xs[k]?.getD 0 + ys[k]?.getD 0)) / 4294967296 ≤ 1
    have h1 := hx.get k
    have h2 := hy.get k
    omega

/-! ### The difference of lists, limb by limb -/
def subK (xs ys : List Nat) : Nat → List Nat × Nat
  | 0 => ([], 0)
  | k + 1 => let r := subK xs ys k
             let s := xs[k]?.getD 0 + 8589934592 - ys[k]?.getD 0 - r.2
             (r.1 ++ [s % 4294967296], if xs[k]?.getD 0 < ys[k]?.getD 0 + r.2 then 1 else 0)
theorem subK_len (xs ys : List Nat) (k : Nat) : (subK xs ys k).1.length = k := by
  induction k with
  | zero => rfl
  | succ k ih => simp [subK, ih]
theorem subK_good (xs ys : List Nat) (k : Nat) : Good (subK xs ys k).1 := by
  induction k with
  | zero => exact Good.nil
  | succ k ih => exact ih.append (Good.nil.cons (Nat.mod_lt _ (by omega)))
theorem subK_carry (xs ys : List Nat) (k : Nat) : (subK xs ys k).2 ≤ 1 := by
  induction k with
  | zero => exact Nat.zero_le _
  | succ k ih =>
    show (if xs[k]?.getD 0 < ys[k]?.getD 0 + (subK xs ys k).2 then 1 else 0) ≤ 1
    split <;> omega
theorem subK_val {xs ys : List Nat} (hx : Good xs) (hy : Good ys) (k : Nat) : val (subK xs ys k).1 + val (ys.take k) = val (xs.take k) + 4294967296 ^ k * (subK xs ys k).2 := by
  induction k with
  | zero => simp [subK, val_nil]
  | succ k ih =>
    show val ((subK xs ys k).1 ++ [(xs[k]?.getD 0 + 8589934592 - ys[k]?.getD 0 - (subK xs ys k).2) % 4294967296]) + _ = _ + 4294967296 ^ (k + 1) * (if xs[k]?.getD 0 < ys[k]?.getD 0 + (subK xs ys k).2 then 1 else 0)
    have hc := subK_carry xs ys k
    have h1 := hx.get k
    have h2 := hy.get k
    rw [val_snoc, subK_len, val_take_succ', val_take_succ', pow_succ_]
    generalize hr : (subK xs ys k).2 = r at *
    generalize hxk : xs[k]?.getD 0 = x at *
    generalize hyk : ys[k]?.getD 0 = y at *
    generalize hP : 4294967296 ^ k = P at *
    split
    · next h =>
      have e : (x + 8589934592 - y - r) % 4294967296 = x + 4294967296 - y - r := by omega
      have e2 : x + 4294967296 - y - r + y + r = x + 4294967296 := by omega
      have e3 := congrArg (P * ·) e2
      simp only [Nat.mul_add] at e3
      rw [e]
      omega
    · next h =>
      have e : (x + 8589934592 - y - r) % 4294967296 = x - y - r := by omega
      have e2 : x - y - r + y + r = x := by omega
      have e3 := congrArg (P * ·) e2
      simp only [Nat.mul_add] at e3
      rw [e]
      omega

/-- The same over any indices, one after another. -/
def subP (xs ys : List Nat) (ks : List Nat) : List Nat × Nat := ks.foldl (fun r k => (r.1 ++ [(xs[k]?.getD 0 + 8589934592 - ys[k]?.getD 0 - r.2) % 4294967296], if xs[k]?.getD 0 < ys[k]?.getD 0 + r.2 then 1 else 0)) ([], 0)
theorem subP_snoc (xs ys ks : List Nat) (k : Nat) : subP xs ys (ks ++ [k]) = ((subP xs ys ks).1 ++ [(xs[k]?.getD 0 + 8589934592 - ys[k]?.getD 0 - (subP xs ys ks).2) % 4294967296], if xs[k]?.getD 0 < ys[k]?.getD 0 + (subP xs ys ks).2 then 1 else 0) := by
  unfold subP
  rw [List.foldl_append]
  rfl
theorem subP_range (xs ys : List Nat) (n : Nat) : subP xs ys (List.range n) = subK xs ys n := by
  induction n with
  | zero => rfl
  | succ n ih => rw [List.range_succ, subP_snoc, ih]; rfl
theorem subP_len (xs ys ks : List Nat) : (subP xs ys ks).1.length = ks.length := by
  induction ks using snoc_ind with
  | h0 => rfl
  | h1 ks k ih => rw [subP_snoc]; simp [ih]
theorem subP_carry (xs ys ks : List Nat) : (subP xs ys ks).2 ≤ 1 := by
  induction ks using snoc_ind with
  | h0 => exact Nat.zero_le _
  | h1 ks k ih =>
    rw [subP_snoc]
    show (if xs[k]?.getD 0 < ys[k]?.getD 0 + (subP xs ys ks).2 then 1 else 0) ≤ 1
    split <;> omega

end Go.Proofs.YtbplbbkmfbjkfaaGreatDoor

/-
  A block of the call's own that is known whole: a list of limbs.
-/
namespace Go.Proofs.YtbplbbkmfbjkfaaGreatDoor
open Go.RowKit

/-- Block g is just the limbs cs, none frozen. -/
def Ld (w : World) (g : Nat) (cs : List Nat) : Prop := w.heap[g]? = some (.cells (cs.map u32c).toArray 79 (0, 0))
section
variable {w w' : World} {g : Nat} {cs : List Nat}
theorem Ld.lt (h : Ld w g cs) : g < w.heap.size := (Array.getElem?_eq_some_iff.1 h).1
theorem Ld.cell (h : Ld w g cs) {i : Nat} (hi : i < cs.length) : w.cell? ⟨g, i, none⟩ = some (.int .u32 (cs[i]?.getD 0 : Nat)) := by
  have e := cell_of_row w g i _ _ (0, 0) h
  rw [e, List.getElem?_toArray, getD_map cs i hi]
theorem Ld.frozen (h : Ld w g cs) (i : Nat) : w.frozen? ⟨g, i, none⟩ = false := by
  unfold Ld at h
  simp [World.frozen?, h]
theorem Ld.set_ (h : Ld w g cs) (i t : Nat) : Ld (w.setCell ⟨g, i, none⟩ (.int .u32 (t : Int))) g (cs.set i t) := by
  unfold Ld at h ⊢
  simp [World.setCell, Array.getElem?_modify, h, u32c]
theorem Ld.grown (h : Ld w g cs) {row : Option Nat} (hb : w.grownBy w' row) (hg : some g ≠ row) : Ld w' g cs := (hb.block g h.lt hg).trans h
theorem Ld.below (h : Ld w g cs) {B : Nat} (hb : Below B w w') (hg : g < B) : Ld w' g cs := (hb.block g hg).trans h
theorem Ld.lm (h : Ld w g cs) (gd : Good cs) {off n c : Nat} (hn : off + n ≤ cs.length) (hc : n ≤ c) (hm : c ≤ 9223372036854775807) : Lm w w.heap.size (some ⟨g, off, none⟩) n c ((cs.drop off).take n) :=
  ⟨by rw [List.length_take, List.length_drop]; omega, (gd.drop _).take _, hc, hm, (fun e => by cases e), fun _ => ⟨g, off, rfl, h.lt, fun j hj => by
    rw [h.cell (by omega), List.getElem?_take_of_lt hj, List.getElem?_drop]⟩⟩
end
theorem grownBy_setCellAt (w : World) (g i : Nat) (v : Value) : w.grownBy (w.setCell ⟨g, i, none⟩ v) (some g) :=
  ⟨rfl, rfl, rfl, by simp [World.size_setCell], fun k _ hk => Below.heap_setCell _ _ _ k (fun e => hk (by rw [e]))⟩
theorem grownBy_trans {a b c : World} {g : Nat} (h : a.grownBy b (some g)) (k : b.grownBy c (some g)) : a.grownBy c (some g) :=
  ⟨k.os.trans h.os, k.tape.trans h.tape, k.output.trans h.output, Nat.le_trans h.size k.size, fun i hi hne => (k.block i (Nat.lt_of_lt_of_le hi h.size) hne).trans (h.block i hi hne)⟩
/-- A reading below a block is kept while that block alone is written. -/
theorem Lm.grownLt {w w' : World} {B n c : Nat} {A : Option Addr} {xs : List Nat} (h : Lm w B A n c xs) (hg : w.grownBy w' (some B)) (hB : B ≤ w.heap.size) : Lm w' B A n c xs :=
  h.keep fun b _ hb => World.cell?_of_block (hg.block b (by omega) (fun e => by injection e with e; omega))

/-- make([]uint32, n): a new block of zeros. -/
theorem made_zer (n : Nat) : madeCells (Value.int .u32 0).cells (n * 1) = ((zer n).map u32c).toArray := by
  apply Array.ext
  · simp [size_madeCells, zer]
  · intro i h1 h2
    simp [madeCells, zer, u32c, Value.cells, Nat.mod_one]
theorem run_make_u32 (l c : Int) (n : Nat) (hl : l = (n : Int)) (hc : c = (n : Int)) (hn : n ≤ 4000000000) (w : World) :
    (Instr.makeSlice 22 (.int .i64 l) (.int .i64 c)).run Tryz.prog w = .ok (.slice (some ⟨w.heap.size, 0, none⟩) n n) (w.alloc (.cells ((zer n).map u32c).toArray 79)) := by
  subst hl hc
  obtain ⟨i0, hi0, hz0, hz1, hz2⟩ := info_parts u32_info
  have h := run_make (P := Tryz.prog) w 22 79 i0 _ slice_u32 hi0 hz0 .i64 .i64 (n : Int) (n : Int) (by omega) (Int.le_refl _) (by rw [hz2]; omega) (by omega)
  rw [hz1, Int.toNat_natCast, made_zer] at h
  exact h
theorem Ld.new (w : World) (n : Nat) : Ld (w.alloc (.cells ((zer n).map u32c).toArray 79)) w.heap.size (zer n) := heap_alloc_new w _

end Go.Proofs.YtbplbbkmfbjkfaaGreatDoor

/-
  The contract of wide.addProduct.
-/
namespace Go.Proofs.YtbplbbkmfbjkfaaGreatDoor
open Go.RowKit

set_option maxRecDepth 100000 in
set_option maxHeartbeats 1000000 in
theorem addProduct_any (w : World) (g off m c n cx : Nat) (A : Option Addr) (cs xs : List Nat) (y : Nat) (hL : Ld w g cs) (hG : Good cs) (hX : Lm w g A n cx xs) (hy : y < 4294967296)
    (hm : n ≤ m) (hmc : m ≤ c) (hc : c ≤ 9223372036854775807) (hoff : off + n ≤ cs.length) (hn : n ≤ 1000000000) :
    Calls Tryz.prog 138 #[.slice (some ⟨g, off, none⟩) m c, .slice A n cx, .int .u32 (y : Int)] w fun e w' => e = .returned (.int .u32 ((mulK (cs.drop off) xs y n).2 : Nat)) ∧
      Ld w' g (spl cs off (mulK (cs.drop off) xs y n).1) ∧ w.grownBy w' (some g) := by
  have hcap := hX.cap
  have hmax := hX.max
  have hgs := hL.lt
  have HX := Lib.hid hX
  have HL := Lib.hid hL
  have HC := Lib.hid (fun k => mulK_carry (hG.drop off) hX.good hy k)
  clear hX hL
  go_enter Tryz.func138, Tryz.ntmps138
  go_wp2
  go_loopw [7, 16] (fun v i wr => ∃ k : Nat, k ≤ n ∧ i = .int .i64 k ∧ v = .int .u64 ((mulK (cs.drop off) xs y k).2 : Nat) ∧ Ld wr g (spl cs off (mulK (cs.drop off) xs y k).1) ∧ w.grownBy wr (some g)) (fun _ i _ => n - (intOf i).toNat)
  case atStart => exact ⟨0, Nat.zero_le _, rfl, rfl, by show Ld w g (spl cs off []); rw [spl_nil]; exact HL.out, World.grownBy.refl w _⟩
  case round =>
    obtain ⟨k, hk, rfl, rfl, hLk, hgk⟩ := hrel
    by_cases hlt : k < n
    · have hlen := mulK_len (cs.drop off) xs y k
      obtain ⟨b, bo, rfl, hb, hcx⟩ := (HX.out.grownLt hgk (Nat.le_of_lt hgs)).cell hlt
      have hct := hLk.cell (i := off + k) (by rw [spl_len (by omega)]; omega)
      have hat := spl_at (cs := cs) (off := off) (ts := (mulK (cs.drop off) xs y k).1) (by omega)
      rw [hlen] at hat
      rw [hat] at hct
      have hfr := hLk.frozen (off + k)
      have hcy := HC.out k
      have hxg := HX.out.good.get k
      have hpg := hG.get (off + k)
      have hmul := mul_bd hxg hy
      have HS : Hid ((mulK (cs.drop off) xs y (k + 1)).2 = ((mulK (cs.drop off) xs y k).2 + (xs[k]?.getD 0 * y + cs[off + k]?.getD 0)) / 4294967296) := by
        show ((mulK (cs.drop off) xs y k).2 + (xs[k]?.getD 0 * y + (cs.drop off)[k]?.getD 0)) / 4294967296 = _
        rw [List.getElem?_drop]
      have HS1 : Hid ((mulK (cs.drop off) xs y (k + 1)).1 = (mulK (cs.drop off) xs y k).1 ++ [((mulK (cs.drop off) xs y k).2 + (xs[k]?.getD 0 * y + cs[off + k]?.getD 0)) % 4294967296]) := by
        show (mulK (cs.drop off) xs y k).1 ++ [((mulK (cs.drop off) xs y k).2 + (xs[k]?.getD 0 * y + (cs.drop off)[k]?.getD 0)) % 4294967296] = _
        rw [List.getElem?_drop]
      have HK := Lib.hid hLk
      have HSet := Lib.hid (spl_set (cs := cs) (off := off) (ts := (mulK (cs.drop off) xs y k).1) (((mulK (cs.drop off) xs y k).2 + (xs[k]?.getD 0 * y + cs[off + k]?.getD 0)) % 4294967296) (by omega))
      have HLen := Lib.hid hlen
      clear hLk hat hlen
      go_wp2
      go_roundw
      case rel =>
        refine ⟨k + 1, by omega, by go_num, ?_, ?_, grownBy_trans hgk (grownBy_setCellAt _ _ _ _)⟩
        · rw [HS.out]
          refine congrArg (Value.int IntKind.u64) ?_
          simp only [Int.natCast_ediv, Int.natCast_add, Int.natCast_mul]
          rfl
        · have e := HK.out.set_ (off + k) (((mulK (cs.drop off) xs y k).2 + (xs[k]?.getD 0 * y + cs[off + k]?.getD 0)) % 4294967296)
          have e2 := HSet.out
          rw [HLen.out] at e2
          rw [e2, ← HS1.out] at e
          simp only [Int.natCast_emod, Int.natCast_add, Int.natCast_mul] at e
          exact e
      case measure => simp [intOf]; omega
    · obtain rfl : k = n := by omega
      have hcy := HC.out k
      go_wp2
      go_ret
      exact ⟨rfl, hLk, hgk⟩

end Go.Proofs.YtbplbbkmfbjkfaaGreatDoor

/- wide.empty: how many limbs 0 a list begins with; the rest of a list. -/
namespace Go.Proofs.YtbplbbkmfbjkfaaGreatDoor
open Go.RowKit

/-- How many zeros a list begins with. -/
def ez : List Nat → Nat
  | [] => 0
  | x :: r => if x = 0 then ez r + 1 else 0
theorem ez_le (xs : List Nat) : ez xs ≤ xs.length := by
  induction xs with
  | nil => exact Nat.le_refl _
  | cons x r ih => unfold ez; split <;> simp <;> omega
theorem ez_val (xs : List Nat) : val xs = 4294967296 ^ ez xs * val (xs.drop (ez xs)) := by
  induction xs with
  | nil => simp [ez, val_nil]
  | cons x r ih =>
    unfold ez
    split
    · rename_i h
      subst h
      rw [List.drop_succ_cons, val_cons, Nat.pow_succ, Nat.zero_add]
      conv => lhs; rw [ih]
      rw [← Nat.mul_assoc, Nat.mul_comm 4294967296]
    · simp
theorem ez_end (xs : List Nat) {k : Nat} (hk : xs.length ≤ k) : ez (xs.drop k) = 0 := by rw [List.drop_of_length_le hk]; rfl
theorem ez_zero {xs : List Nat} {k : Nat} (hk : k < xs.length) (hz : xs[k]?.getD 0 = 0) : ez (xs.drop k) = ez (xs.drop (k + 1)) + 1 := by
  rw [drop_cons_ _ _ hk, hz]
  show (if (0 : Nat) = 0 then ez (xs.drop (k + 1)) + 1 else 0) = _
  rw [if_pos rfl]
theorem ez_ne {xs : List Nat} {k : Nat} (hk : k < xs.length) (hz : xs[k]?.getD 0 ≠ 0) : ez (xs.drop k) = 0 := by
  rw [drop_cons_ _ _ hk]
  show (if xs[k]?.getD 0 = 0 then ez (xs.drop (k + 1)) + 1 else 0) = 0
  rw [if_neg hz]
/-- The rest of a list in memory. -/
theorem Lm.drop {w : World} {B n c : Nat} {A : Option Addr} {xs : List Nat} (h : Lm w B A n c xs) {e : Nat} (he : e ≤ n) : Lm w B (if c = e then A else A.map (·.add e)) (n - e) (c - e) (xs.drop e) := by
  have hc := h.cap
  have hm := h.max
  refine ⟨by rw [List.length_drop, h.len], h.good.drop _, by omega, by omega, fun hn => ?_, fun hp => ?_⟩
  · by_cases hce : c = e
    · omega
    · rw [if_neg hce] at hn
      have := h.nil_ (by cases A with
        | none => rfl
        | some a => cases hn)
      omega
  · obtain ⟨b, off, hA, hb, hcell⟩ := h.at_ (by omega)
    have hce : ¬ c = e := by omega
    refine ⟨b, off + e, ?_, hb, fun j hj => ?_⟩
    · rw [if_neg hce, hA]
      show some ((⟨b, off, none⟩ : Addr).add e) = _
      rw [add_lit]
    · rw [Nat.add_assoc, hcell (e + j) (by omega), List.getElem?_drop]

set_option maxRecDepth 100000 in
set_option maxHeartbeats 400000 in
theorem empty_any (w : World) (B : Nat) (A : Option Addr) (n c : Nat) (xs : List Nat) (h : Lm w B A n c xs) :
    Calls Tryz.prog 137 #[.slice A n c] w fun e w' => e = .returned (.int .i64 (ez xs : Nat)) ∧ w = w' := by
  have hr := h.max
  have hcn := h.cap
  have hln := h.len
  go_enter Tryz.func137, Tryz.ntmps137
  go_wp2
  go_loop [3] (fun v => ∃ k : Nat, k ≤ n ∧ v = .int .i64 k ∧ ez xs = k + ez (xs.drop k)) (fun v => n - (intOf v).toNat)
  case atStart => exact ⟨0, Nat.zero_le _, rfl, by simp⟩
  case round =>
    obtain ⟨k, hk, rfl, ht⟩ := hrel
    have HT := Lib.hid ht
    clear ht
    by_cases hkn : k < n
    · obtain ⟨b, off, rfl, hb, hck⟩ := h.cell (k := k) hkn
      obtain ⟨x, hx⟩ : ∃ x, xs[k]?.getD 0 = x := ⟨_, rfl⟩
      have HXK := Lib.hid hx
      rw [hx] at hck
      clear hx
      by_cases hz : x = 0
      · have HZ : Hid (xs[k]?.getD 0 = 0) := HXK.out.trans hz
        have hck0 : w.cell? ⟨b, off + k, none⟩ = some (.int .u32 0) := by rw [hck, hz]; rfl
        clear hck hz
        go_wp2
        go_round
        case rel => exact ⟨k + 1, by omega, by go_num, by rw [HT.out, ez_zero (by omega) HZ.out]; omega⟩
        case measure => simp [intOf]; omega
      · have HZ : Hid (xs[k]?.getD 0 ≠ 0) := fun e => hz (HXK.out.symm.trans e)
        have hz' : ((x : Int) == 0) = false := by simp [hz]
        have hz2 : decide ((x : Int) = 0) = false := by simp [hz]
        clear hz
        go_wp2
        go_ret
        exact ⟨ret_int (by rw [HT.out, ez_ne (by omega) HZ.out]; simp), rfl⟩
    · obtain rfl : k = n := by omega
      go_wp2
      go_ret
      exact ⟨ret_int (by rw [HT.out, ez_end _ (by omega)]; simp), rfl⟩
end Go.Proofs.YtbplbbkmfbjkfaaGreatDoor

/-
  The contract of wide.product, in either order of the two lists.
-/
namespace Go.Proofs.YtbplbbkmfbjkfaaGreatDoor
open Go.RowKit

theorem zer_app_val (s : Nat) (ys : List Nat) : val (zer s ++ ys) = 4294967296 ^ s * val ys := by
  have h := zer_val s s
  rw [List.take_of_length_le (by rw [zer_len]; exact Nat.le_refl _)] at h
  rw [val_append, h, zer_len]; omega
theorem zer_app_get (s k : Nat) (ys : List Nat) : (zer s ++ ys)[s + k]?.getD 0 = ys[k]?.getD 0 := by
  rw [List.getElem?_append_right (by rw [zer_len]; omega), zer_len, Nat.add_sub_cancel_left]
theorem zer_app_take (s : Nat) (ys : List Nat) : val ((zer s ++ ys).take s) = 0 := by
  rw [List.take_left' (zer_len s)]
  have h := zer_val s s
  rwa [List.take_of_length_le (by rw [zer_len]; exact Nat.le_refl _)] at h
theorem slc {A : Option Addr} {n n' c c' : Nat} (h : n = n') (k : c = c') : Value.slice A n c = Value.slice A n' c' := by rw [h, k]

set_option maxRecDepth 100000 in
set_option maxHeartbeats 1000000 in
theorem product_ge (w : World) (A0 B0 : Option Addr) (n0 m0 ca0 cb0 : Nat) (xs0 ys0 : List Nat) (v : Nat) (hA0 : Lm w w.heap.size A0 n0 ca0 xs0) (hB0 : Lm w w.heap.size B0 m0 cb0 ys0) (hcmp : m0 - ez ys0 ≤ n0 - ez xs0) (hn0 : n0 ≤ 100000000) (hm0 : m0 ≤ 100000000) (hv0 : val xs0 * val ys0 = v) :
    Calls Tryz.prog 111 #[.slice A0 n0 ca0, .slice B0 m0 cb0] w fun e w' => ∃ A' c', e = .returned (.slice A' (digs v).length c') ∧ Lm w' w'.heap.size A' (digs v).length c' (digs v) ∧ Below w.heap.size w w' := by
  have hx1 := ez_le xs0
  have hy1 := ez_le ys0
  rw [hA0.len] at hx1
  rw [hB0.len] at hy1
  have hAd := hA0.drop hx1
  have hBd := hB0.drop hy1
  have hv : val (xs0.drop (ez xs0)) * val (zer (ez xs0 + ez ys0) ++ ys0.drop (ez ys0)) = v := by
    rw [ez_val xs0, ez_val ys0] at hv0
    rw [← hv0, zer_app_val, Nat.pow_add]
    ac_rfl
  have cE1 := fun W (h : Lm W w.heap.size A0 n0 ca0 xs0) => empty_any W _ A0 n0 ca0 xs0 h
  have cE2 := fun W (h : Lm W w.heap.size B0 m0 cb0 ys0) => empty_any W _ B0 m0 cb0 ys0 h
  have h01 := hA0.cap
  have h02 := hA0.max
  have h03 := hB0.cap
  have h04 := hB0.max
  generalize ez xs0 = ex at *
  generalize ez ys0 = ey at *
  have HA0 := Lib.hid hA0
  have HB0 := Lib.hid hB0
  have CE1 := Lib.hid cE1
  have CE2 := Lib.hid cE2
  have HAd := Lib.hid hAd
  have HBd := Lib.hid hBd
  have HV := Lib.hid hv
  clear hA0 hB0 cE1 cE2 hAd hBd hv hv0
  go_enter Tryz.func111, Tryz.ntmps111
  go_wp2_with fail
  refine (CE1.out _ HA0.out).mono ?_
  rintro e w1 ⟨rfl, rfl⟩
  go_wp2_with fail
  refine (CE2.out _ HB0.out).mono ?_
  rintro e w1 ⟨rfl, rfl⟩
  go_upto_region 2 with (fail)
  obtain ⟨A, hA⟩ : ∃ A, (if ca0 = ex then A0 else A0.map (·.add ex)) = A := ⟨_, rfl⟩
  obtain ⟨B, hB⟩ : ∃ B, (if cb0 = ey then B0 else B0.map (·.add ey)) = B := ⟨_, rfl⟩
  rw [hA] at HAd
  rw [hB] at HBd
  have HEA := Lib.hid hA
  have HEB := Lib.hid hB
  clear hA hB
  go_cut [0, 1] (fun s0 s1 wx => s0 = .slice A (n0 - ex : Nat) (ca0 - ex : Nat) ∧ s1 = .slice B (m0 - ey : Nat) (cb0 - ey : Nat) ∧ wx = w.drew)
  case first =>
    have hA := HEA.out
    have hB := HEB.out
    by_cases c1 : ca0 = ex <;> by_cases c2 : cb0 = ey
    all_goals
      first | rw [if_pos c1] at hA | rw [if_neg c1] at hA
      first | rw [if_pos c2] at hB | rw [if_neg c2] at hB
      subst hA
      subst hB
      try subst c1
      try subst c2
      clear HEA HEB HAd HBd HV
      go_region_held3 (fun X => X = w.drew)
        (first | rfl | assumption)
        (first
         | (go_at_call_of 137 (Value.slice A0 n0 ca0); refine (CE1.out _ HA0.out.drew).mono ?_; rintro e w1 ⟨rfl, rfl⟩)
         | (go_at_call_of 137 (Value.slice B0 m0 cb0); refine (CE2.out _ HB0.out.drew).mono ?_; rintro e w1 ⟨rfl, rfl⟩)
         | fail)
      all_goals
        go_wp2_with fail
        go_meet
        exact ⟨by first | rfl | exact slc (by omega) (by omega), by first | rfl | exact slc (by omega) (by omega), rfl⟩
  case rest =>
    obtain ⟨rfl, rfl, rfl⟩ := hcut
    have hAW : Lm w.drew w.drew.heap.size A (n0 - ex) (ca0 - ex) (xs0.drop ex) := HAd.out.drew
    have hBW : Lm w.drew w.drew.heap.size B (m0 - ey) (cb0 - ey) (ys0.drop ey) := HBd.out.drew
    have hsW : w.drew.heap.size = w.heap.size := rfl
    have HW0 : Hid (Below w.heap.size w w.drew ∧ w.drew.heap.size = w.heap.size) := ⟨(Below.refl _ _).drew, rfl⟩
    have hv := HV.out
    have hsk : ex + ey ≤ 200000000 := by omega
    have hn : n0 - ex ≤ 100000000 := by omega
    have hm : m0 - ey ≤ 100000000 := by omega
    clear HA0 HB0 CE1 CE2 HAd HBd HEA HEB HV hsW h01 h02 h03 h04 hx1 hy1 hn0 hm0
    have hc : (ex : Int) + (ey : Int) = ((ex + ey : Nat) : Int) := by omega
    rw [hc]
    clear hc
    generalize ex + ey = sk at *
    generalize n0 - ex = n at *
    generalize m0 - ey = m at *
    generalize ca0 - ex = ca at *
    generalize cb0 - ey = cb at *
    generalize xs0.drop ex = xs at *
    generalize ys0.drop ey = ys at *
    generalize w.drew = W at *
    clear A0 B0 n0 m0 ca0 cb0 xs0 ys0 ex ey
    have h1 := hAW.cap
    have h2 := hAW.max
    have h3 := hBW.cap
    have h4 := hBW.max
    have HA := Lib.hid hAW
    have HB := Lib.hid hBW
    have hB0 := hBW.good
    have HV := Lib.hid hv
    clear hAW hBW hv
    have hdec : decide (n < m) = false := by simp; omega
    have hmk := fun W => run_make_u32 ((sk : Int) + (n : Int) + (m : Int)) ((sk : Int) + (n : Int) + (m : Int)) (sk + n + m) (by omega) (by omega) (by omega) W
    go_wp2
    clear hmk
    go_loopw [39] (fun i wr => ∃ (k : Nat) (ps : List Nat), k ≤ m ∧ i = .int .i64 k ∧ Ld wr W.heap.size ps ∧ Good ps ∧ ps.length = n + (sk + m) ∧ val (ps.take (n + (k + sk))) = val xs * val ((zer sk ++ ys).take (k + sk)) ∧ Below W.heap.size W wr) (fun i _ => m - (intOf i).toNat)
    case atStart => exact ⟨0, zer (sk + n + m), Nat.zero_le _, rfl, Ld.new _ _, zer_good _, by rw [zer_len]; omega, by rw [zer_val, Nat.zero_add, zer_app_take]; rfl, (Below.refl _ _).alloc (Nat.le_refl _) _⟩
    case round =>
      obtain ⟨k, ps, hk, rfl, hL, hG, hlen, hval, hb⟩ := hrel
      have HL := Lib.hid hL
      have HG := Lib.hid hG
      have HLen := Lib.hid hlen
      have HVal := Lib.hid hval
      have HBl := Lib.hid hb
      clear hL hG hlen hval hb
      by_cases hlt : k < m
      · obtain ⟨b, bo, rfl, hbb, hcy⟩ := (HB.out.below HBl.out).cell hlt
        have hne : ¬ (sk + n + m = k + sk) := by omega
        have hyg := hB0.get k
        have HS : Hid (val ((spl ps (k + sk) ((mulK (ps.drop (k + sk)) xs (ys[k]?.getD 0) n).1 ++ [(mulK (ps.drop (k + sk)) xs (ys[k]?.getD 0) n).2])).take (n + (k + 1 + sk))) = val xs * val ((zer sk ++ ys).take (k + 1 + sk))) := by
          have h := prod_step (m := sk + m) (k := k + sk) HA.out.len HLen.out (by omega) HVal.out
          rw [show (zer sk ++ ys)[k + sk]?.getD 0 = ys[k]?.getD 0 by rw [Nat.add_comm k sk]; exact zer_app_get _ _ _] at h
          rw [show k + 1 + sk = k + sk + 1 by omega]
          exact h
        have HX := Lib.hid (HA.out.below HBl.out)
        go_wp2_with fail
        refine (addProduct_any wr W.heap.size (k + sk) (sk + n + m - (k + sk)) (sk + n + m - (k + sk)) n ca A ps xs (ys[k]?.getD 0) HL.out HG.out HX.out hyg (by omega) (Nat.le_refl _) (by omega) (by rw [HLen.out]; omega) (by omega)).mono ?_
        rintro e w1 ⟨rfl, hL1, hg1⟩
        have hml := mulK_len (ps.drop (k + sk)) xs (ys[k]?.getD 0) n
        have hsl : (spl ps (k + sk) (mulK (ps.drop (k + sk)) xs (ys[k]?.getD 0) n).1).length = n + (sk + m) := by rw [spl_len (by rw [hml, HLen.out]; omega), HLen.out]
        have hct := hL1.cell (i := k + sk + n) (by rw [hsl]; omega)
        have hfr := hL1.frozen (k + sk + n)
        have HL1 := Lib.hid hL1
        have HG1 := Lib.hid hg1
        have HML := Lib.hid hml
        clear hL1 hg1 hml hsl
        go_wp2
        go_roundw
        case rel =>
          have e2 := HL1.out.set_ (k + sk + n) (mulK (ps.drop (k + sk)) xs (ys[k]?.getD 0) n).2
          have e3 := spl_set (cs := ps) (off := k + sk) (ts := (mulK (ps.drop (k + sk)) xs (ys[k]?.getD 0) n).1) (mulK (ps.drop (k + sk)) xs (ys[k]?.getD 0) n).2 (by rw [HML.out, HLen.out]; omega)
          rw [HML.out] at e3
          rw [e3] at e2
          have hl2 : k + sk + ((mulK (ps.drop (k + sk)) xs (ys[k]?.getD 0) n).1 ++ [(mulK (ps.drop (k + sk)) xs (ys[k]?.getD 0) n).2]).length ≤ ps.length := by
            rw [List.length_append, HML.out, HLen.out]
            show k + sk + (n + 1) ≤ n + (sk + m)
            omega
          refine ⟨k + 1, _, by omega, by go_num, e2, ?_, ?_, HS.out, ?_⟩
          · exact spl_good HG.out ((mulK_good _ _ _ _).append (Good.nil.cons (mulK_carry (HG.out.drop _) HA.out.good hyg n)))
          · rw [spl_len hl2, HLen.out]
          · exact (HBl.out.grown HG1.out (by have := HBl.out.size; omega) (fun b e => by injection e with e; omega)).setCell (p := ⟨W.heap.size, k + sk + n, none⟩) (Nat.le_refl _) _
        case measure => simp [intOf]; omega
      · obtain rfl : k = m := by omega
        have hvs : Hid (val ps = v) := by
          have e := HVal.out
          rw [List.take_of_length_le (by rw [HLen.out]; omega), List.take_of_length_le (by rw [List.length_append, zer_len, HB.out.len]; omega), HV.out] at e
          exact e
        have hlm : Hid (Lm wr wr.heap.size (some ⟨W.heap.size, 0, none⟩) (sk + n + k) (sk + n + k) ps) := by
          have e := HL.out.lm HG.out (off := 0) (n := sk + n + k) (c := sk + n + k) (by rw [HLen.out]; omega) (Nat.le_refl _) (by omega)
          rw [List.drop_zero, List.take_of_length_le (by rw [HLen.out]; omega)] at e
          exact e
        go_wp2_with fail
        refine (trim_any _ _ _ _ _ _ v hlm.out hvs.out).mono ?_
        rintro e w1 ⟨rfl, rfl⟩
        go_wp2
        go_ret
        exact ⟨_, _, rfl, hlm.out.trim' hvs.out, HW0.out.1.trans (HBl.out.mono (Nat.le_of_eq HW0.out.2.symm))⟩
set_option maxRecDepth 100000 in
set_option maxHeartbeats 1000000 in
theorem product_lt (w : World) (A0 B0 : Option Addr) (n0 m0 ca0 cb0 : Nat) (xs0 ys0 : List Nat) (v : Nat) (hA0 : Lm w w.heap.size A0 n0 ca0 xs0) (hB0 : Lm w w.heap.size B0 m0 cb0 ys0) (hcmp : m0 - ez ys0 < n0 - ez xs0) (hn0 : n0 ≤ 100000000) (hm0 : m0 ≤ 100000000) (hv0 : val xs0 * val ys0 = v) :
    Calls Tryz.prog 111 #[.slice B0 m0 cb0, .slice A0 n0 ca0] w fun e w' => ∃ A' c', e = .returned (.slice A' (digs v).length c') ∧ Lm w' w'.heap.size A' (digs v).length c' (digs v) ∧ Below w.heap.size w w' := by
  have hx1 := ez_le xs0
  have hy1 := ez_le ys0
  rw [hA0.len] at hx1
  rw [hB0.len] at hy1
  have hAd := hA0.drop hx1
  have hBd := hB0.drop hy1
  have hv : val (xs0.drop (ez xs0)) * val (zer (ez xs0 + ez ys0) ++ ys0.drop (ez ys0)) = v := by
    rw [ez_val xs0, ez_val ys0] at hv0
    rw [← hv0, zer_app_val, Nat.pow_add]
    ac_rfl
  have cE1 := fun W (h : Lm W w.heap.size A0 n0 ca0 xs0) => empty_any W _ A0 n0 ca0 xs0 h
  have cE2 := fun W (h : Lm W w.heap.size B0 m0 cb0 ys0) => empty_any W _ B0 m0 cb0 ys0 h
  have h01 := hA0.cap
  have h02 := hA0.max
  have h03 := hB0.cap
  have h04 := hB0.max
  generalize ez xs0 = ex at *
  generalize ez ys0 = ey at *
  have HA0 := Lib.hid hA0
  have HB0 := Lib.hid hB0
  have CE1 := Lib.hid cE1
  have CE2 := Lib.hid cE2
  have HAd := Lib.hid hAd
  have HBd := Lib.hid hBd
  have HV := Lib.hid hv
  clear hA0 hB0 cE1 cE2 hAd hBd hv hv0
  go_enter Tryz.func111, Tryz.ntmps111
  go_wp2_with fail
  refine (CE2.out _ HB0.out).mono ?_
  rintro e w1 ⟨rfl, rfl⟩
  go_wp2_with fail
  refine (CE1.out _ HA0.out).mono ?_
  rintro e w1 ⟨rfl, rfl⟩
  go_upto_region 2 with (fail)
  obtain ⟨A, hA⟩ : ∃ A, (if ca0 = ex then A0 else A0.map (·.add ex)) = A := ⟨_, rfl⟩
  obtain ⟨B, hB⟩ : ∃ B, (if cb0 = ey then B0 else B0.map (·.add ey)) = B := ⟨_, rfl⟩
  rw [hA] at HAd
  rw [hB] at HBd
  have HEA := Lib.hid hA
  have HEB := Lib.hid hB
  clear hA hB
  go_cut [0, 1] (fun s0 s1 wx => s0 = .slice B (m0 - ey : Nat) (cb0 - ey : Nat) ∧ s1 = .slice A (n0 - ex : Nat) (ca0 - ex : Nat) ∧ wx = w.drew)
  case first =>
    have hA := HEA.out
    have hB := HEB.out
    by_cases c1 : ca0 = ex <;> by_cases c2 : cb0 = ey
    all_goals
      first | rw [if_pos c1] at hA | rw [if_neg c1] at hA
      first | rw [if_pos c2] at hB | rw [if_neg c2] at hB
      subst hA
      subst hB
      try subst c1
      try subst c2
      clear HEA HEB HAd HBd HV
      go_region_held3 (fun X => X = w.drew)
        (first | rfl | assumption)
        (first
         | (go_at_call_of 137 (Value.slice A0 n0 ca0); refine (CE1.out _ HA0.out.drew).mono ?_; rintro e w1 ⟨rfl, rfl⟩)
         | (go_at_call_of 137 (Value.slice B0 m0 cb0); refine (CE2.out _ HB0.out.drew).mono ?_; rintro e w1 ⟨rfl, rfl⟩)
         | fail)
      all_goals
        go_wp2_with fail
        go_meet
        exact ⟨by first | rfl | exact slc (by omega) (by omega), by first | rfl | exact slc (by omega) (by omega), rfl⟩
  case rest =>
    obtain ⟨rfl, rfl, rfl⟩ := hcut
    have hAW : Lm w.drew w.drew.heap.size A (n0 - ex) (ca0 - ex) (xs0.drop ex) := HAd.out.drew
    have hBW : Lm w.drew w.drew.heap.size B (m0 - ey) (cb0 - ey) (ys0.drop ey) := HBd.out.drew
    have hsW : w.drew.heap.size = w.heap.size := rfl
    have HW0 : Hid (Below w.heap.size w w.drew ∧ w.drew.heap.size = w.heap.size) := ⟨(Below.refl _ _).drew, rfl⟩
    have hv := HV.out
    have hsk : ex + ey ≤ 200000000 := by omega
    have hn : n0 - ex ≤ 100000000 := by omega
    have hm : m0 - ey ≤ 100000000 := by omega
    clear HA0 HB0 CE1 CE2 HAd HBd HEA HEB HV hsW h01 h02 h03 h04 hx1 hy1 hn0 hm0
    have hc : (ey : Int) + (ex : Int) = ((ex + ey : Nat) : Int) := by omega
    rw [hc]
    clear hc
    generalize ex + ey = sk at *
    generalize n0 - ex = n at *
    generalize m0 - ey = m at *
    generalize ca0 - ex = ca at *
    generalize cb0 - ey = cb at *
    generalize xs0.drop ex = xs at *
    generalize ys0.drop ey = ys at *
    generalize w.drew = W at *
    clear A0 B0 n0 m0 ca0 cb0 xs0 ys0 ex ey
    have h1 := hAW.cap
    have h2 := hAW.max
    have h3 := hBW.cap
    have h4 := hBW.max
    have HA := Lib.hid hAW
    have HB := Lib.hid hBW
    have hB0 := hBW.good
    have HV := Lib.hid hv
    clear hAW hBW hv
    have hdec : decide (m < n) = true := by simpa using hcmp
    have hmk := fun W => run_make_u32 ((sk : Int) + (n : Int) + (m : Int)) ((sk : Int) + (n : Int) + (m : Int)) (sk + n + m) (by omega) (by omega) (by omega) W
    go_wp2
    clear hmk
    go_loopw [39] (fun i wr => ∃ (k : Nat) (ps : List Nat), k ≤ m ∧ i = .int .i64 k ∧ Ld wr W.heap.size ps ∧ Good ps ∧ ps.length = n + (sk + m) ∧ val (ps.take (n + (k + sk))) = val xs * val ((zer sk ++ ys).take (k + sk)) ∧ Below W.heap.size W wr) (fun i _ => m - (intOf i).toNat)
    case atStart => exact ⟨0, zer (sk + n + m), Nat.zero_le _, rfl, Ld.new _ _, zer_good _, by rw [zer_len]; omega, by rw [zer_val, Nat.zero_add, zer_app_take]; rfl, (Below.refl _ _).alloc (Nat.le_refl _) _⟩
    case round =>
      obtain ⟨k, ps, hk, rfl, hL, hG, hlen, hval, hb⟩ := hrel
      have HL := Lib.hid hL
      have HG := Lib.hid hG
      have HLen := Lib.hid hlen
      have HVal := Lib.hid hval
      have HBl := Lib.hid hb
      clear hL hG hlen hval hb
      by_cases hlt : k < m
      · obtain ⟨b, bo, rfl, hbb, hcy⟩ := (HB.out.below HBl.out).cell hlt
        have hne : ¬ (sk + n + m = k + sk) := by omega
        have hyg := hB0.get k
        have HS : Hid (val ((spl ps (k + sk) ((mulK (ps.drop (k + sk)) xs (ys[k]?.getD 0) n).1 ++ [(mulK (ps.drop (k + sk)) xs (ys[k]?.getD 0) n).2])).take (n + (k + 1 + sk))) = val xs * val ((zer sk ++ ys).take (k + 1 + sk))) := by
          have h := prod_step (m := sk + m) (k := k + sk) HA.out.len HLen.out (by omega) HVal.out
          rw [show (zer sk ++ ys)[k + sk]?.getD 0 = ys[k]?.getD 0 by rw [Nat.add_comm k sk]; exact zer_app_get _ _ _] at h
          rw [show k + 1 + sk = k + sk + 1 by omega]
          exact h
        have HX := Lib.hid (HA.out.below HBl.out)
        go_wp2_with fail
        refine (addProduct_any wr W.heap.size (k + sk) (sk + n + m - (k + sk)) (sk + n + m - (k + sk)) n ca A ps xs (ys[k]?.getD 0) HL.out HG.out HX.out hyg (by omega) (Nat.le_refl _) (by omega) (by rw [HLen.out]; omega) (by omega)).mono ?_
        rintro e w1 ⟨rfl, hL1, hg1⟩
        have hml := mulK_len (ps.drop (k + sk)) xs (ys[k]?.getD 0) n
        have hsl : (spl ps (k + sk) (mulK (ps.drop (k + sk)) xs (ys[k]?.getD 0) n).1).length = n + (sk + m) := by rw [spl_len (by rw [hml, HLen.out]; omega), HLen.out]
        have hct := hL1.cell (i := k + sk + n) (by rw [hsl]; omega)
        have hfr := hL1.frozen (k + sk + n)
        have HL1 := Lib.hid hL1
        have HG1 := Lib.hid hg1
        have HML := Lib.hid hml
        clear hL1 hg1 hml hsl
        go_wp2
        go_roundw
        case rel =>
          have e2 := HL1.out.set_ (k + sk + n) (mulK (ps.drop (k + sk)) xs (ys[k]?.getD 0) n).2
          have e3 := spl_set (cs := ps) (off := k + sk) (ts := (mulK (ps.drop (k + sk)) xs (ys[k]?.getD 0) n).1) (mulK (ps.drop (k + sk)) xs (ys[k]?.getD 0) n).2 (by rw [HML.out, HLen.out]; omega)
          rw [HML.out] at e3
          rw [e3] at e2
          have hl2 : k + sk + ((mulK (ps.drop (k + sk)) xs (ys[k]?.getD 0) n).1 ++ [(mulK (ps.drop (k + sk)) xs (ys[k]?.getD 0) n).2]).length ≤ ps.length := by
            rw [List.length_append, HML.out, HLen.out]
            show k + sk + (n + 1) ≤ n + (sk + m)
            omega
          refine ⟨k + 1, _, by omega, by go_num, e2, ?_, ?_, HS.out, ?_⟩
          · exact spl_good HG.out ((mulK_good _ _ _ _).append (Good.nil.cons (mulK_carry (HG.out.drop _) HA.out.good hyg n)))
          · rw [spl_len hl2, HLen.out]
          · exact (HBl.out.grown HG1.out (by have := HBl.out.size; omega) (fun b e => by injection e with e; omega)).setCell (p := ⟨W.heap.size, k + sk + n, none⟩) (Nat.le_refl _) _
        case measure => simp [intOf]; omega
      · obtain rfl : k = m := by omega
        have hvs : Hid (val ps = v) := by
          have e := HVal.out
          rw [List.take_of_length_le (by rw [HLen.out]; omega), List.take_of_length_le (by rw [List.length_append, zer_len, HB.out.len]; omega), HV.out] at e
          exact e
        have hlm : Hid (Lm wr wr.heap.size (some ⟨W.heap.size, 0, none⟩) (sk + n + k) (sk + n + k) ps) := by
          have e := HL.out.lm HG.out (off := 0) (n := sk + n + k) (c := sk + n + k) (by rw [HLen.out]; omega) (Nat.le_refl _) (by omega)
          rw [List.drop_zero, List.take_of_length_le (by rw [HLen.out]; omega)] at e
          exact e
        go_wp2_with fail
        refine (trim_any _ _ _ _ _ _ v hlm.out hvs.out).mono ?_
        rintro e w1 ⟨rfl, rfl⟩
        go_wp2
        go_ret
        exact ⟨_, _, rfl, hlm.out.trim' hvs.out, HW0.out.1.trans (HBl.out.mono (Nat.le_of_eq HW0.out.2.symm))⟩
theorem product_any (w : World) (A B : Option Addr) (n m ca cb : Nat) (xs ys : List Nat) (v : Nat) (hA : Lm w w.heap.size A n ca xs) (hB : Lm w w.heap.size B m cb ys) (hn : n ≤ 100000000) (hm : m ≤ 100000000) (hv : val xs * val ys = v) :
    Calls Tryz.prog 111 #[.slice A n ca, .slice B m cb] w fun e w' => ∃ A' c', e = .returned (.slice A' (digs v).length c') ∧ Lm w' w'.heap.size A' (digs v).length c' (digs v) ∧ Below w.heap.size w w' := by
  by_cases h : m - ez ys ≤ n - ez xs
  · exact product_ge w A B n m ca cb xs ys v hA hB h hn hm hv
  · exact product_lt w B A m n cb ca ys xs v hB hA (by omega) hm hn (by rw [Nat.mul_comm]; exact hv)

end Go.Proofs.YtbplbbkmfbjkfaaGreatDoor

/-
  The iterator slices.Backward over limbs: its contract, for every loop body that keeps what lay below a bound and the iterator's own box.
-/
namespace Go.Proofs.YtbplbbkmfbjkfaaGreatDoor
open Go.RowKit Go.Shelf
attribute [local go_sem] Oper.semAt_some

/-- What a round keeps: all below n₀, and the cell of the box Bs. -/
def KpB (n₀ Bs : Nat) (W W' : World) : Prop := Below n₀ W W' ∧ W'.cell? ⟨Bs, 0, none⟩ = W.cell? ⟨Bs, 0, none⟩
theorem kpB_t {n₀ Bs : Nat} {A B C : World} (h : KpB n₀ Bs A B) (k : KpB n₀ Bs B C) : KpB n₀ Bs A C := ⟨h.1.trans k.1, k.2.trans h.2⟩
theorem kpB_b {n₀ Bs : Nat} {w : World} (hn : n₀ ≤ w.heap.size) (hB : Bs < w.heap.size) (W : World) (l : Nat) (o o' : Obj) (hl : w.heap.size ≤ l) (h : W.heap[l]? = some o) (h1 : o.isCells = false) (h2 : o.isWalk = false) : KpB n₀ Bs W (W.putObj l o') :=
  ⟨belowK_b hn W l o o' hl h h1 h2, World.cell?_of_block (w := W) (World.putObj_heap_other (by show Bs ≠ l; omega))⟩

/-- The indices from n - 1 down to m. -/
def dsc (n m : Nat) : List Nat := (List.range (n - m)).map (fun j => n - 1 - j)
theorem dsc_self (n : Nat) : dsc n n = [] := by simp [dsc]
theorem dsc_succ {n m : Nat} (h : m < n) : dsc n m = dsc n (m + 1) ++ [m] := by
  unfold dsc
  rw [show n - m = n - (m + 1) + 1 from by omega, List.range_succ, List.map_append]
  congr 1
  simp
  omega
theorem dsc_len (n m : Nat) : (dsc n m).length = n - m := by simp [dsc]
theorem dsc_mem {n m j : Nat} : j ∈ dsc n m ↔ m ≤ j ∧ j < n := by
  unfold dsc
  rw [List.mem_map]
  constructor
  · rintro ⟨i, hi, rfl⟩
    rw [List.mem_range] at hi
    omega
  · rintro ⟨h1, h2⟩
    exact ⟨n - 1 - j, List.mem_range.2 (by omega), by omega⟩

abbrev Idx (n : Nat) := { j : Nat // j < n }

set_option maxRecDepth 100000 in
set_option maxHeartbeats 1000000 in
theorem back1_in (F : Fence) (n : Nat) (hf : F.fn 109) (hro : F.round = none) (hn : 1 ≤ n) (l Bs n₀ : Nat) (A : Option Addr) (len cap : Nat) (xs : List Nat) (J Jx : List (Idx len) → World → Prop)
    (hY : ∀ pre x W, J pre W → pre.length < len → YieldAt F (n - 1) Tryz.prog l #[.int .i64 (x.1 : Int), .int .u32 (xs[x.1]?.getD 0 : Nat)] W fun e W' =>
      (e = .returned (.bool true) ∧ J (pre ++ [x]) W' ∧ KpB n₀ Bs W W') ∨ (e = .returned (.bool false) ∧ Jx (pre ++ [x]) W'))
    (W : World) (hBs : W.cell? ⟨Bs, 0, none⟩ = some (.slice A len cap)) (hL : Lm W n₀ A len cap xs) (h0 : J [] W) :
    CallsIn F n Tryz.prog 109 #[.func (.yield l) #[] #[], .pointer (some ⟨Bs, 0, none⟩)] W fun e W' => (∃ v, e = .returned v) ∧
      ((∃ ys : List (Idx len), ys.map (·.1) = dsc len 0 ∧ J ys W') ∨ (∃ pre : List (Idx len), (∃ m, m ≤ len ∧ pre.map (·.1) = dsc len m) ∧ Jx pre W')) := by
  have hcap := hL.cap
  have hmax := hL.max
  refine callsIn_of_wp Tryz.func109 rfl hf ?_ hro
  simp only [Tryz.ntmps109, List.size_toArray, List.length_cons, List.length_nil, Nat.reduceAdd, Nat.reduceSub, Array.replicate_succ, Array.replicate_zero, List.push_toArray, List.append_toArray, List.nil_append, List.cons_append]
  gi_wp2
  gi_loopw [3] (fun i wr => ∃ (m : Nat) (pre : List (Idx len)), m ≤ len ∧ i = .int .i64 ((m : Int) - 1) ∧ pre.map (·.1) = dsc len m ∧ J pre wr ∧ KpB n₀ Bs W wr)
    (fun i _ => (intOf i + 1).toNat)
  case atStart => exact ⟨len, [], Nat.le_refl _, rfl, (dsc_self len).symm, h0, Below.refl _ _, rfl⟩
  case round =>
    obtain ⟨m, pre, hm, rfl, hpre, hJs, hnx⟩ := hrel
    have HP := Lib.hid hpre
    clear hpre
    have hbx : wr.cell? ⟨Bs, 0, none⟩ = some (.slice A len cap) := hnx.2.trans hBs
    rcases m with _ | m
    · gi_wp2
      go_end0
      exact ⟨⟨_, rfl⟩, .inl ⟨pre, HP.out, hJs⟩⟩
    · obtain ⟨b, off, rfl, hb, hc⟩ := hL.cell (k := m) (by omega)
      have hcx : wr.cell? ⟨b, off + m, none⟩ = some (.int .u32 (xs[m]?.getD 0 : Nat)) := (hnx.1.cell (p := ⟨b, off + m, none⟩) hb).trans hc
      have hlen : pre.length = len - (m + 1) := by
        have e := congrArg List.length HP.out
        rwa [List.length_map, dsc_len] at e
      obtain ⟨fn, tmps, assign, body, hy, hR⟩ := hY pre ⟨m, by omega⟩ wr hJs (by omega)
      dsimp only at hy
      have hmm : (((m + 1 : Nat) : Int) - 1) = (m : Int) := by omega
      rw [hmm]
      gi_wp2
      refine hR.mono ?_
      rintro e W3 (⟨rfl, hJ3, hk3⟩ | ⟨rfl, hJx3⟩)
      · gi_wp2
        go_roundw
        case rel => exact ⟨m, pre ++ [⟨m, by omega⟩], by omega, rfl, by rw [dsc_succ (by omega), List.map_append, HP.out]; rfl, hJ3, kpB_t hnx hk3⟩
        case measure => simp [intOf]
      · gi_wp2
        refine bodyPost_ret (results_none rfl _ _ _) rfl ?_
        exact ⟨⟨_, rfl⟩, .inr ⟨pre ++ [⟨m, by omega⟩], ⟨m, by omega, by rw [dsc_succ (by omega), List.map_append, HP.out]; rfl⟩, hJx3⟩⟩

set_option maxHeartbeats 1000000 in
theorem back_in (F : Fence) (n : Nat) (hf : F.fn 84) (hro : F.round = none) (a : Option Addr) (len cap : Nat) (w : World) :
    CallsIn F n Tryz.prog 84 #[.slice a len cap] w fun e w' => e = .returned (.func (.func 109) #[] #[.pointer (some ⟨w.heap.size, 0, none⟩)]) ∧ w' = w.alloc (.cells #[.slice a len cap] 22) := by
  refine callsIn_of_wp Tryz.func84 rfl hf ?_ hro
  simp only [Tryz.ntmps84, List.size_toArray, List.length_cons, List.length_nil, Nat.reduceAdd, Nat.reduceSub, Array.replicate_succ, Array.replicate_zero, List.push_toArray, List.append_toArray, List.nil_append, List.cons_append]
  gi_wp2
  go_ret
  exact ⟨rfl, rfl⟩

/-- The iterator of slices.Backward over limbs: the indices come from the last one down, each with its limb. -/
theorem back_stops (F : Fence) (n : Nat) (hf : F.fn 109) (hro : F.round = none) (hn : 1 ≤ n) (Bs n₀ : Nat) (A : Option Addr) (len cap : Nat) (xs : List Nat) (w : World) (hBs : Bs < w.heap.size) (hn₀ : n₀ ≤ w.heap.size)
    (hc : w.cell? ⟨Bs, 0, none⟩ = some (.slice A len cap)) (hL : Lm w n₀ A len cap xs) :
    SeqStopsK F n Tryz.prog 109 #[.pointer (some ⟨Bs, 0, none⟩)] (fun x : Idx len => #[Value.int .i64 (x.1 : Int), Value.int .u32 (xs[x.1]?.getD 0 : Nat)]) (KpB n₀ Bs)
      (fun ys => ys.map (·.1) = dsc len 0) (fun pre => ∃ m, m ≤ len ∧ pre.map (·.1) = dsc len m) len w := fun l J Jx W hW _ _ hY h0 =>
  back1_in F n hf hro hn l Bs n₀ A len cap xs J Jx hY W ((hW.cell (p := ⟨Bs, 0, none⟩) hBs).trans hc) (hL.below (hW.mono hn₀)) h0

end Go.Proofs.YtbplbbkmfbjkfaaGreatDoor

/-
  The contract of wide.compare: lists of limbs are compared, the highest ones first.
-/
namespace Go.Proofs.YtbplbbkmfbjkfaaGreatDoor
open Go.RowKit Go.Shelf
attribute [local go_sem] Oper.semAt_some

theorem cmpZ_nat (a b : Nat) : cmpZ (a : Int) (b : Int) = cmpN a b := by
  unfold cmpZ cmpN
  rcases Nat.lt_trichotomy a b with h | h | h
  · rw [if_pos (by omega), if_pos h]
  · subst h
    simp
  · rw [if_neg (by omega), if_neg (by omega), if_neg (by omega), if_neg (by omega)]
/-- Lists that agree at all indices from k on. -/
theorem drop_eq_of {xs ys : List Nat} {n : Nat} (hx : xs.length = n) (hy : ys.length = n) : ∀ (k : Nat), (∀ j, k ≤ j → j < n → xs[j]?.getD 0 = ys[j]?.getD 0) → xs.drop k = ys.drop k := by
  intro k h
  apply List.ext_getElem
  · simp [hx, hy]
  · intro i h1 h2
    rw [List.length_drop] at h1 h2
    rw [List.getElem_drop, List.getElem_drop]
    have e := h (k + i) (by omega) (by omega)
    rw [List.getElem?_eq_getElem (by omega), List.getElem?_eq_getElem (by omega)] at e
    exact e

set_option maxRecDepth 100000 in
set_option maxHeartbeats 2000000 in
theorem compare_in (F : Fence) (n : Nat) (h3 : F.fn 98) (h5 : F.fn 84) (h7 : F.fn 109) (h8 : F.fn 126) (hro : F.round = none) (hn : 4 ≤ n)
    (hcmp : ∀ (l : Nat) (a b : Int) (W : World), CallsIn (F.inRound l) (n - 1 - 1 - 1) Tryz.prog 126 #[.int .u32 a, .int .u32 b] W fun e w' => e = .returned (.int .i64 (cmpZ a b)) ∧ W = w')
    (A B : Option Addr) (len ca cb : Nat) (xs ys : List Nat) (w : World) (hA : Lm w w.heap.size A len ca xs) (hB : Lm w w.heap.size B len cb ys) :
    CallsIn F n Tryz.prog 98 #[.slice A len ca, .slice B len cb] w fun e W' => e = .returned (.int .i64 (cmpL xs ys)) ∧ Below w.heap.size w W' := by
  have h1 : 1 ≤ n := by omega
  have hcb := hB.cap
  have hmb := hB.max
  refine callsIn_of_wp_marks Tryz.func98 rfl h3 ?_ hro
  simp only [Tryz.ntmps98, List.size_toArray, List.length_cons, List.length_nil, Nat.reduceAdd, Nat.reduceSub, Array.replicate_succ, Array.replicate_zero, List.push_toArray, List.append_toArray, List.nil_append, List.cons_append]
  gi_wp2_with (gi_at_call 84; refine (back_in F (n - 1) h5 hro _ _ _ _).mono ?_; rintro e w' ⟨rfl, rfl⟩)
  have bB := Boxed.new w 22 (.slice B len cb)
  have bR := Boxed.new (w.alloc (.cells #[.slice B len cb] 22)) 3 (.int .i64 0)
  have bN := Boxed.new ((w.alloc (.cells #[.slice B len cb] 22)).alloc (.cells #[.int .i64 0] 3)) 22 (.slice A len ca)
  simp only [World.size_alloc] at bR bN
  have hB0 : Below w.heap.size w (((w.alloc (.cells #[.slice B len cb] 22)).alloc (.cells #[.int .i64 0] 3)).alloc (.cells #[.slice A len ca] 22)) := (((Below.refl _ w).alloc (Nat.le_refl _) _).alloc (by simp) _).alloc (by simp; omega) _
  refine wpIn_rangeFunc_ownG hro h1 (gf := 109) (lb := #[.pointer (some ⟨w.heap.size + 1 + 1, 0, none⟩)]) rfl h7 (enters_of Tryz.func109 (by kernel_rfl) rfl)
    (back_stops F (n - 1) h7 hro (by omega) (w.heap.size + 1 + 1) w.heap.size A len ca xs _ (by simp) (by simp; omega) bN.cell (hA.below hB0)) kpB_t (kpB_b (by simp; omega) (by simp)) (Below.refl _ _) (fun _ => rfl)
    (fun pre W => ((∀ k ∈ pre, xs[k.1]?.getD 0 = ys[k.1]?.getD 0) ∧ W.cell? ⟨w.heap.size, 0, none⟩ = some (.slice B len cb) ∧ W.cell? ⟨w.heap.size + 1, 0, none⟩ = some (.int .i64 0) ∧ W.frozen? ⟨w.heap.size + 1, 0, none⟩ = false) ∧ Below w.heap.size w W)
    (fun c pre W => (c = .ret ∧ ∃ ini last, pre = ini ++ [last] ∧ (∀ k ∈ ini, xs[k.1]?.getD 0 = ys[k.1]?.getD 0) ∧ xs[last.1]?.getD 0 ≠ ys[last.1]?.getD 0 ∧ W.cell? ⟨w.heap.size + 1, 0, none⟩ = some (.int .i64 (cmpZ (xs[last.1]?.getD 0 : Nat) (ys[last.1]?.getD 0 : Nat)))) ∧ Below w.heap.size w W)
    (OwnFrom.and (Own.from (fun s A B row hs hg hr => ⟨hs.1, cell_kept hs.2.1 hg hr, cell_kept hs.2.2.1 hg hr, (frozen_kept hs.2.2.1 hg hr).trans hs.2.2.2⟩) _) (ownFrom_below (Nat.le_refl _) (by simp; omega)))
    (fun c => OwnFrom.and (Own.from (fun s A B row hs hg hr => by obtain ⟨hc, ini, last, e1, e2, e3, e4⟩ := hs; exact ⟨hc, ini, last, e1, e2, e3, cell_kept e4 hg hr⟩) _) (ownFrom_below (Nat.le_refl _) (by simp; omega)))
    ⟨⟨by simp, ((bB.alloc _).alloc _).cell, (bR.alloc _).cell, (bR.alloc _).frozen⟩, hB0⟩
    (fun x => { tmps := #[.slice A len ca, .slice B len cb, undef, .pointer (some ⟨w.heap.size, 0, none⟩), .pointer (some ⟨w.heap.size + 1, 0, none⟩), .int .i64 (x.1 : Int), .int .u32 (xs[x.1]?.getD 0 : Nat), .slice A len ca, .int .i64 len, .slice B len cb, .int .i64 len, .bool false, undef, undef, undef, undef, undef, .slice A len ca, .func (.func 109) #[] #[.pointer (some ⟨w.heap.size + 1 + 1, 0, none⟩)], .int .i64 (x.1 : Int), .int .u32 (xs[x.1]?.getD 0 : Nat), undef, undef, undef, undef, undef, undef, undef, undef, undef, undef, undef, undef], defers := [] }) ?assign ?body ?done ?stop
  case assign =>
    intro l x W K hK
    gi_wp2
    exact hK
  case body =>
    rintro l pre ⟨k, hk⟩ W ⟨⟨hp, hcb0, hcr, hfr⟩, hBl⟩ _
    have HP := Lib.hid hp
    clear hp
    obtain ⟨b, off, rfl, hb, hc⟩ := (hB.below hBl).cell hk
    dsimp only
    by_cases hx : xs[k]?.getD 0 = ys[k]?.getD 0
    · have HX := Lib.hid hx
      have hx' : ((((xs[k]?.getD 0 : Nat) : Int) == ((ys[k]?.getD 0 : Nat) : Int))) = true := by simp [hx]
      have hx2 : ((((xs[k]?.getD 0 : Nat) : Int) != ((ys[k]?.getD 0 : Nat) : Int))) = false := by simp [hx]
      clear hx
      gi_wp2
      refine ⟨KeepsFrom.refl _ _, ⟨Below.refl _ _, rfl⟩, ⟨fun j hj => ?_, hcb0, hcr, hfr⟩, hBl⟩
      rcases List.mem_append.1 hj with hj | hj
      · exact HP.out j hj
      · have e := List.mem_singleton.1 hj
        subst e
        exact HX.out
    · have HX := Lib.hid hx
      have hx' : ((((xs[k]?.getD 0 : Nat) : Int) == ((ys[k]?.getD 0 : Nat) : Int))) = false := by simp; omega
      have hx2 : ((((xs[k]?.getD 0 : Nat) : Int) != ((ys[k]?.getD 0 : Nat) : Int))) = true := by simp; omega
      clear hx
      gi_wp2_with (refine ⟨fun _ => (by omega), ?_⟩; gi_at_call 126; refine (hcmp l _ _ _).mono ?_; rintro e w' ⟨rfl, rfl⟩)
      exact ⟨(KeepsOthers.setCell _ _ _).from _, ⟨rfl, pre, ⟨k, hk⟩, rfl, HP.out, HX.out, World.cell?_setCell_same' _ _ _ (by rw [hcr]; rfl)⟩, hBl.setCell (p := ⟨w.heap.size + 1, 0, none⟩) (by simp) _⟩
  case done =>
    rintro D zs W hD hzs ⟨⟨hne, hcb0, hcr, hfr⟩, hBl⟩ hK
    have HZ := Lib.hid hzs
    have HN := Lib.hid hne
    clear hzs hne
    gi_wp2
    have hK' := (KeepsOthers.setCell W ⟨w.heap.size + 1, 0, none⟩ (.int .i64 0)).same D _ hK rfl
    refine ⟨by simp, .inl ⟨_, _, rfl, run_takeDeferred hK', ?_⟩⟩
    have hc5 := cell_kept (World.cell?_setCell_same' W ⟨w.heap.size + 1, 0, none⟩ (.int .i64 0) (by rw [hcr]; rfl)) (grownBy_putObj' _ D (.deferred none)) (fun r e => by cases e; exact ⟨_, hK', rfl⟩)
    refine ⟨.int .i64 0, by simp [results, Tryz.f98, go_sem, hc5], ret_int ?_, (hBl.setCell (p := ⟨w.heap.size + 1, 0, none⟩) (by simp) _).trans (belowK_b (w := w) (Nat.le_refl _) _ D _ _ (by simp at hD; omega) hK' rfl rfl)⟩
    refine (cmpL_of_drop (drop_eq_of hA.len hB.len 0 fun j _ hj => ?_)).symm
    have hm : j ∈ zs.map (·.1) := by rw [HZ.out]; exact dsc_mem.2 ⟨Nat.zero_le _, hj⟩
    obtain ⟨k, hk, rfl⟩ := List.mem_map.1 hm
    exact HN.out k hk
  case stop =>
    rintro D c pre W hD ⟨k, hk, hpre⟩ ⟨⟨rfl, ini, last, e1, e2, e3, hcr⟩, hBl⟩ hK
    have H1 := Lib.hid e1
    have H2 := Lib.hid e2
    have H3 := Lib.hid e3
    have HP := Lib.hid hpre
    clear e1 e2 e3 hpre
    gi_wp2
    refine ⟨by simp, .inl ⟨_, _, rfl, run_takeDeferred hK, ?_⟩⟩
    have hc5 := cell_kept hcr (grownBy_putObj' _ D (.deferred none)) (fun r e => by cases e; exact ⟨_, hK, rfl⟩)
    refine ⟨_, by simp [results, Tryz.f98, go_sem, hc5]; rfl, ret_int ?_, hBl.trans (belowK_b (w := w) (Nat.le_refl _) W D _ _ (by simp at hD; omega) hK rfl rfl)⟩
    have hp := HP.out
    rw [H1.out, List.map_append] at hp
    have hkl : k < len := by
      rcases Nat.lt_or_ge k len with h | h
      · exact h
      · obtain rfl : k = len := by omega
        rw [dsc_self] at hp
        simp at hp
    rw [dsc_succ hkl] at hp
    obtain ⟨h5, h6⟩ := List.append_inj' hp rfl
    have h7 : last.1 = k := by simpa using h6
    rw [cmpZ_nat, h7]
    refine (cmpL_at hA.good hB.good hA.len hB.len hkl (drop_eq_of hA.len hB.len (k + 1) fun j h1 h2 => ?_) (by have h8 := H3.out; rwa [h7] at h8)).symm
    have hm : j ∈ ini.map (·.1) := by rw [h5]; exact dsc_mem.2 ⟨h1, h2⟩
    obtain ⟨i, hi, rfl⟩ := List.mem_map.1 hm
    exact H2.out i hi

theorem compare_eqlen (A B : Option Addr) (len ca cb : Nat) (xs ys : List Nat) (w : World) (hA : Lm w w.heap.size A len ca xs) (hB : Lm w w.heap.size B len cb ys) :
    Calls Tryz.prog 98 #[.slice A len ca, .slice B len cb] w fun e W' => e = .returned (.int .i64 (cmpL xs ys)) ∧ Below w.heap.size w W' :=
  (callsIn_wide (n := 6)).1 (compare_in Fence.wide 6 trivial trivial trivial trivial rfl (by omega) (fun l a b W => CallsIn.inRound l (callsIn_wide.2 (cmpu32_any W a b))) A B len ca cb xs ys w hA hB)

set_option maxRecDepth 100000 in
set_option maxHeartbeats 400000 in
theorem compare_len (A B : Option Addr) (n m ca cb : Nat) (xs ys : List Nat) (w : World) (hA : Lm w w.heap.size A n ca xs) (hB : Lm w w.heap.size B m cb ys) (hne : n ≠ m) :
    Calls Tryz.prog 98 #[.slice A n ca, .slice B m cb] w fun e W' => e = .returned (.int .i64 (cmpL xs ys)) ∧ Below w.heap.size w W' := by
  have h1 := hA.cap
  have h2 := hA.max
  have h3 := hB.cap
  have h4 := hB.max
  have HC : Hid (cmpL xs ys = cmpZ n m) := by
    show _ = _
    unfold cmpL cmpZ
    rw [hA.len, hB.len]
    rcases Nat.lt_or_ge n m with h | h
    · rw [if_pos h, if_pos (by omega)]
    · rw [if_neg (by omega), if_pos (by omega), if_neg (by omega), if_neg (by omega)]
  have hb : (((n : Int) == (m : Int))) = false := by simp; omega
  have hb2 : (((n : Int) != (m : Int))) = true := by simp; omega
  clear hne
  go_enter Tryz.func98, Tryz.ntmps98
  go_wp2_with (go_at_call 125; refine (cmpint_any _ _ _).mono ?_; rintro e w' ⟨rfl, rfl⟩)
  go_returns
  exact ⟨ret_int HC.out.symm, by go_grown⟩

theorem compare_any (A B : Option Addr) (n m ca cb : Nat) (xs ys : List Nat) (w : World) (hA : Lm w w.heap.size A n ca xs) (hB : Lm w w.heap.size B m cb ys) :
    Calls Tryz.prog 98 #[.slice A n ca, .slice B m cb] w fun e W' => e = .returned (.int .i64 (cmpL xs ys)) ∧ Below w.heap.size w W' := by
  by_cases h : n = m
  · subst h
    exact compare_eqlen A B n ca cb xs ys w hA hB
  · exact compare_len A B n m ca cb xs ys w hA hB h

end Go.Proofs.YtbplbbkmfbjkfaaGreatDoor

/-
  Contracts of wide.checkBoth, Cmp, Sign.
-/
namespace Go.Proofs.YtbplbbkmfbjkfaaGreatDoor
open Go.RowKit

def chkB (na : Bool) (xs : List Nat) (nb : Bool) (ys : List Nat) : Int := if chk na xs = 0 then chk nb ys else chk na xs
theorem chkB_ok {na nb : Bool} {xs ys : List Nat} : chkB na xs nb ys = 0 ↔ chk na xs = 0 ∧ chk nb ys = 0 := by
  unfold chkB
  split
  · next h => exact ⟨fun h2 => ⟨h, h2⟩, fun h2 => h2.2⟩
  · next h => exact ⟨fun h2 => absurd h2 h, fun h2 => absurd h2.1 h⟩
theorem chkB_cases (na : Bool) (xs : List Nat) (nb : Bool) (ys : List Nat) : chkB na xs nb ys = 0 ∨ chkB na xs nb ys = 8 := by
  unfold chkB
  split
  · exact chk_cases _ _
  · exact chk_cases _ _

set_option maxRecDepth 100000 in
set_option maxHeartbeats 400000 in
theorem both_any (w : World) (na nb : Bool) (A B : Option Addr) (n m ca cb : Nat) (xs ys : List Nat) (v : Int) (hA : Lm w w.heap.size A n ca xs) (hB : Lm w w.heap.size B m cb ys) (hv : chkB na xs nb ys = v) :
    Calls Tryz.prog 73 #[.agg #[.bool na, .slice A n ca], .agg #[.bool nb, .slice B m cb]] w fun e w' => e = .returned (.int .i64 v) ∧ Below w.heap.size w w' := by
  have HA := Lib.hid hA
  have HB := Lib.hid hB
  have HV := Lib.hid hv
  clear hv
  rcases chk_cases na xs with hc | hc
  · have HC := Lib.hid hc
    have HE : Hid (chkB na xs nb ys = chk nb ys) := by show _ = _; unfold chkB; rw [if_pos hc]
    clear hc
    go_enter Tryz.func73, Tryz.ntmps73
    go_wp2_with fail
    refine (check_ok _ _ _ _ _ _ ((HA.out.box _).box _) HC.out).mono ?_
    rintro e w1 ⟨rfl, hb1⟩
    have ⟨hx0, hx1, hy0, hy1, hf0, hf1, hsz⟩ := box2 hb1
    go_wp2_with fail
    refine (check_any _ _ _ _ _ _ (((HB.out.box _).box _).via hb1)).mono ?_
    rintro e w2 ⟨rfl, hb2⟩
    go_wp2
    go_ret
    exact ⟨ret_int (by rw [← HV.out, HE.out]), (bbox (bbox hb1)).trans (hb2.mono (by omega))⟩
  · have HC := Lib.hid hc
    have HE : Hid (chkB na xs nb ys = 8) := by show _ = _; unfold chkB; rw [if_neg (by omega), hc]
    clear hc
    go_enter Tryz.func73, Tryz.ntmps73
    go_wp2_with fail
    refine (check_bad _ _ _ _ _ _ ((HA.out.box _).box _) HC.out).mono ?_
    rintro e w1 ⟨rfl, hb1⟩
    have ⟨hx0, hx1, hy0, hy1, hf0, hf1, hsz⟩ := box2 hb1
    go_wp2
    go_ret
    exact ⟨ret_int (by rw [← HV.out, HE.out]), bbox (bbox hb1)⟩

def toI (neg : Bool) (v : Nat) : Int := if neg = true then -(v : Int) else (v : Int)
theorem cmp_toI {na nb : Bool} {a b : Nat} (ha : na = true → a ≠ 0) (hb : nb = true → b ≠ 0) :
    cmpZ (toI na a) (toI nb b) = if na = nb then sideZ na * cmpN a b else sideZ na := by
  cases na <;> cases nb
  · rw [if_pos rfl]
    show cmpZ (a : Int) (b : Int) = 1 * cmpN a b
    rw [cmpZ_nat, Int.one_mul]
  · have h := hb rfl
    rw [if_neg (by decide)]
    show cmpZ (a : Int) (-(b : Int)) = 1
    unfold cmpZ
    rw [if_neg (by omega), if_neg (by omega)]
  · have h := ha rfl
    rw [if_neg (by decide)]
    show cmpZ (-(a : Int)) (b : Int) = -1
    unfold cmpZ
    rw [if_pos (by omega)]
  · rw [if_pos rfl]
    show cmpZ (-(a : Int)) (-(b : Int)) = -1 * cmpN a b
    unfold cmpZ cmpN
    rcases Nat.lt_trichotomy a b with h | h | h
    · rw [if_neg (by omega), if_neg (by omega), if_pos h]; rfl
    · subst h; simp
    · rw [if_pos (by omega), if_neg (by omega), if_neg (by omega)]; rfl
theorem cmpN_cases (a b : Nat) : cmpN a b = -1 ∨ cmpN a b = 0 ∨ cmpN a b = 1 := by
  rcases Nat.lt_trichotomy a b with h | h | h
  · exact .inl (cmpN_lt h)
  · exact .inr (.inl (cmpN_eq.2 h))
  · exact .inr (.inr (cmpN_gt h))
theorem sideZ_cmp (neg : Bool) (a b : Nat) : -1 ≤ sideZ neg * cmpN a b ∧ sideZ neg * cmpN a b ≤ 1 := by
  unfold sideZ
  cases neg <;> rcases cmpN_cases a b with h | h | h <;> rw [h] <;> decide

set_option maxRecDepth 100000 in
set_option maxHeartbeats 400000 in
theorem cmp_ok (w : World) (na nb : Bool) (A B : Option Addr) (n m ca cb a b : Nat) (hA : Lm w w.heap.size A n ca (digs a)) (hB : Lm w w.heap.size B m cb (digs b)) (hv : chkB na (digs a) nb (digs b) = 0) :
    Calls Tryz.prog 92 #[.agg #[.bool na, .slice A n ca], .agg #[.bool nb, .slice B m cb]] w fun e w' => e = .returned (.tuple #[.int .i64 (cmpZ (toI na a) (toI nb b)), .int .i64 0]) ∧ Below w.heap.size w w' := by
  have HA := Lib.hid hA
  have HB := Lib.hid hB
  have HV := Lib.hid hv
  have hva := (chk_ok.1 (chkB_ok.1 hv).1).2.2
  have hvb := (chk_ok.1 (chkB_ok.1 hv).2).2.2
  rw [Ne, digs_nil] at hva hvb
  have HC := Lib.hid (cmp_toI hva hvb)
  have HN : Hid (cmpL (digs a) (digs b) = cmpN a b) := by show _ = _; rw [cmpL_norm (digs_good _) (digs_good _) (digs_norm _) (digs_norm _), digs_val, digs_val]
  clear hv hva hvb
  by_cases hne : na = nb
  · subst hne
    go_enter Tryz.func92, Tryz.ntmps92
    go_wp2_with (go_at_call 73; refine (both_any _ _ _ _ _ _ _ _ _ _ _ 0 ((HA.out.box _).box _) ((HB.out.box _).box _) HV.out).mono ?_; rintro e w1 ⟨rfl, hb1⟩; have ⟨hx0, hx1, hy0, hy1, hf0, hf1, hsz⟩ := box2 hb1)
    have HA1 := Lib.hid (((HA.out.box _).box _).via hb1)
    have HB1 := Lib.hid (((HB.out.box _).box _).via hb1)
    go_region_held3 (fun w' => (w'.cell? ⟨w.heap.size, 0, none⟩ = some (.bool na) ∧ w'.cell? ⟨w.heap.size, 1, none⟩ = some (.slice A n ca)) ∧ w'.cell? ⟨w.heap.size + 1, 1, none⟩ = some (.slice B m cb))
      (first | exact ⟨⟨hx0, hx1⟩, hy1⟩ | exact ⟨hk2, hky2.2⟩ | go_keep)
      (first
       | (go_at_call 75; refine (side_any _ _).mono ?_; rintro e w2 ⟨rfl, rfl⟩)
       | (go_at_call 98; refine (compare_any _ _ _ _ _ _ (digs a) (digs b) _ (by first | exact HA1.out | exact HA1.out.drew) (by first | exact HB1.out | exact HB1.out.drew)).mono ?_; rintro e w2 ⟨rfl, hb2⟩; have hk2 := keep2 hb2 (Nat.lt_of_succ_lt hsz) ⟨hx0, hx1⟩; have hky2 := keep2 hb2 hsz ⟨hy0, hy1⟩))
    go_wp2
    go_ret2
    refine ⟨ret2_int ?_ rfl, (bbox (bbox hb1)).drew.trans (hb2.mono (show w.heap.size ≤ w1.heap.size from by omega))⟩
    have h1 := HC.out
    rw [if_pos True.intro] at h1
    rw [h1, HN.out]
    exact IntWalk.i64_in _ (by have := sideZ_cmp na a b; omega)
  · have HE : Hid (cmpZ (toI na a) (toI nb b) = sideZ na) := by have h := HC.out; rwa [if_neg hne] at h
    clear HC HN
    cases na <;> cases nb
    · exact absurd rfl hne
    all_goals first
      | exact absurd rfl hne
      | (clear hne
         go_enter Tryz.func92, Tryz.ntmps92
         go_wp2_with (first
           | (go_at_call 73; refine (both_any _ _ _ _ _ _ _ _ _ _ _ 0 ((HA.out.box _).box _) ((HB.out.box _).box _) HV.out).mono ?_; rintro e w1 ⟨rfl, hb1⟩; have ⟨hx0, hx1, hy0, hy1, hf0, hf1, hsz⟩ := box2 hb1)
           | (go_at_call 75; refine (side_any _ _).mono ?_; rintro e w2 ⟨rfl, rfl⟩))
         go_ret2
         exact ⟨ret2_int HE.out.symm rfl, bbox (bbox hb1)⟩)

set_option maxRecDepth 100000 in
set_option maxHeartbeats 400000 in
theorem sign_bad (w : World) (neg : Bool) (A : Option Addr) (n c : Nat) (xs : List Nat) (h : Lm w w.heap.size A n c xs) (hc : chk neg xs = 8) :
    Calls Tryz.prog 40 #[.agg #[.bool neg, .slice A n c]] w fun e w' => e = .returned (.tuple #[.int .i64 0, .int .i64 8]) ∧ Below w.heap.size w w' := by
  have HH := Lib.hid h
  have HC := Lib.hid hc
  clear hc
  go_enter Tryz.func40, Tryz.ntmps40
  go_wp2_with (go_at_call 70; refine (check_bad _ _ _ _ _ _ (HH.out.box _) HC.out).mono ?_; rintro e w1 ⟨rfl, hb1⟩; have ⟨hcl, hfz⟩ := bcell hb1)
  go_ret2
  exact ⟨rfl, bbox hb1⟩

def signZ (neg : Bool) (v : Nat) : Int := if v = 0 then 0 else sideZ neg
set_option maxRecDepth 100000 in
set_option maxHeartbeats 400000 in
theorem sign_ok (w : World) (neg : Bool) (A : Option Addr) (n c v : Nat) (h : Lm w w.heap.size A n c (digs v)) (hc : chk neg (digs v) = 0) :
    Calls Tryz.prog 40 #[.agg #[.bool neg, .slice A n c]] w fun e w' => e = .returned (.tuple #[.int .i64 (signZ neg v), .int .i64 0]) ∧ Below w.heap.size w w' := by
  have HH := Lib.hid h
  have HC := Lib.hid hc
  clear hc
  have hl := h.len
  rcases n with _ | n
  · have hv : v = 0 := digs_nil.1 (List.eq_nil_of_length_eq_zero hl)
    have HS : Hid (signZ neg v = 0) := by show _ = _; unfold signZ; rw [if_pos hv]
    clear hl hv
    go_enter Tryz.func40, Tryz.ntmps40
    go_wp2_with (go_at_call 70; refine (check_ok _ _ _ _ _ _ (HH.out.box _) HC.out).mono ?_; rintro e w1 ⟨rfl, hb1⟩; have ⟨hcl, hfz⟩ := bcell hb1)
    go_ret2
    exact ⟨ret2_int HS.out.symm rfl, bbox hb1⟩
  · have hv : v ≠ 0 := by rintro rfl; simp [digs_zero] at hl
    have HS : Hid (signZ neg v = sideZ neg) := by show _ = _; unfold signZ; rw [if_neg hv]
    have hn0 : (((n + 1 : Nat) : Int) == 0) = false := by simp; omega
    clear hl hv
    go_enter Tryz.func40, Tryz.ntmps40
    go_wp2_with (first
      | (go_at_call 70; refine (check_ok _ _ _ _ _ _ (HH.out.box _) HC.out).mono ?_; rintro e w1 ⟨rfl, hb1⟩; have ⟨hcl, hfz⟩ := bcell hb1)
      | (go_at_call 75; refine (side_any _ _).mono ?_; rintro e w2 ⟨rfl, rfl⟩))
    go_ret2
    exact ⟨ret2_int HS.out.symm rfl, bbox hb1⟩

end Go.Proofs.YtbplbbkmfbjkfaaGreatDoor

/-
  The contract of wide.Mul.
-/
namespace Go.Proofs.YtbplbbkmfbjkfaaGreatDoor
open Go.RowKit

set_option maxRecDepth 100000 in
set_option maxHeartbeats 600000 in
theorem mul_big (w : World) (na nb : Bool) (A B : Option Addr) (n m ca cb a b : Nat) (hA : Lm w w.heap.size A n ca (digs a)) (hB : Lm w w.heap.size B m cb (digs b)) (hv : chkB na (digs a) nb (digs b) = 0) (hbig : 4096 < n + m - 1) :
    Calls Tryz.prog 87 #[.agg #[.bool na, .slice A n ca], .agg #[.bool nb, .slice B m cb]] w (RW w (mkN (na != nb) (a * b)) (mkL (a * b)) (mkE (a * b))) := by
  have h41 := (chk_ok.1 (chkB_ok.1 hv).1).1
  have h42 := (chk_ok.1 (chkB_ok.1 hv).2).1
  rw [hA.len] at h41
  rw [hB.len] at h42
  have hml := mul_len hA.len hB.len (by omega) (by omega)
  have HN : Hid (mkN (na != nb) (a * b) = false) := by show _ = _; unfold mkN; rw [decide_eq_false (by omega)]; rfl
  have HL : Hid (mkL (a * b) = []) := by show _ = _; unfold mkL; rw [if_neg (by omega)]
  have HE : Hid (mkE (a * b) = 16) := by show _ = _; unfold mkE; rw [if_neg (by omega)]
  have HA := Lib.hid hA
  have HB := Lib.hid hB
  have HV := Lib.hid hv
  clear hv hml
  go_enter Tryz.func87, Tryz.ntmps87
  go_wp2_with (go_at_call 73; refine (both_any _ _ _ _ _ _ _ _ _ _ _ 0 (((HA.out.box _).box _).box _) (((HB.out.box _).box _).box _) HV.out).mono ?_; rintro e w1 ⟨rfl, hb1⟩; have ⟨hx0, hx1, hy0, hy1, hz0, hz1, hf0, hf1, hsz⟩ := box3 hb1)
  rw [HN.out, HL.out, HE.out]
  exact post_ws Tryz.results87 rfl rfl hz0 hz1 ⟨none, 0, 0, rfl, Lm.nil _ _, below_set2 (bbox (bbox (bbox hb1))) (by omega) _ _⟩

set_option maxRecDepth 100000 in
set_option maxHeartbeats 600000 in
theorem mul_small (w : World) (na nb : Bool) (A B : Option Addr) (n m ca cb a b : Nat) (hA : Lm w w.heap.size A n ca (digs a)) (hB : Lm w w.heap.size B m cb (digs b)) (hv : chkB na (digs a) nb (digs b) = 0) (hbig : n + m - 1 ≤ 4096) :
    Calls Tryz.prog 87 #[.agg #[.bool na, .slice A n ca], .agg #[.bool nb, .slice B m cb]] w (RW w (mkN (na != nb) (a * b)) (mkL (a * b)) (mkE (a * b))) := by
  have h41 := (chk_ok.1 (chkB_ok.1 hv).1).1
  have h42 := (chk_ok.1 (chkB_ok.1 hv).2).1
  rw [hA.len] at h41
  rw [hB.len] at h42
  have HA := Lib.hid hA
  have HB := Lib.hid hB
  have HV := Lib.hid hv
  have HP : Hid (val (digs a) * val (digs b) = a * b) := by show _ = _; rw [digs_val, digs_val]
  clear hv
  go_enter Tryz.func87, Tryz.ntmps87
  go_wp2_with (go_at_call 73; refine (both_any _ _ _ _ _ _ _ _ _ _ _ 0 (((HA.out.box _).box _).box _) (((HB.out.box _).box _).box _) HV.out).mono ?_; rintro e w1 ⟨rfl, hb1⟩; have ⟨hx0, hx1, hy0, hy1, hz0, hz1, hf0, hf1, hsz⟩ := box3 hb1)
  have HA1 := Lib.hid ((((HA.out.box _).box _).box _).via hb1)
  have HB1 := Lib.hid ((((HB.out.box _).box _).box _).via hb1)
  have hs0 : w.heap.size < w1.heap.size := by omega
  have hs1 : w.heap.size + 1 < w1.heap.size := by omega
  go_region_held3 (fun w' => (w'.cell? ⟨w.heap.size, 0, none⟩ = some (.bool na) ∧ w'.cell? ⟨w.heap.size, 1, none⟩ = some (.slice A n ca)) ∧ (w'.cell? ⟨w.heap.size + 1, 0, none⟩ = some (.bool nb) ∧ w'.cell? ⟨w.heap.size + 1, 1, none⟩ = some (.slice B m cb)))
    (first | exact ⟨⟨hx0, hx1⟩, ⟨hy0, hy1⟩⟩ | exact ⟨hk2, hl2⟩ | exact ⟨hk3, hl3⟩ | exact ⟨far2 _ _ (by omega) hk3, far2 _ _ (by omega) hl3⟩ | go_keep)
    (first
     | (go_at_call 111; refine (product_any _ _ _ _ _ _ _ (digs a) (digs b) (a * b) (by first | exact HA1.out | exact HA1.out.drew) (by first | exact HB1.out | exact HB1.out.drew) (by omega) (by omega) HP.out).mono ?_; rintro e w2 ⟨A2, c2, rfl, hL2, hb2⟩; have B2 := ((Below.refl w1.heap.size w1).drew.trans hb2); have hk2 := keep2 B2 hs0 ⟨hx0, hx1⟩; have hl2 := keep2 B2 hs1 ⟨hy0, hy1⟩; have hz2 := keep2 B2 hsz ⟨hz0, hz1⟩; have hzf2 := keepF B2 hsz ⟨hf0, hf1⟩; have ht0 := Nat.lt_of_lt_of_le hs0 B2.size; have ht1 := Nat.lt_of_lt_of_le hs1 B2.size; have ht2 := Nat.lt_of_lt_of_le hsz B2.size)
     | (go_at_call 71; refine (made_any _ _ _ _ _ (a * b) hL2).mono ?_; rintro e w3 ⟨A3, n3, c3, rfl, hL3, hb3⟩; have hk3 := keep2 hb3 ht0 hk2; have hl3 := keep2 hb3 ht1 hl2; have hz3 := keep2 hb3 ht2 hz2; have ⟨hzf30, hzf31⟩ := keepF hb3 ht2 hzf2))
  go_wp2
  exact post_ws Tryz.results87 rfl rfl hz3.1 hz3.2 ⟨A3, n3, c3, rfl, hL3.set2 hz3.1 hz3.2 _ _,
    below_set2 (((bbox (bbox (bbox hb1))).trans (B2.mono (by omega))).trans (hb3.mono (by omega))) (by omega) _ _⟩

theorem mul_ok (w : World) (na nb : Bool) (A B : Option Addr) (n m ca cb a b : Nat) (hA : Lm w w.heap.size A n ca (digs a)) (hB : Lm w w.heap.size B m cb (digs b)) (hv : chkB na (digs a) nb (digs b) = 0) :
    Calls Tryz.prog 87 #[.agg #[.bool na, .slice A n ca], .agg #[.bool nb, .slice B m cb]] w (RW w (mkN (na != nb) (a * b)) (mkL (a * b)) (mkE (a * b))) := by
  by_cases h : 4096 < n + m - 1
  · exact mul_big w na nb A B n m ca cb a b hA hB hv h
  · exact mul_small w na nb A B n m ca cb a b hA hB hv (by omega)

end Go.Proofs.YtbplbbkmfbjkfaaGreatDoor

/-
  The iterator wide.columns: the limbs of two lists side by side, the lowest ones first.
-/
namespace Go.Proofs.YtbplbbkmfbjkfaaGreatDoor
open Go.RowKit Go.Shelf
attribute [local go_sem] Oper.semAt_some

set_option maxRecDepth 100000 in
set_option maxHeartbeats 1000000 in
theorem col1_in (F : Fence) (n : Nat) (hf : F.fn 169) (hfl : F.fn 130) (hro : F.round = none) (hn : 1 ≤ n)
    (hlimb : ∀ (W : World) (A : Option Addr) (m c : Nat) (xs : List Nat) (i : Int), Lm W W.heap.size A m c xs → 0 ≤ i → i ≤ 9223372036854775807 → CallsIn F (n - 1) Tryz.prog 130 #[.slice A m c, .int .i64 i] W fun e w' => e = .returned (.int .u64 (xs[i.toNat]?.getD 0 : Nat)) ∧ W = w')
    (l Ba Bb n₀ : Nat) (A B : Option Addr) (len m ca cb : Nat) (xs ys : List Nat) (J Jx : List (Idx len) → World → Prop)
    (hY : ∀ pre x W, J pre W → pre.length < len → YieldAt F (n - 1) Tryz.prog l #[.int .u64 (xs[x.1]?.getD 0 : Nat), .int .u64 (ys[x.1]?.getD 0 : Nat)] W fun e W' =>
      (e = .returned (.bool true) ∧ J (pre ++ [x]) W' ∧ KpB n₀ Bb W W') ∨ (e = .returned (.bool false) ∧ Jx (pre ++ [x]) W'))
    (W : World) (hBa : W.cell? ⟨Ba, 0, none⟩ = some (.slice A len ca)) (hBb : W.cell? ⟨Bb, 0, none⟩ = some (.slice B m cb)) (hA : Lm W n₀ A len ca xs) (hB : Lm W n₀ B m cb ys) (hn0 : n₀ ≤ W.heap.size) (h0 : J [] W) :
    CallsIn F n Tryz.prog 169 #[.func (.yield l) #[] #[], .pointer (some ⟨Ba, 0, none⟩), .pointer (some ⟨Bb, 0, none⟩)] W fun e W' => (∃ v, e = .returned v) ∧
      ((∃ zs : List (Idx len), zs.map (·.1) = List.range len ∧ J zs W') ∨ (∃ pre : List (Idx len), True ∧ Jx pre W')) := by
  have hcap := hA.cap
  have hmax := hA.max
  have HA := Lib.hid hA
  have HB := Lib.hid hB
  clear hA hB
  refine callsIn_of_wp Tryz.func169 rfl hf ?_ hro
  simp only [Tryz.ntmps169, List.size_toArray, List.length_cons, List.length_nil, Nat.reduceAdd, Nat.reduceSub, Array.replicate_succ, Array.replicate_zero, List.push_toArray, List.append_toArray, List.nil_append, List.cons_append]
  gi_wp2
  gi_loopw [8] (fun i wr => ∃ (k : Nat) (pre : List (Idx len)), k ≤ len ∧ i = .int .i64 k ∧ pre.map (·.1) = List.range k ∧ J pre wr ∧ KpB n₀ Bb W wr)
    (fun i _ => len - (intOf i).toNat)
  case atStart => exact ⟨0, [], Nat.zero_le _, rfl, rfl, h0, Below.refl _ _, rfl⟩
  case round =>
    obtain ⟨k, pre, hk, rfl, hpre, hJs, hnx⟩ := hrel
    have HP := Lib.hid hpre
    clear hpre
    have hbx : wr.cell? ⟨Bb, 0, none⟩ = some (.slice B m cb) := hnx.2.trans hBb
    by_cases hlt : k < len
    · have HBw := Lib.hid ((HB.out.below hnx.1).mono (Nat.le_trans hn0 hnx.1.size))
      obtain ⟨b, off, rfl, hb, hc⟩ := HA.out.cell hlt
      have hcx : wr.cell? ⟨b, off + k, none⟩ = some (.int .u32 (xs[k]?.getD 0 : Nat)) := (hnx.1.cell (p := ⟨b, off + k, none⟩) hb).trans hc
      have hg := HA.out.good.get k
      have hlen : pre.length = k := by
        have e := congrArg List.length HP.out
        rwa [List.length_map, List.length_range] at e
      obtain ⟨fn, tmps, assign, body, hy, hR⟩ := hY pre ⟨k, hlt⟩ wr hJs (by omega)
      dsimp only at hy
      clear hlen
      gi_wp2_with (gi_at_call 130; refine (hlimb _ _ _ _ ys _ HBw.out (by omega) (by omega)).mono ?_; rintro e w' ⟨rfl, rfl⟩)
      refine hR.mono ?_
      rintro e W3 (⟨rfl, hJ3, hk3⟩ | ⟨rfl, hJx3⟩)
      · gi_wp2
        go_roundw
        case rel => exact ⟨k + 1, pre ++ [⟨k, hlt⟩], by omega, by go_num, by rw [List.range_succ, List.map_append, HP.out]; rfl, hJ3, kpB_t hnx hk3⟩
        case measure => simp [intOf]; omega
      · gi_wp2
        refine bodyPost_ret (results_none rfl _ _ _) rfl ?_
        exact ⟨⟨_, rfl⟩, .inr ⟨pre ++ [⟨k, hlt⟩], trivial, hJx3⟩⟩
    · obtain rfl : k = len := by omega
      gi_wp2
      go_end0
      exact ⟨⟨_, rfl⟩, .inl ⟨pre, HP.out, hJs⟩⟩

set_option maxHeartbeats 1000000 in
theorem col_in (F : Fence) (n : Nat) (hf : F.fn 158) (hro : F.round = none) (a b : Option Addr) (len m ca cb : Nat) (w : World) :
    CallsIn F n Tryz.prog 158 #[.slice a len ca, .slice b m cb] w fun e w' => e = .returned (.func (.func 169) #[] #[.pointer (some ⟨w.heap.size, 0, none⟩), .pointer (some ⟨w.heap.size + 1, 0, none⟩)]) ∧ w' = (w.alloc (.cells #[.slice a len ca] 22)).alloc (.cells #[.slice b m cb] 22) := by
  refine callsIn_of_wp Tryz.func158 rfl hf ?_ hro
  simp only [Tryz.ntmps158, List.size_toArray, List.length_cons, List.length_nil, Nat.reduceAdd, Nat.reduceSub, Array.replicate_succ, Array.replicate_zero, List.push_toArray, List.append_toArray, List.nil_append, List.cons_append]
  gi_wp2
  go_ret
  exact ⟨rfl, rfl⟩

theorem col_stops (F : Fence) (n : Nat) (hf : F.fn 169) (hfl : F.fn 130) (hro : F.round = none) (hn : 1 ≤ n)
    (hlimb : ∀ (W : World) (A : Option Addr) (m c : Nat) (xs : List Nat) (i : Int), Lm W W.heap.size A m c xs → 0 ≤ i → i ≤ 9223372036854775807 → CallsIn F (n - 1) Tryz.prog 130 #[.slice A m c, .int .i64 i] W fun e w' => e = .returned (.int .u64 (xs[i.toNat]?.getD 0 : Nat)) ∧ W = w')
    (Ba Bb n₀ : Nat) (A B : Option Addr) (len m ca cb : Nat) (xs ys : List Nat) (w : World) (hBa : Ba < w.heap.size) (hBb : Bb < w.heap.size) (hn₀ : n₀ ≤ w.heap.size)
    (hca : w.cell? ⟨Ba, 0, none⟩ = some (.slice A len ca)) (hcb : w.cell? ⟨Bb, 0, none⟩ = some (.slice B m cb)) (hA : Lm w n₀ A len ca xs) (hB : Lm w n₀ B m cb ys) :
    SeqStopsK F n Tryz.prog 169 #[.pointer (some ⟨Ba, 0, none⟩), .pointer (some ⟨Bb, 0, none⟩)] (fun x : Idx len => #[Value.int .u64 (xs[x.1]?.getD 0 : Nat), Value.int .u64 (ys[x.1]?.getD 0 : Nat)]) (KpB n₀ Bb)
      (fun zs => zs.map (·.1) = List.range len) (fun _ => True) len w := fun l J Jx W hW _ _ hY h0 =>
  col1_in F n hf hfl hro hn hlimb l Ba Bb n₀ A B len m ca cb xs ys J Jx hY W ((hW.cell (p := ⟨Ba, 0, none⟩) hBa).trans hca) ((hW.cell (p := ⟨Bb, 0, none⟩) hBb).trans hcb) (hA.below (hW.mono hn₀)) (hB.below (hW.mono hn₀)) (Nat.le_trans hn₀ hW.size) h0

end Go.Proofs.YtbplbbkmfbjkfaaGreatDoor

