/- Lemmas, part 1. -/
import Derived.Lib.Hide
import Derived.Test.YtegpckhfncblhaaProg
import Derived.Handy
import Derived.WalkSpells
import Derived.WalkLawsBesides
import Derived.Laws.AppendOwnNone
import Derived.ProofKit
import Derived.SizedLaws
import Derived.Lib.SmallJoins
import Derived.Carry
import Derived.LoopTactic
import Derived.Deep.RegionHeld3
import Derived.Shelf.Strconv.Itoa0
import Derived.Shelf.Bits.Mul64
import Derived.Lib.ItoaNum
import Derived.Deep.QuietTactic
import Derived.BigQuiet
import Derived.Deep.DeepCutAuto
import Derived.Deep.CutBlock
/-
  Plain mathematics of limbs: lists of numbers below 2^32, lowest first, and the numbers that they stand for. No program is named here.
-/
namespace Go.Proofs.Ytegpckhfncblhaa

theorem pow_add_ (n m : Nat) : (4294967296 : Nat) ^ (n + m) = 4294967296 ^ n * 4294967296 ^ m := Nat.pow_add ..
theorem pow_pos_ (n : Nat) : 0 < (4294967296 : Nat) ^ n := Nat.pow_pos (by omega)
theorem pow_succ_ (n : Nat) : (4294967296 : Nat) ^ (n + 1) = 4294967296 * 4294967296 ^ n := by rw [Nat.pow_succ, Nat.mul_comm]
theorem pow_mono_ {n m : Nat} (h : n ≤ m) : (4294967296 : Nat) ^ n ≤ 4294967296 ^ m := Nat.pow_le_pow_right (by omega) h

def val : List Nat → Nat
  | [] => 0
  | x :: xs => x + 4294967296 * val xs
def Good (xs : List Nat) : Prop := ∀ x ∈ xs, x < 4294967296
def Norm (xs : List Nat) : Prop := xs.getLast? ≠ some 0
def digsF : Nat → Nat → List Nat
  | 0, _ => []
  | f + 1, n => if n = 0 then [] else n % 4294967296 :: digsF f (n / 4294967296)
def digs (n : Nat) : List Nat := digsF n n

theorem Good.nil : Good [] := fun _ h => by cases h
theorem Good.cons {x : Nat} {xs : List Nat} (hx : x < 4294967296) (h : Good xs) : Good (x :: xs) := by
  intro y hy
  rcases List.mem_cons.1 hy with rfl | hy
  · exact hx
  · exact h y hy
theorem Good.tail {x : Nat} {xs : List Nat} (h : Good (x :: xs)) : Good xs := fun y hy => h y (List.mem_cons_of_mem _ hy)
theorem Good.head {x : Nat} {xs : List Nat} (h : Good (x :: xs)) : x < 4294967296 := h x (List.mem_cons_self ..)
theorem Good.append {xs ys : List Nat} (hx : Good xs) (hy : Good ys) : Good (xs ++ ys) := by
  intro y h
  rcases List.mem_append.1 h with h | h
  · exact hx y h
  · exact hy y h
theorem Good.take {xs : List Nat} (h : Good xs) (k : Nat) : Good (xs.take k) := fun y hy => h y (List.mem_of_mem_take hy)
theorem Good.drop {xs : List Nat} (h : Good xs) (k : Nat) : Good (xs.drop k) := fun y hy => h y (List.mem_of_mem_drop hy)
theorem Good.get {xs : List Nat} (h : Good xs) (k : Nat) : xs[k]?.getD 0 < 4294967296 := by
  rcases Nat.lt_or_ge k xs.length with hk | hk
  · rw [List.getElem?_eq_getElem hk]
    exact h _ (List.getElem_mem hk)
  · rw [List.getElem?_eq_none hk]
    simp

theorem val_nil : val [] = 0 := rfl
theorem val_cons (x : Nat) (xs : List Nat) : val (x :: xs) = x + 4294967296 * val xs := rfl
theorem val_append (xs ys : List Nat) : val (xs ++ ys) = val xs + 4294967296 ^ xs.length * val ys := by
  induction xs with
  | nil => simp [val_nil]
  | cons x xs ih =>
    simp only [List.cons_append, val_cons, ih, List.length_cons, pow_succ_, Nat.mul_add, Nat.mul_assoc]
    omega
theorem val_snoc (xs : List Nat) (y : Nat) : val (xs ++ [y]) = val xs + 4294967296 ^ xs.length * y := by rw [val_append]; simp [val_nil, val_cons]
theorem val_lt {xs : List Nat} (h : Good xs) : val xs < 4294967296 ^ xs.length := by
  induction xs with
  | nil => simp [val_nil]
  | cons x xs ih =>
    have h1 := ih h.tail
    have h2 := h.head
    simp only [val_cons, List.length_cons, pow_succ_]
    omega
theorem val_zero {xs : List Nat} (h : ∀ x ∈ xs, x = 0) : val xs = 0 := by
  induction xs with
  | nil => rfl
  | cons x xs ih =>
    have h1 := ih fun y hy => h y (List.mem_cons_of_mem _ hy)
    have h2 := h x (List.mem_cons_self ..)
    simp [h1, h2, val_cons]
theorem val_split (xs : List Nat) (k : Nat) (hk : k ≤ xs.length) : val xs = val (xs.take k) + 4294967296 ^ k * val (xs.drop k) := by
  have h := val_append (xs.take k) (xs.drop k)
  rw [List.take_append_drop, List.length_take, Nat.min_eq_left hk] at h
  exact h
theorem take_snoc_ {α : Type} (xs : List α) (k : Nat) (h : k < xs.length) : xs.take (k + 1) = xs.take k ++ [xs[k]] := by
  rw [List.take_succ_eq_append_getElem h]
theorem take_snocD (xs : List Nat) (k : Nat) (h : k < xs.length) : xs.take (k + 1) = xs.take k ++ [xs[k]?.getD 0] := by
  rw [List.take_succ_eq_append_getElem h, List.getElem?_eq_getElem h]; rfl
theorem val_take_succ (xs : List Nat) (k : Nat) (h : k < xs.length) : val (xs.take (k + 1)) = val (xs.take k) + 4294967296 ^ k * xs[k]?.getD 0 := by
  rw [take_snocD xs k h, val_snoc, List.length_take, Nat.min_eq_left (by omega)]
/-- Beyond the list's end there is nothing to add. -/
theorem val_take_succ' (xs : List Nat) (k : Nat) : val (xs.take (k + 1)) = val (xs.take k) + 4294967296 ^ k * xs[k]?.getD 0 := by
  rcases Nat.lt_or_ge k xs.length with h | h
  · exact val_take_succ xs k h
  · rw [List.take_of_length_le (by omega), List.take_of_length_le (by omega), List.getElem?_eq_none h]
    simp
theorem drop_cons_ (xs : List Nat) (k : Nat) (h : k < xs.length) : xs.drop k = xs[k]?.getD 0 :: xs.drop (k + 1) := by
  rw [List.drop_eq_getElem_cons h, List.getElem?_eq_getElem h]; rfl

theorem Norm.nil : Norm [] := by simp [Norm]
theorem Norm.tail {x : Nat} {xs : List Nat} (h : Norm (x :: xs)) : Norm xs := by
  cases xs with
  | nil => exact Norm.nil
  | cons y ys => unfold Norm at h ⊢; rw [List.getLast?_cons_cons] at h; exact h
theorem val_pos {xs : List Nat} (h : Norm xs) (hne : xs ≠ []) : 0 < val xs := by
  induction xs with
  | nil => exact absurd rfl hne
  | cons x xs ih =>
    cases xs with
    | nil =>
      simp [Norm] at h
      simp only [val_cons, val_nil]
      omega
    | cons y ys =>
      have := ih h.tail (by simp)
      simp only [val_cons] at this ⊢
      omega
theorem uniq {xs ys : List Nat} (gx : Good xs) (gy : Good ys) (nx : Norm xs) (ny : Norm ys) (h : val xs = val ys) : xs = ys := by
  induction xs generalizing ys with
  | nil =>
    cases ys with
    | nil => rfl
    | cons y ys => have := val_pos ny (by simp); rw [← h] at this; simp [val_nil] at this
  | cons x xs ih =>
    cases ys with
    | nil => have := val_pos nx (by simp); rw [h] at this; simp [val_nil] at this
    | cons y ys =>
      have h1 := gx.head
      have h2 := gy.head
      simp only [val_cons] at h
      have e1 : x = y := by omega
      have e2 : val xs = val ys := by omega
      rw [e1, ih gx.tail gy.tail nx.tail ny.tail e2]

theorem digsF_val : ∀ (f n : Nat), n ≤ f → val (digsF f n) = n := by
  intro f
  induction f with
  | zero => intro n h; simp [digsF, val_nil]; omega
  | succ f ih =>
    intro n h
    unfold digsF
    split
    · simp [val_nil]; omega
    · rw [val_cons, ih _ (by omega)]
      omega
theorem digsF_good : ∀ (f n : Nat), Good (digsF f n) := by
  intro f
  induction f with
  | zero => intro n; exact Good.nil
  | succ f ih =>
    intro n
    unfold digsF
    split
    · exact Good.nil
    · exact (ih _).cons (Nat.mod_lt _ (by omega))
theorem digsF_norm : ∀ (f n : Nat), n ≤ f → Norm (digsF f n) := by
  intro f
  induction f with
  | zero => intro n _; exact Norm.nil
  | succ f ih =>
    intro n h
    unfold digsF
    split
    · exact Norm.nil
    · have h1 := ih (n / 4294967296) (by omega)
      have h2 := digsF_val f (n / 4294967296) (by omega)
      revert h1 h2
      cases digsF f (n / 4294967296) with
      | nil => intro _ h2; simp [Norm, val_nil] at h2 ⊢; omega
      | cons y ys => intro h1 _; unfold Norm at h1 ⊢; rw [List.getLast?_cons_cons]; exact h1
theorem digs_val (n : Nat) : val (digs n) = n := digsF_val n n (Nat.le_refl _)
theorem digs_good (n : Nat) : Good (digs n) := digsF_good n n
theorem digs_norm (n : Nat) : Norm (digs n) := digsF_norm n n (Nat.le_refl _)
theorem eq_digs {xs : List Nat} {n : Nat} (g : Good xs) (nx : Norm xs) (h : val xs = n) : xs = digs n :=
  uniq g (digs_good n) nx (digs_norm n) (by rw [h, digs_val])
theorem digs_zero : digs 0 = [] := rfl
theorem digs_nil {n : Nat} : digs n = [] ↔ n = 0 := by
  constructor
  · intro h; rw [← digs_val n, h]; rfl
  · rintro rfl; rfl
theorem digs_pos {n : Nat} : 0 < (digs n).length ↔ 0 < n := by
  rw [List.length_pos_iff, Ne, digs_nil]
  omega

/-- A normal list of k limbs or more stands for a number of at least B^(k-1). -/
theorem val_ge {xs : List Nat} (nx : Norm xs) (k : Nat) (hk : k < xs.length) : 4294967296 ^ k ≤ val xs := by
  induction xs generalizing k with
  | nil => simp at hk
  | cons x xs ih =>
    cases k with
    | zero => have := val_pos nx (by simp); rw [Nat.pow_zero]; omega
    | succ k =>
      have := ih nx.tail k (by simpa using hk)
      rw [pow_succ_, val_cons]
      omega
theorem len_le_of_lt {xs : List Nat} (nx : Norm xs) {k : Nat} (h : val xs < 4294967296 ^ k) : xs.length ≤ k := by
  rcases Nat.lt_or_ge k xs.length with hk | hk
  · have := val_ge nx k hk
    omega
  · exact hk
theorem digs_len {n k : Nat} : (digs n).length ≤ k ↔ n < 4294967296 ^ k := by
  constructor
  · intro h
    have h1 := val_lt (digs_good n)
    rw [digs_val] at h1
    exact Nat.lt_of_lt_of_le h1 (pow_mono_ h)
  · intro h
    exact len_le_of_lt (digs_norm n) (by rw [digs_val]; exact h)
theorem lt_of_len {xs ys : List Nat} (gx : Good xs) (ny : Norm ys) (h : xs.length < ys.length) : val xs < val ys := by
  have h1 := val_lt gx
  have h2 := val_ge ny xs.length h
  omega

theorem mul_len {a b n m : Nat} (ha : (digs a).length = n) (hb : (digs b).length = m) (hn : 0 < n) (hm : 0 < m) : n + m - 1 ≤ (digs (a * b)).length := by
  have h1 := val_ge (digs_norm a) (n - 1) (by omega)
  have h2 := val_ge (digs_norm b) (m - 1) (by omega)
  rw [digs_val] at h1 h2
  have h3 := Nat.mul_le_mul h1 h2
  rw [← pow_add_] at h3
  rcases Nat.lt_or_ge (digs (a * b)).length (n + m - 1) with h | h
  · have h4 := (digs_len (n := a * b) (k := n - 1 + (m - 1))).1 (by omega)
    omega
  · exact h

/-! ### Trimming -/
def tr (xs : List Nat) : Nat → Nat
  | 0 => 0
  | k + 1 => if xs[k]?.getD 0 = 0 then tr xs k else k + 1
theorem tr_le (xs : List Nat) (n : Nat) : tr xs n ≤ n := by
  induction n with
  | zero => exact Nat.le_refl _
  | succ k ih => unfold tr; split <;> omega
theorem tr_take (xs : List Nat) (n : Nat) : val (xs.take (tr xs n)) = val (xs.take n) := by
  induction n with
  | zero => rfl
  | succ k ih =>
    unfold tr
    split
    · next h => rw [ih, val_take_succ', h]; simp
    · rfl
theorem tr_norm (xs : List Nat) (n : Nat) (hn : n ≤ xs.length) : Norm (xs.take (tr xs n)) := by
  induction n with
  | zero => exact Norm.nil
  | succ k ih =>
    unfold tr
    split
    · exact ih (by omega)
    · next h =>
      unfold Norm
      rw [take_snocD xs k (by omega), List.getLast?_concat]
      simpa using h
theorem tr_digs {xs : List Nat} (g : Good xs) {n : Nat} (hn : xs.length = n) : xs.take (tr xs n) = digs (val xs) := by
  subst hn
  refine eq_digs (g.take _) (tr_norm xs _ (Nat.le_refl _)) ?_
  rw [tr_take, List.take_length]
theorem tr_len {xs : List Nat} (g : Good xs) {n : Nat} (hn : xs.length = n) : tr xs n = (digs (val xs)).length := by
  rw [← tr_digs g hn, List.length_take]
  have := tr_le xs n
  omega

/-! ### Comparison -/
def cmpN (a b : Nat) : Int := if a < b then -1 else if a = b then 0 else 1
/-- How lists of limbs are compared: longer ones are greater; else the numbers decide. -/
def cmpL (xs ys : List Nat) : Int := if xs.length < ys.length then -1 else if ys.length < xs.length then 1 else cmpN (val xs) (val ys)
theorem cmpN_eq {a b : Nat} : cmpN a b = 0 ↔ a = b := by unfold cmpN; split <;> (try split) <;> omega
theorem cmpN_lt {a b : Nat} (h : a < b) : cmpN a b = -1 := by unfold cmpN; rw [if_pos h]
theorem cmpN_gt {a b : Nat} (h : b < a) : cmpN a b = 1 := by unfold cmpN; rw [if_neg (by omega), if_neg (by omega)]
theorem cmpN_self (a : Nat) : cmpN a a = 0 := cmpN_eq.2 rfl
theorem eq_of_val {xs ys : List Nat} (gx : Good xs) (gy : Good ys) (hl : xs.length = ys.length) (h : val xs = val ys) : xs = ys := by
  induction xs generalizing ys with
  | nil => cases ys with
    | nil => rfl
    | cons y ys => simp at hl
  | cons x xs ih => cases ys with
    | nil => simp at hl
    | cons y ys =>
      have h1 := gx.head
      have h2 := gy.head
      simp only [val_cons] at h
      have e1 : x = y := by omega
      rw [e1, ih gx.tail gy.tail (by simpa using hl) (by omega)]
theorem cmpL_eq {xs ys : List Nat} (gx : Good xs) (gy : Good ys) : cmpL xs ys = 0 ↔ xs = ys := by
  unfold cmpL
  constructor
  · intro h
    split at h
    · omega
    · split at h
      · omega
      · exact eq_of_val gx gy (by omega) (cmpN_eq.1 h)
  · rintro rfl
    simp [cmpN_self]
theorem cmpL_norm {xs ys : List Nat} (gx : Good xs) (gy : Good ys) (nx : Norm xs) (ny : Norm ys) : cmpL xs ys = cmpN (val xs) (val ys) := by
  unfold cmpL
  split
  · next h => rw [cmpN_lt (lt_of_len gx ny h)]
  · split
    · next h => rw [cmpN_gt (lt_of_len gy nx h)]
    · rfl
/-- The highest limb that differs decides. -/
theorem val_lt_of {xs ys : List Nat} {k n : Nat} (gx : Good xs) (hx : xs.length = n) (hy : ys.length = n) (hk : k < n) (hd : xs.drop (k + 1) = ys.drop (k + 1)) (h : xs[k]?.getD 0 < ys[k]?.getD 0) : val xs < val ys := by
  have e1 := val_split xs (k + 1) (by omega)
  have e2 := val_split ys (k + 1) (by omega)
  have t1 := val_take_succ xs k (by omega)
  have t2 := val_take_succ ys k (by omega)
  have l1 : val (xs.take k) < 4294967296 ^ k := by
    have := val_lt (gx.take k)
    rwa [List.length_take, Nat.min_eq_left (by omega)] at this
  rw [hd] at e1
  have m : 4294967296 ^ k * (xs[k]?.getD 0 + 1) ≤ 4294967296 ^ k * ys[k]?.getD 0 := Nat.mul_le_mul_left _ (by omega)
  rw [Nat.mul_add, Nat.mul_one] at m
  omega
theorem drop_step {xs ys : List Nat} {k n : Nat} (hx : xs.length = n) (hy : ys.length = n) (hk : k < n) (hd : xs.drop (k + 1) = ys.drop (k + 1)) (h : xs[k]?.getD 0 = ys[k]?.getD 0) : xs.drop k = ys.drop k := by
  rw [drop_cons_ xs k (by omega), drop_cons_ ys k (by omega), hd, h]
theorem cmpL_of_drop {xs ys : List Nat} (h : xs.drop 0 = ys.drop 0) : cmpL xs ys = 0 := by
  simp only [List.drop_zero] at h
  subst h
  simp [cmpL, cmpN_self]
theorem cmpL_at {xs ys : List Nat} {k n : Nat} (gx : Good xs) (gy : Good ys) (hx : xs.length = n) (hy : ys.length = n) (hk : k < n) (hd : xs.drop (k + 1) = ys.drop (k + 1)) (h : xs[k]?.getD 0 ≠ ys[k]?.getD 0) :
    cmpL xs ys = cmpN (xs[k]?.getD 0) (ys[k]?.getD 0) := by
  unfold cmpL
  rw [if_neg (by omega), if_neg (by omega)]
  rcases Nat.lt_or_ge (xs[k]?.getD 0) (ys[k]?.getD 0) with h1 | h1
  · have h2 := val_lt_of gx hx hy hk hd h1; rw [cmpN_lt h1, cmpN_lt h2]
  · have h3 : ys[k]?.getD 0 < xs[k]?.getD 0 := by omega
    have h2 := val_lt_of gy hy hx hk hd.symm h3
    rw [cmpN_gt h3, cmpN_gt h2]

end Go.Proofs.Ytegpckhfncblhaa

/-
  Words for memory: a slice value that reads as a list of limbs (uint32), kept by whatever leaves the blocks below a bound alone.
-/
namespace Go.Proofs.Ytegpckhfncblhaa
open Go.RowKit

/-- A slice value '.slice A n c' reads as the limbs xs and lies below block B. -/
structure Lm (w : World) (B : Nat) (A : Option Addr) (n c : Nat) (xs : List Nat) : Prop where
  len : xs.length = n
  good : Good xs
  cap : n ≤ c
  max : c ≤ 9223372036854775807
  nil_ : A = none → c = 0
  at_ : 0 < n → ∃ b off, A = some ⟨b, off, none⟩ ∧ b < B ∧ ∀ j, j < n → w.cell? ⟨b, off + j, none⟩ = some (.int .u32 (xs[j]?.getD 0 : Nat))

section
variable {w w' : World} {B B' n c : Nat} {A : Option Addr} {xs : List Nat}
theorem Lm.nil (w : World) (B : Nat) : Lm w B none 0 0 [] := ⟨rfl, Good.nil, Nat.zero_le _, by omega, fun _ => rfl, fun h => absurd h (by omega)⟩
theorem Lm.keep (h : Lm w B A n c xs) (hk : ∀ b o, b < B → w'.cell? ⟨b, o, none⟩ = w.cell? ⟨b, o, none⟩) : Lm w' B A n c xs :=
  ⟨h.len, h.good, h.cap, h.max, h.nil_, fun hn => by
    obtain ⟨b, off, e, hb, hc⟩ := h.at_ hn
    exact ⟨b, off, e, hb, fun j hj => (hk b (off + j) hb).trans (hc j hj)⟩⟩
theorem Lm.mono (h : Lm w B A n c xs) (hB : B ≤ B') : Lm w B' A n c xs :=
  ⟨h.len, h.good, h.cap, h.max, h.nil_, fun hn => by
    obtain ⟨b, off, e, hb, hc⟩ := h.at_ hn
    exact ⟨b, off, e, by omega, hc⟩⟩
theorem Lm.below (h : Lm w B A n c xs) (hb : Below B w w') : Lm w' B A n c xs := h.keep fun b o hp => hb.cell (p := ⟨b, o, none⟩) hp
/-- Behind a call that keeps all that was there. -/
theorem Lm.on (h : Lm w B A n c xs) (hB : B ≤ w.heap.size) (hb : Below w.heap.size w w') : Lm w' w'.heap.size A n c xs :=
  (h.below (hb.mono hB)).mono (Nat.le_trans hB hb.size)
theorem Lm.drewN (h : Lm w w.heap.size A n c xs) (k : Nat) : Lm (w.drewN k) (w.drewN k).heap.size A n c xs := ⟨h.len, h.good, h.cap, h.max, h.nil_, h.at_⟩
theorem Lm.box (h : Lm w w.heap.size A n c xs) (o : Obj) : Lm (w.alloc o) (w.alloc o).heap.size A n c xs := (h.below ((Below.refl _ _).alloc (Nat.le_refl _) o)).mono (by simp)
theorem Lm.via (h : Lm w w.heap.size A n c xs) (hb : Below w.heap.size w w') : Lm w' w'.heap.size A n c xs := h.on (Nat.le_refl _) hb
theorem bbox {o : Obj} (hb : Below (w.alloc o).heap.size (w.alloc o) w') : Below w.heap.size w w' := ((Below.refl _ _).alloc (Nat.le_refl _) o).trans (hb.mono (by simp))
theorem Lm.drew (h : Lm w w.heap.size A n c xs) : Lm w.drew w.drew.heap.size A n c xs := ⟨h.len, h.good, h.cap, h.max, h.nil_, h.at_⟩
theorem Lm.take (h : Lm w B A n c xs) {m : Nat} (hm : m ≤ n) : Lm w B A m c (xs.take m) :=
  ⟨by rw [List.length_take, h.len]; omega, h.good.take m, Nat.le_trans hm h.cap, h.max, h.nil_, fun hn => by
    obtain ⟨b, off, e, hb, hc⟩ := h.at_ (by omega)
    refine ⟨b, off, e, hb, fun j hj => ?_⟩
    rw [hc j (by omega), List.getElem?_take_of_lt hj]⟩
theorem Lm.trim (h : Lm w B A n c xs) : Lm w B A (digs (val xs)).length c (digs (val xs)) := by
  have h1 := h.take (tr_le xs n)
  rw [tr_digs h.good h.len] at h1
  rwa [tr_len h.good h.len] at h1
theorem Lm.trim' (h : Lm w B A n c xs) {v : Nat} (hv : val xs = v) : Lm w B A (digs v).length c (digs v) := by subst hv; exact h.trim
/-- A new block of two limbs reads so. -/
theorem Lm.two (w : World) (k : Nat) (t : TypeId) (x y : Nat) (X Y : Int) (hk : w.heap.size = k) (hX : X = (x : Int)) (hY : Y = (y : Int)) (hx : x < 4294967296) (hy : y < 4294967296) :
    Lm (w.alloc (.cells #[.int .u32 X, .int .u32 Y] t)) (k + 1) (some ⟨k, 0, none⟩) 2 2 [x, y] := by
  subst hX hY hk
  exact ⟨rfl, (Good.nil.cons hy).cons hx, Nat.le_refl _, by omega, fun h => (by cases h), fun _ => ⟨_, 0, rfl, by omega, fun j hj => by
    match j, hj with
    | 0, _ => go_simp
    | 1, _ => go_simp⟩⟩
/-- The limb at k, where there is one. -/
theorem Lm.cell (h : Lm w B A n c xs) {k : Nat} (hk : k < n) : ∃ b off, A = some ⟨b, off, none⟩ ∧ b < B ∧ w.cell? ⟨b, off + k, none⟩ = some (.int .u32 (xs[k]?.getD 0 : Nat)) := by
  obtain ⟨b, off, e, hb, hc⟩ := h.at_ (by omega)
  exact ⟨b, off, e, hb, hc k hk⟩
end

/-- In a region that draws: a callee that leaves the world alone. -/
theorem quiet_eq {P : Program} {f : FuncId} {args : Array Value} {w : World} {n : Nat} {v : Value}
    (h : Calls P f args (w.drewN n) fun e w' => e = .returned v ∧ w.drewN n = w') : Calls P f args (w.drewN n) fun e w'' => e = .returned v ∧ ∃ m, w'' = w.drewN m :=
  h.mono fun _ _ ⟨he, hm⟩ => ⟨he, n, hm.symm⟩
theorem bdrewN {B : Nat} {a w : World} (h : Below B a w) (k : Nat) : Below B a (w.drewN k) := ⟨h.os, h.tape, h.output, h.size, h.block⟩
theorem val2 (v : Nat) (h : v < 18446744073709551616) : val [v % 4294967296, v / 4294967296 % 4294967296] = v := by
  simp only [val_cons, val_nil]
  omega
/-! ### Rows of the call's own -/
def u32c (x : Nat) : Value := .int .u32 (x : Int)
theorem getD_map (ts : List Nat) (j : Nat) (h : j < ts.length) : (ts.map u32c)[j]? = some (.int .u32 (ts[j]?.getD 0 : Nat)) := by
  rw [List.getElem?_map, List.getElem?_eq_getElem h]; rfl
theorem add_lit (b off j : Nat) : (⟨b, off, none⟩ : Addr).add j = ⟨b, off + j, none⟩ := by unfold Addr.add; split <;> simp_all
/-- A row of the call's own reads as its limbs. -/
theorem Lm.own {w : World} {base : Nat} {e : TypeId} {v : Value} {n : Nat} {ts : List Nat} (h : w.ownsRow base e 1 v n (ts.map u32c)) (g : Good ts) : ∃ A c, v = .slice A n c ∧ Lm w w.heap.size A n c ts := by
  have hl : ts.length = n := by have := h.1; simpa using this
  rcases h.2 with ⟨rfl, rfl⟩ | ⟨gb, cap, cur, rfl, hb, hg, hn, hm, hs, ht⟩
  · obtain rfl : ts = [] := List.eq_nil_of_length_eq_zero hl
    exact ⟨none, 0, rfl, Lm.nil _ _⟩
  · refine ⟨_, _, rfl, hl, g, hn, by simp only [maxLen] at hm; omega, fun h => (by cases h), fun _ => ⟨gb, 0, rfl, (Array.getElem?_eq_some_iff.1 hg).1, fun j hj => ?_⟩⟩
    have hc := h.cells (g := gb) rfl j _ (getD_map ts j (by omega))
    rwa [add_lit] at hc
theorem Lm.cells {w : World} {B n c : Nat} {ad : Addr} {xs : List Nat} (h : Lm w B (some ad) n c xs) : ∀ j u, (xs.map u32c)[j]? = some u → w.cell? (ad.add j) = some u := by
  intro j u hu
  have hj : j < xs.length := by
    rcases Nat.lt_or_ge j xs.length with hj | hj
    · exact hj
    · rw [List.getElem?_eq_none (by simpa using hj)] at hu; cases hu
  rw [getD_map xs j hj] at hu
  obtain ⟨b, off, e, _, hc⟩ := h.at_ (by rw [← h.len]; omega)
  injection e with e
  subst e
  rw [add_lit, hc j (by rw [← h.len]; exact hj), ← hu]
theorem u32c_one (xs : List Nat) : ∀ u ∈ xs.map u32c, u.oneCell' = true := by
  intro u hu
  obtain ⟨x, _, rfl⟩ := List.mem_map.1 hu
  rfl

/-- 'append(out, xs...)' where out is the call's own, and xs reads as limbs: nil, empty or not. -/
theorem wpList_append_lm {P : Program} (w : World) {ops : Array Oper} {rest : List Oper} {o : Oper} {a : Act} {Q : Exit → Act → World → Prop} (hgd : o.guard = none) (s x : Operand) (t : TypeId)
    (ho : o.op = .call { callee := .builtin .append, args := #[s, x], argTypes := #[t, t] })
    (base : Nat) (e : TypeId) (i : TypeInfo) (ht : P.underlying t = some (.slice e)) (hi : P.info? e = some i) (hz : i.zero = some (.int .u32 0))
    (hsize : i.size = 1) (hby : i.bytes = 4)
    (v : Value) (n : Nat) (ts : List Value) (hs : a.eval s = v) (hown : w.ownsRow base e 1 v n ts)
    (B : Nat) (A : Option Addr) (m c : Nat) (xs : List Nat) (hx : a.eval x = .slice A m c) (hr : Lm w B A m c xs)
    (h63 : n + m ≤ maxLen) (hbytes : (n + m) * 4 ≤ 140737488355328) (hbase : base ≤ w.heap.size)
    (h : ∀ v' w', w'.ownsRow base e 1 v' (n + m) (ts ++ xs.map u32c) → w.grownBy w' v.ownBlock → wpList P ops Q rest (a.put o.dst v') w') : wpList P ops Q (o :: rest) a w := by
  rcases A with _ | ad
  · have hm : m = 0 := by
      rcases Nat.eq_zero_or_pos m with h0 | h0
      · exact h0
      · obtain ⟨b, off, e, _⟩ := hr.at_ h0
        cases e
    subst hm
    obtain rfl := hr.nil_ rfl
    obtain rfl : xs = [] := List.eq_nil_of_length_eq_zero hr.len
    refine wpList_append_own_none hgd s x t ho base e i 1 ht hi v n ts hs hown hx ?_
    exact h v w (by simpa using hown) (World.grownBy.refl w _)
  · exact wpList_append_own w hgd s x t ho base e i _ 1 4 ht hi hz hsize hby rfl (by omega) v n ts hs hown ad m c (xs.map u32c) hx (by simp [hr.len]) hr.cells (u32c_one xs) h63 hbytes hbase fun v' w' h1 h2 _ => h v' w' h1 h2

theorem bcell {W w1 : World} (hb : Below W.heap.size W w1) : (∀ b o, b < W.heap.size → w1.cell? ⟨b, o, none⟩ = W.cell? ⟨b, o, none⟩) ∧ (∀ b o, b < W.heap.size → w1.frozen? ⟨b, o, none⟩ = W.frozen? ⟨b, o, none⟩) :=
  ⟨fun b o h => hb.cell (p := ⟨b, o, none⟩) h, fun b o h => hb.frozen (p := ⟨b, o, none⟩) h⟩
/-- Two boxes of two cells, behind a call that keeps what was there. -/
theorem box2 {w w1 : World} {t t' : TypeId} {x0 x1 y0 y1 : Value} (hb : Below ((w.alloc (.cells #[x0, x1] t)).alloc (.cells #[y0, y1] t')).heap.size ((w.alloc (.cells #[x0, x1] t)).alloc (.cells #[y0, y1] t')) w1) :
    w1.cell? ⟨w.heap.size, 0, none⟩ = some x0 ∧ w1.cell? ⟨w.heap.size, 1, none⟩ = some x1 ∧ w1.cell? ⟨w.heap.size + 1, 0, none⟩ = some y0 ∧ w1.cell? ⟨w.heap.size + 1, 1, none⟩ = some y1 ∧
    w1.frozen? ⟨w.heap.size + 1, 0, none⟩ = false ∧ w1.frozen? ⟨w.heap.size + 1, 1, none⟩ = false ∧ w.heap.size + 1 < w1.heap.size := by
  obtain ⟨hc, hf⟩ := bcell hb
  have hs := hb.size
  simp only [World.size_alloc] at hs hc hf
  refine ⟨?_, ?_, ?_, ?_, ?_, ?_, by omega⟩
  · rw [hc _ _ (by omega)]; go_simp
  · rw [hc _ _ (by omega)]; go_simp
  · rw [hc _ _ (by omega)]; go_simp
  · rw [hc _ _ (by omega)]; go_simp
  · rw [hf _ _ (by omega)]; go_simp
  · rw [hf _ _ (by omega)]; go_simp
theorem box3 {w w1 : World} {t t' t'' : TypeId} {x0 x1 y0 y1 z0 z1 : Value}
    (hb : Below (((w.alloc (.cells #[x0, x1] t)).alloc (.cells #[y0, y1] t')).alloc (.cells #[z0, z1] t'')).heap.size (((w.alloc (.cells #[x0, x1] t)).alloc (.cells #[y0, y1] t')).alloc (.cells #[z0, z1] t'')) w1) :
    w1.cell? ⟨w.heap.size, 0, none⟩ = some x0 ∧ w1.cell? ⟨w.heap.size, 1, none⟩ = some x1 ∧ w1.cell? ⟨w.heap.size + 1, 0, none⟩ = some y0 ∧ w1.cell? ⟨w.heap.size + 1, 1, none⟩ = some y1 ∧
    w1.cell? ⟨w.heap.size + 1 + 1, 0, none⟩ = some z0 ∧ w1.cell? ⟨w.heap.size + 1 + 1, 1, none⟩ = some z1 ∧ w1.frozen? ⟨w.heap.size + 1 + 1, 0, none⟩ = false ∧ w1.frozen? ⟨w.heap.size + 1 + 1, 1, none⟩ = false ∧ w.heap.size + 1 + 1 < w1.heap.size := by
  obtain ⟨hc, hf⟩ := bcell hb
  have hs := hb.size
  simp only [World.size_alloc] at hs hc hf
  refine ⟨?_, ?_, ?_, ?_, ?_, ?_, ?_, ?_, by omega⟩
  · rw [hc _ _ (by omega)]; go_simp
  · rw [hc _ _ (by omega)]; go_simp
  · rw [hc _ _ (by omega)]; go_simp
  · rw [hc _ _ (by omega)]; go_simp
  · rw [hc _ _ (by omega)]; go_simp
  · rw [hc _ _ (by omega)]; go_simp
  · rw [hf _ _ (by omega)]; go_simp
  · rw [hf _ _ (by omega)]; go_simp
theorem box1 {w w1 : World} {t : TypeId} {y0 y1 : Value} (hb : Below (w.alloc (.cells #[y0, y1] t)).heap.size (w.alloc (.cells #[y0, y1] t)) w1) :
    w1.cell? ⟨w.heap.size, 0, none⟩ = some y0 ∧ w1.cell? ⟨w.heap.size, 1, none⟩ = some y1 ∧ w1.frozen? ⟨w.heap.size, 0, none⟩ = false ∧ w1.frozen? ⟨w.heap.size, 1, none⟩ = false ∧ w.heap.size < w1.heap.size := by
  obtain ⟨hc, hf⟩ := bcell hb
  have hs := hb.size
  simp only [World.size_alloc] at hs hc hf
  refine ⟨?_, ?_, ?_, ?_, by omega⟩
  · rw [hc _ _ (by omega)]; go_simp
  · rw [hc _ _ (by omega)]; go_simp
  · rw [hf _ _ (by omega)]; go_simp
  · rw [hf _ _ (by omega)]; go_simp
theorem ret_bool {a b : Bool} (h : a = b) : Ending.returned (.bool a) = .returned (.bool b) := by rw [h]
theorem ret_slice {A : Option Addr} {m m' c : Nat} (h : m = m') : Ending.returned (.slice A m c) = .returned (.slice A m' c) := by rw [h]
theorem ret2_int {k l : IntKind} {a b a' b' : Int} (h : a = b) (h' : a' = b') : Ending.returned (.tuple #[.int k a, .int l a']) = .returned (.tuple #[.int k b, .int l b']) := by rw [h, h']
theorem ret_int {k : IntKind} {a b : Int} (h : a = b) : Ending.returned (.int k a) = .returned (.int k b) := by rw [h]

theorem set2 {w : World} {g : Nat} {u0 u1 : Value} (x y : Value) (h0 : w.cell? ⟨g, 0, none⟩ = some u0) (h1 : w.cell? ⟨g, 1, none⟩ = some u1) :
    ((w.setCell ⟨g, 0, none⟩ x).setCell ⟨g, 1, none⟩ y).cell? ⟨g, 0, none⟩ = some x ∧ ((w.setCell ⟨g, 0, none⟩ x).setCell ⟨g, 1, none⟩ y).cell? ⟨g, 1, none⟩ = some y := by
  constructor
  · rw [World.cell?_setCell_other _ _ _ _ (by simp)]
    exact World.cell?_setCell_same _ _ _ h0
  · refine World.cell?_setCell_same (u := u1) _ _ _ ?_
    rw [World.cell?_setCell_other _ _ _ _ (by simp)]
    exact h1
theorem keep2 {w0 w2 : World} {g : Nat} {x y : Value} (hb : Below w0.heap.size w0 w2) (hg : g < w0.heap.size) (h : w0.cell? ⟨g, 0, none⟩ = some x ∧ w0.cell? ⟨g, 1, none⟩ = some y) :
    w2.cell? ⟨g, 0, none⟩ = some x ∧ w2.cell? ⟨g, 1, none⟩ = some y := ⟨(hb.cell (p := ⟨g, 0, none⟩) hg).trans h.1, (hb.cell (p := ⟨g, 1, none⟩) hg).trans h.2⟩
theorem keepF {w0 w2 : World} {g : Nat} (hb : Below w0.heap.size w0 w2) (hg : g < w0.heap.size) (h : w0.frozen? ⟨g, 0, none⟩ = false ∧ w0.frozen? ⟨g, 1, none⟩ = false) :
    w2.frozen? ⟨g, 0, none⟩ = false ∧ w2.frozen? ⟨g, 1, none⟩ = false := ⟨(hb.frozen (p := ⟨g, 0, none⟩) hg).trans h.1, (hb.frozen (p := ⟨g, 1, none⟩) hg).trans h.2⟩
theorem alloc2 {w : World} {g : Nat} {x y : Value} (o : Obj) (hg : g < w.heap.size) (h0 : w.cell? ⟨g, 0, none⟩ = some x) (h1 : w.cell? ⟨g, 1, none⟩ = some y) :
    (w.alloc o).cell? ⟨g, 0, none⟩ = some x ∧ (w.alloc o).cell? ⟨g, 1, none⟩ = some y := ⟨(World.cell?_alloc_lt w o _ hg).trans h0, (World.cell?_alloc_lt w o _ hg).trans h1⟩
/-- A store of a number into its own two cells touches no limb. -/
theorem Lm.set2 {w : World} {n c : Nat} {A : Option Addr} {xs : List Nat} (h : Lm w w.heap.size A n c xs) {g n0 c0 : Nat} {p : Bool} {A0 : Option Addr}
    (h0 : w.cell? ⟨g, 0, none⟩ = some (.bool p)) (h1 : w.cell? ⟨g, 1, none⟩ = some (.slice A0 n0 c0)) (x y : Value) :
    Lm ((w.setCell ⟨g, 0, none⟩ x).setCell ⟨g, 1, none⟩ y) ((w.setCell ⟨g, 0, none⟩ x).setCell ⟨g, 1, none⟩ y).heap.size A n c xs := by
  have hs : ((w.setCell ⟨g, 0, none⟩ x).setCell ⟨g, 1, none⟩ y).heap.size = w.heap.size := by simp [World.size_setCell]
  rw [hs]
  refine ⟨h.len, h.good, h.cap, h.max, h.nil_, fun hn => ?_⟩
  obtain ⟨b, off, e, hb, hc⟩ := h.at_ hn
  refine ⟨b, off, e, hb, fun j hj => ?_⟩
  have hcj := hc j hj
  rw [World.cell?_setCell_other, World.cell?_setCell_other]
  · exact hcj
  · intro e2
    rw [← e2, h0] at hcj
    cases hcj
  · intro e2
    rw [← e2, h1] at hcj
    cases hcj
theorem far2 {w : World} {g h : Nat} {u0 u1 : Value} (x y : Value) (hne : g ≠ h) (p : w.cell? ⟨g, 0, none⟩ = some u0 ∧ w.cell? ⟨g, 1, none⟩ = some u1) :
    ((w.setCell ⟨h, 0, none⟩ x).setCell ⟨h, 1, none⟩ y).cell? ⟨g, 0, none⟩ = some u0 ∧ ((w.setCell ⟨h, 0, none⟩ x).setCell ⟨h, 1, none⟩ y).cell? ⟨g, 1, none⟩ = some u1 := by
  constructor
  · rw [World.cell?_setCell_other _ _ _ _ (fun e => hne (congrArg Addr.block e).symm), World.cell?_setCell_other _ _ _ _ (fun e => hne (congrArg Addr.block e).symm)]
    exact p.1
  · rw [World.cell?_setCell_other _ _ _ _ (fun e => hne (congrArg Addr.block e).symm), World.cell?_setCell_other _ _ _ _ (fun e => hne (congrArg Addr.block e).symm)]
    exact p.2
/-- Stores into a block beyond what was there. -/
theorem below_set2 {B : Nat} {w w1 : World} (h : Below B w w1) {g : Nat} (hg : B ≤ g) (x y : Value) : Below B w ((w1.setCell ⟨g, 0, none⟩ x).setCell ⟨g, 1, none⟩ y) :=
  (h.setCell (p := ⟨g, 0, none⟩) hg x).setCell (p := ⟨g, 1, none⟩) hg y
/-- The error of a number: whether it is valid. -/
def chk (neg : Bool) (xs : List Nat) : Int := if 4096 < xs.length then 8 else if xs = [] ∧ neg = true then 8 else if xs.getLast? = some 0 then 8 else 0
theorem chk_ok {neg : Bool} {xs : List Nat} : chk neg xs = 0 ↔ xs.length ≤ 4096 ∧ Norm xs ∧ (neg = true → xs ≠ []) := by
  unfold chk Norm
  constructor
  · intro h
    split at h
    · omega
    · split at h
      · omega
      · next h2 =>
        split at h
        · omega
        · next h3 => exact ⟨by omega, h3, fun hn e => h2 ⟨e, hn⟩⟩
  · rintro ⟨h1, h2, h3⟩
    rw [if_neg (by omega), if_neg (fun h => h3 h.2 h.1), if_neg h2]
theorem chk_cases (neg : Bool) (xs : List Nat) : chk neg xs = 0 ∨ chk neg xs = 8 := by
  unfold chk
  split
  · exact .inr rfl
  · split
    · exact .inr rfl
    · split
      · exact .inr rfl
      · exact .inl rfl
theorem chk_len {neg : Bool} {xs : List Nat} (hc : chk neg xs = 0) (g : Good xs) (k : Nat) : xs.length ≤ k ↔ val xs < 4294967296 ^ k := by
  have hn := (chk_ok.1 hc).2.1
  exact ⟨fun h => Nat.lt_of_lt_of_le (val_lt g) (pow_mono_ h), fun h => len_le_of_lt hn h⟩
theorem chk_digs {neg : Bool} {xs : List Nat} (hc : chk neg xs = 0) (g : Good xs) : xs = digs (val xs) := eq_digs g (chk_ok.1 hc).2.1 rfl
theorem last_get {xs : List Nat} (h : 0 < xs.length) : xs.getLast? = some 0 ↔ xs[xs.length - 1]?.getD 0 = 0 := by
  rw [List.getLast?_eq_getElem?, List.getElem?_eq_getElem (by omega)]
  simp

/-- The number with a sign and an absolute value, where it has a valid form: its sign, its limbs, the error. -/
def mkN (neg : Bool) (v : Nat) : Bool := decide ((digs v).length ≤ 4096) && (neg && decide (v ≠ 0))
def mkL (v : Nat) : List Nat := if (digs v).length ≤ 4096 then digs v else []
def mkE (v : Nat) : Int := if (digs v).length ≤ 4096 then 0 else 16
/-- A call returns a number that reads so, and an error; what was there is kept. -/
def RW (w : World) (neg : Bool) (xs : List Nat) (err : Int) (e : Ending) (w' : World) : Prop :=
  ∃ A n c, e = .returned (.tuple #[.agg #[.bool neg, .slice A n c], .int .i64 err]) ∧ Lm w' w'.heap.size A n c xs ∧ Below w.heap.size w w'

theorem drewN_add (w : World) (a b : Nat) : (w.drewN a).drewN b = w.drewN (a + b) := by
  unfold World.drewN
  rw [Nat.add_assoc]
end Go.Proofs.Ytegpckhfncblhaa

/- Pairs of cells: the boxes of numbers. -/
namespace Go.Proofs.Ytegpckhfncblhaa
open Go.RowKit

/-- Block g holds the two cells of a number, and may be written. -/
structure Pr (w : World) (g : Nat) (x y : Value) : Prop where
  c0 : w.cell? ⟨g, 0, none⟩ = some x
  c1 : w.cell? ⟨g, 1, none⟩ = some y
  f0 : w.frozen? ⟨g, 0, none⟩ = false
  f1 : w.frozen? ⟨g, 1, none⟩ = false
  lt : g < w.heap.size
section
variable {w w' : World} {g h : Nat} {x y : Value}
theorem Pr.new (w : World) (k : Nat) (hk : w.heap.size = k) (x y : Value) (t : TypeId) : Pr (w.alloc (.cells #[x, y] t)) k x y := by
  subst hk
  refine ⟨?_, ?_, ?_, ?_, by simp⟩ <;> go_simp
theorem Pr.via (p : Pr w g x y) (hb : Below w.heap.size w w') : Pr w' g x y :=
  ⟨(hb.cell (p := ⟨g, 0, none⟩) p.lt).trans p.c0, (hb.cell (p := ⟨g, 1, none⟩) p.lt).trans p.c1, (hb.frozen (p := ⟨g, 0, none⟩) p.lt).trans p.f0, (hb.frozen (p := ⟨g, 1, none⟩) p.lt).trans p.f1, Nat.lt_of_lt_of_le p.lt hb.size⟩
theorem Pr.below (p : Pr w g x y) {B : Nat} (hb : Below B w w') (hg : g < B) : Pr w' g x y :=
  ⟨(hb.cell (p := ⟨g, 0, none⟩) hg).trans p.c0, (hb.cell (p := ⟨g, 1, none⟩) hg).trans p.c1, (hb.frozen (p := ⟨g, 0, none⟩) hg).trans p.f0, (hb.frozen (p := ⟨g, 1, none⟩) hg).trans p.f1, Nat.lt_of_lt_of_le p.lt hb.size⟩
theorem Pr.alloc (p : Pr w g x y) (o : Obj) : Pr (w.alloc o) g x y := p.via ((Below.refl _ _).alloc (Nat.le_refl _) o)
theorem Pr.drew (p : Pr w g x y) : Pr w.drew g x y := ⟨p.c0, p.c1, p.f0, p.f1, p.lt⟩
theorem Pr.drewN (p : Pr w g x y) (k : Nat) : Pr (w.drewN k) g x y := ⟨p.c0, p.c1, p.f0, p.f1, p.lt⟩
theorem size_set2 (w : World) (h : Nat) (x y : Value) : ((w.setCell ⟨h, 0, none⟩ x).setCell ⟨h, 1, none⟩ y).heap.size = w.heap.size := by simp [World.size_setCell]
theorem Pr.set (p : Pr w g x y) (x' y' : Value) : Pr ((w.setCell ⟨g, 0, none⟩ x').setCell ⟨g, 1, none⟩ y') g x' y' :=
  ⟨(set2 x' y' p.c0 p.c1).1, (set2 x' y' p.c0 p.c1).2, by have := p.f0; simpa using this, by have := p.f1; simpa using this, by rw [size_set2]; exact p.lt⟩
theorem Pr.far (p : Pr w g x y) (hne : g ≠ h) (x' y' : Value) : Pr ((w.setCell ⟨h, 0, none⟩ x').setCell ⟨h, 1, none⟩ y') g x y :=
  ⟨(far2 x' y' hne ⟨p.c0, p.c1⟩).1, (far2 x' y' hne ⟨p.c0, p.c1⟩).2, by have := p.f0; simpa using this, by have := p.f1; simpa using this, by rw [size_set2]; exact p.lt⟩
end
theorem Lm.setP {w : World} {n c : Nat} {A : Option Addr} {xs : List Nat} (h : Lm w w.heap.size A n c xs) {g n0 c0 : Nat} {b : Bool} {A0 : Option Addr} (p : Pr w g (.bool b) (.slice A0 n0 c0)) (x y : Value) :
    Lm ((w.setCell ⟨g, 0, none⟩ x).setCell ⟨g, 1, none⟩ y) ((w.setCell ⟨g, 0, none⟩ x).setCell ⟨g, 1, none⟩ y).heap.size A n c xs := h.set2 p.c0 p.c1 x y

/-- Four boxes of two cells, behind a call that keeps what was there. -/
theorem boxes4 {w w1 : World} {t0 t1 t2 t3 : TypeId} {a0 a1 b0 b1 q0 q1 r0 r1 : Value}
    (hb : Below ((((w.alloc (.cells #[a0, a1] t0)).alloc (.cells #[b0, b1] t1)).alloc (.cells #[q0, q1] t2)).alloc (.cells #[r0, r1] t3)).heap.size ((((w.alloc (.cells #[a0, a1] t0)).alloc (.cells #[b0, b1] t1)).alloc (.cells #[q0, q1] t2)).alloc (.cells #[r0, r1] t3)) w1) :
    Pr w1 w.heap.size a0 a1 ∧ Pr w1 (w.heap.size + 1) b0 b1 ∧ Pr w1 (w.heap.size + 1 + 1) q0 q1 ∧ Pr w1 (w.heap.size + 1 + 1 + 1) r0 r1 :=
  ⟨((((Pr.new w w.heap.size rfl a0 a1 t0).alloc _).alloc _).alloc _).via hb, (((Pr.new (w.alloc (.cells #[a0, a1] t0)) (w.heap.size + 1) (by simp) b0 b1 t1).alloc _).alloc _).via hb,
    ((Pr.new ((w.alloc (.cells #[a0, a1] t0)).alloc (.cells #[b0, b1] t1)) (w.heap.size + 1 + 1) (by simp) q0 q1 t2).alloc _).via hb,
    (Pr.new (((w.alloc (.cells #[a0, a1] t0)).alloc (.cells #[b0, b1] t1)).alloc (.cells #[q0, q1] t2)) (w.heap.size + 1 + 1 + 1) (by simp) r0 r1 t3).via hb⟩

end Go.Proofs.Ytegpckhfncblhaa

/-
  Plain mathematics of loops over limbs: products by a limb, sums, differences; a part of a list replaced.
-/
namespace Go.Proofs.Ytegpckhfncblhaa

theorem get_nat (xs : List Nat) (k : Nat) (h : k < xs.length) : xs[k]? = some (xs[k]?.getD 0) := by
  rw [List.getElem?_eq_getElem h]; rfl

/-! ### A part of a list replaced -/
def spl (cs : List Nat) (off : Nat) (ts : List Nat) : List Nat := cs.take off ++ (ts ++ cs.drop (off + ts.length))
theorem spl_nil (cs : List Nat) (off : Nat) : spl cs off [] = cs := by simp [spl]
theorem spl_len {cs : List Nat} {off : Nat} {ts : List Nat} (h : off + ts.length ≤ cs.length) : (spl cs off ts).length = cs.length := by
  simp [spl]; omega
theorem spl_at {cs : List Nat} {off : Nat} {ts : List Nat} (h : off + ts.length < cs.length) : (spl cs off ts)[off + ts.length]?.getD 0 = cs[off + ts.length]?.getD 0 := by
  unfold spl
  have h1 : (cs.take off).length = off := by rw [List.length_take]; omega
  rw [List.getElem?_append_right (by omega), h1, List.getElem?_append_right (by omega), List.getElem?_drop]
  congr 2
  omega
theorem set_mid (p m q : List Nat) (t : Nat) (hq : 0 < q.length) : (p ++ (m ++ q)).set (p.length + m.length) t = p ++ ((m ++ [t]) ++ q.drop 1) := by
  cases q with
  | nil => simp at hq
  | cons y ys =>
    rw [List.set_append_right _ _ (by omega), Nat.add_sub_cancel_left, List.set_append_right _ _ (by omega), Nat.sub_self]
    simp
theorem spl_set {cs : List Nat} {off : Nat} {ts : List Nat} (t : Nat) (h : off + ts.length < cs.length) : (spl cs off ts).set (off + ts.length) t = spl cs off (ts ++ [t]) := by
  unfold spl
  have h1 : (cs.take off).length = off := by rw [List.length_take]; omega
  have e := set_mid (cs.take off) ts (cs.drop (off + ts.length)) t (by rw [List.length_drop]; omega)
  rw [h1] at e
  rw [e, List.drop_drop, List.length_append]
  rfl
theorem spl_good {cs : List Nat} {off : Nat} {ts : List Nat} (g : Good cs) (h : Good ts) : Good (spl cs off ts) := (g.take _).append (h.append (g.drop _))

/-! ### The product by a limb, added to a list: the limbs and the carry after k rounds -/
def mulK (ps xs : List Nat) (y : Nat) : Nat → List Nat × Nat
  | 0 => ([], 0)
  | k + 1 => let r := mulK ps xs y k
             let s := r.2 + (xs[k]?.getD 0 * y + ps[k]?.getD 0)
             (r.1 ++ [s % 4294967296], s / 4294967296)
theorem mulK_len (ps xs : List Nat) (y k : Nat) : (mulK ps xs y k).1.length = k := by
  induction k with
  | zero => rfl
  | succ k ih => simp [mulK, ih]
theorem mulK_good (ps xs : List Nat) (y k : Nat) : Good (mulK ps xs y k).1 := by
  induction k with
  | zero => exact Good.nil
  | succ k ih => exact ih.append (Good.nil.cons (Nat.mod_lt _ (by omega)))
theorem mul_bd {x y : Nat} (hx : x < 4294967296) (hy : y < 4294967296) : x * y ≤ 18446744065119617025 := by
  have h : x * y ≤ 4294967295 * 4294967295 := Nat.mul_le_mul (by omega) (by omega)
  omega
theorem mulK_carry {ps xs : List Nat} {y : Nat} (hp : Good ps) (hx : Good xs) (hy : y < 4294967296) (k : Nat) : (mulK ps xs y k).2 < 4294967296 := by
  induction k with
  | zero => show 0 < 4294967296; omega
  | succ k ih =>
    show ((mulK ps xs y k).2 + (xs[k]?.getD 0 * y + ps[k]?.getD 0)) / 4294967296 < 4294967296
    have h1 := mul_bd (hx.get k) hy
    have h2 := hp.get k
    omega
theorem mulK_val (ps xs : List Nat) (y k : Nat) : val (mulK ps xs y k).1 + 4294967296 ^ k * (mulK ps xs y k).2 = val (xs.take k) * y + val (ps.take k) := by
  induction k with
  | zero => simp [mulK, val_nil]
  | succ k ih =>
    show val ((mulK ps xs y k).1 ++ [((mulK ps xs y k).2 + (xs[k]?.getD 0 * y + ps[k]?.getD 0)) % 4294967296]) + 4294967296 ^ (k + 1) * (((mulK ps xs y k).2 + (xs[k]?.getD 0 * y + ps[k]?.getD 0)) / 4294967296) = _
    rw [val_snoc, mulK_len, val_take_succ', val_take_succ', Nat.add_mul, pow_succ_]
    generalize hs : (mulK ps xs y k).2 + (xs[k]?.getD 0 * y + ps[k]?.getD 0) = s
    have h1 : 4294967296 ^ k * (s % 4294967296) + 4294967296 * 4294967296 ^ k * (s / 4294967296) = 4294967296 ^ k * s := by
      rw [Nat.mul_comm 4294967296 (4294967296 ^ k), Nat.mul_assoc, ← Nat.mul_add, Nat.mod_add_div]
    have h2 : 4294967296 ^ k * s = 4294967296 ^ k * (mulK ps xs y k).2 + (4294967296 ^ k * xs[k]?.getD 0 * y + 4294967296 ^ k * ps[k]?.getD 0) := by
      rw [← hs, Nat.mul_add, Nat.mul_add, Nat.mul_assoc]
    omega

/-- A round of the product by hand. -/
theorem prod_step {ps xs ys : List Nat} {n m k : Nat} (hx : xs.length = n) (hps : ps.length = n + m) (hk : k < m) (hv : val (ps.take (n + k)) = val xs * val (ys.take k)) :
    val ((spl ps k ((mulK (ps.drop k) xs (ys[k]?.getD 0) n).1 ++ [(mulK (ps.drop k) xs (ys[k]?.getD 0) n).2])).take (n + (k + 1))) = val xs * val (ys.take (k + 1)) := by
  have hl := mulK_len (ps.drop k) xs (ys[k]?.getD 0) n
  have hm := mulK_val (ps.drop k) xs (ys[k]?.getD 0) n
  have hpk : (ps.take k).length = k := by rw [List.length_take]; omega
  have e1 : (spl ps k ((mulK (ps.drop k) xs (ys[k]?.getD 0) n).1 ++ [(mulK (ps.drop k) xs (ys[k]?.getD 0) n).2])).take (n + (k + 1)) = ps.take k ++ ((mulK (ps.drop k) xs (ys[k]?.getD 0) n).1 ++ [(mulK (ps.drop k) xs (ys[k]?.getD 0) n).2]) := by
    unfold spl
    rw [← List.append_assoc]
    refine List.take_left' ?_
    simp [hl]
    omega
  rw [e1, val_append, hpk, val_snoc, hl, hm, val_take_succ']
  have e2 : val (ps.take (n + k)) = val (ps.take k) + 4294967296 ^ k * val ((ps.drop k).take n) := by
    have e3 : ps.take (n + k) = ps.take k ++ (ps.drop k).take n := by
      rw [Nat.add_comm n k, List.take_add]
    rw [e3, val_append, hpk]
  have e5 : xs.take n = xs := List.take_of_length_le (by omega)
  rw [e5]
  rw [hv] at e2
  rw [Nat.mul_add (val xs), e2, Nat.mul_add]
  have e4 : 4294967296 ^ k * (val xs * ys[k]?.getD 0) = val xs * (4294967296 ^ k * ys[k]?.getD 0) := by
    rw [Nat.mul_left_comm]
  omega
theorem spl_after {cs : List Nat} {off : Nat} {ts : List Nat} (h : off + ts.length ≤ cs.length) {j : Nat} (hj : off + ts.length ≤ j) : (spl cs off ts)[j]?.getD 0 = cs[j]?.getD 0 := by
  unfold spl
  have h1 : (cs.take off).length = off := by rw [List.length_take]; omega
  rw [List.getElem?_append_right (by omega), h1, List.getElem?_append_right (by omega), List.getElem?_drop]
  congr 2
  omega
/-- So many zeros. -/
def zer (n : Nat) : List Nat := List.replicate n 0
theorem zer_len (n : Nat) : (zer n).length = n := by simp [zer]
theorem zer_good (n : Nat) : Good (zer n) := by
  intro x hx
  have := (List.mem_replicate.1 hx).2
  omega
theorem zer_get (n j : Nat) : (zer n)[j]?.getD 0 = 0 := by
  unfold zer
  rw [List.getElem?_replicate]
  split <;> rfl
theorem zer_val (n k : Nat) : val ((zer n).take k) = 0 := val_zero fun _ hx => (List.mem_replicate.1 (List.mem_of_mem_take hx)).2

/-! ### The sum of lists, limb by limb -/
def addK (xs ys : List Nat) : Nat → List Nat × Nat
  | 0 => ([], 0)
  | k + 1 => let r := addK xs ys k
             let s := r.2 + (xs[k]?.getD 0 + ys[k]?.getD 0)
             (r.1 ++ [s % 4294967296], s / 4294967296)
theorem addK_len (xs ys : List Nat) (k : Nat) : (addK xs ys k).1.length = k := by
  induction k with
  | zero => rfl
  | succ k ih => simp [addK, ih]
theorem addK_good (xs ys : List Nat) (k : Nat) : Good (addK xs ys k).1 := by
  induction k with
  | zero => exact Good.nil
  | succ k ih => exact ih.append (Good.nil.cons (Nat.mod_lt _ (by omega)))
theorem addK_carry {xs ys : List Nat} (hx : Good xs) (hy : Good ys) (k : Nat) : (addK xs ys k).2 ≤ 1 := by
  induction k with
  | zero => exact Nat.zero_le _
  | succ k ih =>
    show ((addK xs ys k).2 + (xs[k]?.getD 0 + ys[k]?.getD 0)) / 4294967296 ≤ 1
    have h1 := hx.get k
    have h2 := hy.get k
    omega
theorem addK_val (xs ys : List Nat) (k : Nat) : val (addK xs ys k).1 + 4294967296 ^ k * (addK xs ys k).2 = val (xs.take k) + val (ys.take k) := by
  induction k with
  | zero => simp [addK, val_nil]
  | succ k ih =>
    show val ((addK xs ys k).1 ++ [((addK xs ys k).2 + (xs[k]?.getD 0 + ys[k]?.getD 0)) % 4294967296]) + 4294967296 ^ (k + 1) * (((addK xs ys k).2 + (xs[k]?.getD 0 + ys[k]?.getD 0)) / 4294967296) = _
    rw [val_snoc, addK_len, val_take_succ', val_take_succ', pow_succ_]
    generalize hs : (addK xs ys k).2 + (xs[k]?.getD 0 + ys[k]?.getD 0) = s
    have h1 : 4294967296 ^ k * (s % 4294967296) + 4294967296 * 4294967296 ^ k * (s / 4294967296) = 4294967296 ^ k * s := by
      rw [Nat.mul_comm 4294967296 (4294967296 ^ k), Nat.mul_assoc, ← Nat.mul_add, Nat.mod_add_div]
    have h2 : 4294967296 ^ k * s = 4294967296 ^ k * (addK xs ys k).2 + (4294967296 ^ k * xs[k]?.getD 0 + 4294967296 ^ k * ys[k]?.getD 0) := by
      rw [← hs, Nat.mul_add, Nat.mul_add]
    omega

/-- The same over any indices, one after another. -/
def addP (xs ys : List Nat) (ks : List Nat) : List Nat × Nat := ks.foldl (fun r k => (r.1 ++ [(r.2 + (xs[k]?.getD 0 + ys[k]?.getD 0)) % 4294967296], (r.2 + (xs[k]?.getD 0 + ys[k]?.getD 0)) / 4294967296)) ([], 0)
theorem addP_snoc (xs ys ks : List Nat) (k : Nat) : addP xs ys (ks ++ [k]) = ((addP xs ys ks).1 ++ [((addP xs ys ks).2 + (xs[k]?.getD 0 + ys[k]?.getD 0)) % 4294967296], ((addP xs ys ks).2 + (xs[k]?.getD 0 + ys[k]?.getD 0)) / 4294967296) := by
  simp [addP, List.foldl_append]
theorem addP_range (xs ys : List Nat) (n : Nat) : addP xs ys (List.range n) = addK xs ys n := by
  induction n with
  | zero => rfl
  | succ n ih => rw [List.range_succ, addP_snoc, ih]; rfl
theorem snoc_ind {p : List Nat → Prop} (h0 : p []) (h1 : ∀ ks k, p ks → p (ks ++ [k])) (ks : List Nat) : p ks := by
  have h : ∀ l : List Nat, p l.reverse := by
    intro l
    induction l with
    | nil => exact h0
    | cons a l ih => rw [List.reverse_cons]; exact h1 _ _ ih
  have e := h ks.reverse
  rwa [List.reverse_reverse] at e
theorem addP_len (xs ys ks : List Nat) : (addP xs ys ks).1.length = ks.length := by
  induction ks using snoc_ind with
  | h0 => rfl
  | h1 ks k ih => rw [addP_snoc]; simp [ih]
theorem addP_carry {xs ys : List Nat} (hx : Good xs) (hy : Good ys) (ks : List Nat) : (addP xs ys ks).2 ≤ 1 := by
  induction ks using snoc_ind with
  | h0 => exact Nat.zero_le _
  | h1 ks k ih =>
    rw [addP_snoc]
    show ((addP xs ys ks).2 + (xs[k]?.getD 0 + ys[k]?.getD 0)) / 4294967296 ≤ 1
    have h1 := hx.get k
    have h2 := hy.get k
    omega

/-! ### The difference of lists, limb by limb -/
def subK (xs ys : List Nat) : Nat → List Nat × Nat
  | 0 => ([], 0)
  | k + 1 => let r := subK xs ys k
             let s := xs[k]?.getD 0 + 8589934592 - ys[k]?.getD 0 - r.2
             (r.1 ++ [s % 4294967296], if xs[k]?.getD 0 < ys[k]?.getD 0 + r.2 then 1 else 0)
theorem subK_len (xs ys : List Nat) (k : Nat) : (subK xs ys k).1.length = k := by
  induction k with
  | zero => rfl
  | succ k ih => simp [subK, ih]
theorem subK_good (xs ys : List Nat) (k : Nat) : Good (subK xs ys k).1 := by
  induction k with
  | zero => exact Good.nil
  | succ k ih => exact ih.append (Good.nil.cons (Nat.mod_lt _ (by omega)))
theorem subK_carry (xs ys : List Nat) (k : Nat) : (subK xs ys k).2 ≤ 1 := by
  induction k with
  | zero => exact Nat.zero_le _
  | succ k ih =>
    show (if xs[k]?.getD 0 < ys[k]?.getD 0 + (subK xs ys k).2 then 1 else 0) ≤ 1
    split <;> omega
theorem subK_val {xs ys : List Nat} (hx : Good xs) (hy : Good ys) (k : Nat) : val (subK xs ys k).1 + val (ys.take k) = val (xs.take k) + 4294967296 ^ k * (subK xs ys k).2 := by
  induction k with
  | zero => simp [subK, val_nil]
  | succ k ih =>
    show val ((subK xs ys k).1 ++ [(xs[k]?.getD 0 + 8589934592 - ys[k]?.getD 0 - (subK xs ys k).2) % 4294967296]) + _ = _ + 4294967296 ^ (k + 1) * (if xs[k]?.getD 0 < ys[k]?.getD 0 + (subK xs ys k).2 then 1 else 0)
    have hc := subK_carry xs ys k
    have h1 := hx.get k
    have h2 := hy.get k
    rw [val_snoc, subK_len, val_take_succ', val_take_succ', pow_succ_]
    generalize hr : (subK xs ys k).2 = r at *
    generalize hxk : xs[k]?.getD 0 = x at *
    generalize hyk : ys[k]?.getD 0 = y at *
    generalize hP : 4294967296 ^ k = P at *
    split
    · next h =>
      have e : (x + 8589934592 - y - r) % 4294967296 = x + 4294967296 - y - r := by omega
      have e2 : x + 4294967296 - y - r + y + r = x + 4294967296 := by omega
      have e3 := congrArg (P * ·) e2
      simp only [Nat.mul_add] at e3
      rw [e]
      omega
    · next h =>
      have e : (x + 8589934592 - y - r) % 4294967296 = x - y - r := by omega
      have e2 : x - y - r + y + r = x := by omega
      have e3 := congrArg (P * ·) e2
      simp only [Nat.mul_add] at e3
      rw [e]
      omega

/-- The same over any indices, one after another. -/
def subP (xs ys : List Nat) (ks : List Nat) : List Nat × Nat := ks.foldl (fun r k => (r.1 ++ [(xs[k]?.getD 0 + 8589934592 - ys[k]?.getD 0 - r.2) % 4294967296], if xs[k]?.getD 0 < ys[k]?.getD 0 + r.2 then 1 else 0)) ([], 0)
theorem subP_snoc (xs ys ks : List Nat) (k : Nat) : subP xs ys (ks ++ [k]) = ((subP xs ys ks).1 ++ [(xs[k]?.getD 0 + 8589934592 - ys[k]?.getD 0 - (subP xs ys ks).2) % 4294967296], if xs[k]?.getD 0 < ys[k]?.getD 0 + (subP xs ys ks).2 then 1 else 0) := by
  unfold subP
  rw [List.foldl_append]
  rfl
theorem subP_range (xs ys : List Nat) (n : Nat) : subP xs ys (List.range n) = subK xs ys n := by
  induction n with
  | zero => rfl
  | succ n ih => rw [List.range_succ, subP_snoc, ih]; rfl
theorem subP_len (xs ys ks : List Nat) : (subP xs ys ks).1.length = ks.length := by
  induction ks using snoc_ind with
  | h0 => rfl
  | h1 ks k ih => rw [subP_snoc]; simp [ih]
theorem subP_carry (xs ys ks : List Nat) : (subP xs ys ks).2 ≤ 1 := by
  induction ks using snoc_ind with
  | h0 => exact Nat.zero_le _
  | h1 ks k ih =>
    rw [subP_snoc]
    show (if xs[k]?.getD 0 < ys[k]?.getD 0 + (subP xs ys ks).2 then 1 else 0) ≤ 1
    split <;> omega

end Go.Proofs.Ytegpckhfncblhaa

/- The guess of a quotient's digit, in numbers. -/
namespace Go.Proofs.Ytegpckhfncblhaa
open Go.RowKit

/-- The guess of a quotient's digit from three limbs and two. -/
def gs (b1 b2 h u1 u2 : Nat) : Nat := min 4294967295 (((h * 4294967296 + u1) * 4294967296 + u2) / (b1 * 4294967296 + b2))

theorem gs_le (b1 b2 h u1 u2 : Nat) : gs b1 b2 h u1 u2 ≤ 4294967295 := Nat.min_le_left _ _
set_option maxRecDepth 100000 in
theorem gs_lt {b1 b2 h u1 u2 D R : Nat} (hw : 0 < b1) (hD : D * b1 + R = h * 4294967296 + u1) (hc : 4294967295 < D ∨ R * 4294967296 + u2 < D * b2) : gs b1 b2 h u1 u2 < D := by
  rcases hc with hc | hc
  · exact Nat.lt_of_le_of_lt (gs_le _ _ _ _ _) hc
  · refine Nat.lt_of_le_of_lt (show gs b1 b2 h u1 u2 ≤ ((h * 4294967296 + u1) * 4294967296 + u2) / (b1 * 4294967296 + b2) from Nat.min_le_right _ _) ?_
    rw [Nat.div_lt_iff_lt_mul (by omega), ← hD, Nat.mul_add, ← Nat.mul_assoc, Nat.add_mul, Nat.add_assoc]
    exact Nat.add_lt_add_left hc _
theorem le_min_ {a b c : Nat} (h1 : a ≤ b) (h2 : a ≤ c) : a ≤ min b c := by omega
theorem gs_eq {b1 b2 h u1 u2 D R : Nat} (hw : 0 < b1) (hD : D * b1 + R = h * 4294967296 + u1) (h1 : D ≤ 4294967295) (h2 : D * b2 ≤ R * 4294967296 + u2) (hq : gs b1 b2 h u1 u2 ≤ D) : gs b1 b2 h u1 u2 = D := by
  refine Nat.le_antisymm hq ?_
  have h3 : D ≤ ((h * 4294967296 + u1) * 4294967296 + u2) / (b1 * 4294967296 + b2) := by
    rw [Nat.le_div_iff_mul_le (by omega), ← hD, Nat.mul_add, ← Nat.mul_assoc, Nat.add_mul]
    omega
  unfold gs
  exact le_min_ h1 h3
theorem gs_break {b1 b2 h u1 u2 D R : Nat} (hw : 0 < b1) (hb2 : b2 < 4294967296) (hu1 : u1 < 4294967296) (hh : h ≤ b1) (hD : D * b1 + R = h * 4294967296 + u1) (hR : 4294967296 ≤ R) (hq : gs b1 b2 h u1 u2 ≤ D) : gs b1 b2 h u1 u2 = D := by
  have h1 : D ≤ 4294967295 := by
    rcases Nat.lt_or_ge 4294967295 D with hc | hc
    · have := Nat.mul_le_mul_right b1 (show 4294967296 ≤ D from hc)
      omega
    · exact hc
  refine gs_eq hw hD h1 ?_ hq
  have := mul_bd (show D < 4294967296 by omega) hb2
  omega
theorem gs_start {b1 b2 h u1 u2 D R : Nat} (hu : u2 < 4294967296) (hD : b1 * D + R = h * 4294967296 + u1) (hR : R < b1) : gs b1 b2 h u1 u2 ≤ D := by
  unfold gs
  refine Nat.le_trans (Nat.min_le_right _ _) (Nat.le_of_lt_succ ?_)
  rw [Nat.div_lt_iff_lt_mul (by omega), ← hD, Nat.mul_add, ← Nat.mul_assoc]
  have h3 : D.succ * b1 = b1 * D + b1 := by rw [Nat.succ_mul, Nat.mul_comm]
  rw [h3]
  have h5 : 0 ≤ D.succ * b2 := Nat.zero_le _
  omega

/-- A step of division by a number of 64 bits whose highest one is set: the guess is the quotient. -/
theorem gs_exact {b1 b2 Y U u : Nat} (hY : Y = b1 * 4294967296 + b2) (hU : U < Y) (hu : u < 4294967296) :
    gs b1 b2 (U / 4294967296) (U % 4294967296) u = (U * 4294967296 + u) / Y := by
  unfold gs
  have e : U / 4294967296 * 4294967296 + U % 4294967296 = U := by omega
  rw [e, ← hY]
  have h : (U * 4294967296 + u) / Y < 4294967296 := by
    rw [Nat.div_lt_iff_lt_mul (by omega), Nat.mul_comm 4294967296 Y]
    have := Nat.mul_le_mul_right 4294967296 (show U + 1 ≤ Y from hU)
    omega
  omega
set_option maxRecDepth 100000 in
/-- The rest of such a step, in arithmetic of 64 bits. -/
theorem rest_wrap {Y U u q : Nat} (hq : q = (U * 4294967296 + u) / Y) (hY0 : 0 < Y) (hY : Y < 18446744073709551616) :
    (((U * 4294967296) % 18446744073709551616 + u) % 18446744073709551616 + 18446744073709551616 - (q * Y) % 18446744073709551616) % 18446744073709551616 = (U * 4294967296 + u) % Y := by
  have h1 := Nat.div_add_mod (U * 4294967296 + u) Y
  have h2 := Nat.mod_lt (U * 4294967296 + u) hY0
  rw [← hq, Nat.mul_comm Y q] at h1
  clear hq
  omega
theorem two_steps_gen (K Y B u0 : Nat) (hY0 : 0 < Y) : B / Y * K + (B % Y * K + u0) / Y = (B * K + u0) / Y ∧ (B % Y * K + u0) % Y = (B * K + u0) % Y := by
  have h1 := Nat.div_add_mod B Y
  have e : B * K + u0 = B % Y * K + u0 + Y * (B / Y * K) := by
    have h4 : B * K = Y * (B / Y) * K + B % Y * K := by rw [← Nat.add_mul, h1]
    rw [h4, Nat.mul_assoc]; omega
  rw [e, Nat.add_mul_div_left _ _ hY0, Nat.add_mul_mod_self_left]
  exact ⟨Nat.add_comm _ _, rfl⟩
/-- Both steps: the quotient and the rest of three parts. -/
theorem two_steps {Y U u1 u0 : Nat} (hY0 : 0 < Y) :
    (U * 4294967296 + u1) / Y * 4294967296 + ((U * 4294967296 + u1) % Y * 4294967296 + u0) / Y = ((U * 4294967296 + u1) * 4294967296 + u0) / Y ∧
    ((U * 4294967296 + u1) % Y * 4294967296 + u0) % Y = ((U * 4294967296 + u1) * 4294967296 + u0) % Y := two_steps_gen _ _ _ _ hY0
/-- The same quotient where both numbers are shifted left. -/
theorem shifted_div (N y s : Nat) (_hy : 0 < y) : (N * 2 ^ s) / (y * 2 ^ s) = N / y ∧ (N * 2 ^ s) % (y * 2 ^ s) / 2 ^ s = N % y := by
  have h2 : 0 < 2 ^ s := Nat.pow_pos (by omega)
  refine ⟨Nat.mul_div_mul_right _ _ h2, ?_⟩
  rw [Nat.mul_mod_mul_right, Nat.mul_div_cancel _ h2]
end Go.Proofs.Ytegpckhfncblhaa

/- The numbers of intervals: quotients of products, rounded down and up; what lies beyond the range is clamped. -/
namespace Go.Proofs.Ytegpckhfncblhaa

/-- The error of an interval. -/
def ivC (lo hi : Int) : Int := if lo < -2305843009213693952 ∨ hi < lo ∨ 2305843009213693952 < hi then 8 else 0
theorem ivC_cases (lo hi : Int) : ivC lo hi = 0 ∧ -2305843009213693952 ≤ lo ∧ lo ≤ hi ∧ hi ≤ 2305843009213693952 ∨ ivC lo hi = 8 ∧ (lo < -2305843009213693952 ∨ hi < lo ∨ 2305843009213693952 < hi) := by
  unfold ivC
  by_cases h : lo < -2305843009213693952 ∨ hi < lo ∨ 2305843009213693952 < hi
  · rw [if_pos h]; exact .inr ⟨rfl, h⟩
  · rw [if_neg h]; exact .inl ⟨rfl, by omega, by omega, by omega⟩
theorem ivC_ok {lo hi : Int} (h1 : -2305843009213693952 ≤ lo) (h2 : lo ≤ hi) (h3 : hi ≤ 2305843009213693952) : ivC lo hi = 0 := by
  unfold ivC; rw [if_neg (by omega)]
theorem ivC_bad {lo hi : Int} (h : lo < -2305843009213693952 ∨ hi < lo ∨ 2305843009213693952 < hi) : ivC lo hi = 8 := by
  unfold ivC; rw [if_pos h]
/-- What is beyond the range becomes one more than the greatest end. -/
def cl (z : Int) : Int := max (-2305843009213693953) (min 2305843009213693953 z)
theorem cl_in {z : Int} (h1 : -2305843009213693952 ≤ z) (h2 : z ≤ 2305843009213693952) : cl z = z := by unfold cl; omega
theorem cl_min (a b : Int) : cl (min a b) = min (cl a) (cl b) := by unfold cl; omega
theorem cl_max (a b : Int) : cl (max a b) = max (cl a) (cl b) := by unfold cl; omega
theorem cl_neg (a : Int) : cl (-a) = -cl a := by unfold cl; omega
theorem cl_mono {a b : Int} (h : a ≤ b) : cl a ≤ cl b := by unfold cl; omega
theorem cl_cl (a : Int) : cl (cl a) = cl a := by unfold cl; omega
/-- The ends that a result has, or ErrRange. -/
structure Out where
  lo : Int
  hi : Int
  err : Int
def mkI (lo hi : Int) : Out := if lo < -2305843009213693952 ∨ 2305843009213693952 < hi then ⟨0, 0, 16⟩ else ⟨lo, hi, 0⟩
theorem mkI_in {lo hi : Int} (h1 : -2305843009213693952 ≤ lo) (h2 : hi ≤ 2305843009213693952) : mkI lo hi = ⟨lo, hi, 0⟩ := by unfold mkI; rw [if_neg (by omega)]
theorem mkI_out {lo hi : Int} (h : lo < -2305843009213693952 ∨ 2305843009213693952 < hi) : mkI lo hi = ⟨0, 0, 16⟩ := by unfold mkI; rw [if_pos h]
theorem mkI_cl {lo hi lo' hi' : Int} (h1 : cl lo = cl lo') (h2 : cl hi = cl hi') (_h3 : lo ≤ hi) (_h4 : lo' ≤ hi') : mkI lo hi = mkI lo' hi' := by
  unfold mkI cl at *
  by_cases h : lo < -2305843009213693952 ∨ 2305843009213693952 < hi
  · rw [if_pos h, if_pos (by omega)]
  · rw [if_neg h, if_neg (by omega)]
    have e1 : lo = lo' := by omega
    have e2 : hi = hi' := by omega
    rw [e1, e2]

/-- The quotient rounded up. -/
def cdiv (p d : Int) : Int := -((-p) / d)
theorem fdiv_mono {p q d : Int} (hd : 0 < d) (h : p ≤ q) : p / d ≤ q / d := Int.ediv_le_ediv hd h
theorem cdiv_mono {p q d : Int} (hd : 0 < d) (h : p ≤ q) : cdiv p d ≤ cdiv q d := by
  unfold cdiv
  have := Int.ediv_le_ediv hd (show -q ≤ -p by omega)
  omega
theorem fdiv_le_cdiv {p d : Int} (hd : 0 < d) : p / d ≤ cdiv p d := by
  unfold cdiv
  have h1 := Int.mul_ediv_self_le (x := p) (k := d) (by omega)
  have h2 := Int.mul_ediv_self_le (x := -p) (k := d) (by omega)
  have h3 : d * (p / d + -p / d) ≤ 0 := by rw [Int.mul_add]; omega
  have h4 : p / d + -p / d ≤ 0 := by
    rcases Int.lt_or_le 0 (p / d + -p / d) with h | h
    · have := Int.mul_pos hd h; omega
    · exact h
  omega
theorem cdiv_nat (N D : Nat) (hD : 0 < D) : cdiv (N : Int) (D : Int) = ((N / D + (if N % D = 0 then 0 else 1) : Nat) : Int) := by
  unfold cdiv
  have h1 := Nat.div_add_mod N D
  have h2 := Nat.mod_lt N hD
  have e : -(N : Int) = (-((N / D + (if N % D = 0 then 0 else 1) : Nat) : Int)) * (D : Int) + (if N % D = 0 then 0 else ((D - N % D : Nat) : Int)) := by
    have h1' : (D : Int) * ((N / D : Nat) : Int) + ((N % D : Nat) : Int) = (N : Int) := by rw [← Int.natCast_mul, ← Int.natCast_add, h1]
    generalize N / D = q at *
    generalize N % D = r at *
    by_cases hr : r = 0
    · rw [if_pos hr, if_pos hr, Int.neg_mul, Int.mul_comm, Nat.add_zero]; omega
    · rw [if_neg hr, if_neg hr, Int.neg_mul, Int.natCast_add, Int.add_mul, Int.mul_comm]; omega
  rw [e, Int.add_comm, Int.add_mul_ediv_right _ _ (by omega)]
  have h3 : (if N % D = 0 then (0 : Int) else ((D - N % D : Nat) : Int)) / (D : Int) = 0 := by
    by_cases hr : N % D = 0
    · rw [if_pos hr]; simp
    · rw [if_neg hr]; exact Int.ediv_eq_zero_of_lt (by omega) (by omega)
  rw [h3]; omega
/-- What the program makes of a quotient's whole part: clamped, and one more if there is a rest. -/
def arLo (q : Nat) : Int := ((min q 2305843009213693953 : Nat) : Int)
def arHi (q : Nat) (more : Bool) : Int := arLo q + (if more then 1 else 0)
theorem arLo_cl (q : Nat) : cl (arLo q) = cl (q : Int) := by unfold cl arLo; omega
theorem arHi_cl (N D : Nat) (hD : 0 < D) (more : Bool) (hm : more = true → N % D ≠ 0) (hm2 : more = false → N % D = 0 ∨ 2305843009213693953 ≤ N / D) : cl (arHi (N / D) more) = cl (cdiv (N : Int) (D : Int)) := by
  rw [cdiv_nat N D hD]
  unfold cl arHi arLo
  cases more
  · rcases hm2 rfl with h | h
    · rw [if_pos h]; simp only [Bool.false_eq_true, if_false]; omega
    · simp only [Bool.false_eq_true, if_false]
      by_cases hr : N % D = 0
      · rw [if_pos hr]; omega
      · rw [if_neg hr]; omega
  · rw [if_neg (hm rfl)]; simp only [if_true]; omega
/-- The number of a product. -/
def sgn (neg : Bool) (N : Nat) : Int := if neg then -(N : Int) else (N : Int)
/-- The ends that the program makes of a signed quotient. -/
def ovLo (neg : Bool) (q : Nat) (more : Bool) : Int := if neg then -arHi q more else arLo q
def ovHi (neg : Bool) (q : Nat) (more : Bool) : Int := if neg then -arLo q else arHi q more
theorem ov_le (neg : Bool) (q : Nat) (more : Bool) : ovLo neg q more ≤ ovHi neg q more := by
  unfold ovLo ovHi arHi
  cases neg <;> cases more <;> simp <;> omega
theorem ovLo_cl (neg : Bool) (N D : Nat) (hD : 0 < D) (more : Bool) (hm : more = true → N % D ≠ 0) (hm2 : more = false → N % D = 0 ∨ 2305843009213693953 ≤ N / D) : cl (ovLo neg (N / D) more) = cl (sgn neg N / (D : Int)) := by
  unfold ovLo sgn
  cases neg
  · simp only [Bool.false_eq_true, if_false]; rw [arLo_cl, Int.natCast_ediv]
  · simp only [if_true]; rw [cl_neg, arHi_cl N D hD more hm hm2, ← cl_neg]; unfold cdiv; rw [Int.neg_neg]
theorem ovHi_cl (neg : Bool) (N D : Nat) (hD : 0 < D) (more : Bool) (hm : more = true → N % D ≠ 0) (hm2 : more = false → N % D = 0 ∨ 2305843009213693953 ≤ N / D) : cl (ovHi neg (N / D) more) = cl (cdiv (sgn neg N) (D : Int)) := by
  unfold ovHi sgn
  cases neg
  · simp only [Bool.false_eq_true, if_false]; exact arHi_cl N D hD more hm hm2
  · simp only [if_true]; rw [cl_neg, arLo_cl]; unfold cdiv; rw [Int.neg_neg, ← cl_neg, Int.natCast_ediv]
end Go.Proofs.Ytegpckhfncblhaa

/- The numbers of intervals: the corners of products and quotients. -/
namespace Go.Proofs.Ytegpckhfncblhaa

theorem fdiv_min {d : Int} (hd : 0 < d) (a b : Int) : min a b / d = min (a / d) (b / d) := by
  rcases Int.le_total a b with h | h
  · have := fdiv_mono hd h; rw [Int.min_eq_left h, Int.min_eq_left this]
  · have := fdiv_mono hd h; rw [Int.min_eq_right h, Int.min_eq_right this]
theorem cdiv_max {d : Int} (hd : 0 < d) (a b : Int) : cdiv (max a b) d = max (cdiv a d) (cdiv b d) := by
  rcases Int.le_total a b with h | h
  · have := cdiv_mono hd h; rw [Int.max_eq_right h, Int.max_eq_right this]
  · have := cdiv_mono hd h; rw [Int.max_eq_left h, Int.max_eq_left this]
def mn4 (a b c d : Int) : Int := min (min (min a b) c) d
def mx4 (a b c d : Int) : Int := max (max (max a b) c) d
theorem mn4_cl {a b c d a' b' c' d' : Int} (h1 : cl a = cl a') (h2 : cl b = cl b') (h3 : cl c = cl c') (h4 : cl d = cl d') : cl (mn4 a b c d) = cl (mn4 a' b' c' d') := by
  unfold mn4; rw [cl_min, cl_min, cl_min, cl_min, cl_min, cl_min, h1, h2, h3, h4]
theorem mx4_cl {a b c d a' b' c' d' : Int} (h1 : cl a = cl a') (h2 : cl b = cl b') (h3 : cl c = cl c') (h4 : cl d = cl d') : cl (mx4 a b c d) = cl (mx4 a' b' c' d') := by
  unfold mx4; rw [cl_max, cl_max, cl_max, cl_max, cl_max, cl_max, h1, h2, h3, h4]
theorem mn4_fdiv {d : Int} (hd : 0 < d) (a b c e : Int) : mn4 a b c e / d = mn4 (a / d) (b / d) (c / d) (e / d) := by
  unfold mn4; rw [fdiv_min hd, fdiv_min hd, fdiv_min hd]
theorem mx4_cdiv {d : Int} (hd : 0 < d) (a b c e : Int) : cdiv (mx4 a b c e) d = mx4 (cdiv a d) (cdiv b d) (cdiv c d) (cdiv e d) := by
  unfold mx4; rw [cdiv_max hd, cdiv_max hd, cdiv_max hd]
theorem mn_mx {a b c d a' b' c' d' : Int} (_h1 : a ≤ a') (_h2 : b ≤ b') (_h3 : c ≤ c') (_h4 : d ≤ d') : mn4 a b c d ≤ mx4 a' b' c' d' := by unfold mn4 mx4; omega

/-- What the reference makes of a quotient's absolute value. -/
def roK (N d : Nat) (b : Bool) : Nat := if 4611686018427387904 ≤ N / d then 4611686018427387904 else N / d + (if b && decide (0 < N % d) then 1 else 0)
def rov (neg up : Bool) (N d : Nat) : Int := sgn neg (roK N d (up != neg))
theorem rov_lo (neg : Bool) (N D : Nat) (hD : 0 < D) : cl (rov neg false N D) = cl (sgn neg N / (D : Int)) := by
  unfold rov sgn roK
  cases neg
  · simp only [Bool.false_eq_true, if_false, bne_self_eq_false, Bool.false_and]
    rw [← Int.natCast_ediv]
    unfold cl
    by_cases h : 4611686018427387904 ≤ N / D
    · rw [if_pos h]; omega
    · rw [if_neg h]; omega
  · have e : -(N : Int) / (D : Int) = -cdiv (N : Int) (D : Int) := by unfold cdiv; rw [Int.neg_neg]
    simp only [if_true, e, cdiv_nat N D hD]
    unfold cl
    by_cases h : 4611686018427387904 ≤ N / D
    · rw [if_pos h]; split <;> omega
    · rw [if_neg h]
      by_cases h0 : N % D = 0
      · rw [if_pos h0, if_neg (by simp; omega)]
      · rw [if_neg h0, if_pos (by simp; omega)]
theorem rov_hi (neg : Bool) (N D : Nat) (hD : 0 < D) : cl (rov neg true N D) = cl (cdiv (sgn neg N) (D : Int)) := by
  unfold rov sgn roK
  cases neg
  · simp only [Bool.false_eq_true, if_false, cdiv_nat N D hD]
    unfold cl
    by_cases h : 4611686018427387904 ≤ N / D
    · rw [if_pos h]; split <;> omega
    · rw [if_neg h]
      by_cases h0 : N % D = 0
      · rw [if_pos h0, if_neg (by simp; omega)]
      · rw [if_neg h0, if_pos (by simp; omega)]
  · have e : cdiv (-(N : Int)) (D : Int) = -((N / D : Nat) : Int) := by unfold cdiv; rw [Int.neg_neg, Int.natCast_ediv]
    simp only [if_true, e, bne_self_eq_false, Bool.false_and, Bool.false_eq_true, if_false]
    unfold cl
    by_cases h : 4611686018427387904 ≤ N / D
    · rw [if_pos h]; omega
    · rw [if_neg h]; omega

/-- The quotient by a number of either sign, with the sign moved to the dividend. -/
theorem quo_mono_div {p d e : Int} (hp : 0 ≤ p) (hd : 0 < d) (h : d ≤ e) : p / e ≤ p / d := by
  rw [Int.le_ediv_iff_mul_le hd]
  have h1 : p / e * e ≤ p := Int.ediv_mul_le p (by omega)
  have h2 : 0 ≤ p / e := Int.ediv_nonneg hp (by omega)
  have h3 := Int.mul_le_mul_of_nonneg_left h h2
  omega
theorem quo_mono_div_neg {p d e : Int} (hp : p ≤ 0) (hd : 0 < d) (h : d ≤ e) : p / d ≤ p / e := by
  rw [Int.le_ediv_iff_mul_le (by omega)]
  have h1 : p / d * d ≤ p := Int.ediv_mul_le p (by omega)
  have h2 : p / d ≤ 0 := by
    rcases Int.lt_or_le 0 (p / d) with h | h
    · have h3 := Int.mul_pos h hd; omega
    · exact h
  have h3 := Int.mul_le_mul_of_nonpos_left h2 h
  omega
theorem cquo_mono_div {p d e : Int} (hp : 0 ≤ p) (hd : 0 < d) (h : d ≤ e) : cdiv p e ≤ cdiv p d := by
  unfold cdiv
  have := quo_mono_div_neg (show -p ≤ 0 by omega) hd h
  omega
theorem cquo_mono_div_neg {p d e : Int} (hp : p ≤ 0) (hd : 0 < d) (h : d ≤ e) : cdiv p d ≤ cdiv p e := by
  unfold cdiv
  have := quo_mono_div (show 0 ≤ -p by omega) hd h
  omega
/-- The least quotient of the corners, the divisor greater than 0. -/
theorem least_quo {p q c d : Int} (hpq : p ≤ q) (hc : 0 < c) (hcd : c ≤ d) : mn4 (p / c) (p / d) (q / c) (q / d) = if p < 0 then p / c else p / d := by
  have h1 := fdiv_mono hc hpq
  have h2 := fdiv_mono (show 0 < d by omega) hpq
  by_cases hp : p < 0
  · rw [if_pos hp]
    have h3 := quo_mono_div_neg (show p ≤ 0 by omega) hc hcd
    unfold mn4; omega
  · rw [if_neg hp]
    have h3 := quo_mono_div (show 0 ≤ p by omega) hc hcd
    have h4 := quo_mono_div (show 0 ≤ q by omega) hc hcd
    unfold mn4; omega
theorem most_quo {p q c d : Int} (hpq : p ≤ q) (hc : 0 < c) (hcd : c ≤ d) : mx4 (cdiv p c) (cdiv p d) (cdiv q c) (cdiv q d) = if 0 < q then cdiv q c else cdiv q d := by
  have h1 := cdiv_mono hc hpq
  have h2 := cdiv_mono (show 0 < d by omega) hpq
  by_cases hq : 0 < q
  · rw [if_pos hq]
    have h3 := cquo_mono_div (show 0 ≤ q by omega) hc hcd
    unfold mx4; omega
  · rw [if_neg hq]
    have h3 := cquo_mono_div_neg (show q ≤ 0 by omega) hc hcd
    have h4 := cquo_mono_div_neg (show p ≤ 0 by omega) hc hcd
    unfold mx4; omega
end Go.Proofs.Ytegpckhfncblhaa

/- Intervals: words for their boxes, and Check, made and checkAll on both sides. -/
namespace Go.Proofs.Ytegpckhfncblhaa
open Go.RowKit

abbrev iv (lo hi : Int) : Value := .agg #[.int .i64 lo, .int .i64 hi]
abbrev ivB (lo hi : Int) : Obj := .cells #[.int .i64 lo, .int .i64 hi] 23
/-- A call returns an interval and an error; what was there is kept. -/
def RO (w : World) (o : Out) (e : Ending) (w' : World) : Prop := e = .returned (.tuple #[iv o.lo o.hi, .int .i64 o.err]) ∧ Below w.heap.size w w'
/-- A call returns an interval. -/
def RV (w : World) (lo hi : Int) (e : Ending) (w' : World) : Prop := e = .returned (iv lo hi) ∧ Below w.heap.size w w'
/-- A call returns a whole number. -/
def RN1 (w : World) (v : Int) (e : Ending) (w' : World) : Prop := e = .returned (.int .i64 v) ∧ Below w.heap.size w w'
theorem sbtr {a b c : World} (h : Below a.heap.size a b) (h' : Below b.heap.size b c) : Below a.heap.size a c := h.trans (h'.mono h.size)
theorem sbal {a b : World} (h : Below a.heap.size a b) (o : Obj) : Below a.heap.size a (b.alloc o) := h.alloc h.size o
theorem res_iv {fn : Func} {r s : Nat} (hr : fn.results = #[.cell r 23, .tmp s]) {tmps : Array Value} {w : World} {g : Nat} {x y : Value} (ht : tmps.getD r undef = .pointer (some ⟨g, 0, none⟩))
    (p : Pr w g x y) : (results fn tmps).run Try.prog w = .ok (.tuple #[.agg #[x, y], tmps.getD s undef]) w := by
  have h0 := p.c0; have h1 := p.c1
  rw [Array.getD_eq_getD_getElem?] at ht
  simp [results, hr, go_sem, ht, h0, h1]
theorem post_iv {fn : Func} {r s : Nat} (hr : fn.results = #[.cell r 23, .tmp s]) {R : Ending → World → Prop} {a : Act} {w : World} {g : Nat} {x y : Value} (ht : a.tmps.getD r undef = .pointer (some ⟨g, 0, none⟩))
    (hd : a.defers = []) (p : Pr w g x y) (h : R (.returned (.tuple #[.agg #[x, y], a.tmps.getD s undef])) w) : bodyPost Try.prog fn R .ret a w :=
  bodyPost_ret (res_iv hr ht p) hd h
theorem res_iv1 {fn : Func} {r : Nat} (hr : fn.results = #[.cell r 23]) {tmps : Array Value} {w : World} {g : Nat} {x y : Value} (ht : tmps.getD r undef = .pointer (some ⟨g, 0, none⟩))
    (p : Pr w g x y) : (results fn tmps).run Try.prog w = .ok (.agg #[x, y]) w := by
  have h0 := p.c0; have h1 := p.c1
  rw [Array.getD_eq_getD_getElem?] at ht
  simp [results, hr, go_sem, ht, h0, h1]
theorem post_iv1 {fn : Func} {r : Nat} (hr : fn.results = #[.cell r 23]) {R : Ending → World → Prop} {a : Act} {w : World} {g : Nat} {x y : Value} (ht : a.tmps.getD r undef = .pointer (some ⟨g, 0, none⟩))
    (hd : a.defers = []) (p : Pr w g x y) (h : R (.returned (.agg #[x, y])) w) : bodyPost Try.prog fn R .ret a w :=
  bodyPost_ret (res_iv1 hr ht p) hd h

set_option maxRecDepth 100000 in
theorem scheck_any (w : World) (lo hi : Int) : Calls Try.prog 16 #[iv lo hi] w (RN1 w (ivC lo hi)) := by
  rcases ivC_cases lo hi with ⟨h, h1, h2, h3⟩ | ⟨h, hc⟩
  · rw [h]; clear h
    go_enter Try.func16, Try.ntmps16
    go_wp2
    go_ret
    exact ⟨rfl, by go_grown⟩
  · rw [h]; clear h
    by_cases h1 : lo < -2305843009213693952
    · clear hc
      go_enter Try.func16, Try.ntmps16
      go_wp2
      go_ret
      exact ⟨rfl, by go_grown⟩
    · by_cases h2 : hi < lo
      · clear hc
        go_enter Try.func16, Try.ntmps16
        go_wp2
        go_ret
        exact ⟨rfl, by go_grown⟩
      · have h3 : 2305843009213693952 < hi := by omega
        clear hc
        go_enter Try.func16, Try.ntmps16
        go_wp2
        go_ret
        exact ⟨rfl, by go_grown⟩
set_option maxRecDepth 100000 in
theorem rscheck_any (w : World) (lo hi : Int) : Calls Try.prog 17 #[iv lo hi] w (RN1 w (ivC lo hi)) := by
  rcases ivC_cases lo hi with ⟨h, h1, h2, h3⟩ | ⟨h, hc⟩
  · rw [h]; clear h
    go_enter Try.func17, Try.ntmps17
    go_wp2
    go_ret
    exact ⟨rfl, by go_grown⟩
  · rw [h]; clear h
    by_cases h1 : hi < lo
    · clear hc
      go_enter Try.func17, Try.ntmps17
      go_wp2
      go_ret
      exact ⟨rfl, by go_grown⟩
    · by_cases h2 : lo < -2305843009213693952
      · clear hc
        go_enter Try.func17, Try.ntmps17
        go_wp2
        go_ret
        exact ⟨rfl, by go_grown⟩
      · have h3 : 2305843009213693952 < hi := by omega
        clear hc
        go_enter Try.func17, Try.ntmps17
        go_wp2
        go_ret
        exact ⟨rfl, by go_grown⟩
/-- The error of the first one of two intervals that has one. -/
def ivB2 (al ah bl bh : Int) : Int := if ivC al ah = 0 then ivC bl bh else ivC al ah
theorem ivB2_ok {al ah bl bh : Int} (h : ivC al ah = 0) : ivB2 al ah bl bh = ivC bl bh := by unfold ivB2; rw [if_pos h]
theorem ivB2_bad {al ah bl bh : Int} (h : ivC al ah = 8) : ivB2 al ah bl bh = 8 := by unfold ivB2; rw [if_neg (by rw [h]; decide), h]
set_option maxRecDepth 100000 in
theorem rboth_any (w : World) (al ah bl bh : Int) : Calls Try.prog 37 #[iv al ah, iv bl bh] w (RN1 w (ivB2 al ah bl bh)) := by
  have PA := Lib.hid ((Pr.new w w.heap.size rfl (.int .i64 al) (.int .i64 ah) 23).alloc (ivB bl bh))
  have PB := Lib.hid (Pr.new (w.alloc (ivB al ah)) (w.heap.size + 1) (by simp) (.int .i64 bl) (.int .i64 bh) 23)
  rcases ivC_cases al ah with ⟨h, _⟩ | ⟨h, _⟩
  · have H := Lib.hid h
    rw [ivB2_ok h]; clear h
    go_enter Try.func37, Try.ntmps37
    go_wp2_with fail
    refine (rscheck_any _ al ah).mono ?_
    rintro e w1 ⟨rfl, hb⟩
    have P1 := Lib.hid (PA.out.via hb)
    have P2 := Lib.hid (PB.out.via hb)
    have B1 := Lib.hid (bbox (bbox hb))
    clear hb PA PB
    rw [H.out]
    have ⟨a0, a1, _, _, _⟩ := P1.out
    have ⟨b0, b1, _, _, _⟩ := P2.out
    go_wp2_with fail
    refine (rscheck_any _ bl bh).mono ?_
    rintro e w2 ⟨rfl, hb⟩
    have B2 := Lib.hid (sbtr B1.out hb)
    clear hb a0 a1 b0 b1 B1
    go_wp2
    go_ret
    exact ⟨rfl, B2.out⟩
  · have H := Lib.hid h
    rw [ivB2_bad h]; clear h
    go_enter Try.func37, Try.ntmps37
    go_wp2_with fail
    refine (rscheck_any _ al ah).mono ?_
    rintro e w1 ⟨rfl, hb⟩
    have P1 := Lib.hid (PA.out.via hb)
    have P2 := Lib.hid (PB.out.via hb)
    have B1 := Lib.hid (bbox (bbox hb))
    clear hb PA PB
    rw [H.out]
    have ⟨a0, a1, _, _, _⟩ := P1.out
    have ⟨b0, b1, _, _, _⟩ := P2.out
    go_wp2_with fail
    refine (rscheck_any _ al ah).mono ?_
    rintro e w2 ⟨rfl, hb⟩
    have B2 := Lib.hid (sbtr B1.out hb)
    clear hb a0 a1 b0 b1 B1
    rw [H.out]
    go_wp2
    go_ret
    exact ⟨rfl, B2.out⟩
set_option maxRecDepth 100000 in
theorem rmade_any (w : World) (lo hi : Int) : Calls Try.prog 20 #[.int .i64 lo, .int .i64 hi] w (RO w (mkI lo hi)) := by
  by_cases h1 : lo < -2305843009213693952
  · rw [mkI_out (.inl h1)]
    go_enter Try.func20, Try.ntmps20
    go_wp2
    exact post_iv Try.results20 rfl rfl (Pr.new w _ rfl _ _ _) ⟨rfl, by go_grown⟩
  · by_cases h2 : 2305843009213693952 < hi
    · rw [mkI_out (.inr h2)]
      go_enter Try.func20, Try.ntmps20
      go_wp2
      exact post_iv Try.results20 rfl rfl (Pr.new w _ rfl _ _ _) ⟨rfl, by go_grown⟩
    · rw [mkI_in (by omega) (by omega)]
      go_enter Try.func20, Try.ntmps20
      go_wp2
      exact post_iv Try.results20 rfl rfl (Pr.new w _ rfl _ _ _) ⟨rfl, by go_grown⟩
set_option maxRecDepth 100000 in
theorem smade_any (w : World) (lo hi : Int) (hle : lo ≤ hi) : Calls Try.prog 26 #[iv lo hi] w (RO w (mkI lo hi)) := by
  have PA := Lib.hid ((Pr.new w w.heap.size rfl (.int .i64 lo) (.int .i64 hi) 23).alloc (ivB 0 0))
  have PB := Lib.hid (Pr.new (w.alloc (ivB lo hi)) (w.heap.size + 1) (by simp) (.int .i64 0) (.int .i64 0) 23)
  rcases ivC_cases lo hi with ⟨h, h1, _, h2⟩ | ⟨h, hc⟩
  · rw [mkI_in h1 h2]
    have H := Lib.hid h
    clear h h1 h2
    go_enter Try.func26, Try.ntmps26
    go_wp2_with fail
    refine (scheck_any _ lo hi).mono ?_
    rintro e w1 ⟨rfl, hb⟩
    have P1 := Lib.hid (PA.out.via hb)
    have P2 := Lib.hid (PB.out.via hb)
    have B1 := Lib.hid (bbox (bbox hb))
    clear hb PA PB
    rw [H.out]
    have ⟨a0, a1, _, _, _⟩ := P1.out
    have ⟨b0, b1, f0, f1, bl⟩ := P2.out
    go_wp2
    exact post_iv Try.results26 rfl rfl (P2.out.set _ _) ⟨rfl, below_set2 B1.out (by omega) _ _⟩
  · rw [mkI_out (by omega)]
    have H := Lib.hid h
    clear h hc
    go_enter Try.func26, Try.ntmps26
    go_wp2_with fail
    refine (scheck_any _ lo hi).mono ?_
    rintro e w1 ⟨rfl, hb⟩
    have P1 := Lib.hid (PA.out.via hb)
    have P2 := Lib.hid (PB.out.via hb)
    have B1 := Lib.hid (bbox (bbox hb))
    clear hb PA PB
    rw [H.out]
    have ⟨a0, a1, _, _, _⟩ := P1.out
    have ⟨b0, b1, f0, f1, bl⟩ := P2.out
    go_wp2
    exact post_iv Try.results26 rfl rfl (P2.out.set _ _) ⟨rfl, below_set2 B1.out (by omega) _ _⟩
end Go.Proofs.Ytegpckhfncblhaa

/- An interval that came in. -/
namespace Go.Proofs.Ytegpckhfncblhaa
open Go.ChangeShapes Go.WideShapes Go.ChangeAt Go.RowKit Go.Joins

theorem cells_iv : Try.prog.cellsOf 23 = 2 := by kernel_rfl
theorem laidOutS : laidOutB Try.prog = true := by kernel_rfl
theorem wf_i64 {n : Int} (h : (Lit.int .i64 n).wf = true) : -9223372036854775808 ≤ n ∧ n ≤ 9223372036854775807 := by
  have e1 : IntKind.i64.min = -9223372036854775808 := rfl
  have e2 : IntKind.i64.max = 9223372036854775807 := rfl
  simp only [Lit.wf, Bool.and_eq_true, decide_eq_true_eq] at h
  omega
theorem open_iv {H : Type} {enc : TypeId × Value → H} {w : World} {b0 : Nat} {v : Value} {d : DataW H} {p : List MemPlace}
    (hv : Value.okWide Try.prog w .any b0 23 v) (h : DataW.Trod enc Try.prog w 0 (fun _ => true) true 23 v d p) :
    ∃ lo hi, v = iv lo hi ∧ -9223372036854775808 ≤ lo ∧ lo ≤ 9223372036854775807 ∧ -9223372036854775808 ≤ hi ∧ hi ≤ 9223372036854775807 := by
  obtain ⟨v0, v1, y0, y1, fuel, rfl, rfl, rfl, h0, h1⟩ := open_agg2 Try.underlying23 (by kernel_rfl) cells_iv hv h
  obtain ⟨n0, e0, rfl, w0⟩ := DataW.trod_int Try.underlying2 h0
  obtain ⟨n1, e1, rfl, w1⟩ := DataW.trod_int Try.underlying2 h1
  obtain rfl : v0 = .int .i64 n0 := by simpa using e0
  obtain rfl : v1 = .int .i64 n1 := by simpa using e1
  exact ⟨n0, n1, rfl, (wf_i64 w0).1, (wf_i64 w0).2, (wf_i64 w1).1, (wf_i64 w1).2⟩
end Go.Proofs.Ytegpckhfncblhaa

/- Intervals: checkAll, and join, change on both sides. -/
namespace Go.Proofs.Ytegpckhfncblhaa
open Go.RowKit

/-- Block g holds four cells. -/
structure C4 (w : World) (g : Nat) (x0 x1 x2 x3 : Value) : Prop where
  c0 : w.cell? ⟨g, 0, none⟩ = some x0
  c1 : w.cell? ⟨g, 1, none⟩ = some x1
  c2 : w.cell? ⟨g, 2, none⟩ = some x2
  c3 : w.cell? ⟨g, 3, none⟩ = some x3
  lt : g < w.heap.size
theorem C4.new (w : World) (k : Nat) (hk : w.heap.size = k) (x0 x1 x2 x3 : Value) (t : TypeId) : C4 (w.alloc (.cells #[x0, x1, x2, x3] t)) k x0 x1 x2 x3 := by
  subst hk
  refine ⟨?_, ?_, ?_, ?_, by simp⟩ <;> go_simp
theorem C4.via {w w' : World} {g : Nat} {x0 x1 x2 x3 : Value} (p : C4 w g x0 x1 x2 x3) (hb : Below w.heap.size w w') : C4 w' g x0 x1 x2 x3 :=
  ⟨(hb.cell (p := ⟨g, 0, none⟩) p.lt).trans p.c0, (hb.cell (p := ⟨g, 1, none⟩) p.lt).trans p.c1, (hb.cell (p := ⟨g, 2, none⟩) p.lt).trans p.c2, (hb.cell (p := ⟨g, 3, none⟩) p.lt).trans p.c3, Nat.lt_of_lt_of_le p.lt hb.size⟩

/-- What a function of two intervals returns: the first error, or what the ends make. -/
def j2 (al ah bl bh : Int) (o : Out) : Out := if ivB2 al ah bl bh = 0 then o else ⟨0, 0, ivB2 al ah bl bh⟩
def j1 (al ah : Int) (o : Out) : Out := if ivC al ah = 0 then o else ⟨0, 0, ivC al ah⟩
theorem ivB2_cases (al ah bl bh : Int) : ivB2 al ah bl bh = 0 ∧ ivC al ah = 0 ∧ ivC bl bh = 0 ∨ ivB2 al ah bl bh = 8 := by
  rcases ivC_cases al ah with ⟨h, _⟩ | ⟨h, _⟩
  · rw [ivB2_ok h]
    rcases ivC_cases bl bh with ⟨h', _⟩ | ⟨h', _⟩
    · exact .inl ⟨h', h, h'⟩
    · exact .inr h'
  · exact .inr (ivB2_bad h)
theorem ivC_le {lo hi : Int} (h : ivC lo hi = 0) : -2305843009213693952 ≤ lo ∧ lo ≤ hi ∧ hi ≤ 2305843009213693952 := by
  rcases ivC_cases lo hi with ⟨_, h1, h2, h3⟩ | ⟨h8, _⟩
  · exact ⟨h1, h2, h3⟩
  · rw [h8] at h; exact absurd h (by decide)
set_option maxRecDepth 100000 in
set_option maxHeartbeats 1000000 in
theorem change_any (w : World) (f : FuncId) (al ah lo hi : Int) (hcf : ∀ (u : Value) (W : World), (callFunc f #[u]).run Try.prog W = .ok (.enter f #[u]) W)
    (H : ivC al ah = 0 → lo ≤ hi ∧ ∀ W, Calls Try.prog f #[iv al ah] W (RV W lo hi)) :
    Calls Try.prog 18 #[iv al ah, .func (.func f) #[] #[]] w (RO w (j1 al ah (mkI lo hi))) := by
  have HH := Lib.hid H
  have PA := Lib.hid ((Pr.new w w.heap.size rfl (.int .i64 al) (.int .i64 ah) 23).alloc (ivB 0 0))
  have PR := Lib.hid (Pr.new (w.alloc (ivB al ah)) (w.heap.size + 1) (by simp) (.int .i64 0) (.int .i64 0) 23)
  have BW : Hid (Below w.heap.size w ((w.alloc (ivB al ah)).alloc (ivB 0 0))) := sbal (sbal (Below.refl _ _) _) _
  clear H
  go_enter Try.func18, Try.ntmps18
  go_wp2_with fail
  generalize (w.alloc (ivB al ah)).alloc (ivB 0 0) = W0 at *
  refine (scheck_any _ al ah).mono ?_
  rintro e w1 ⟨rfl, hb⟩
  have P1 := Lib.hid (PA.out.via hb)
  have P3 := Lib.hid (PR.out.via hb)
  have B1 := Lib.hid (sbtr BW.out hb)
  clear hb PA PR BW
  rcases ivC_cases al ah with ⟨h, _⟩ | ⟨h, _⟩
  · have e : j1 al ah (mkI lo hi) = mkI lo hi := by unfold j1; rw [if_pos h]
    rw [h]
    have E := Lib.hid e
    obtain ⟨hle, hc⟩ := HH.out h
    have HC := Lib.hid hc
    have ⟨a0, a1, _, _, _⟩ := P1.out
    clear h hc e HH
    go_wp2_with fail
    refine (HC.out _).mono ?_
    rintro e w2 ⟨rfl, hb⟩
    have B2 := Lib.hid (sbtr B1.out hb)
    have P4 := Lib.hid (P3.out.via hb)
    clear hb a0 a1 B1
    go_wp2_with fail
    refine (smade_any _ lo hi hle).mono ?_
    rintro e w3 ⟨rfl, hb⟩
    have B3 := Lib.hid (sbtr B2.out hb)
    have P5 := Lib.hid (P4.out.via hb)
    clear hb B2 hcf
    have ⟨r0, r1, f0, f1, rl⟩ := P5.out
    go_wp2
    exact post_iv Try.results18 rfl rfl (P5.out.set _ _) ⟨by rw [E.out]; rfl, below_set2 B3.out (by omega) _ _⟩
  · have e : j1 al ah (mkI lo hi) = ⟨0, 0, 8⟩ := by unfold j1; rw [if_neg (by rw [h]; decide), h]
    rw [h]
    have E := Lib.hid e
    have ⟨r0, r1, f0, f1, rl⟩ := P3.out
    clear h e HH hcf
    go_wp2
    exact post_iv Try.results18 rfl rfl (P3.out.set _ _) ⟨by rw [E.out]; rfl, below_set2 B1.out (by omega) _ _⟩
end Go.Proofs.Ytegpckhfncblhaa

/- Intervals: sum, negative, difference, lesser, greater, absolute, hull of two. -/
namespace Go.Proofs.Ytegpckhfncblhaa
open Go.RowKit

theorem ret_iv {a b c d : Int} (h1 : a = c) (h2 : b = d) : Ending.returned (iv a b) = .returned (iv c d) := by rw [h1, h2]
def IvIn (lo hi : Int) : Prop := -2305843009213693952 ≤ lo ∧ lo ≤ hi ∧ hi ≤ 2305843009213693952
set_option maxRecDepth 100000 in
theorem negative_any (w : World) (al ah : Int) (h1 : -4611686018427387904 ≤ al) (h2 : al ≤ 4611686018427387904) (h3 : -4611686018427387904 ≤ ah) (h4 : ah ≤ 4611686018427387904) : Calls Try.prog 19 #[iv al ah] w (RV w (-ah) (-al)) := by
  go_enter Try.func19, Try.ntmps19
  go_wp2
  all_goals exact post_iv1 Try.results19 rfl rfl (Pr.new _ _ (by simp) _ _ _) ⟨ret_iv (by omega) (by omega), by go_grown⟩
set_option maxRecDepth 100000 in
theorem absolute_any (w : World) (al ah : Int) (h1 : IvIn al ah) : Calls Try.prog 23 #[iv al ah] w (RV w (max al (max (-ah) 0)) (max (-al) ah)) := by
  obtain ⟨x1, x2, x3⟩ := h1
  go_enter Try.func23, Try.ntmps23
  go_wp2
  all_goals exact post_iv1 Try.results23 rfl rfl (Pr.new _ _ (by simp) _ _ _) ⟨ret_iv (by omega) (by omega), by go_grown⟩
end Go.Proofs.Ytegpckhfncblhaa

/- Intervals: hull of one and of three others; Hull's closure. -/
namespace Go.Proofs.Ytegpckhfncblhaa
open Go.RowKit

/-- The cells of intervals from off on in block g. -/
structure Iv1 (w : World) (g off : Nat) (l h : Int) : Prop where
  c0 : w.cell? ⟨g, off, none⟩ = some (.int .i64 l)
  c1 : w.cell? ⟨g, off + 1, none⟩ = some (.int .i64 h)
  lt : g < w.heap.size
theorem Iv1.via {w w' : World} {g off : Nat} {l h : Int} (p : Iv1 w g off l h) (hb : Below w.heap.size w w') : Iv1 w' g off l h :=
  ⟨(hb.cell (p := ⟨g, off, none⟩) p.lt).trans p.c0, (hb.cell (p := ⟨g, off + 1, none⟩) p.lt).trans p.c1, Nat.lt_of_lt_of_le p.lt hb.size⟩
theorem Iv1.al {w : World} {g off : Nat} {l h : Int} (p : Iv1 w g off l h) (o : Obj) : Iv1 (w.alloc o) g off l h := p.via ((Below.refl _ _).alloc (Nat.le_refl _) o)
theorem Iv1.far {w : World} {g off k : Nat} {l h : Int} (p : Iv1 w g off l h) (hne : g ≠ k) (x y : Value) : Iv1 ((w.setCell ⟨k, 0, none⟩ x).setCell ⟨k, 1, none⟩ y) g off l h := by
  have e : ∀ (i j : Nat), (⟨k, i, none⟩ : Addr) ≠ ⟨g, j, none⟩ := fun i j e => hne (congrArg Addr.block e).symm
  refine ⟨?_, ?_, by simpa [World.size_setCell] using p.lt⟩
  · rw [World.cell?_setCell_other _ _ _ _ (e _ _), World.cell?_setCell_other _ _ _ _ (e _ _)]; exact p.c0
  · rw [World.cell?_setCell_other _ _ _ _ (e _ _), World.cell?_setCell_other _ _ _ _ (e _ _)]; exact p.c1
set_option maxRecDepth 100000 in
set_option maxHeartbeats 2000000 in
theorem hull1_any (w : World) (g : Nat) (l0 h0 l1 h1 : Int) (hC1 : Iv1 w g 0 l1 h1) :
    Calls Try.prog 29 #[iv l0 h0, .slice (some ⟨g, 0, none⟩) 1 1] w (RV w (min l0 l1) (max h0 h1)) := by
  have HC1 := Lib.hid hC1
  clear hC1
  have PA := Lib.hid ((Pr.new w w.heap.size rfl (.int .i64 l0) (.int .i64 h0) 23).alloc (ivB 0 0))
  have PR := Lib.hid (Pr.new (w.alloc (ivB l0 h0)) (w.heap.size + 1) (by simp) (.int .i64 0) (.int .i64 0) 23)
  have BW : Hid (Below w.heap.size w ((w.alloc (ivB l0 h0)).alloc (ivB 0 0))) := sbal (sbal (Below.refl _ _) _) _
  have hgl : g < w.heap.size := HC1.out.lt
  have IC1 := Lib.hid (HC1.out.via BW.out)
  clear HC1
  go_enter Try.func29, Try.ntmps29
  go_wp2
  generalize (w.alloc (ivB l0 h0)).alloc (ivB 0 0) = W0 at *
  go_loopw [9] (fun i wr => ∃ (k : Nat) (x y : Int), i = .int .i64 k ∧ (k = 0 ∧ x = l0 ∧ y = h0 ∨ k = 1 ∧ x = min l0 l1 ∧ y = max h0 h1) ∧ Pr wr w.heap.size (.int .i64 x) (.int .i64 y) ∧ Pr wr (w.heap.size + 1) (.int .i64 0) (.int .i64 0) ∧ Iv1 wr g 0 l1 h1 ∧ Below w.heap.size w wr) (fun i _ => 1 - (intOf i).toNat)
  case atStart => exact ⟨0, l0, h0, rfl, .inl ⟨rfl, rfl, rfl⟩, PA.out, PR.out, IC1.out, BW.out⟩
  case round =>
    obtain ⟨k, x, y, rfl, hk, pa, pr, ic1, hB⟩ := hrel
    clear PA PR BW IC1
    have SA := Lib.hid pa
    have SR := Lib.hid pr
    have HB := Lib.hid hB
    have JC1 := Lib.hid ic1
    clear pa pr hB ic1
    rcases hk with ⟨rfl, hx, hy⟩ | ⟨rfl, hx, hy⟩
    · have HX := Lib.hid hx
      have HY := Lib.hid hy
      clear hx hy
      have ⟨c0, c1, _⟩ := JC1.out
      have ⟨s0, s1, s2, s3, sl⟩ := SA.out
      have hn1 : ¬ (w.heap.size = wr.heap.size) := by omega
      have hn2 : ¬ (wr.heap.size = w.heap.size) := by omega
      go_wp2
      all_goals
        go_roundw
        case rel =>
          refine ⟨1, _, _, by go_num, .inr (⟨rfl, ?_, ?_⟩), (SA.out.set _ _).alloc _, ((SR.out.far (by omega) _ _).alloc _), (JC1.out.far (by omega) _ _).al _, sbal (below_set2 HB.out (by omega) _ _) _⟩
          all_goals (have hx := HX.out; have hy := HY.out; omega)
        case measure => simp [intOf]
    · have HX := Lib.hid hx
      have HY := Lib.hid hy
      clear hx hy
      have ⟨s0, s1, s2, s3, sl⟩ := SA.out
      have ⟨r0, r1, r2, r3, rl⟩ := SR.out
      go_wp2
      exact post_iv1 Try.results29 rfl rfl (SR.out.set _ _) ⟨ret_iv (by rw [HX.out]) (by rw [HY.out]), below_set2 HB.out (by omega) _ _⟩
set_option maxRecDepth 100000 in
set_option maxHeartbeats 2000000 in
theorem hull3_any (w : World) (g : Nat) (l0 h0 l1 h1 l2 h2 l3 h3 : Int) (hC1 : Iv1 w g 2 l1 h1) (hC2 : Iv1 w g 4 l2 h2) (hC3 : Iv1 w g 6 l3 h3) :
    Calls Try.prog 29 #[iv l0 h0, .slice (some ⟨g, 2, none⟩) 3 3] w (RV w (min (min (min l0 l1) l2) l3) (max (max (max h0 h1) h2) h3)) := by
  have HC1 := Lib.hid hC1
  have HC2 := Lib.hid hC2
  have HC3 := Lib.hid hC3
  clear hC1 hC2 hC3
  have PA := Lib.hid ((Pr.new w w.heap.size rfl (.int .i64 l0) (.int .i64 h0) 23).alloc (ivB 0 0))
  have PR := Lib.hid (Pr.new (w.alloc (ivB l0 h0)) (w.heap.size + 1) (by simp) (.int .i64 0) (.int .i64 0) 23)
  have BW : Hid (Below w.heap.size w ((w.alloc (ivB l0 h0)).alloc (ivB 0 0))) := sbal (sbal (Below.refl _ _) _) _
  have hgl : g < w.heap.size := HC1.out.lt
  have IC1 := Lib.hid (HC1.out.via BW.out)
  have IC2 := Lib.hid (HC2.out.via BW.out)
  have IC3 := Lib.hid (HC3.out.via BW.out)
  clear HC1 HC2 HC3
  go_enter Try.func29, Try.ntmps29
  go_wp2
  generalize (w.alloc (ivB l0 h0)).alloc (ivB 0 0) = W0 at *
  go_loopw [9] (fun i wr => ∃ (k : Nat) (x y : Int), i = .int .i64 k ∧ (k = 0 ∧ x = l0 ∧ y = h0 ∨ k = 1 ∧ x = min l0 l1 ∧ y = max h0 h1 ∨ k = 2 ∧ x = min (min l0 l1) l2 ∧ y = max (max h0 h1) h2 ∨ k = 3 ∧ x = min (min (min l0 l1) l2) l3 ∧ y = max (max (max h0 h1) h2) h3) ∧ Pr wr w.heap.size (.int .i64 x) (.int .i64 y) ∧ Pr wr (w.heap.size + 1) (.int .i64 0) (.int .i64 0) ∧ Iv1 wr g 2 l1 h1 ∧ Iv1 wr g 4 l2 h2 ∧ Iv1 wr g 6 l3 h3 ∧ Below w.heap.size w wr) (fun i _ => 3 - (intOf i).toNat)
  case atStart => exact ⟨0, l0, h0, rfl, .inl ⟨rfl, rfl, rfl⟩, PA.out, PR.out, IC1.out, IC2.out, IC3.out, BW.out⟩
  case round =>
    obtain ⟨k, x, y, rfl, hk, pa, pr, ic1, ic2, ic3, hB⟩ := hrel
    clear PA PR BW IC1 IC2 IC3
    have SA := Lib.hid pa
    have SR := Lib.hid pr
    have HB := Lib.hid hB
    have JC1 := Lib.hid ic1
    have JC2 := Lib.hid ic2
    have JC3 := Lib.hid ic3
    clear pa pr hB ic1 ic2 ic3
    rcases hk with ⟨rfl, hx, hy⟩ | ⟨rfl, hx, hy⟩ | ⟨rfl, hx, hy⟩ | ⟨rfl, hx, hy⟩
    · have HX := Lib.hid hx
      have HY := Lib.hid hy
      clear hx hy
      have ⟨c0, c1, _⟩ := JC1.out
      have ⟨s0, s1, s2, s3, sl⟩ := SA.out
      have hn1 : ¬ (w.heap.size = wr.heap.size) := by omega
      have hn2 : ¬ (wr.heap.size = w.heap.size) := by omega
      go_wp2
      all_goals
        go_roundw
        case rel =>
          refine ⟨1, _, _, by go_num, .inr (.inl ⟨rfl, ?_, ?_⟩), (SA.out.set _ _).alloc _, ((SR.out.far (by omega) _ _).alloc _), (JC1.out.far (by omega) _ _).al _, (JC2.out.far (by omega) _ _).al _, (JC3.out.far (by omega) _ _).al _, sbal (below_set2 HB.out (by omega) _ _) _⟩
          all_goals (have hx := HX.out; have hy := HY.out; omega)
        case measure => simp [intOf]
    · have HX := Lib.hid hx
      have HY := Lib.hid hy
      clear hx hy
      have ⟨c0, c1, _⟩ := JC2.out
      have ⟨s0, s1, s2, s3, sl⟩ := SA.out
      have hn1 : ¬ (w.heap.size = wr.heap.size) := by omega
      have hn2 : ¬ (wr.heap.size = w.heap.size) := by omega
      go_wp2
      all_goals
        go_roundw
        case rel =>
          refine ⟨2, _, _, by go_num, .inr (.inr (.inl ⟨rfl, ?_, ?_⟩)), (SA.out.set _ _).alloc _, ((SR.out.far (by omega) _ _).alloc _), (JC1.out.far (by omega) _ _).al _, (JC2.out.far (by omega) _ _).al _, (JC3.out.far (by omega) _ _).al _, sbal (below_set2 HB.out (by omega) _ _) _⟩
          all_goals (have hx := HX.out; have hy := HY.out; omega)
        case measure => simp [intOf]
    · have HX := Lib.hid hx
      have HY := Lib.hid hy
      clear hx hy
      have ⟨c0, c1, _⟩ := JC3.out
      have ⟨s0, s1, s2, s3, sl⟩ := SA.out
      have hn1 : ¬ (w.heap.size = wr.heap.size) := by omega
      have hn2 : ¬ (wr.heap.size = w.heap.size) := by omega
      go_wp2
      all_goals
        go_roundw
        case rel =>
          refine ⟨3, _, _, by go_num, .inr (.inr (.inr (⟨rfl, ?_, ?_⟩))), (SA.out.set _ _).alloc _, ((SR.out.far (by omega) _ _).alloc _), (JC1.out.far (by omega) _ _).al _, (JC2.out.far (by omega) _ _).al _, (JC3.out.far (by omega) _ _).al _, sbal (below_set2 HB.out (by omega) _ _) _⟩
          all_goals (have hx := HX.out; have hy := HY.out; omega)
        case measure => simp [intOf]
    · have HX := Lib.hid hx
      have HY := Lib.hid hy
      clear hx hy
      have ⟨s0, s1, s2, s3, sl⟩ := SA.out
      have ⟨r0, r1, r2, r3, rl⟩ := SR.out
      go_wp2
      exact post_iv1 Try.results29 rfl rfl (SR.out.set _ _) ⟨ret_iv (by rw [HX.out]) (by rw [HY.out]), below_set2 HB.out (by omega) _ _⟩
end Go.Proofs.Ytegpckhfncblhaa

/- math/bits: Len64, Mul64 and LeadingZeros64 at this translation. -/
namespace Go.Proofs.Ytegpckhfncblhaa
open Go.RowKit Go.Shelf

def lays129_ren : Go.Shelf.Ren := ⟨fun | 129 => 46 | n => n, fun | 3 => 3 | 4 => 4 | 5 => 5 | 9 => 9 | 46 => 58 | 53 => 47 | n => n, fun | n => n⟩
theorem lays129 : Go.Proofs.Lays.n129 Try.prog lays129_ren := {
  mixed := by kernel_rfl
  f129 := Try.func46.trans (congrArg some (by kernel_rfl))
  t3 := Try.underlying3
  a3 := Try.isAgg3
  z3 := Try.sizeOf3
  v3 := Try.zeroValue3
  t4 := Try.underlying4
  a4 := Try.isAgg4
  z4 := Try.sizeOf4
  v4 := Try.zeroValue4
  t5 := Try.underlying5
  a5 := Try.isAgg5
  z5 := Try.sizeOf5
  v5 := Try.zeroValue5
  t9 := Try.underlying9
  a9 := Try.isAgg9
  z9 := Try.sizeOf9
  v9 := Try.zeroValue9
  t46 := Try.underlying58
  a46 := Try.isAgg58
  z46 := Try.sizeOf58
  v46 := Try.zeroValue58
  t53 := Try.underlying47
  a53 := Try.isAgg47
  z53 := Try.sizeOf47
  v53 := Try.zeroValue47 }
theorem slen64_any (x : Nat) (w : World) (h1 : x < 18446744073709551616) :
    Calls Try.prog 46 #[.int .u64 (x : Int)] w fun e w' => e = .returned (.int .i64 (Lib.bitLen x)) ∧ w = w' := by
  refine (Any.bits_Len64 lays129 (x : Int) w (by omega) (by omega)).mono ?_
  rintro e w' ⟨rfl, rfl⟩
  exact ⟨by rw [Int.toNat_natCast], rfl⟩
def lays264_ren : Go.Shelf.Ren := ⟨fun | 264 => 40 | n => n, fun | 46 => 58 | 53 => 47 | n => n, fun | n => n⟩
theorem lays264 : Go.Proofs.Lays.n264 Try.prog lays264_ren := {
  mixed := by kernel_rfl
  f264 := Try.func40.trans (congrArg some (by kernel_rfl))
  t46 := Try.underlying58
  a46 := Try.isAgg58
  z46 := Try.sizeOf58
  v46 := Try.zeroValue58
  t53 := Try.underlying47
  a53 := Try.isAgg47
  z53 := Try.sizeOf47
  v53 := Try.zeroValue47 }
theorem smul64_any (x y : Nat) (hx : x < 18446744073709551616) (hy : y < 18446744073709551616) (w : World) :
    Calls Try.prog 40 #[.int .u64 (x : Int), .int .u64 (y : Int)] w fun e w' => e = .returned (.tuple #[.int .u64 ((x * y / 18446744073709551616 : Nat) : Int), .int .u64 ((x * y % 18446744073709551616 : Nat) : Int)]) ∧ w = w' := by
  refine (Any.bits_Mul64 lays264 x y hx hy w).mono ?_
  rintro e w' ⟨rfl, rfl⟩
  exact ⟨rfl, rfl⟩
set_option maxRecDepth 100000 in
theorem slz64_any (x : Nat) (w : World) (h1 : x < 18446744073709551616) (hl : Lib.bitLen x ≤ 64) :
    Calls Try.prog 45 #[.int .u64 (x : Int)] w fun e w' => e = .returned (.int .i64 (64 - (Lib.bitLen x : Int))) ∧ w = w' := by
  have H := Lib.hid (fun w => slen64_any x w h1)
  have h0 : (0 : Int) ≤ (Lib.bitLen x : Int) := by omega
  have hl' : (Lib.bitLen x : Int) ≤ 64 := by omega
  go_enter Try.func45, Try.ntmps45
  go_wp2_with fail
  refine (H.out _).mono ?_
  rintro e w' ⟨rfl, rfl⟩
  clear H
  go_wp2
  go_ret
  exact ⟨ret_int (by omega), rfl⟩
end Go.Proofs.Ytegpckhfncblhaa

/-
  The 64 binary digits of a number from a place on, out of three limbs.
-/
namespace Go.Proofs.Ytegpckhfncblhaa
open Go.RowKit

theorem or_add {a b i : Nat} (h : a < 2 ^ i) : a ||| (2 ^ i * b) = a + 2 ^ i * b := by
  rw [Nat.or_comm, ← Nat.two_pow_add_eq_or_of_lt h, Nat.add_comm]
theorem bits_or (a b : Nat) (ha : a < 18446744073709551616) (hb : b < 18446744073709551616) : bits .or .u64 (a : Int) (b : Int) = ((a ||| b : Nat) : Int) := bits_or_u64_nat a b ha hb
theorem wrap_nat (a : Nat) : IntKind.u64.wrap (a : Int) = ((a % 18446744073709551616 : Nat) : Int) := by rw [IntKind.wrap_u64]; omega

/-- The number's limbs from k on. -/
theorem val_drop (xs : List Nat) (g : Good xs) (k : Nat) : val (xs.drop k) = val xs / 4294967296 ^ k := by
  rcases Nat.lt_or_ge xs.length k with h | h
  · rw [List.drop_of_length_le (by omega), Nat.div_eq_of_lt (Nat.lt_of_lt_of_le (val_lt g) (pow_mono_ (by omega)))]; rfl
  · have e := val_split xs k h
    have l : val (xs.take k) < 4294967296 ^ k := by
      have := val_lt (g.take k)
      rwa [List.length_take, Nat.min_eq_left h] at this
    rw [e, Nat.add_mul_div_left _ _ (pow_pos_ k), Nat.div_eq_of_lt l, Nat.zero_add]
theorem val_step (xs : List Nat) (k : Nat) : val (xs.drop k) = xs[k]?.getD 0 + 4294967296 * val (xs.drop (k + 1)) := by
  rcases Nat.lt_or_ge k xs.length with h | h
  · rw [drop_cons_ xs k h]; rfl
  · rw [List.drop_of_length_le h, List.drop_of_length_le (by omega), List.getElem?_eq_none h]; rfl

def win (v p : Nat) : Nat := v / 2 ^ p % 18446744073709551616
theorem win_lt (v p : Nat) : win v p < 18446744073709551616 := Nat.mod_lt _ (by omega)

theorem win_math (u z k x2 r : Nat) (hk : k < 32) (hu : u < 18446744073709551616) (hz : z = x2 + 4294967296 * r) :
    (u + 18446744073709551616 * z) / 2 ^ k % 18446744073709551616 = u / 2 ^ k + 2 ^ (64 - k) * (x2 % 2 ^ k) ∧ u / 2 ^ k < 2 ^ (64 - k) := by
  have hP : 2 ^ (64 - k) * 2 ^ k = 18446744073709551616 := by rw [← Nat.pow_add, Nat.sub_add_cancel (by omega)]
  have hq : 0 < 2 ^ k := Nat.pow_pos (by omega)
  have hPp : 0 < 2 ^ (64 - k) := Nat.pow_pos (by omega)
  have h1 : u / 2 ^ k < 2 ^ (64 - k) := (Nat.div_lt_iff_lt_mul hq).2 (by rw [hP]; exact hu)
  have hB : 4294967296 = 2 ^ k * 2 ^ (32 - k) := by rw [← Nat.pow_add, Nat.add_sub_cancel' (by omega)]
  have h2 : z % 2 ^ k = x2 % 2 ^ k := by
    rw [hz, hB, Nat.mul_assoc, Nat.add_mul_mod_self_left]
  have h3 : (u + 18446744073709551616 * z) / 2 ^ k = u / 2 ^ k + 2 ^ (64 - k) * z := by
    rw [← hP, Nat.mul_comm (2 ^ (64 - k)) (2 ^ k), Nat.mul_assoc, Nat.add_mul_div_left _ _ hq]
  refine ⟨?_, h1⟩
  rw [h3]
  have h4 := Nat.mod_mul (a := 2 ^ (64 - k)) (b := 2 ^ k) (x := u / 2 ^ k + 2 ^ (64 - k) * z)
  rw [hP] at h4
  rw [h4, Nat.add_mul_mod_self_left, Nat.mod_eq_of_lt h1, Nat.add_mul_div_left _ _ hPp, Nat.div_eq_of_lt h1, Nat.zero_add, h2]

theorem cast_shl (a k : Nat) : (a : Int) * 2 ^ k = ((2 ^ k * a : Nat) : Int) := by rw [Int.natCast_mul, Int.natCast_pow, Int.mul_comm]; rfl
theorem cast_shr (a k : Nat) : (a : Int) / 2 ^ k = ((a / 2 ^ k : Nat) : Int) := by rw [Int.natCast_ediv, Int.natCast_pow]; rfl
theorem win_eq (xs : List Nat) (g : Good xs) (p : Nat) :
    bits .or .u64 (bits .or .u64 ((xs[p / 32]?.getD 0 : Nat) : Int) (IntKind.u64.wrap (((xs[p / 32 + 1]?.getD 0 : Nat) : Int) * 4294967296)) / 2 ^ (p % 32))
      (IntKind.u64.wrap (((xs[p / 32 + 2]?.getD 0 : Nat) : Int) * 2 ^ (64 - p % 32))) = (win (val xs) p : Int) := by
  have g0 := g.get (p / 32)
  have g1 := g.get (p / 32 + 1)
  have g2 := g.get (p / 32 + 2)
  have e0 := val_step xs (p / 32)
  have e1 := val_step xs (p / 32 + 1)
  have e2 := val_step xs (p / 32 + 2)
  have ed := val_drop xs g (p / 32)
  have hp : val xs / 2 ^ p = val xs / 4294967296 ^ (p / 32) / 2 ^ (p % 32) := by
    rw [Nat.div_div_eq_div_mul]
    congr 1
    rw [show (4294967296 : Nat) = 2 ^ 32 from rfl, ← Nat.pow_mul, ← Nat.pow_add, Nat.div_add_mod]
  revert g0 g1 g2 e0 e1 e2
  generalize xs[p / 32]?.getD 0 = x0
  generalize xs[p / 32 + 1]?.getD 0 = x1
  generalize xs[p / 32 + 2]?.getD 0 = x2
  intro g0 g1 g2 e0 e1 e2
  have hm := win_math (x0 + 4294967296 * x1) (x2 + 4294967296 * val (xs.drop (p / 32 + 2 + 1))) (p % 32) x2 _ (Nat.mod_lt _ (by omega)) (by omega) rfl
  have hw : win (val xs) p = (x0 + 4294967296 * x1) / 2 ^ (p % 32) + 2 ^ (64 - p % 32) * (x2 % 2 ^ (p % 32)) := by
    rw [← hm.1, win, hp, ← ed, e0, e1, e2]
    congr 2
    omega
  have a1 : IntKind.u64.wrap ((x1 : Int) * 4294967296) = ((2 ^ 32 * x1 : Nat) : Int) := by rw [IntKind.wrap_u64]; omega
  have a2 : bits .or .u64 (x0 : Int) (IntKind.u64.wrap ((x1 : Int) * 4294967296)) = ((x0 + 4294967296 * x1 : Nat) : Int) := by
    rw [a1, bits_or _ _ (by omega) (by omega), or_add (by omega)]
  have hP : 2 ^ (64 - p % 32) * 2 ^ (p % 32) = 18446744073709551616 := by rw [← Nat.pow_add, Nat.sub_add_cancel (by omega)]
  have a3 : IntKind.u64.wrap ((x2 : Int) * 2 ^ (64 - p % 32)) = ((2 ^ (64 - p % 32) * (x2 % 2 ^ (p % 32)) : Nat) : Int) := by
    rw [cast_shl, wrap_nat, ← hP, Nat.mul_mod_mul_left]
  have hl : (x0 + 4294967296 * x1) / 2 ^ (p % 32) < 18446744073709551616 := Nat.lt_of_le_of_lt (Nat.div_le_self _ _) (by omega)
  have hr : 2 ^ (64 - p % 32) * (x2 % 2 ^ (p % 32)) < 18446744073709551616 := by
    rw [← hP]
    exact Nat.mul_lt_mul_of_pos_left (Nat.mod_lt _ (Nat.pow_pos (by omega))) (Nat.pow_pos (by omega))
  rw [a2, a3, cast_shr, bits_or _ _ hl hr, or_add hm.2, hw]

end Go.Proofs.Ytegpckhfncblhaa

/- math/bits.Div64: the quotient and the rest of two words by one. -/
namespace Go.Proofs.Ytegpckhfncblhaa
open Go.RowKit

set_option maxRecDepth 100000 in
set_option maxHeartbeats 4000000 in
theorem div64_main (w : World) (hi lo y s Y b1 b2 U V ua ub : Nat) (h0 : 0 < hi) (h1 : hi < y) (_ : y < 18446744073709551616) (_ : lo < 18446744073709551616) (hs : s < 64)
    (HL : ∀ w, Calls Try.prog 45 #[.int .u64 (y : Int)] w fun e w' => e = .returned (.int .i64 (s : Int)) ∧ w = w')
    (hY : Y = b1 * 4294967296 + b2) (hb1 : 2147483648 ≤ b1) (hb1l : b1 < 4294967296) (hb2l : b2 < 4294967296) (hUY : U < Y) (hua : ua < 4294967296) (hub : ub < 4294967296) (hV : V = ua * 4294967296 + ub)
    (e1 : IntKind.u64.wrap ((y : Int) * 2 ^ s) = (Y : Int)) (e2 : (Y : Int) / 4294967296 = (b1 : Int)) (e3 : bits .and .u64 (Y : Int) 4294967295 = (b2 : Int))
    (e4 : bits .or .u64 (IntKind.u64.wrap ((hi : Int) * 2 ^ s)) ((lo : Int) / 2 ^ (64 - s)) = (U : Int)) (e5 : IntKind.u64.wrap ((lo : Int) * 2 ^ s) = (V : Int)) (e6 : (V : Int) / 4294967296 = (ua : Int)) (e7 : bits .and .u64 (V : Int) 4294967295 = (ub : Int))
    (hq : ((U * 4294967296 + ua) * 4294967296 + ub) / Y = (hi * 18446744073709551616 + lo) / y) (hr : ((U * 4294967296 + ua) * 4294967296 + ub) % Y / 2 ^ s = (hi * 18446744073709551616 + lo) % y) :
    Calls Try.prog 43 #[.int .u64 (hi : Int), .int .u64 (lo : Int), .int .u64 (y : Int)] w fun e w' => e = .returned (.tuple #[.int .u64 (((hi * 18446744073709551616 + lo) / y : Nat) : Int), .int .u64 (((hi * 18446744073709551616 + lo) % y : Nat) : Int)]) ∧ ∃ d, w' = w.drewN d := by
  have H := Lib.hid HL
  have hy0 : 0 < y := by omega
  have hb1p : 0 < b1 := by omega
  have hb0 : ¬ ((b1 : Int) = 0) := by omega
  have hYl : Y < 18446744073709551616 := by omega
  have hUl : U < 18446744073709551616 := by omega
  have HY := Lib.hid hY
  have HUY := Lib.hid hUY
  have HUL := Lib.hid hua
  have HQR := Lib.hid hq
  have HRR := Lib.hid hr
  have HV := Lib.hid hV
  clear HL hq hr hV
  have hq0 : (U : Int).tdiv (b1 : Int) = ((U / b1 : Nat) : Int) := by rw [Int.tdiv_eq_ediv_of_nonneg (by omega), ← Int.natCast_ediv]
  have hq0' : (U : Int) / (b1 : Int) = ((U / b1 : Nat) : Int) := by rw [← Int.natCast_ediv]
  have hdm := Nat.div_add_mod U b1
  have hrl := Nat.mod_lt U hb1p
  have hD9 := Nat.div_le_self U b1
  obtain ⟨Q, hQ⟩ : ∃ Q, Q = gs b1 b2 (U / 4294967296) (U % 4294967296) ua := ⟨_, rfl⟩
  have hle : U / 4294967296 ≤ b1 := by have := HY.out; have := HUY.out; omega
  have hu1l : U % 4294967296 < 4294967296 := Nat.mod_lt _ (by omega)
  have hQ0 : Q ≤ U / b1 := by rw [hQ]; exact gs_start HUL.out (R := U % b1) (by rw [hdm]; omega) hrl
  have hQ9 : Q ≤ 4294967295 := by rw [hQ]; exact gs_le _ _ _ _ _
  have HQX : Hid (Q = (U * 4294967296 + ua) / Y) := by show _ = _; rw [hQ]; exact gs_exact HY.out HUY.out HUL.out
  have HI : Hid (U = U / 4294967296 * 4294967296 + U % 4294967296) := by show _ = _; omega
  have HQ := Lib.hid hQ
  clear hQ
  generalize U / b1 = D0 at *
  generalize U % b1 = R0 at *
  have hP0 : D0 * b1 ≤ U := by rw [Nat.mul_comm]; omega
  have hw1 : IntKind.u64.wrap ((D0 : Int) * (b1 : Int)) = ((D0 * b1 : Nat) : Int) := by rw [← Int.natCast_mul, IntKind.wrap_u64]; omega
  have hw2 : (U : Int) - ((D0 * b1 : Nat) : Int) = (R0 : Int) := by rw [Nat.mul_comm D0 b1]; omega
  have hw3 : IntKind.u64.wrap ((U : Int) - ((D0 * b1 : Nat) : Int)) = (R0 : Int) := by rw [hw2, IntKind.wrap_u64]; omega
  have HW4 : Hid ((U : Int) - (D0 : Int) * (b1 : Int) = (R0 : Int)) := by show _ = _; rw [← Int.natCast_mul]; exact hw2
  have HDM0 : Hid (D0 * b1 + R0 = U) := by show _ = _; rw [Nat.mul_comm]; exact hdm
  have HR0 : Hid (R0 < 4294967296) := by show _ < _; omega
  have HQ0 := Lib.hid hQ0
  clear hdm hQ0
  clear hY
  go_enter Try.func43, Try.ntmps43
  go_wp2_with fail
  refine (H.out _).mono ?_
  rintro e w' ⟨rfl, rfl⟩
  clear H
  go_upto_block 0 with (fail)
  go_cut [15] (fun s7 wx => s7 = .int .u64 (Q : Int) ∧ w = wx)
  case first =>
    go_wp2
    go_loopw [15, 16] (fun x r wr => ∃ D R : Nat, x = .int .u64 (D : Int) ∧ r = .int .u64 (R : Int) ∧ D * b1 + R = U ∧ R < 4294967296 ∧ Q ≤ D ∧ wr = w) (fun x _ _ => (intOf x).toNat)
    case atStart => exact ⟨D0, R0, rfl, congrArg (Value.int .u64) HW4.out, HDM0.out, HR0.out, HQ0.out, rfl⟩
    case round =>
      obtain ⟨D, R, rfl, rfl, hDR, hR, hQD, rfl⟩ := hrel
      have hDle : D ≤ U := by
        have := Nat.le_mul_of_pos_right D hb1p
        omega
      have HDR := Lib.hid hDR
      clear hDR
      by_cases hd : 4294967296 ≤ D
      · have hlt : Q < D := by rw [HQ.out]; exact gs_lt hb1p (by rw [← HI.out]; exact HDR.out) (.inl (by omega))
        have HDM : Hid ((D - 1) * b1 + (R + b1) = D * b1 + R) := by show _ = _; rw [Nat.sub_mul, Nat.one_mul]; have := Nat.le_mul_of_pos_left b1 (show 0 < D by omega); omega
        have hdi : (4294967296 : Int) ≤ (D : Int) := by omega
        by_cases hR2 : R + b1 < 4294967296
        case' pos => have hR2d : decide ((4294967296 : Int) ≤ (R : Int) + (b1 : Int)) = false := by simp; omega
        case' neg => have hR2i : (4294967296 : Int) ≤ (R : Int) + (b1 : Int) := by omega
        case' neg => have hQE : Q = D - 1 := by rw [HQ.out]; exact gs_break hb1p hb2l hu1l hle (by rw [← HI.out, ← HDR.out]; exact HDM.out) (by omega) (by rw [← HQ.out]; omega)
        case' neg => have HQE := Lib.hid hQE
        case' neg => clear hQE
        all_goals clear hd
        all_goals go_wp2
        · go_meet
          have := HQE.out
          exact ⟨by go_num, rfl⟩
        · go_roundw
          case rel => exact ⟨D - 1, R + b1, by go_num, by go_num, by rw [← HDR.out]; exact HDM.out, by omega, by omega, by first | trivial | rfl⟩
          case measure => simp [intOf]; omega
      · have hdd : decide ((4294967296 : Int) ≤ (D : Int)) = false := by simp; omega
        have hmul := mul_bd (show D < 4294967296 by omega) hb2l
        obtain ⟨P, hP⟩ : ∃ P : Nat, P = D * b2 := ⟨_, rfl⟩
        have hbit1 : IntKind.u64.wrap ((D : Int) * (b2 : Int)) = (P : Int) := by rw [← Int.natCast_mul, ← hP, IntKind.wrap_u64]; omega
        obtain ⟨T, hT⟩ : ∃ T : Nat, T = R * 4294967296 + ua := ⟨_, rfl⟩
        have hbit2 : (4294967296 : Int) * (R : Int) + (ua : Int) = (T : Int) := by omega
        have hbit3 : IntKind.u64.wrap (4294967296 * (R : Int)) = 4294967296 * (R : Int) := by rw [IntKind.wrap_u64]; omega
        have hbit4 : IntKind.u64.wrap (4294967296 * (R : Int) + (ua : Int)) = (T : Int) := by rw [IntKind.wrap_u64]; omega
        have hT9 : T ≤ 18446744073709551615 := by omega
        have HT := Lib.hid hT
        have HP := Lib.hid hP
        rw [← hP] at hmul
        clear hT hP
        by_cases hp : T < P
        · have hlt : Q < D := by rw [HQ.out]; exact gs_lt hb1p (by rw [← HI.out]; exact HDR.out) (.inr (by rw [← HT.out, ← HP.out]; exact hp))
          have HDM : Hid ((D - 1) * b1 + (R + b1) = D * b1 + R) := by show _ = _; rw [Nat.sub_mul, Nat.one_mul]; have := Nat.le_mul_of_pos_left b1 (show 0 < D by omega); omega
          have hpi : (T : Int) < (P : Int) := by omega
          by_cases hR2 : R + b1 < 4294967296
          case' pos => have hR2d : decide ((4294967296 : Int) ≤ (R : Int) + (b1 : Int)) = false := by simp; omega
          case' neg => have hR2i : (4294967296 : Int) ≤ (R : Int) + (b1 : Int) := by omega
          case' neg => have hQE : Q = D - 1 := by rw [HQ.out]; exact gs_break hb1p hb2l hu1l hle (by rw [← HI.out, ← HDR.out]; exact HDM.out) (by omega) (by rw [← HQ.out]; omega)
          case' neg => have HQE := Lib.hid hQE
          case' neg => clear hQE
          all_goals clear hd hp
          all_goals go_wp2
          · go_meet
            have := HQE.out
            exact ⟨by go_num, rfl⟩
          · go_roundw
            case rel => exact ⟨D - 1, R + b1, by go_num, by go_num, by rw [← HDR.out]; exact HDM.out, by omega, by omega, by first | trivial | rfl⟩
            case measure => simp [intOf]; omega
        · have hpd : decide (T < P) = false := decide_eq_false hp
          have hQE : Q = D := by rw [HQ.out]; exact gs_eq hb1p (by rw [← HI.out]; exact HDR.out) (by omega) (by rw [← HP.out, ← HT.out]; omega) (by rw [← HQ.out]; exact hQD)
          have HQE := Lib.hid hQE
          clear hQE hd hp
          go_wp2
          go_meet
          have := HQE.out
          exact ⟨by go_num, rfl⟩
  case rest =>
    obtain ⟨rfl, rfl⟩ := hcut
    have hQY := HQX.out
    clear hq0 hq0' hrl hD9 hle hu1l hP0 hw1 hw2 hw3 HDM0 HR0 HQ0 HQ HI HW4 hQ9
    obtain ⟨U2, hU2⟩ : ∃ U2, U2 = (U * 4294967296 + ua) % Y := ⟨_, rfl⟩
    have hYp : 0 < Y := by omega
    have hUY2 : U2 < Y := by rw [hU2]; exact Nat.mod_lt _ hYp
    have hrw := rest_wrap hQY hYp hYl
    rw [← hU2] at hrw
    have HUY2 := Lib.hid hUY2
    have HUL2 := Lib.hid hub
    have HU2 := Lib.hid hU2
    obtain ⟨A, hA⟩ : ∃ A, A = (U * 4294967296) % 18446744073709551616 := ⟨_, rfl⟩
    obtain ⟨B, hB⟩ : ∃ B, B = (A + ua) % 18446744073709551616 := ⟨_, rfl⟩
    obtain ⟨C, hC⟩ : ∃ C, C = (Q * Y) % 18446744073709551616 := ⟨_, rfl⟩
    rw [← hA, ← hB, ← hC] at hrw
    have f1 : IntKind.u64.wrap ((U : Int) * 4294967296) = (A : Int) := by rw [IntKind.wrap_u64, hA]; omega
    have f2 : IntKind.u64.wrap ((A : Int) + (ua : Int)) = (B : Int) := by rw [IntKind.wrap_u64, hB]; omega
    have f3 : IntKind.u64.wrap ((Q : Int) * (Y : Int)) = (C : Int) := by rw [← Int.natCast_mul, IntKind.wrap_u64, hC]; omega
    have f4 : IntKind.u64.wrap ((B : Int) - (C : Int)) = (U2 : Int) := by rw [IntKind.wrap_u64]; omega
    have hU2l : U2 < 18446744073709551616 := by omega
    clear hU2 hA hB hC hrw hQY hYp hUY2
    have hq0 : (U2 : Int).tdiv (b1 : Int) = ((U2 / b1 : Nat) : Int) := by rw [Int.tdiv_eq_ediv_of_nonneg (by omega), ← Int.natCast_ediv]
    have hq0' : (U2 : Int) / (b1 : Int) = ((U2 / b1 : Nat) : Int) := by rw [← Int.natCast_ediv]
    have hdm := Nat.div_add_mod U2 b1
    have hrl := Nat.mod_lt U2 hb1p
    have hD9 := Nat.div_le_self U2 b1
    obtain ⟨Q2, hQ⟩ : ∃ Q2, Q2 = gs b1 b2 (U2 / 4294967296) (U2 % 4294967296) ub := ⟨_, rfl⟩
    have hle : U2 / 4294967296 ≤ b1 := by have := HY.out; have := HUY2.out; omega
    have hu1l : U2 % 4294967296 < 4294967296 := Nat.mod_lt _ (by omega)
    have hQ0 : Q2 ≤ U2 / b1 := by rw [hQ]; exact gs_start HUL2.out (R := U2 % b1) (by rw [hdm]; omega) hrl
    have hQ9 : Q2 ≤ 4294967295 := by rw [hQ]; exact gs_le _ _ _ _ _
    have HQX2 : Hid (Q2 = (U2 * 4294967296 + ub) / Y) := by show _ = _; rw [hQ]; exact gs_exact HY.out HUY2.out HUL2.out
    have HI2 : Hid (U2 = U2 / 4294967296 * 4294967296 + U2 % 4294967296) := by show _ = _; omega
    have HQ2 := Lib.hid hQ
    clear hQ
    generalize U2 / b1 = E0 at *
    generalize U2 % b1 = S0 at *
    have hP0 : E0 * b1 ≤ U2 := by rw [Nat.mul_comm]; omega
    have hw1 : IntKind.u64.wrap ((E0 : Int) * (b1 : Int)) = ((E0 * b1 : Nat) : Int) := by rw [← Int.natCast_mul, IntKind.wrap_u64]; omega
    have hw2 : (U2 : Int) - ((E0 * b1 : Nat) : Int) = (S0 : Int) := by rw [Nat.mul_comm E0 b1]; omega
    have hw3 : IntKind.u64.wrap ((U2 : Int) - ((E0 * b1 : Nat) : Int)) = (S0 : Int) := by rw [hw2, IntKind.wrap_u64]; omega
    have HW4 : Hid ((U2 : Int) - (E0 : Int) * (b1 : Int) = (S0 : Int)) := by show _ = _; rw [← Int.natCast_mul]; exact hw2
    have HDM0 : Hid (E0 * b1 + S0 = U2) := by show _ = _; rw [Nat.mul_comm]; exact hdm
    have HR0 : Hid (S0 < 4294967296) := by show _ < _; omega
    have HQ0 := Lib.hid hQ0
    clear hdm hQ0
    go_upto_block 2 with (fail)
    go_cut [18] (fun s7 wx => s7 = .int .u64 (Q2 : Int) ∧ w = wx)
    case first =>
      go_wp2
      go_loopw [18, 16] (fun x r wr => ∃ D R : Nat, x = .int .u64 (D : Int) ∧ r = .int .u64 (R : Int) ∧ D * b1 + R = U2 ∧ R < 4294967296 ∧ Q2 ≤ D ∧ wr = w) (fun x _ _ => (intOf x).toNat)
      case atStart => exact ⟨E0, S0, rfl, congrArg (Value.int .u64) HW4.out, HDM0.out, HR0.out, HQ0.out, rfl⟩
      case round =>
        obtain ⟨D, R, rfl, rfl, hDR, hR, hQD, rfl⟩ := hrel
        have hDle : D ≤ U2 := by
          have := Nat.le_mul_of_pos_right D hb1p
          omega
        have HDR := Lib.hid hDR
        clear hDR
        by_cases hd : 4294967296 ≤ D
        · have hlt : Q2 < D := by rw [HQ2.out]; exact gs_lt hb1p (by rw [← HI2.out]; exact HDR.out) (.inl (by omega))
          have HDM : Hid ((D - 1) * b1 + (R + b1) = D * b1 + R) := by show _ = _; rw [Nat.sub_mul, Nat.one_mul]; have := Nat.le_mul_of_pos_left b1 (show 0 < D by omega); omega
          have hdi : (4294967296 : Int) ≤ (D : Int) := by omega
          by_cases hR2 : R + b1 < 4294967296
          case' pos => have hR2d : decide ((4294967296 : Int) ≤ (R : Int) + (b1 : Int)) = false := by simp; omega
          case' neg => have hR2i : (4294967296 : Int) ≤ (R : Int) + (b1 : Int) := by omega
          case' neg => have hQE : Q2 = D - 1 := by rw [HQ2.out]; exact gs_break hb1p hb2l hu1l hle (by rw [← HI2.out, ← HDR.out]; exact HDM.out) (by omega) (by rw [← HQ2.out]; omega)
          case' neg => have HQE := Lib.hid hQE
          case' neg => clear hQE
          all_goals clear hd
          all_goals go_wp2
          · go_meet
            have := HQE.out
            exact ⟨by go_num, rfl⟩
          · go_roundw
            case rel => exact ⟨D - 1, R + b1, by go_num, by go_num, by rw [← HDR.out]; exact HDM.out, by omega, by omega, by first | trivial | rfl⟩
            case measure => simp [intOf]; omega
        · have hdd : decide ((4294967296 : Int) ≤ (D : Int)) = false := by simp; omega
          have hmul := mul_bd (show D < 4294967296 by omega) hb2l
          obtain ⟨P, hP⟩ : ∃ P : Nat, P = D * b2 := ⟨_, rfl⟩
          have hbit1 : IntKind.u64.wrap ((D : Int) * (b2 : Int)) = (P : Int) := by rw [← Int.natCast_mul, ← hP, IntKind.wrap_u64]; omega
          obtain ⟨T, hT⟩ : ∃ T : Nat, T = R * 4294967296 + ub := ⟨_, rfl⟩
          have hbit2 : (4294967296 : Int) * (R : Int) + (ub : Int) = (T : Int) := by omega
          have hbit3 : IntKind.u64.wrap (4294967296 * (R : Int)) = 4294967296 * (R : Int) := by rw [IntKind.wrap_u64]; omega
          have hbit4 : IntKind.u64.wrap (4294967296 * (R : Int) + (ub : Int)) = (T : Int) := by rw [IntKind.wrap_u64]; omega
          have hT9 : T ≤ 18446744073709551615 := by omega
          have HT := Lib.hid hT
          have HP := Lib.hid hP
          rw [← hP] at hmul
          clear hT hP
          by_cases hp : T < P
          · have hlt : Q2 < D := by rw [HQ2.out]; exact gs_lt hb1p (by rw [← HI2.out]; exact HDR.out) (.inr (by rw [← HT.out, ← HP.out]; exact hp))
            have HDM : Hid ((D - 1) * b1 + (R + b1) = D * b1 + R) := by show _ = _; rw [Nat.sub_mul, Nat.one_mul]; have := Nat.le_mul_of_pos_left b1 (show 0 < D by omega); omega
            have hpi : (T : Int) < (P : Int) := by omega
            by_cases hR2 : R + b1 < 4294967296
            case' pos => have hR2d : decide ((4294967296 : Int) ≤ (R : Int) + (b1 : Int)) = false := by simp; omega
            case' neg => have hR2i : (4294967296 : Int) ≤ (R : Int) + (b1 : Int) := by omega
            case' neg => have hQE : Q2 = D - 1 := by rw [HQ2.out]; exact gs_break hb1p hb2l hu1l hle (by rw [← HI2.out, ← HDR.out]; exact HDM.out) (by omega) (by rw [← HQ2.out]; omega)
            case' neg => have HQE := Lib.hid hQE
            case' neg => clear hQE
            all_goals clear hd hp
            all_goals go_wp2
            · go_meet
              have := HQE.out
              exact ⟨by go_num, rfl⟩
            · go_roundw
              case rel => exact ⟨D - 1, R + b1, by go_num, by go_num, by rw [← HDR.out]; exact HDM.out, by omega, by omega, by first | trivial | rfl⟩
              case measure => simp [intOf]; omega
          · have hpd : decide (T < P) = false := decide_eq_false hp
            have hQE : Q2 = D := by rw [HQ2.out]; exact gs_eq hb1p (by rw [← HI2.out]; exact HDR.out) (by omega) (by rw [← HP.out, ← HT.out]; omega) (by rw [← HQ2.out]; exact hQD)
            have HQE := Lib.hid hQE
            clear hQE hd hp
            go_wp2
            go_meet
            have := HQE.out
            exact ⟨by go_num, rfl⟩
    case rest =>
      obtain ⟨rfl, rfl⟩ := hcut
      have hts := two_steps (U := U) (u1 := ua) (u0 := ub) (show 0 < Y by omega)
      have hz1 : Q * 4294967296 + Q2 = (hi * 18446744073709551616 + lo) / y := by rw [← HQR.out, HQX.out, HQX2.out, HU2.out]; exact hts.1
      have hz2 : (U2 * 4294967296 + ub) % Y / 2 ^ s = (hi * 18446744073709551616 + lo) % y := by rw [← HRR.out, HU2.out, hts.2]
      have hrw := rest_wrap HQX2.out (show 0 < Y by omega) hYl
      have HZ1 := Lib.hid hz1
      have HZ2 := Lib.hid hz2
      have HRW := Lib.hid hrw
      have hQl : Q ≤ 4294967295 := by
        rw [HQX.out]
        have : (U * 4294967296 + ua) / Y < 4294967296 := by
          rw [Nat.div_lt_iff_lt_mul (by omega), Nat.mul_comm 4294967296 Y]
          have := Nat.mul_le_mul_right 4294967296 (show U + 1 ≤ Y from HUY.out)
          have := HUL.out
          omega
        omega
      clear hts hz1 hz2 hrw hq0 hq0' hrl hD9 hle hu1l hP0 hw1 hw2 hw3 HDM0 HR0 HQ0 HW4
      go_wp2
      go_ret2
      refine ⟨ret2_int ?_ ?_, 0, rfl⟩
      · rw [← HZ1.out]
        omega
      · have h := HRW.out
        have e : IntKind.u64.wrap (IntKind.u64.wrap (IntKind.u64.wrap ((U2 : Int) * 4294967296) + (ub : Int)) - IntKind.u64.wrap ((Q2 : Int) * (Y : Int))) = (((U2 * 4294967296 + ub) % Y : Nat) : Int) := by
          rw [← h, ← Int.natCast_mul]
          generalize Q2 * Y = Z
          rw [IntKind.wrap_u64, IntKind.wrap_u64, IntKind.wrap_u64, IntKind.wrap_u64]
          omega
        rw [e, cast_shr, HZ2.out]
theorem bitLen_bd {x : Nat} (h0 : 0 < x) (h : x < 18446744073709551616) : 1 ≤ Lib.bitLen x ∧ Lib.bitLen x ≤ 64 ∧ 2 ^ (Lib.bitLen x - 1) ≤ x ∧ x < 2 ^ Lib.bitLen x := by
  have h1 := Lib.bitLenAux_bounds 64 x h (by omega)
  have h2 := Lib.bitLen_le x 64 (by omega) h
  exact ⟨h1.1, h2, h1.2.1, h1.2.2⟩
set_option maxRecDepth 100000 in
theorem div64_zero (w : World) (lo y : Nat) (h1 : 0 < y) (h2 : y < 18446744073709551616) (h3 : lo < 18446744073709551616) :
    Calls Try.prog 43 #[.int .u64 ((0 : Nat) : Int), .int .u64 (lo : Int), .int .u64 (y : Int)] w fun e w' => e = .returned (.tuple #[.int .u64 ((lo / y : Nat) : Int), .int .u64 ((lo % y : Nat) : Int)]) ∧ ∃ d, w' = w.drewN d := by
  have hq0 : (lo : Int).tdiv (y : Int) = ((lo / y : Nat) : Int) := by rw [Int.tdiv_eq_ediv_of_nonneg (by omega), ← Int.natCast_ediv]
  have hr0 : (lo : Int).tmod (y : Int) = ((lo % y : Nat) : Int) := by rw [Int.tmod_eq_emod_of_nonneg (by omega), ← Int.natCast_emod]
  have hq0' : (lo : Int) / (y : Int) = ((lo / y : Nat) : Int) := by rw [← Int.natCast_ediv]
  have hr0' : (lo : Int) % (y : Int) = ((lo % y : Nat) : Int) := by rw [← Int.natCast_emod]
  have hq9 := Nat.div_le_self lo y
  have hr9 := Nat.mod_lt lo h1
  have hb0 : ¬ ((y : Int) = 0) := by omega
  generalize lo / y = Q at *
  generalize lo % y = R at *
  go_enter Try.func43, Try.ntmps43
  go_wp2
  go_quiet (fail)
  go_wp2
  go_ret2
  exact ⟨ret2_int (by first | rfl | omega) (by first | rfl | omega), _, rfl⟩
theorem d64_scale {hi lo s : Nat} (hs : s < 64) (hlo : lo < 18446744073709551616) :
    lo / 2 ^ (64 - s) < 2 ^ s ∧ (hi * 18446744073709551616 + lo) * 2 ^ s = (hi * 2 ^ s + lo / 2 ^ (64 - s)) * 18446744073709551616 + lo * 2 ^ s % 18446744073709551616 := by
  have e : (18446744073709551616 : Nat) = 2 ^ (64 - s) * 2 ^ s := by rw [← Nat.pow_add, show 64 - s + s = 64 by omega]
  have hp : 0 < 2 ^ s := Nat.pow_pos (by omega)
  have hp2 : 0 < 2 ^ (64 - s) := Nat.pow_pos (by omega)
  have hd : lo * 2 ^ s / 18446744073709551616 = lo / 2 ^ (64 - s) := by
    rw [show lo * 2 ^ s / 18446744073709551616 = lo * 2 ^ s / (2 ^ (64 - s) * 2 ^ s) by rw [← e], Nat.mul_div_mul_right _ _ hp]
  refine ⟨by rw [Nat.div_lt_iff_lt_mul hp2, Nat.mul_comm, ← e]; exact hlo, ?_⟩
  have hm := Nat.div_add_mod (lo * 2 ^ s) 18446744073709551616
  rw [hd] at hm
  have h1 : (hi * 18446744073709551616 + lo) * 2 ^ s = hi * 2 ^ s * 18446744073709551616 + lo * 2 ^ s := by
    rw [Nat.add_mul, Nat.mul_assoc, Nat.mul_assoc, Nat.mul_comm 18446744073709551616]
  rw [h1, Nat.add_mul]
  omega
theorem d64_norm {y : Nat} (h0 : 0 < y) (h : y < 18446744073709551616) : 9223372036854775808 ≤ y * 2 ^ (64 - Lib.bitLen y) ∧ y * 2 ^ (64 - Lib.bitLen y) < 18446744073709551616 := by
  obtain ⟨b1, b2, b3, b4⟩ := bitLen_bd h0 h
  generalize Lib.bitLen y = L at *
  have hp : 0 < 2 ^ (64 - L) := Nat.pow_pos (by omega)
  have e1 : 2 ^ (L - 1) * 2 ^ (64 - L) = 9223372036854775808 := by rw [← Nat.pow_add, show L - 1 + (64 - L) = 63 by omega]
  have e2 : 2 ^ L * 2 ^ (64 - L) = 18446744073709551616 := by rw [← Nat.pow_add, show L + (64 - L) = 64 by omega]
  refine ⟨by rw [← e1]; exact Nat.mul_le_mul_right _ b3, by rw [← e2]; exact Nat.mul_lt_mul_of_pos_right b4 hp⟩
theorem div64_any (w : World) (hi lo y : Nat) (h1 : hi < y) (h2 : y < 18446744073709551616) (h3 : lo < 18446744073709551616) :
    Calls Try.prog 43 #[.int .u64 (hi : Int), .int .u64 (lo : Int), .int .u64 (y : Int)] w fun e w' => e = .returned (.tuple #[.int .u64 (((hi * 18446744073709551616 + lo) / y : Nat) : Int), .int .u64 (((hi * 18446744073709551616 + lo) % y : Nat) : Int)]) ∧ ∃ d, w' = w.drewN d := by
  rcases Nat.eq_zero_or_pos hi with rfl | h0
  · have := div64_zero w lo y h1 h2 h3
    rw [Nat.zero_mul, Nat.zero_add]
    exact this
  · obtain ⟨c1, c2, c3, c4⟩ := bitLen_bd (show 0 < y by omega) h2
    have hnm := d64_norm (show 0 < y by omega) h2
    obtain ⟨s, hs⟩ : ∃ s, s = 64 - Lib.bitLen y := ⟨_, rfl⟩
    rw [← hs] at hnm
    have hs64 : s < 64 := by omega
    obtain ⟨k1, k2⟩ := d64_scale (hi := hi) hs64 h3
    have hp : 0 < 2 ^ s := Nat.pow_pos (by omega)
    have hHL : ∀ w, Calls Try.prog 45 #[.int .u64 (y : Int)] w fun e w' => e = .returned (.int .i64 (s : Int)) ∧ w = w' := fun w => by
      refine (slz64_any y w h2 c2).mono ?_
      rintro e w' ⟨rfl, rfl⟩
      exact ⟨ret_int (by omega), rfl⟩
    have hle : hi * 2 ^ s + 2 ^ s ≤ y * 2 ^ s := by
      have := Nat.mul_le_mul_right (2 ^ s) (show hi + 1 ≤ y from h1)
      rw [Nat.add_mul, Nat.one_mul] at this
      exact this
    have hsd := shifted_div (hi * 18446744073709551616 + lo) y s (by omega)
    obtain ⟨Y, hY⟩ : ∃ Y, Y = y * 2 ^ s := ⟨_, rfl⟩
    obtain ⟨G, hG⟩ : ∃ G, G = lo / 2 ^ (64 - s) := ⟨_, rfl⟩
    obtain ⟨V, hV⟩ : ∃ V, V = lo * 2 ^ s % 18446744073709551616 := ⟨_, rfl⟩
    obtain ⟨U, hU⟩ : ∃ U, U = hi * 2 ^ s + G := ⟨_, rfl⟩
    rw [← hY] at hnm hle hsd
    rw [← hG] at k1
    rw [← hG, ← hV, ← hU] at k2
    rw [k2] at hsd
    have hVl : V < 18446744073709551616 := by rw [hV]; exact Nat.mod_lt _ (by omega)
    have hhl : hi * 2 ^ s < 18446744073709551616 := by omega
    have hsplit : U * 18446744073709551616 + V = (U * 4294967296 + V / 4294967296) * 4294967296 + V % 4294967296 := by omega
    rw [hsplit] at hsd
    refine div64_main w hi lo y s Y (Y / 4294967296) (Y % 4294967296) U V (V / 4294967296) (V % 4294967296) h0 h1 h2 h3 hs64 hHL (by omega) (by omega) (by omega) (by omega) (by omega) (by omega) (by omega) (by omega) ?_ (by omega) ?_ ?_ ?_ (by omega) ?_ hsd.1 hsd.2
    · rw [cast_shl, Nat.mul_comm, ← hY, wrap_nat, Nat.mod_eq_of_lt hnm.2]
    · exact Mul64.maskN Y hnm.2
    · rw [cast_shl, Nat.mul_comm, wrap_nat, Nat.mod_eq_of_lt hhl, cast_shr, ← hG, bits_or _ _ hhl (by omega), Nat.or_comm, Nat.mul_comm, or_add k1, hU, Nat.mul_comm, Nat.add_comm]
    · rw [cast_shl, Nat.mul_comm, wrap_nat, ← hV]
    · exact Mul64.maskN V hVl
end Go.Proofs.Ytegpckhfncblhaa

/- Products of two words: size, multiply, Times, around, over on both sides. -/
namespace Go.Proofs.Ytegpckhfncblhaa
open Go.RowKit

abbrev pv (neg : Bool) (N : Nat) : Value := .agg #[.bool neg, .int .u64 ((N / 18446744073709551616 : Nat) : Int), .int .u64 ((N % 18446744073709551616 : Nat) : Int)]
/-- Block g holds three cells, and may be written. -/
structure C3 (w : World) (g : Nat) (x0 x1 x2 : Value) : Prop where
  c0 : w.cell? ⟨g, 0, none⟩ = some x0
  c1 : w.cell? ⟨g, 1, none⟩ = some x1
  c2 : w.cell? ⟨g, 2, none⟩ = some x2
  f0 : w.frozen? ⟨g, 0, none⟩ = false
  f1 : w.frozen? ⟨g, 1, none⟩ = false
  f2 : w.frozen? ⟨g, 2, none⟩ = false
  lt : g < w.heap.size
theorem C3.new (w : World) (k : Nat) (hk : w.heap.size = k) (x0 x1 x2 : Value) (t : TypeId) : C3 (w.alloc (.cells #[x0, x1, x2] t)) k x0 x1 x2 := by
  subst hk
  refine ⟨?_, ?_, ?_, ?_, ?_, ?_, by simp⟩ <;> go_simp
theorem C3.via {w w' : World} {g : Nat} {x0 x1 x2 : Value} (p : C3 w g x0 x1 x2) (hb : Below w.heap.size w w') : C3 w' g x0 x1 x2 :=
  ⟨(hb.cell (p := ⟨g, 0, none⟩) p.lt).trans p.c0, (hb.cell (p := ⟨g, 1, none⟩) p.lt).trans p.c1, (hb.cell (p := ⟨g, 2, none⟩) p.lt).trans p.c2, (hb.frozen (p := ⟨g, 0, none⟩) p.lt).trans p.f0, (hb.frozen (p := ⟨g, 1, none⟩) p.lt).trans p.f1, (hb.frozen (p := ⟨g, 2, none⟩) p.lt).trans p.f2, Nat.lt_of_lt_of_le p.lt hb.size⟩
theorem C3.alloc {w : World} {g : Nat} {x0 x1 x2 : Value} (p : C3 w g x0 x1 x2) (o : Obj) : C3 (w.alloc o) g x0 x1 x2 := p.via ((Below.refl _ _).alloc (Nat.le_refl _) o)
theorem C3.drewN {w : World} {g : Nat} {x0 x1 x2 : Value} (p : C3 w g x0 x1 x2) (k : Nat) : C3 (w.drewN k) g x0 x1 x2 := ⟨p.c0, p.c1, p.c2, p.f0, p.f1, p.f2, p.lt⟩
theorem res_p3 {fn : Func} {r : Nat} (hr : fn.results = #[.cell r 49]) {tmps : Array Value} {w : World} {g : Nat} {x y z : Value} (ht : tmps.getD r undef = .pointer (some ⟨g, 0, none⟩))
    (p : C3 w g x y z) : (results fn tmps).run Try.prog w = .ok (.agg #[x, y, z]) w := by
  have h0 := p.c0; have h1 := p.c1; have h2 := p.c2
  rw [Array.getD_eq_getD_getElem?] at ht
  simp [results, hr, go_sem, ht, h0, h1, h2]
theorem res_l3 {fn : Func} {r : Nat} (hr : fn.results = #[.cell r 52]) {tmps : Array Value} {w : World} {g : Nat} {x y z : Value} (ht : tmps.getD r undef = .pointer (some ⟨g, 0, none⟩))
    (p : C3 w g x y z) : (results fn tmps).run Try.prog w = .ok (.agg #[x, y, z]) w := by
  have h0 := p.c0; have h1 := p.c1; have h2 := p.c2
  rw [Array.getD_eq_getD_getElem?] at ht
  simp [results, hr, go_sem, ht, h0, h1, h2]
set_option maxRecDepth 100000 in
theorem ssize_any (w : World) (x : Int) (h1 : -9223372036854775808 ≤ x) (h2 : x ≤ 9223372036854775807) : Calls Try.prog 41 #[.int .i64 x] w fun e w' => e = .returned (.int .u64 (x.natAbs : Int)) ∧ w = w' := by
  by_cases h : x < 0
  · have e1 : IntKind.u64.wrap x = x + 18446744073709551616 := by rw [IntKind.wrap_u64]; omega
    have e2 : IntKind.u64.wrap (-(x + 18446744073709551616)) = -x := by rw [IntKind.wrap_u64]; omega
    go_enter Try.func41, Try.ntmps41
    go_wp2
    go_ret
    exact ⟨ret_int (by omega), rfl⟩
  · go_enter Try.func41, Try.ntmps41
    go_wp2
    go_ret
    exact ⟨ret_int (by omega), rfl⟩
set_option maxRecDepth 100000 in
theorem rsize_any (w : World) (x : Int) (h1 : -9223372036854775808 ≤ x) (h2 : x ≤ 9223372036854775807) : Calls Try.prog 36 #[.int .i64 x] w fun e w' => e = .returned (.int .u64 (x.natAbs : Int)) ∧ w = w' := by
  by_cases h : x < 0
  · have e1 : IntKind.u64.wrap x = x + 18446744073709551616 := by rw [IntKind.wrap_u64]; omega
    have e2 : IntKind.u64.wrap (-(x + 18446744073709551616)) = -x := by rw [IntKind.wrap_u64]; omega
    go_enter Try.func36, Try.ntmps36
    go_wp2
    go_ret
    exact ⟨ret_int (by omega), rfl⟩
  · go_enter Try.func36, Try.ntmps36
    go_wp2
    go_ret
    exact ⟨ret_int (by omega), rfl⟩
theorem natAbs_lt {x : Int} (h1 : -9223372036854775808 ≤ x) (h2 : x ≤ 9223372036854775807) : x.natAbs < 18446744073709551616 := by omega
/-- A call returns a product with a sign; what was there is kept. -/
def RP (w : World) (neg : Bool) (N : Nat) (e : Ending) (w' : World) : Prop := e = .returned (pv neg N) ∧ Below w.heap.size w w'
/-- The sign of a product. -/
def sgB (x y : Int) : Bool := decide (x < 0) != decide (y < 0)
set_option maxRecDepth 100000 in
set_option maxHeartbeats 1000000 in
theorem smul_any (w : World) (x y : Int) (hx1 : -9223372036854775808 ≤ x) (hx2 : x ≤ 9223372036854775807) (hy1 : -9223372036854775808 ≤ y) (hy2 : y ≤ 9223372036854775807) :
    Calls Try.prog 30 #[.int .i64 x, .int .i64 y] w (RP w (sgB x y) (x.natAbs * y.natAbs)) := by
  have HX := Lib.hid (fun w => ssize_any w x hx1 hx2)
  have HY := Lib.hid (fun w => ssize_any w y hy1 hy2)
  have HM := Lib.hid (fun w => smul64_any x.natAbs y.natAbs (natAbs_lt hx1 hx2) (natAbs_lt hy1 hy2) w)
  generalize x.natAbs = a at *
  generalize y.natAbs = b at *
  clear hx1 hx2 hy1 hy2
  obtain ⟨H, hH⟩ : ∃ H, H = a * b / 18446744073709551616 := ⟨_, rfl⟩
  obtain ⟨L, hL⟩ : ∃ L, L = a * b % 18446744073709551616 := ⟨_, rfl⟩
  rw [← hH, ← hL] at HM
  have HE : Hid (pv (sgB x y) (a * b) = .agg #[.bool (sgB x y), .int .u64 (H : Int), .int .u64 (L : Int)]) := by show _ = _; unfold pv; rw [← hH, ← hL]
  
  clear hH hL
  go_enter Try.func30, Try.ntmps30
  go_wp2_with fail
  refine (HX.out _).mono ?_
  rintro e w1 ⟨rfl, rfl⟩
  go_wp2_with fail
  refine (HY.out _).mono ?_
  rintro e w1 ⟨rfl, rfl⟩
  go_wp2_with fail
  refine (HM.out _).mono ?_
  rintro e w1 ⟨rfl, rfl⟩
  clear HX HY HM
  go_wp2
  refine bodyPost_ret (v := pv (sgB x y) (a * b)) ?_ rfl ⟨rfl, by go_grown⟩
  rw [HE.out]
  refine res_p3 Try.results30 rfl ?_
  unfold sgB
  exact C3.new _ _ (by simp) _ _ _ _
theorem neg_cases (x : Int) : x < 0 ∨ decide (x < 0) = false ∧ 0 ≤ x := by
  by_cases h : x < 0
  · exact .inl h
  · exact .inr ⟨decide_eq_false h, by omega⟩
theorem pos_cases (L : Nat) : ((0 : Int) < (L : Int) ∧ 0 < L) ∨ (decide ((0 : Int) < (L : Int)) = false ∧ decide (0 < L) = false ∧ (L : Int) ≤ 0) := by
  by_cases h : 0 < L
  · exact .inl ⟨by omega, h⟩
  · exact .inr ⟨decide_eq_false (by omega), decide_eq_false h, by omega⟩
/-- The sign of the reference's product: 0 is not negative. -/
def sgT (x y : Int) : Bool := sgB x y && decide (0 < x.natAbs * y.natAbs)
theorem sgT_iff (x y : Int) : sgT x y = true ↔ (x < 0 ∧ ¬ y < 0 ∨ ¬ x < 0 ∧ y < 0) ∧ 0 < x.natAbs * y.natAbs := by
  unfold sgT sgB
  by_cases hx : x < 0 <;> by_cases hy : y < 0 <;> simp [hx, hy]
set_option maxRecDepth 100000 in
set_option maxHeartbeats 2000000 in
theorem rtimes_any (w : World) (x y : Int) (hx1 : -9223372036854775808 ≤ x) (hx2 : x ≤ 9223372036854775807) (hy1 : -9223372036854775808 ≤ y) (hy2 : y ≤ 9223372036854775807) :
    Calls Try.prog 32 #[.int .i64 x, .int .i64 y] w (RP w (sgT x y) (x.natAbs * y.natAbs)) := by
  have HX := Lib.hid (fun w => rsize_any w x hx1 hx2)
  have HY := Lib.hid (fun w => rsize_any w y hy1 hy2)
  have HM := Lib.hid (fun w => smul64_any x.natAbs y.natAbs (natAbs_lt hx1 hx2) (natAbs_lt hy1 hy2) w)
  have HS : Hid (sgT x y = true ↔ (x < 0 ∧ ¬ y < 0 ∨ ¬ x < 0 ∧ y < 0) ∧ 0 < x.natAbs * y.natAbs) := sgT_iff x y
  generalize x.natAbs = a at *
  generalize y.natAbs = b at *
  generalize sgT x y = sg at *
  obtain ⟨H, hH⟩ : ∃ H, H = a * b / 18446744073709551616 := ⟨_, rfl⟩
  obtain ⟨L, hL⟩ : ∃ L, L = a * b % 18446744073709551616 := ⟨_, rfl⟩
  rw [← hH, ← hL] at HM
  have HE : Hid (pv sg (a * b) = .agg #[.bool sg, .int .u64 (H : Int), .int .u64 (L : Int)]) := by show _ = _; unfold pv; rw [← hH, ← hL]
  have HP : Hid (0 < a * b ↔ 0 < H ∨ 0 < L) := by show _ ↔ _; omega
  clear hH hL hx1 hx2 hy1 hy2
  rcases neg_cases x with hx | ⟨hx, hx'⟩ <;> rcases neg_cases y with hy | ⟨hy, hy'⟩ <;> rcases pos_cases H with ⟨hh, hh'⟩ | ⟨hh, hh', hh3⟩ <;> rcases pos_cases L with ⟨hl, hl'⟩ | ⟨hl, hl', hl3⟩
  all_goals
    go_enter Try.func32, Try.ntmps32
    go_wp2_with fail
    refine (HX.out _).mono ?_
    rintro e w1 ⟨rfl, rfl⟩
    go_wp2_with fail
    refine (HY.out _).mono ?_
    rintro e w1 ⟨rfl, rfl⟩
    go_wp2_with fail
    refine (HM.out _).mono ?_
    rintro e w1 ⟨rfl, rfl⟩
    clear HX HY HM
    go_wp2
    refine bodyPost_ret (v := pv sg (a * b)) ?_ rfl ⟨rfl, by go_grown⟩
    rw [HE.out]
    have hp := HP.out
    have hs := HS.out
    refine res_l3 Try.results32 rfl ?_
    cases hsg : sg
    all_goals
      first
      | (exfalso; have h' := hs.1 hsg; omega)
      | (exfalso; have h' : sg = true := hs.2 ⟨by omega, by omega⟩; exact absurd (hsg.symm.trans h') (by decide))
      | exact C3.new _ _ rfl _ _ _ _
end Go.Proofs.Ytegpckhfncblhaa

/- Intervals: around, over on both sides. -/
namespace Go.Proofs.Ytegpckhfncblhaa
open Go.RowKit

set_option maxRecDepth 100000 in
set_option maxHeartbeats 1000000 in
theorem around_any (w : World) (neg more : Bool) (q : Nat) (hq9 : q < 18446744073709551616) :
    Calls Try.prog 42 #[.bool neg, .int .u64 (q : Int), .bool more] w (RV w (ovLo neg q more) (ovHi neg q more)) := by
  obtain ⟨m, hm⟩ : ∃ m : Int, m = arLo q := ⟨_, rfl⟩
  have hm0 : 0 ≤ m := by rw [hm]; unfold arLo; omega
  have hm1 : m ≤ 2305843009213693953 := by rw [hm]; unfold arLo; omega
  have HL : Hid (ovLo neg q more = if neg then -(m + (if more then 1 else 0)) else m) := by show _ = _; unfold ovLo arHi; rw [hm]
  have HH : Hid (ovHi neg q more = if neg then -m else m + (if more then 1 else 0)) := by show _ = _; unfold ovHi arHi; rw [hm]
  generalize ovLo neg q more = lo at *
  generalize ovHi neg q more = hi at *
  rcases Nat.lt_or_ge q 2305843009213693953 with hq | hq
  · have hmq : m = (q : Int) := by rw [hm]; unfold arLo; omega
    subst hmq
    have hqi : (q : Int) < 2305843009213693953 := by omega
    clear hq hq9 hm
    cases neg <;> cases more
    · go_enter Try.func42, Try.ntmps42
      go_wp2
      have hl := HL.out
      have hh := HH.out
      exact post_iv1 Try.results42 rfl rfl ((Pr.new w _ rfl _ _ _).alloc _) ⟨ret_iv (by simp at hl; omega) (by simp at hh; omega), by go_grown⟩
    · go_enter Try.func42, Try.ntmps42
      go_wp2
      have hl := HL.out
      have hh := HH.out
      exact post_iv1 Try.results42 rfl rfl ((Pr.new w _ rfl _ _ _).alloc _) ⟨ret_iv (by simp at hl; omega) (by simp at hh; omega), by go_grown⟩
    · go_enter Try.func42, Try.ntmps42
      go_wp2_with fail
      refine (negative_any _ _ _ (by omega) (by omega) (by omega) (by omega)).mono ?_
      rintro e w1 ⟨rfl, hb⟩
      have PR := ((Pr.new w w.heap.size rfl (.int .i64 0) (.int .i64 0) 23).alloc _).via hb
      have B1 := Lib.hid (sbtr (sbal (sbal (Below.refl _ _) _) _) hb)
      have ⟨r0, r1, r2, r3, rl⟩ := PR
      clear hb
      go_wp2
      have hl := HL.out
      have hh := HH.out
      exact post_iv1 Try.results42 rfl rfl (PR.set _ _) ⟨ret_iv (by simp at hl; omega) (by simp at hh; omega), below_set2 B1.out (by omega) _ _⟩
    · go_enter Try.func42, Try.ntmps42
      go_wp2_with fail
      refine (negative_any _ _ _ (by omega) (by omega) (by omega) (by omega)).mono ?_
      rintro e w1 ⟨rfl, hb⟩
      have PR := ((Pr.new w w.heap.size rfl (.int .i64 0) (.int .i64 0) 23).alloc _).via hb
      have B1 := Lib.hid (sbtr (sbal (sbal (Below.refl _ _) _) _) hb)
      have ⟨r0, r1, r2, r3, rl⟩ := PR
      clear hb
      go_wp2
      have hl := HL.out
      have hh := HH.out
      exact post_iv1 Try.results42 rfl rfl (PR.set _ _) ⟨ret_iv (by simp at hl; omega) (by simp at hh; omega), below_set2 B1.out (by omega) _ _⟩
  · have hmq : m = 2305843009213693953 := by rw [hm]; unfold arLo; omega
    subst hmq
    have hqi : (2305843009213693953 : Int) ≤ (q : Int) := by omega
    clear hq hm
    cases neg <;> cases more
    · go_enter Try.func42, Try.ntmps42
      go_wp2
      have hl := HL.out
      have hh := HH.out
      exact post_iv1 Try.results42 rfl rfl ((Pr.new w _ rfl _ _ _).alloc _) ⟨ret_iv (by simp at hl; omega) (by simp at hh; omega), by go_grown⟩
    · go_enter Try.func42, Try.ntmps42
      go_wp2
      have hl := HL.out
      have hh := HH.out
      exact post_iv1 Try.results42 rfl rfl ((Pr.new w _ rfl _ _ _).alloc _) ⟨ret_iv (by simp at hl; omega) (by simp at hh; omega), by go_grown⟩
    · go_enter Try.func42, Try.ntmps42
      go_wp2_with fail
      refine (negative_any _ _ _ (by omega) (by omega) (by omega) (by omega)).mono ?_
      rintro e w1 ⟨rfl, hb⟩
      have PR := ((Pr.new w w.heap.size rfl (.int .i64 0) (.int .i64 0) 23).alloc _).via hb
      have B1 := Lib.hid (sbtr (sbal (sbal (Below.refl _ _) _) _) hb)
      have ⟨r0, r1, r2, r3, rl⟩ := PR
      clear hb
      go_wp2
      have hl := HL.out
      have hh := HH.out
      exact post_iv1 Try.results42 rfl rfl (PR.set _ _) ⟨ret_iv (by simp at hl; omega) (by simp at hh; omega), below_set2 B1.out (by omega) _ _⟩
    · go_enter Try.func42, Try.ntmps42
      go_wp2_with fail
      refine (negative_any _ _ _ (by omega) (by omega) (by omega) (by omega)).mono ?_
      rintro e w1 ⟨rfl, hb⟩
      have PR := ((Pr.new w w.heap.size rfl (.int .i64 0) (.int .i64 0) 23).alloc _).via hb
      have B1 := Lib.hid (sbtr (sbal (sbal (Below.refl _ _) _) _) hb)
      have ⟨r0, r1, r2, r3, rl⟩ := PR
      clear hb
      go_wp2
      have hl := HL.out
      have hh := HH.out
      exact post_iv1 Try.results42 rfl rfl (PR.set _ _) ⟨ret_iv (by simp at hl; omega) (by simp at hh; omega), below_set2 B1.out (by omega) _ _⟩
set_option maxRecDepth 100000 in
set_option maxHeartbeats 2000000 in
theorem over_great (w : World) (neg : Bool) (H L : Nat) (d : Int) (hd1 : -9223372036854775808 ≤ d) (hd2 : d ≤ 9223372036854775807) (hge : d.natAbs ≤ H) :
    Calls Try.prog 31 #[.agg #[.bool neg, .int .u64 (H : Int), .int .u64 (L : Int)], .int .i64 d] w (RV w (ovLo (neg != decide (d < 0)) 2305843009213693953 false) (ovHi (neg != decide (d < 0)) 2305843009213693953 false)) := by
  have HS := Lib.hid (fun w => ssize_any w d hd1 hd2)
  have HB : Hid (Below w.heap.size w ((w.alloc (.cells #[.bool neg, .int .u64 (H : Int), .int .u64 (L : Int)] 49)).alloc (ivB 0 0))) := sbal (sbal (Below.refl _ _) _) _
  have PR := Lib.hid (Pr.new (w.alloc (.cells #[.bool neg, .int .u64 (H : Int), .int .u64 (L : Int)] 49)) (w.heap.size + 1) (by simp) (.int .i64 0) (.int .i64 0) 23)
  have P3 := Lib.hid ((C3.new w w.heap.size rfl (.bool neg) (.int .u64 (H : Int)) (.int .u64 (L : Int)) 49).alloc (ivB 0 0))
  obtain ⟨b, hb⟩ : ∃ b, decide (d < 0) = b := ⟨_, rfl⟩
  rw [hb]
  obtain ⟨ng, hng⟩ : ∃ ng, (neg != b) = ng := ⟨_, rfl⟩
  rw [hng]
  have hng2 : (!neg == b) = ng := by rw [← hng]; cases neg <;> cases b <;> rfl
  have HA := Lib.hid (fun W => around_any W ng false 2305843009213693953 (by omega))
  have hgi : (d.natAbs : Int) ≤ (H : Int) := by omega
  generalize d.natAbs = D at *
  clear hd1 hd2
  go_enter Try.func31, Try.ntmps31
  go_wp2_with fail
  generalize ((w.alloc (.cells #[.bool neg, .int .u64 (H : Int), .int .u64 (L : Int)] 49)).alloc (ivB 0 0)) = W0 at *
  have ⟨p0, p1, p2, _, _, _, _⟩ := P3.out
  go_quiet ((go_at_call 41; exact quiet_eq (HS.out _)))
  go_wp2_with fail
  refine (HA.out _).mono ?_
  rintro e w1 ⟨rfl, hb1⟩
  have P4 := Lib.hid ((PR.out.drewN _).via hb1)
  have B4 := Lib.hid (sbtr (bdrewN HB.out _) hb1)
  clear hb1 PR HB HA HS P3 p0 p1 p2
  have ⟨r0, r1, r2, r3, rl⟩ := P4.out
  go_wp2
  exact post_iv1 Try.results31 rfl rfl (P4.out.set _ _) ⟨rfl, below_set2 B4.out (by omega) _ _⟩
set_option maxRecDepth 100000 in
set_option maxHeartbeats 2000000 in
theorem over_fit (w : World) (neg : Bool) (H L : Nat) (d : Int) (hd1 : -9223372036854775808 ≤ d) (hd2 : d ≤ 9223372036854775807) (hlt : H < d.natAbs) (hL : L < 18446744073709551616) :
    Calls Try.prog 31 #[.agg #[.bool neg, .int .u64 (H : Int), .int .u64 (L : Int)], .int .i64 d] w (RV w (ovLo (neg != decide (d < 0)) ((H * 18446744073709551616 + L) / d.natAbs) (decide (0 < (H * 18446744073709551616 + L) % d.natAbs))) (ovHi (neg != decide (d < 0)) ((H * 18446744073709551616 + L) / d.natAbs) (decide (0 < (H * 18446744073709551616 + L) % d.natAbs)))) := by
  have HS := Lib.hid (fun w => ssize_any w d hd1 hd2)
  have HB : Hid (Below w.heap.size w ((w.alloc (.cells #[.bool neg, .int .u64 (H : Int), .int .u64 (L : Int)] 49)).alloc (ivB 0 0))) := sbal (sbal (Below.refl _ _) _) _
  have PR := Lib.hid (Pr.new (w.alloc (.cells #[.bool neg, .int .u64 (H : Int), .int .u64 (L : Int)] 49)) (w.heap.size + 1) (by simp) (.int .i64 0) (.int .i64 0) 23)
  have P3 := Lib.hid ((C3.new w w.heap.size rfl (.bool neg) (.int .u64 (H : Int)) (.int .u64 (L : Int)) 49).alloc (ivB 0 0))
  obtain ⟨b, hb⟩ : ∃ b, decide (d < 0) = b := ⟨_, rfl⟩
  rw [hb]
  obtain ⟨ng, hng⟩ : ∃ ng, (neg != b) = ng := ⟨_, rfl⟩
  rw [hng]
  have hng2 : (!neg == b) = ng := by rw [← hng]; cases neg <;> cases b <;> rfl
  have HD := Lib.hid (fun W => div64_any W H L d.natAbs hlt (natAbs_lt hd1 hd2) hL)
  have hq9 : (H * 18446744073709551616 + L) / d.natAbs < 18446744073709551616 := by
    rw [Nat.div_lt_iff_lt_mul (by omega), Nat.mul_comm]
    have := Nat.mul_le_mul_right 18446744073709551616 (show H + 1 ≤ d.natAbs from hlt)
    omega
  have hdf : decide (d.natAbs ≤ H) = false := decide_eq_false (by omega)
  have hdf2 : decide ((d.natAbs : Int) ≤ (H : Int)) = false := decide_eq_false (by omega)
  generalize (H * 18446744073709551616 + L) / d.natAbs = q at *
  generalize (H * 18446744073709551616 + L) % d.natAbs = r at *
  generalize d.natAbs = D at *
  obtain ⟨more, hmo⟩ : ∃ more, decide (0 < r) = more := ⟨_, rfl⟩
  have hmo2 : decide ((0 : Int) < (r : Int)) = more := by rw [← hmo]; simp
  rw [hmo]
  have HA := Lib.hid (fun W => around_any W ng more q hq9)
  clear hd1 hd2 hlt hL hq9
  go_enter Try.func31, Try.ntmps31
  go_wp2_with fail
  generalize ((w.alloc (.cells #[.bool neg, .int .u64 (H : Int), .int .u64 (L : Int)] 49)).alloc (ivB 0 0)) = W0 at *
  have ⟨p0, p1, p2, _, _, _, _⟩ := P3.out
  go_quiet ((go_at_call 41; exact quiet_eq (HS.out _)))
  have Q3 := Lib.hid (P3.out.drewN nq)
  have QR := Lib.hid (PR.out.drewN nq)
  have QB := Lib.hid (bdrewN HB.out nq)
  clear P3 PR HB p0 p1 p2
  generalize W0.drewN nq = W1 at *
  go_wp2_with fail
  have ⟨p0, p1, p2, _, _, _, _⟩ := Q3.out
  go_quiet ((first | (go_at_call 41; exact quiet_eq (HS.out _)) | (go_at_call 43; exact Calls.quiet_of (HD.out _))))
  go_wp2_with fail
  refine (HA.out _).mono ?_
  rintro e w1 ⟨rfl, hb1⟩
  have P4 := Lib.hid ((QR.out.drewN _).via hb1)
  have B4 := Lib.hid (sbtr (bdrewN QB.out _) hb1)
  clear hb1 QR QB HA HS HD Q3 p0 p1 p2
  have ⟨r0, r1, r2, r3, rl⟩ := P4.out
  go_wp2
  exact post_iv1 Try.results31 rfl rfl (P4.out.set _ _) ⟨rfl, below_set2 B4.out (by omega) _ _⟩
end Go.Proofs.Ytegpckhfncblhaa

/- Intervals: over of the reference; over, the closures of times and quotient, as clamped quotients. -/
namespace Go.Proofs.Ytegpckhfncblhaa
open Go.RowKit

theorem roK_big {N d : Nat} {b : Bool} (h : 4611686018427387904 ≤ N / d) : roK N d b = 4611686018427387904 := by unfold roK; rw [if_pos h]
theorem roK_more {N d : Nat} {b : Bool} (h : N / d < 4611686018427387904) (hb : b = true) (hr : 0 < N % d) : roK N d b = N / d + 1 := by
  unfold roK; rw [if_neg (by omega), hb, decide_eq_true hr]; rfl
theorem roK_same {N d : Nat} {b : Bool} (h : N / d < 4611686018427387904) (hb : b = false ∨ N % d = 0) : roK N d b = N / d := by
  unfold roK; rw [if_neg (by omega)]
  rcases hb with hb | hb
  · rw [hb]; rfl
  · rw [hb, decide_eq_false (by omega), Bool.and_false]; rfl
theorem rov_t {up : Bool} {N d : Nat} : rov true up N d = -(roK N d (up != true) : Int) := by unfold rov sgn; rfl
theorem rov_f {up : Bool} {N d : Nat} : rov false up N d = (roK N d (up != false) : Int) := by unfold rov sgn; rfl
set_option maxRecDepth 100000 in
set_option maxHeartbeats 1000000 in
theorem rover_great (w : World) (neg up : Bool) (H L D : Nat) (hD : 0 < D) (hge : D ≤ H) :
    Calls Try.prog 35 #[.agg #[.bool neg, .int .u64 (H : Int), .int .u64 (L : Int)], .int .u64 (D : Int), .bool up] w (RN1 w (rov neg up (H * 18446744073709551616 + L) D)) := by
  have hk : ∀ b, roK (H * 18446744073709551616 + L) D b = 4611686018427387904 := fun b => roK_big (by
    rw [Nat.le_div_iff_mul_le hD]
    have := Nat.mul_le_mul_right 18446744073709551616 hge
    omega)
  have HK := Lib.hid hk
  have hd1 : decide (H < D) = false := decide_eq_false (by omega)
  have hd2 : decide ((H : Int) < (D : Int)) = false := decide_eq_false (by omega)
  clear hk hge
  cases neg
  all_goals
    go_enter Try.func35, Try.ntmps35
    go_wp2
    go_ret
    exact ⟨ret_int (by first | rw [rov_t, HK.out]; rfl | rw [rov_f, HK.out]; rfl), by go_grown⟩
set_option maxRecDepth 100000 in
set_option maxHeartbeats 2000000 in
theorem rover_fit (w : World) (neg up : Bool) (H L D : Nat) (hlt : H < D) (hD : D < 18446744073709551616) (hL : L < 18446744073709551616) :
    Calls Try.prog 35 #[.agg #[.bool neg, .int .u64 (H : Int), .int .u64 (L : Int)], .int .u64 (D : Int), .bool up] w (RN1 w (rov neg up (H * 18446744073709551616 + L) D)) := by
  have HD := Lib.hid (fun W => div64_any W H L D hlt hD hL)
  have hq9 : (H * 18446744073709551616 + L) / D < 18446744073709551616 := by
    rw [Nat.div_lt_iff_lt_mul (by omega), Nat.mul_comm]
    have := Nat.mul_le_mul_right 18446744073709551616 (show H + 1 ≤ D from hlt)
    omega
  have hli : (H : Int) < (D : Int) := by omega
  have HK1 := Lib.hid (fun (b : Bool) (h : 4611686018427387904 ≤ (H * 18446744073709551616 + L) / D) => roK_big (N := H * 18446744073709551616 + L) (d := D) (b := b) h)
  have HK2 := Lib.hid (fun (b : Bool) (h : (H * 18446744073709551616 + L) / D < 4611686018427387904) (hb : b = true) (hr : 0 < (H * 18446744073709551616 + L) % D) => roK_more h hb hr)
  have HK3 := Lib.hid (fun (b : Bool) (h : (H * 18446744073709551616 + L) / D < 4611686018427387904) (hb : b = false ∨ (H * 18446744073709551616 + L) % D = 0) => roK_same h hb)
  have HT := Lib.hid (rov_t (up := up) (N := H * 18446744073709551616 + L) (d := D))
  have HF := Lib.hid (rov_f (up := up) (N := H * 18446744073709551616 + L) (d := D))
  obtain ⟨v, hv⟩ : ∃ v, v = rov neg up (H * 18446744073709551616 + L) D := ⟨_, rfl⟩
  rw [← hv]
  have HV := Lib.hid hv
  clear hv
  generalize (H * 18446744073709551616 + L) / D = q at *
  generalize (H * 18446744073709551616 + L) % D = r at *
  generalize H * 18446744073709551616 + L = N at *
  have HB : Hid (Below w.heap.size w (w.alloc (.cells #[.bool neg, .int .u64 (H : Int), .int .u64 (L : Int)] 52))) := sbal (Below.refl _ _) _
  have P3 := Lib.hid (C3.new w w.heap.size rfl (.bool neg) (.int .u64 (H : Int)) (.int .u64 (L : Int)) 52)
  clear hlt hD hL
  go_enter Try.func35, Try.ntmps35
  go_wp2_with fail
  generalize w.alloc (.cells #[.bool neg, .int .u64 (H : Int), .int .u64 (L : Int)] 52) = W0 at *
  have ⟨p0, p1, p2, _, _, _, _⟩ := P3.out
  go_wp2_with fail
  refine (HD.out _).mono ?_
  rintro e w1 ⟨rfl, k, rfl⟩
  have Q3 := Lib.hid (P3.out.drewN k)
  have QB := Lib.hid (bdrewN HB.out k)
  clear P3 HB p0 p1 p2 HD
  generalize W0.drewN k = W1 at *
  have ⟨p0, p1, p2, _, _, _, _⟩ := Q3.out
  rcases Nat.lt_or_ge q 4611686018427387904 with hq | hq
  · have hqi : (q : Int) < 4611686018427387904 := by omega
    have hqd : decide ((4611686018427387904 : Int) ≤ (q : Int)) = false := decide_eq_false (by omega)
    have hq9i : (q : Int) < 18446744073709551616 := by omega
    have HQ := Lib.hid hq
    clear hq hq9
    rcases pos_cases r with ⟨hr, hr'⟩ | ⟨hr, hr', hr3⟩
    · have HR := Lib.hid hr'
      cases neg <;> cases up
      all_goals
        go_wp2
        go_ret
        exact ⟨ret_int (by
          first
          | (rw [HV.out, HT.out, HK2.out _ HQ.out (by rfl) HR.out] <;> omega)
          | (rw [HV.out, HT.out, HK3.out _ HQ.out (.inl (by rfl))] <;> omega)
          | (rw [HV.out, HF.out, HK2.out _ HQ.out (by rfl) HR.out] <;> omega)
          | (rw [HV.out, HF.out, HK3.out _ HQ.out (.inl (by rfl))] <;> omega)), QB.out⟩
    · have hr0 : r = 0 := by omega
      have HR := Lib.hid hr0
      clear hr0
      cases neg <;> cases up
      all_goals
        go_wp2
        go_ret
        exact ⟨ret_int (by
          first
          | (rw [HV.out, HT.out, HK3.out _ HQ.out (.inr HR.out)]; done)
          | (rw [HV.out, HF.out, HK3.out _ HQ.out (.inr HR.out)]; done)), QB.out⟩
  · have hqi : (4611686018427387904 : Int) ≤ (q : Int) := by omega
    have HQ := Lib.hid hq
    clear hq hq9
    cases neg
    all_goals
      go_wp2
      go_ret
      exact ⟨ret_int (by
        first
        | (rw [HV.out, HT.out, HK1.out _ HQ.out]; rfl)
        | (rw [HV.out, HF.out, HK1.out _ HQ.out]; rfl)), QB.out⟩
theorem split128 (N : Nat) (hN : N < 340282366920938463463374607431768211456) : N / 18446744073709551616 < 18446744073709551616 ∧ N / 18446744073709551616 * 18446744073709551616 + N % 18446744073709551616 = N := by omega
theorem over_ex (neg : Bool) (N : Nat) (d : Int) (hd0 : d ≠ 0) (hd1 : -9223372036854775808 ≤ d) (hd2 : d ≤ 9223372036854775807) :
    ∃ lo hi, lo ≤ hi ∧ cl lo = cl (sgn (neg != decide (d < 0)) N / (d.natAbs : Int)) ∧ cl hi = cl (cdiv (sgn (neg != decide (d < 0)) N) (d.natAbs : Int)) ∧ ∀ w, Calls Try.prog 31 #[pv neg N, .int .i64 d] w (RV w lo hi) := by
  have hD : 0 < d.natAbs := by omega
  have hs : N / 18446744073709551616 * 18446744073709551616 + N % 18446744073709551616 = N := by omega
  rcases Nat.lt_or_ge (N / 18446744073709551616) d.natAbs with h | h
  · refine ⟨_, _, ov_le _ _ _, ?_, ?_, fun w => over_fit w neg (N / 18446744073709551616) (N % 18446744073709551616) d hd1 hd2 h (by omega)⟩
    · rw [hs]; exact ovLo_cl _ N d.natAbs hD _ (fun e => by simp at e; omega) (fun e => by simp at e; omega)
    · rw [hs]; exact ovHi_cl _ N d.natAbs hD _ (fun e => by simp at e; omega) (fun e => by simp at e; omega)
  · have hbig : 18446744073709551616 ≤ N / d.natAbs := by
      rw [Nat.le_div_iff_mul_le hD]
      have := Nat.mul_le_mul_right 18446744073709551616 h
      rw [Nat.mul_comm]
      omega
    have e1 : ∀ g, ovLo g 2305843009213693953 false = ovLo g (N / d.natAbs) false := fun g => by
      have : arLo 2305843009213693953 = arLo (N / d.natAbs) := by unfold arLo; omega
      unfold ovLo arHi; rw [this]
    have e2 : ∀ g, ovHi g 2305843009213693953 false = ovHi g (N / d.natAbs) false := fun g => by
      have : arLo 2305843009213693953 = arLo (N / d.natAbs) := by unfold arLo; omega
      unfold ovHi arHi; rw [this]
    refine ⟨_, _, ov_le _ _ _, ?_, ?_, fun w => over_great w neg (N / 18446744073709551616) (N % 18446744073709551616) d hd1 hd2 h⟩
    · rw [e1]; exact ovLo_cl _ N d.natAbs hD _ (fun e => by cases e) (fun _ => .inr (by omega))
    · rw [e2]; exact ovHi_cl _ N d.natAbs hD _ (fun e => by cases e) (fun _ => .inr (by omega))
theorem rover_any (w : World) (neg up : Bool) (N D : Nat) (hD0 : 0 < D) (hD : D < 18446744073709551616) :
    Calls Try.prog 35 #[pv neg N, .int .u64 (D : Int), .bool up] w (RN1 w (rov neg up N D)) := by
  have hs : N / 18446744073709551616 * 18446744073709551616 + N % 18446744073709551616 = N := by omega
  rcases Nat.lt_or_ge (N / 18446744073709551616) D with h | h
  · have := rover_fit w neg up (N / 18446744073709551616) (N % 18446744073709551616) D h hD (by omega)
    rw [hs] at this
    exact this
  · have := rover_great w neg up (N / 18446744073709551616) (N % 18446744073709551616) D hD0 h
    rw [hs] at this
    exact this
/-- The sign of a product and its absolute value make the product. -/
theorem sgn_mul (x y : Int) : sgn (sgB x y) (x.natAbs * y.natAbs) = x * y := by
  unfold sgn sgB
  rcases Int.lt_or_le x 0 with hx | hx <;> rcases Int.lt_or_le y 0 with hy | hy
  · have e1 : (x.natAbs : Int) = -x := by omega
    have e2 : (y.natAbs : Int) = -y := by omega
    rw [decide_eq_true hx, decide_eq_true hy, Int.natCast_mul, e1, e2]
    simp [Int.neg_mul, Int.mul_neg]
  · have e1 : (x.natAbs : Int) = -x := by omega
    have e2 : (y.natAbs : Int) = y := by omega
    rw [decide_eq_true hx, decide_eq_false (by omega), Int.natCast_mul, e1, e2]
    simp [Int.neg_mul]
  · have e1 : (x.natAbs : Int) = x := by omega
    have e2 : (y.natAbs : Int) = -y := by omega
    rw [decide_eq_false (by omega), decide_eq_true hy, Int.natCast_mul, e1, e2]
    simp [Int.mul_neg]
  · have e1 : (x.natAbs : Int) = x := by omega
    have e2 : (y.natAbs : Int) = y := by omega
    rw [decide_eq_false (by omega), decide_eq_false (by omega), Int.natCast_mul, e1, e2]
    simp
theorem sgn_zero (b : Bool) : sgn b 0 = 0 := by cases b <;> rfl
theorem sgnT_mul (x y : Int) : sgn (sgT x y) (x.natAbs * y.natAbs) = x * y := by
  by_cases h : 0 < x.natAbs * y.natAbs
  · have e : sgT x y = sgB x y := by unfold sgT; rw [decide_eq_true h, Bool.and_true]
    rw [e]; exact sgn_mul x y
  · have e : x.natAbs * y.natAbs = 0 := by omega
    have h2 := sgn_mul x y
    rw [e, sgn_zero] at h2
    rw [e, sgn_zero, h2]
end Go.Proofs.Ytegpckhfncblhaa

/- Intervals: the closures of times and quotient; square. -/
namespace Go.Proofs.Ytegpckhfncblhaa
open Go.RowKit

def qn (x y : Int) : Int := if y < 0 then -(x * 1099511627776) else x * 1099511627776
theorem sgn_not (b : Bool) (N : Nat) : sgn (!b) N = -sgn b N := by cases b <;> simp [sgn]
set_option maxRecDepth 100000 in
theorem square_ex (x : Int) (hx1 : -2305843009213693952 ≤ x) (hx2 : x ≤ 2305843009213693952) :
    ∃ lo hi, lo ≤ hi ∧ cl lo = cl (x * x / 1099511627776) ∧ cl hi = cl (cdiv (x * x) 1099511627776) ∧ ∀ w, Calls Try.prog 24 #[.int .i64 x] w (RV w lo hi) := by
  obtain ⟨lo, hi, h1, h2, h3, h4⟩ := over_ex (sgB (x) (x)) ((x).natAbs * (x).natAbs) (1099511627776 : Int) (by omega) (by omega) (by omega)
  have e : (sgB x x != decide ((1099511627776 : Int) < 0)) = sgB x x := by cases sgB x x <;> rfl
  rw [e, sgn_mul] at h2 h3
  refine ⟨lo, hi, h1, h2, h3, fun w => ?_⟩
  have H4 := Lib.hid h4
  have HM := Lib.hid (fun w => smul_any w (x) (x) (by omega) (by omega) (by omega) (by omega))
  have HB : Hid (Below w.heap.size w (w.alloc (ivB 0 0))) := sbal (Below.refl _ _) _
  have PR := Lib.hid (Pr.new w w.heap.size rfl (.int .i64 0) (.int .i64 0) 23)
  clear h1 h2 h3 h4
  go_enter Try.func24, Try.ntmps24
  go_wp2_with fail
  generalize w.alloc (ivB 0 0) = W0 at *
  refine (HM.out _).mono ?_
  rintro e w1 ⟨rfl, hb⟩
  have P1 := Lib.hid (PR.out.via hb)
  have B1 := Lib.hid (sbtr HB.out hb)
  clear hb PR HB HM
  go_wp2_with fail
  refine (H4.out _).mono ?_
  rintro e w2 ⟨rfl, hb⟩
  have P2 := Lib.hid (P1.out.via hb)
  have B2 := Lib.hid (sbtr B1.out hb)
  clear hb P1 B1 H4
  have ⟨r0, r1, r2, r3, rl⟩ := P2.out
  go_wp2
  exact post_iv1 Try.results24 rfl rfl (P2.out.set _ _) ⟨rfl, below_set2 B2.out (by omega) _ _⟩
end Go.Proofs.Ytegpckhfncblhaa

