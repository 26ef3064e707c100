/-
  Plain mathematics of limbs: lists of numbers below 2^32, lowest first, and the numbers that they stand for. No program is named here.
-/
import Derived.Lib.Hide
namespace Go.Proofs.Ytdbilpmhejigpaa

theorem pow_add_ (n m : Nat) : (4294967296 : Nat) ^ (n + m) = 4294967296 ^ n * 4294967296 ^ m := Nat.pow_add ..
theorem pow_pos_ (n : Nat) : 0 < (4294967296 : Nat) ^ n := Nat.pow_pos (by omega)
theorem pow_succ_ (n : Nat) : (4294967296 : Nat) ^ (n + 1) = 4294967296 * 4294967296 ^ n := by rw [Nat.pow_succ, Nat.mul_comm]
theorem pow_mono_ {n m : Nat} (h : n ≤ m) : (4294967296 : Nat) ^ n ≤ 4294967296 ^ m := Nat.pow_le_pow_right (by omega) h

def val : List Nat → Nat
  | [] => 0
  | x :: xs => x + 4294967296 * val xs
def Good (xs : List Nat) : Prop := ∀ x ∈ xs, x < 4294967296
def Norm (xs : List Nat) : Prop := xs.getLast? ≠ some 0
def digsF : Nat → Nat → List Nat
  | 0, _ => []
  | f + 1, n => if n = 0 then [] else n % 4294967296 :: digsF f (n / 4294967296)
def digs (n : Nat) : List Nat := digsF n n

theorem Good.nil : Good [] := fun _ h => by cases h
theorem Good.cons {x : Nat} {xs : List Nat} (hx : x < 4294967296) (h : Good xs) : Good (x :: xs) := by
  intro y hy
  rcases List.mem_cons.1 hy with rfl | hy
  · exact hx
  · exact h y hy
theorem Good.tail {x : Nat} {xs : List Nat} (h : Good (x :: xs)) : Good xs := fun y hy => h y (List.mem_cons_of_mem _ hy)
theorem Good.head {x : Nat} {xs : List Nat} (h : Good (x :: xs)) : x < 4294967296 := h x (List.mem_cons_self ..)
theorem Good.append {xs ys : List Nat} (hx : Good xs) (hy : Good ys) : Good (xs ++ ys) := by
  intro y h
  rcases List.mem_append.1 h with h | h
  · exact hx y h
  · exact hy y h
theorem Good.take {xs : List Nat} (h : Good xs) (k : Nat) : Good (xs.take k) := fun y hy => h y (List.mem_of_mem_take hy)
theorem Good.drop {xs : List Nat} (h : Good xs) (k : Nat) : Good (xs.drop k) := fun y hy => h y (List.mem_of_mem_drop hy)
theorem Good.get {xs : List Nat} (h : Good xs) (k : Nat) : xs[k]?.getD 0 < 4294967296 := by
  rcases Nat.lt_or_ge k xs.length with hk | hk
  · rw [List.getElem?_eq_getElem hk]
    exact h _ (List.getElem_mem hk)
  · rw [List.getElem?_eq_none hk]
    simp

theorem val_nil : val [] = 0 := rfl
theorem val_cons (x : Nat) (xs : List Nat) : val (x :: xs) = x + 4294967296 * val xs := rfl
theorem val_append (xs ys : List Nat) : val (xs ++ ys) = val xs + 4294967296 ^ xs.length * val ys := by
  induction xs with
  | nil => simp [val_nil]
  | cons x xs ih =>
    simp only [List.cons_append, val_cons, ih, List.length_cons, pow_succ_, Nat.mul_add, Nat.mul_assoc]
    omega
theorem val_snoc (xs : List Nat) (y : Nat) : val (xs ++ [y]) = val xs + 4294967296 ^ xs.length * y := by rw [val_append]; simp [val_nil, val_cons]
theorem val_lt {xs : List Nat} (h : Good xs) : val xs < 4294967296 ^ xs.length := by
  induction xs with
  | nil => simp [val_nil]
  | cons x xs ih =>
    have h1 := ih h.tail
    have h2 := h.head
    simp only [val_cons, List.length_cons, pow_succ_]
    omega
theorem val_zero {xs : List Nat} (h : ∀ x ∈ xs, x = 0) : val xs = 0 := by
  induction xs with
  | nil => rfl
  | cons x xs ih =>
    have h1 := ih fun y hy => h y (List.mem_cons_of_mem _ hy)
    have h2 := h x (List.mem_cons_self ..)
    simp [h1, h2, val_cons]
theorem val_split (xs : List Nat) (k : Nat) (hk : k ≤ xs.length) : val xs = val (xs.take k) + 4294967296 ^ k * val (xs.drop k) := by
  have h := val_append (xs.take k) (xs.drop k)
  rw [List.take_append_drop, List.length_take, Nat.min_eq_left hk] at h
  exact h
theorem take_snoc_ {α : Type} (xs : List α) (k : Nat) (h : k < xs.length) : xs.take (k + 1) = xs.take k ++ [xs[k]] := by
  rw [List.take_succ_eq_append_getElem h]
theorem take_snocD (xs : List Nat) (k : Nat) (h : k < xs.length) : xs.take (k + 1) = xs.take k ++ [xs[k]?.getD 0] := by
  rw [List.take_succ_eq_append_getElem h, List.getElem?_eq_getElem h]; rfl
theorem val_take_succ (xs : List Nat) (k : Nat) (h : k < xs.length) : val (xs.take (k + 1)) = val (xs.take k) + 4294967296 ^ k * xs[k]?.getD 0 := by
  rw [take_snocD xs k h, val_snoc, List.length_take, Nat.min_eq_left (by omega)]
/-- Beyond the list's end there is nothing to add. -/
theorem val_take_succ' (xs : List Nat) (k : Nat) : val (xs.take (k + 1)) = val (xs.take k) + 4294967296 ^ k * xs[k]?.getD 0 := by
  rcases Nat.lt_or_ge k xs.length with h | h
  · exact val_take_succ xs k h
  · rw [List.take_of_length_le (by omega), List.take_of_length_le (by omega), List.getElem?_eq_none h]
    simp
theorem drop_cons_ (xs : List Nat) (k : Nat) (h : k < xs.length) : xs.drop k = xs[k]?.getD 0 :: xs.drop (k + 1) := by
  rw [List.drop_eq_getElem_cons h, List.getElem?_eq_getElem h]; rfl

theorem Norm.nil : Norm [] := by simp [Norm]
theorem Norm.tail {x : Nat} {xs : List Nat} (h : Norm (x :: xs)) : Norm xs := by
  cases xs with
  | nil => exact Norm.nil
  | cons y ys => unfold Norm at h ⊢; rw [List.getLast?_cons_cons] at h; exact h
theorem val_pos {xs : List Nat} (h : Norm xs) (hne : xs ≠ []) : 0 < val xs := by
  induction xs with
  | nil => exact absurd rfl hne
  | cons x xs ih =>
    cases xs with
    | nil =>
      simp [Norm] at h
      simp only [val_cons, val_nil]
      omega
    | cons y ys =>
      have := ih h.tail (by simp)
      simp only [val_cons] at this ⊢
      omega
theorem uniq {xs ys : List Nat} (gx : Good xs) (gy : Good ys) (nx : Norm xs) (ny : Norm ys) (h : val xs = val ys) : xs = ys := by
  induction xs generalizing ys with
  | nil =>
    cases ys with
    | nil => rfl
    | cons y ys => have := val_pos ny (by simp); rw [← h] at this; simp [val_nil] at this
  | cons x xs ih =>
    cases ys with
    | nil => have := val_pos nx (by simp); rw [h] at this; simp [val_nil] at this
    | cons y ys =>
      have h1 := gx.head
      have h2 := gy.head
      simp only [val_cons] at h
      have e1 : x = y := by omega
      have e2 : val xs = val ys := by omega
      rw [e1, ih gx.tail gy.tail nx.tail ny.tail e2]

theorem digsF_val : ∀ (f n : Nat), n ≤ f → val (digsF f n) = n := by
  intro f
  induction f with
  | zero => intro n h; simp [digsF, val_nil]; omega
  | succ f ih =>
    intro n h
    unfold digsF
    split
    · simp [val_nil]; omega
    · rw [val_cons, ih _ (by omega)]
      omega
theorem digsF_good : ∀ (f n : Nat), Good (digsF f n) := by
  intro f
  induction f with
  | zero => intro n; exact Good.nil
  | succ f ih =>
    intro n
    unfold digsF
    split
    · exact Good.nil
    · exact (ih _).cons (Nat.mod_lt _ (by omega))
theorem digsF_norm : ∀ (f n : Nat), n ≤ f → Norm (digsF f n) := by
  intro f
  induction f with
  | zero => intro n _; exact Norm.nil
  | succ f ih =>
    intro n h
    unfold digsF
    split
    · exact Norm.nil
    · have h1 := ih (n / 4294967296) (by omega)
      have h2 := digsF_val f (n / 4294967296) (by omega)
      revert h1 h2
      cases digsF f (n / 4294967296) with
      | nil => intro _ h2; simp [Norm, val_nil] at h2 ⊢; omega
      | cons y ys => intro h1 _; unfold Norm at h1 ⊢; rw [List.getLast?_cons_cons]; exact h1
theorem digs_val (n : Nat) : val (digs n) = n := digsF_val n n (Nat.le_refl _)
theorem digs_good (n : Nat) : Good (digs n) := digsF_good n n
theorem digs_norm (n : Nat) : Norm (digs n) := digsF_norm n n (Nat.le_refl _)
theorem eq_digs {xs : List Nat} {n : Nat} (g : Good xs) (nx : Norm xs) (h : val xs = n) : xs = digs n :=
  uniq g (digs_good n) nx (digs_norm n) (by rw [h, digs_val])
theorem digs_zero : digs 0 = [] := rfl
theorem digs_nil {n : Nat} : digs n = [] ↔ n = 0 := by
  constructor
  · intro h; rw [← digs_val n, h]; rfl
  · rintro rfl; rfl
theorem digs_pos {n : Nat} : 0 < (digs n).length ↔ 0 < n := by
  rw [List.length_pos_iff, Ne, digs_nil]
  omega

/-- A normal list of k limbs or more stands for a number of at least B^(k-1). -/
theorem val_ge {xs : List Nat} (nx : Norm xs) (k : Nat) (hk : k < xs.length) : 4294967296 ^ k ≤ val xs := by
  induction xs generalizing k with
  | nil => simp at hk
  | cons x xs ih =>
    cases k with
    | zero => have := val_pos nx (by simp); rw [Nat.pow_zero]; omega
    | succ k =>
      have := ih nx.tail k (by simpa using hk)
      rw [pow_succ_, val_cons]
      omega
theorem len_le_of_lt {xs : List Nat} (nx : Norm xs) {k : Nat} (h : val xs < 4294967296 ^ k) : xs.length ≤ k := by
  rcases Nat.lt_or_ge k xs.length with hk | hk
  · have := val_ge nx k hk
    omega
  · exact hk
theorem digs_len {n k : Nat} : (digs n).length ≤ k ↔ n < 4294967296 ^ k := by
  constructor
  · intro h
    have h1 := val_lt (digs_good n)
    rw [digs_val] at h1
    exact Nat.lt_of_lt_of_le h1 (pow_mono_ h)
  · intro h
    exact len_le_of_lt (digs_norm n) (by rw [digs_val]; exact h)
theorem lt_of_len {xs ys : List Nat} (gx : Good xs) (ny : Norm ys) (h : xs.length < ys.length) : val xs < val ys := by
  have h1 := val_lt gx
  have h2 := val_ge ny xs.length h
  omega

theorem mul_len {a b n m : Nat} (ha : (digs a).length = n) (hb : (digs b).length = m) (hn : 0 < n) (hm : 0 < m) : n + m - 1 ≤ (digs (a * b)).length := by
  have h1 := val_ge (digs_norm a) (n - 1) (by omega)
  have h2 := val_ge (digs_norm b) (m - 1) (by omega)
  rw [digs_val] at h1 h2
  have h3 := Nat.mul_le_mul h1 h2
  rw [← pow_add_] at h3
  rcases Nat.lt_or_ge (digs (a * b)).length (n + m - 1) with h | h
  · have h4 := (digs_len (n := a * b) (k := n - 1 + (m - 1))).1 (by omega)
    omega
  · exact h

/-! ### Trimming -/
def tr (xs : List Nat) : Nat → Nat
  | 0 => 0
  | k + 1 => if xs[k]?.getD 0 = 0 then tr xs k else k + 1
theorem tr_le (xs : List Nat) (n : Nat) : tr xs n ≤ n := by
  induction n with
  | zero => exact Nat.le_refl _
  | succ k ih => unfold tr; split <;> omega
theorem tr_take (xs : List Nat) (n : Nat) : val (xs.take (tr xs n)) = val (xs.take n) := by
  induction n with
  | zero => rfl
  | succ k ih =>
    unfold tr
    split
    · next h => rw [ih, val_take_succ', h]; simp
    · rfl
theorem tr_norm (xs : List Nat) (n : Nat) (hn : n ≤ xs.length) : Norm (xs.take (tr xs n)) := by
  induction n with
  | zero => exact Norm.nil
  | succ k ih =>
    unfold tr
    split
    · exact ih (by omega)
    · next h =>
      unfold Norm
      rw [take_snocD xs k (by omega), List.getLast?_concat]
      simpa using h
theorem tr_digs {xs : List Nat} (g : Good xs) {n : Nat} (hn : xs.length = n) : xs.take (tr xs n) = digs (val xs) := by
  subst hn
  refine eq_digs (g.take _) (tr_norm xs _ (Nat.le_refl _)) ?_
  rw [tr_take, List.take_length]
theorem tr_len {xs : List Nat} (g : Good xs) {n : Nat} (hn : xs.length = n) : tr xs n = (digs (val xs)).length := by
  rw [← tr_digs g hn, List.length_take]
  have := tr_le xs n
  omega

/-! ### Comparison -/
def cmpN (a b : Nat) : Int := if a < b then -1 else if a = b then 0 else 1
/-- How lists of limbs are compared: longer ones are greater; else the numbers decide. -/
def cmpL (xs ys : List Nat) : Int := if xs.length < ys.length then -1 else if ys.length < xs.length then 1 else cmpN (val xs) (val ys)
theorem cmpN_eq {a b : Nat} : cmpN a b = 0 ↔ a = b := by unfold cmpN; split <;> (try split) <;> omega
theorem cmpN_lt {a b : Nat} (h : a < b) : cmpN a b = -1 := by unfold cmpN; rw [if_pos h]
theorem cmpN_gt {a b : Nat} (h : b < a) : cmpN a b = 1 := by unfold cmpN; rw [if_neg (by omega), if_neg (by omega)]
theorem cmpN_self (a : Nat) : cmpN a a = 0 := cmpN_eq.2 rfl
theorem eq_of_val {xs ys : List Nat} (gx : Good xs) (gy : Good ys) (hl : xs.length = ys.length) (h : val xs = val ys) : xs = ys := by
  induction xs generalizing ys with
  | nil => cases ys with
    | nil => rfl
    | cons y ys => simp at hl
  | cons x xs ih => cases ys with
    | nil => simp at hl
    | cons y ys =>
      have h1 := gx.head
      have h2 := gy.head
      simp only [val_cons] at h
      have e1 : x = y := by omega
      rw [e1, ih gx.tail gy.tail (by simpa using hl) (by omega)]
theorem cmpL_eq {xs ys : List Nat} (gx : Good xs) (gy : Good ys) : cmpL xs ys = 0 ↔ xs = ys := by
  unfold cmpL
  constructor
  · intro h
    split at h
    · omega
    · split at h
      · omega
      · exact eq_of_val gx gy (by omega) (cmpN_eq.1 h)
  · rintro rfl
    simp [cmpN_self]
theorem cmpL_norm {xs ys : List Nat} (gx : Good xs) (gy : Good ys) (nx : Norm xs) (ny : Norm ys) : cmpL xs ys = cmpN (val xs) (val ys) := by
  unfold cmpL
  split
  · next h => rw [cmpN_lt (lt_of_len gx ny h)]
  · split
    · next h => rw [cmpN_gt (lt_of_len gy nx h)]
    · rfl
/-- The highest limb that differs decides. -/
theorem val_lt_of {xs ys : List Nat} {k n : Nat} (gx : Good xs) (hx : xs.length = n) (hy : ys.length = n) (hk : k < n) (hd : xs.drop (k + 1) = ys.drop (k + 1)) (h : xs[k]?.getD 0 < ys[k]?.getD 0) : val xs < val ys := by
  have e1 := val_split xs (k + 1) (by omega)
  have e2 := val_split ys (k + 1) (by omega)
  have t1 := val_take_succ xs k (by omega)
  have t2 := val_take_succ ys k (by omega)
  have l1 : val (xs.take k) < 4294967296 ^ k := by
    have := val_lt (gx.take k)
    rwa [List.length_take, Nat.min_eq_left (by omega)] at this
  rw [hd] at e1
  have m : 4294967296 ^ k * (xs[k]?.getD 0 + 1) ≤ 4294967296 ^ k * ys[k]?.getD 0 := Nat.mul_le_mul_left _ (by omega)
  rw [Nat.mul_add, Nat.mul_one] at m
  omega
theorem drop_step {xs ys : List Nat} {k n : Nat} (hx : xs.length = n) (hy : ys.length = n) (hk : k < n) (hd : xs.drop (k + 1) = ys.drop (k + 1)) (h : xs[k]?.getD 0 = ys[k]?.getD 0) : xs.drop k = ys.drop k := by
  rw [drop_cons_ xs k (by omega), drop_cons_ ys k (by omega), hd, h]
theorem cmpL_of_drop {xs ys : List Nat} (h : xs.drop 0 = ys.drop 0) : cmpL xs ys = 0 := by
  simp only [List.drop_zero] at h
  subst h
  simp [cmpL, cmpN_self]
theorem cmpL_at {xs ys : List Nat} {k n : Nat} (gx : Good xs) (gy : Good ys) (hx : xs.length = n) (hy : ys.length = n) (hk : k < n) (hd : xs.drop (k + 1) = ys.drop (k + 1)) (h : xs[k]?.getD 0 ≠ ys[k]?.getD 0) :
    cmpL xs ys = cmpN (xs[k]?.getD 0) (ys[k]?.getD 0) := by
  unfold cmpL
  rw [if_neg (by omega), if_neg (by omega)]
  rcases Nat.lt_or_ge (xs[k]?.getD 0) (ys[k]?.getD 0) with h1 | h1
  · have h2 := val_lt_of gx hx hy hk hd h1; rw [cmpN_lt h1, cmpN_lt h2]
  · have h3 : ys[k]?.getD 0 < xs[k]?.getD 0 := by omega
    have h2 := val_lt_of gy hy hx hk hd.symm h3
    rw [cmpN_gt h3, cmpN_gt h2]

end Go.Proofs.Ytdbilpmhejigpaa
