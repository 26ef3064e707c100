/-
  Plain mathematics of loops over limbs: products by a limb, sums, differences; a part of a list replaced.
-/
import Derived.Test.YtdbilpmhejigpaaMath
namespace Go.Proofs.Ytdbilpmhejigpaa

theorem get_nat (xs : List Nat) (k : Nat) (h : k < xs.length) : xs[k]? = some (xs[k]?.getD 0) := by
  rw [List.getElem?_eq_getElem h]; rfl

/-! ### A part of a list replaced -/
def spl (cs : List Nat) (off : Nat) (ts : List Nat) : List Nat := cs.take off ++ (ts ++ cs.drop (off + ts.length))
theorem spl_nil (cs : List Nat) (off : Nat) : spl cs off [] = cs := by simp [spl]
theorem spl_len {cs : List Nat} {off : Nat} {ts : List Nat} (h : off + ts.length ≤ cs.length) : (spl cs off ts).length = cs.length := by
  simp [spl]; omega
theorem spl_at {cs : List Nat} {off : Nat} {ts : List Nat} (h : off + ts.length < cs.length) : (spl cs off ts)[off + ts.length]?.getD 0 = cs[off + ts.length]?.getD 0 := by
  unfold spl
  have h1 : (cs.take off).length = off := by rw [List.length_take]; omega
  rw [List.getElem?_append_right (by omega), h1, List.getElem?_append_right (by omega), List.getElem?_drop]
  congr 2
  omega
theorem set_mid (p m q : List Nat) (t : Nat) (hq : 0 < q.length) : (p ++ (m ++ q)).set (p.length + m.length) t = p ++ ((m ++ [t]) ++ q.drop 1) := by
  cases q with
  | nil => simp at hq
  | cons y ys =>
    rw [List.set_append_right _ _ (by omega), Nat.add_sub_cancel_left, List.set_append_right _ _ (by omega), Nat.sub_self]
    simp
theorem spl_set {cs : List Nat} {off : Nat} {ts : List Nat} (t : Nat) (h : off + ts.length < cs.length) : (spl cs off ts).set (off + ts.length) t = spl cs off (ts ++ [t]) := by
  unfold spl
  have h1 : (cs.take off).length = off := by rw [List.length_take]; omega
  have e := set_mid (cs.take off) ts (cs.drop (off + ts.length)) t (by rw [List.length_drop]; omega)
  rw [h1] at e
  rw [e, List.drop_drop, List.length_append]
  rfl
theorem spl_good {cs : List Nat} {off : Nat} {ts : List Nat} (g : Good cs) (h : Good ts) : Good (spl cs off ts) := (g.take _).append (h.append (g.drop _))

/-! ### The product by a limb, added to a list: the limbs and the carry after k rounds -/
def mulK (ps xs : List Nat) (y : Nat) : Nat → List Nat × Nat
  | 0 => ([], 0)
  | k + 1 => let r := mulK ps xs y k
             let s := r.2 + (xs[k]?.getD 0 * y + ps[k]?.getD 0)
             (r.1 ++ [s % 4294967296], s / 4294967296)
theorem mulK_len (ps xs : List Nat) (y k : Nat) : (mulK ps xs y k).1.length = k := by
  induction k with
  | zero => rfl
  | succ k ih => simp [mulK, ih]
theorem mulK_good (ps xs : List Nat) (y k : Nat) : Good (mulK ps xs y k).1 := by
  induction k with
  | zero => exact Good.nil
  | succ k ih => exact ih.append (Good.nil.cons (Nat.mod_lt _ (by omega)))
theorem mul_bd {x y : Nat} (hx : x < 4294967296) (hy : y < 4294967296) : x * y ≤ 18446744065119617025 := by
  have h : x * y ≤ 4294967295 * 4294967295 := Nat.mul_le_mul (by omega) (by omega)
  omega
theorem mulK_carry {ps xs : List Nat} {y : Nat} (hp : Good ps) (hx : Good xs) (hy : y < 4294967296) (k : Nat) : (mulK ps xs y k).2 < 4294967296 := by
  induction k with
  | zero => show 0 < 4294967296; omega
  | succ k ih =>
    show ((mulK ps xs y k).2 + (xs[k]?.getD 0 * y + ps[k]?.getD 0)) / 4294967296 < 4294967296
    have h1 := mul_bd (hx.get k) hy
    have h2 := hp.get k
    omega
theorem mulK_val (ps xs : List Nat) (y k : Nat) : val (mulK ps xs y k).1 + 4294967296 ^ k * (mulK ps xs y k).2 = val (xs.take k) * y + val (ps.take k) := by
  induction k with
  | zero => simp [mulK, val_nil]
  | succ k ih =>
    show val ((mulK ps xs y k).1 ++ [((mulK ps xs y k).2 + (xs[k]?.getD 0 * y + ps[k]?.getD 0)) % 4294967296]) + 4294967296 ^ (k + 1) * (((mulK ps xs y k).2 + (xs[k]?.getD 0 * y + ps[k]?.getD 0)) / 4294967296) = _
    rw [val_snoc, mulK_len, val_take_succ', val_take_succ', Nat.add_mul, pow_succ_]
    generalize hs : (mulK ps xs y k).2 + (xs[k]?.getD 0 * y + ps[k]?.getD 0) = s
    have h1 : 4294967296 ^ k * (s % 4294967296) + 4294967296 * 4294967296 ^ k * (s / 4294967296) = 4294967296 ^ k * s := by
      rw [Nat.mul_comm 4294967296 (4294967296 ^ k), Nat.mul_assoc, ← Nat.mul_add, Nat.mod_add_div]
    have h2 : 4294967296 ^ k * s = 4294967296 ^ k * (mulK ps xs y k).2 + (4294967296 ^ k * xs[k]?.getD 0 * y + 4294967296 ^ k * ps[k]?.getD 0) := by
      rw [← hs, Nat.mul_add, Nat.mul_add, Nat.mul_assoc]
    omega

/-- A round of the product by hand. -/
theorem prod_step {ps xs ys : List Nat} {n m k : Nat} (hx : xs.length = n) (hps : ps.length = n + m) (hk : k < m) (hv : val (ps.take (n + k)) = val xs * val (ys.take k)) :
    val ((spl ps k ((mulK (ps.drop k) xs (ys[k]?.getD 0) n).1 ++ [(mulK (ps.drop k) xs (ys[k]?.getD 0) n).2])).take (n + (k + 1))) = val xs * val (ys.take (k + 1)) := by
  have hl := mulK_len (ps.drop k) xs (ys[k]?.getD 0) n
  have hm := mulK_val (ps.drop k) xs (ys[k]?.getD 0) n
  have hpk : (ps.take k).length = k := by rw [List.length_take]; omega
  have e1 : (spl ps k ((mulK (ps.drop k) xs (ys[k]?.getD 0) n).1 ++ [(mulK (ps.drop k) xs (ys[k]?.getD 0) n).2])).take (n + (k + 1)) = ps.take k ++ ((mulK (ps.drop k) xs (ys[k]?.getD 0) n).1 ++ [(mulK (ps.drop k) xs (ys[k]?.getD 0) n).2]) := by
    unfold spl
    rw [← List.append_assoc]
    refine List.take_left' ?_
    simp [hl]
    omega
  rw [e1, val_append, hpk, val_snoc, hl, hm, val_take_succ']
  have e2 : val (ps.take (n + k)) = val (ps.take k) + 4294967296 ^ k * val ((ps.drop k).take n) := by
    have e3 : ps.take (n + k) = ps.take k ++ (ps.drop k).take n := by
      rw [Nat.add_comm n k, List.take_add]
    rw [e3, val_append, hpk]
  have e5 : xs.take n = xs := List.take_of_length_le (by omega)
  rw [e5]
  rw [hv] at e2
  rw [Nat.mul_add (val xs), e2, Nat.mul_add]
  have e4 : 4294967296 ^ k * (val xs * ys[k]?.getD 0) = val xs * (4294967296 ^ k * ys[k]?.getD 0) := by
    rw [Nat.mul_left_comm]
  omega
theorem spl_after {cs : List Nat} {off : Nat} {ts : List Nat} (h : off + ts.length ≤ cs.length) {j : Nat} (hj : off + ts.length ≤ j) : (spl cs off ts)[j]?.getD 0 = cs[j]?.getD 0 := by
  unfold spl
  have h1 : (cs.take off).length = off := by rw [List.length_take]; omega
  rw [List.getElem?_append_right (by omega), h1, List.getElem?_append_right (by omega), List.getElem?_drop]
  congr 2
  omega
/-- So many zeros. -/
def zer (n : Nat) : List Nat := List.replicate n 0
theorem zer_len (n : Nat) : (zer n).length = n := by simp [zer]
theorem zer_good (n : Nat) : Good (zer n) := by
  intro x hx
  have := (List.mem_replicate.1 hx).2
  omega
theorem zer_get (n j : Nat) : (zer n)[j]?.getD 0 = 0 := by
  unfold zer
  rw [List.getElem?_replicate]
  split <;> rfl
theorem zer_val (n k : Nat) : val ((zer n).take k) = 0 := val_zero fun _ hx => (List.mem_replicate.1 (List.mem_of_mem_take hx)).2

/-! ### The sum of lists, limb by limb -/
def addK (xs ys : List Nat) : Nat → List Nat × Nat
  | 0 => ([], 0)
  | k + 1 => let r := addK xs ys k
             let s := r.2 + (xs[k]?.getD 0 + ys[k]?.getD 0)
             (r.1 ++ [s % 4294967296], s / 4294967296)
theorem addK_len (xs ys : List Nat) (k : Nat) : (addK xs ys k).1.length = k := by
  induction k with
  | zero => rfl
  | succ k ih => simp [addK, ih]
theorem addK_good (xs ys : List Nat) (k : Nat) : Good (addK xs ys k).1 := by
  induction k with
  | zero => exact Good.nil
  | succ k ih => exact ih.append (Good.nil.cons (Nat.mod_lt _ (by omega)))
theorem addK_carry {xs ys : List Nat} (hx : Good xs) (hy : Good ys) (k : Nat) : (addK xs ys k).2 ≤ 1 := by
  induction k with
  | zero => exact Nat.zero_le _
  | succ k ih =>
    show ((addK xs ys k).2 + (xs[k]?.getD 0 + ys[k]?.getD 0)) / 4294967296 ≤ 1
    have h1 := hx.get k
    have h2 := hy.get k
    omega
theorem addK_val (xs ys : List Nat) (k : Nat) : val (addK xs ys k).1 + 4294967296 ^ k * (addK xs ys k).2 = val (xs.take k) + val (ys.take k) := by
  induction k with
  | zero => simp [addK, val_nil]
  | succ k ih =>
    show val ((addK xs ys k).1 ++ [((addK xs ys k).2 + (xs[k]?.getD 0 + ys[k]?.getD 0)) % 4294967296]) + 4294967296 ^ (k + 1) * (((addK xs ys k).2 + (xs[k]?.getD 0 + ys[k]?.getD 0)) / 4294967296) = _
    rw [val_snoc, addK_len, val_take_succ', val_take_succ', pow_succ_]
    generalize hs : (addK xs ys k).2 + (xs[k]?.getD 0 + ys[k]?.getD 0) = s
    have h1 : 4294967296 ^ k * (s % 4294967296) + 4294967296 * 4294967296 ^ k * (s / 4294967296) = 4294967296 ^ k * s := by
      rw [Nat.mul_comm 4294967296 (4294967296 ^ k), Nat.mul_assoc, ← Nat.mul_add, Nat.mod_add_div]
    have h2 : 4294967296 ^ k * s = 4294967296 ^ k * (addK xs ys k).2 + (4294967296 ^ k * xs[k]?.getD 0 + 4294967296 ^ k * ys[k]?.getD 0) := by
      rw [← hs, Nat.mul_add, Nat.mul_add]
    omega

/-- The same over any indices, one after another. -/
def addP (xs ys : List Nat) (ks : List Nat) : List Nat × Nat := ks.foldl (fun r k => (r.1 ++ [(r.2 + (xs[k]?.getD 0 + ys[k]?.getD 0)) % 4294967296], (r.2 + (xs[k]?.getD 0 + ys[k]?.getD 0)) / 4294967296)) ([], 0)
theorem addP_snoc (xs ys ks : List Nat) (k : Nat) : addP xs ys (ks ++ [k]) = ((addP xs ys ks).1 ++ [((addP xs ys ks).2 + (xs[k]?.getD 0 + ys[k]?.getD 0)) % 4294967296], ((addP xs ys ks).2 + (xs[k]?.getD 0 + ys[k]?.getD 0)) / 4294967296) := by
  simp [addP, List.foldl_append]
theorem addP_range (xs ys : List Nat) (n : Nat) : addP xs ys (List.range n) = addK xs ys n := by
  induction n with
  | zero => rfl
  | succ n ih => rw [List.range_succ, addP_snoc, ih]; rfl
theorem snoc_ind {p : List Nat → Prop} (h0 : p []) (h1 : ∀ ks k, p ks → p (ks ++ [k])) (ks : List Nat) : p ks := by
  have h : ∀ l : List Nat, p l.reverse := by
    intro l
    induction l with
    | nil => exact h0
    | cons a l ih => rw [List.reverse_cons]; exact h1 _ _ ih
  have e := h ks.reverse
  rwa [List.reverse_reverse] at e
theorem addP_len (xs ys ks : List Nat) : (addP xs ys ks).1.length = ks.length := by
  induction ks using snoc_ind with
  | h0 => rfl
  | h1 ks k ih => rw [addP_snoc]; simp [ih]
theorem addP_carry {xs ys : List Nat} (hx : Good xs) (hy : Good ys) (ks : List Nat) : (addP xs ys ks).2 ≤ 1 := by
  induction ks using snoc_ind with
  | h0 => exact Nat.zero_le _
  | h1 ks k ih =>
    rw [addP_snoc]
    show ((addP xs ys ks).2 + (xs[k]?.getD 0 + ys[k]?.getD 0)) / 4294967296 ≤ 1
    have h1 := hx.get k
    have h2 := hy.get k
    omega

/-! ### The difference of lists, limb by limb -/
def subK (xs ys : List Nat) : Nat → List Nat × Nat
  | 0 => ([], 0)
  | k + 1 => let r := subK xs ys k
             let s := xs[k]?.getD 0 + 8589934592 - ys[k]?.getD 0 - r.2
             (r.1 ++ [s % 4294967296], if xs[k]?.getD 0 < ys[k]?.getD 0 + r.2 then 1 else 0)
theorem subK_len (xs ys : List Nat) (k : Nat) : (subK xs ys k).1.length = k := by
  induction k with
  | zero => rfl
  | succ k ih => simp [subK, ih]
theorem subK_good (xs ys : List Nat) (k : Nat) : Good (subK xs ys k).1 := by
  induction k with
  | zero => exact Good.nil
  | succ k ih => exact ih.append (Good.nil.cons (Nat.mod_lt _ (by omega)))
theorem subK_carry (xs ys : List Nat) (k : Nat) : (subK xs ys k).2 ≤ 1 := by
  induction k with
  | zero => exact Nat.zero_le _
  | succ k ih =>
    show (if xs[k]?.getD 0 < ys[k]?.getD 0 + (subK xs ys k).2 then 1 else 0) ≤ 1
    split <;> omega
theorem subK_val {xs ys : List Nat} (hx : Good xs) (hy : Good ys) (k : Nat) : val (subK xs ys k).1 + val (ys.take k) = val (xs.take k) + 4294967296 ^ k * (subK xs ys k).2 := by
  induction k with
  | zero => simp [subK, val_nil]
  | succ k ih =>
    show val ((subK xs ys k).1 ++ [(xs[k]?.getD 0 + 8589934592 - ys[k]?.getD 0 - (subK xs ys k).2) % 4294967296]) + _ = _ + 4294967296 ^ (k + 1) * (if xs[k]?.getD 0 < ys[k]?.getD 0 + (subK xs ys k).2 then 1 else 0)
    have hc := subK_carry xs ys k
    have h1 := hx.get k
    have h2 := hy.get k
    rw [val_snoc, subK_len, val_take_succ', val_take_succ', pow_succ_]
    generalize hr : (subK xs ys k).2 = r at *
    generalize hxk : xs[k]?.getD 0 = x at *
    generalize hyk : ys[k]?.getD 0 = y at *
    generalize hP : 4294967296 ^ k = P at *
    split
    · next h =>
      have e : (x + 8589934592 - y - r) % 4294967296 = x + 4294967296 - y - r := by omega
      have e2 : x + 4294967296 - y - r + y + r = x + 4294967296 := by omega
      have e3 := congrArg (P * ·) e2
      simp only [Nat.mul_add] at e3
      rw [e]
      omega
    · next h =>
      have e : (x + 8589934592 - y - r) % 4294967296 = x - y - r := by omega
      have e2 : x - y - r + y + r = x := by omega
      have e3 := congrArg (P * ·) e2
      simp only [Nat.mul_add] at e3
      rw [e]
      omega

/-- The same over any indices, one after another. -/
def subP (xs ys : List Nat) (ks : List Nat) : List Nat × Nat := ks.foldl (fun r k => (r.1 ++ [(xs[k]?.getD 0 + 8589934592 - ys[k]?.getD 0 - r.2) % 4294967296], if xs[k]?.getD 0 < ys[k]?.getD 0 + r.2 then 1 else 0)) ([], 0)
theorem subP_snoc (xs ys ks : List Nat) (k : Nat) : subP xs ys (ks ++ [k]) = ((subP xs ys ks).1 ++ [(xs[k]?.getD 0 + 8589934592 - ys[k]?.getD 0 - (subP xs ys ks).2) % 4294967296], if xs[k]?.getD 0 < ys[k]?.getD 0 + (subP xs ys ks).2 then 1 else 0) := by
  unfold subP
  rw [List.foldl_append]
  rfl
theorem subP_range (xs ys : List Nat) (n : Nat) : subP xs ys (List.range n) = subK xs ys n := by
  induction n with
  | zero => rfl
  | succ n ih => rw [List.range_succ, subP_snoc, ih]; rfl
theorem subP_len (xs ys ks : List Nat) : (subP xs ys ks).1.length = ks.length := by
  induction ks using snoc_ind with
  | h0 => rfl
  | h1 ks k ih => rw [subP_snoc]; simp [ih]
theorem subP_carry (xs ys ks : List Nat) : (subP xs ys ks).2 ≤ 1 := by
  induction ks using snoc_ind with
  | h0 => exact Nat.zero_le _
  | h1 ks k ih =>
    rw [subP_snoc]
    show (if xs[k]?.getD 0 < ys[k]?.getD 0 + (subP xs ys ks).2 then 1 else 0) ≤ 1
    split <;> omega

end Go.Proofs.Ytdbilpmhejigpaa
