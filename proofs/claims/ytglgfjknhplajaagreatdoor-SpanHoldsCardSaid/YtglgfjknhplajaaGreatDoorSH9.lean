/- Lemmas, part 9. -/
import Derived.Deep.MidRow
import Derived.Test.YtglgfjknhplajaaGreatDoorSH8
/- Two new boxes of fractions, made in whatever order. -/
namespace Go.Proofs.YtglgfjknhplajaaGreatDoor
open Go.RowKit

/-- A fraction in lowest terms that is worth u / v, by its numbers' limbs. -/
def Fd (w : World) (k : Nat) (u v : Int) (z : Bool) (A : Option Addr) (n c : Nat) (B : Option Addr) (m cb : Nat) : Prop := ∃ p q, decide (p < 0) = z ∧ FrV k p q u v ∧ Lm w w.heap.size A n c (digs p.natAbs) ∧ Lm w w.heap.size B m cb (digs q.natAbs)
section
variable {w w' : World} {k : Nat} {u v : Int} {z : Bool} {A : Option Addr} {n c : Nat} {B : Option Addr} {m cb : Nat}
theorem Fd.via (h : Fd w k u v z A n c B m cb) (hb : Below w.heap.size w w') : Fd w' k u v z A n c B m cb := by
  obtain ⟨p, q, h1, h2, h3, h4⟩ := h
  exact ⟨p, q, h1, h2, h3.via hb, h4.via hb⟩
theorem Fd.alloc (h : Fd w k u v z A n c B m cb) (o : Obj) : Fd (w.alloc o) k u v z A n c B m cb := h.via ((Below.refl _ _).alloc (Nat.le_refl _) o)
theorem Fd.put4 (h : Fd w k u v z A n c B m cb) {g n0 c0 n1 c1 : Nat} {b b' : Bool} {A0 A1 : Option Addr} (p : Qd w g (.bool b) (.slice A0 n0 c0) (.bool b') (.slice A1 n1 c1)) (y0 y1 y2 y3 : Value) : Fd (put4 w g y0 y1 y2 y3) k u v z A n c B m cb := by
  obtain ⟨p1, q1, h1, h2, h3, h4⟩ := h
  exact ⟨p1, q1, h1, h2, h3.put4 p _ _ _ _, h4.put4 p _ _ _ _⟩
theorem Fd.fx (h : Fd w k u v z A n c B m cb) {g : Nat} (p : Qd w g (.bool z) (.slice A n c) (.bool false) (.slice B m cb)) : Fx w g k u v := by
  obtain ⟨p1, q1, h1, h2, h3, h4⟩ := h
  exact ⟨p1, q1, z, A, n, c, B, m, cb, h1, h2, p, h3, h4⟩
end
theorem put4_eq (w : World) (g : Nat) (a b c d : Value) : (((w.setCell ⟨g, 0, none⟩ a).setCell ⟨g, 1, none⟩ b).setCell ⟨g, 2, none⟩ c).setCell ⟨g, 3, none⟩ d = Proofs.YtglgfjknhplajaaGreatDoor.put4 w g a b c d := rfl
/-- Two slots point to two boxes of fractions. -/
def FxT (W : World) (k : Nat) (u1 v1 u2 v2 : Int) (sx sy : Value) (wx : World) : Prop :=
  ∃ gx gy, sx = .pointer (some ⟨gx, 0, none⟩) ∧ sy = .pointer (some ⟨gy, 0, none⟩) ∧ Fx wx gx k u1 v1 ∧ Fx wx gy k u2 v2 ∧ gx ≠ gy ∧ W.heap.size ≤ gx ∧ W.heap.size ≤ gy ∧ Below W.heap.size W wx
section
variable {W w4 : World} {k : Nat} {u1 v1 u2 v2 : Int} {z1 z2 : Bool} {A B A' B' : Option Addr} {n c m d n' c' m' d' : Nat} {t : TypeId}
theorem xfin1 (hB : Below W.heap.size W w4) (X : Fd w4 k u1 v1 z1 A n c B m d) (Y : Fd w4 k u2 v2 z2 A' n' c' B' m' d') :
    FxT W k u1 v1 u2 v2 (.pointer (some ⟨w4.heap.size, 0, none⟩)) (.pointer (some ⟨w4.heap.size + 1, 0, none⟩)) ((w4.alloc (.cells #[.bool z1, .slice A n c, .bool false, .slice B m d] t)).alloc (.cells #[.bool z2, .slice A' n' c', .bool false, .slice B' m' d'] t)) :=
  ⟨_, _, rfl, rfl, ((X.alloc _).alloc _).fx ((Qd.new w4 _ rfl _ _ _ _ t).alloc _), ((Y.alloc _).alloc _).fx (Qd.new (w4.alloc _) _ (by simp) _ _ _ _ t), by omega, hB.size, Nat.le_succ_of_le hB.size, sbal (sbal hB _) _⟩
theorem xfin2 (hB : Below W.heap.size W w4) (X : Fd w4 k u1 v1 z1 A n c B m d) (Y : Fd w4 k u2 v2 z2 A' n' c' B' m' d') :
    FxT W k u1 v1 u2 v2 (.pointer (some ⟨w4.heap.size + 1, 0, none⟩)) (.pointer (some ⟨w4.heap.size, 0, none⟩)) ((w4.alloc (.cells #[.bool z2, .slice A' n' c', .bool false, .slice B' m' d'] t)).alloc (.cells #[.bool z1, .slice A n c, .bool false, .slice B m d] t)) :=
  ⟨_, _, rfl, rfl, ((X.alloc _).alloc _).fx (Qd.new (w4.alloc _) _ (by simp) _ _ _ _ t), ((Y.alloc _).alloc _).fx ((Qd.new w4 _ rfl _ _ _ _ t).alloc _), by omega, Nat.le_succ_of_le hB.size, hB.size, sbal (sbal hB _) _⟩
theorem xfin3 {g : Nat} (hB : Below W.heap.size W w4) (X : Fd w4 k u1 v1 z1 A n c B m d) (Y : Fd w4 k u2 v2 z2 A' n' c' B' m' d') (P : Qd w4 g (.bool false) (.slice none 0 0) (.bool false) (.slice none 0 0)) (hg : W.heap.size ≤ g) :
    FxT W k u1 v1 u2 v2 (.pointer (some ⟨g, 0, none⟩)) (.pointer (some ⟨w4.heap.size, 0, none⟩)) ((put4 w4 g (.bool z1) (.slice A n c) (.bool false) (.slice B m d)).alloc (.cells #[.bool z2, .slice A' n' c', .bool false, .slice B' m' d'] t)) :=
  ⟨_, _, rfl, rfl, ((X.put4 P _ _ _ _).alloc _).fx ((P.set _ _ _ _).alloc _), ((Y.put4 P _ _ _ _).alloc _).fx (Qd.new _ _ (size_put4 _ _ _ _ _ _) _ _ _ _ t), Nat.ne_of_lt P.lt, hg, hB.size, sbal (below_put4 hB hg _ _ _ _) _⟩
theorem xfin4 {g : Nat} (hB : Below W.heap.size W w4) (X : Fd w4 k u1 v1 z1 A n c B m d) (Y : Fd w4 k u2 v2 z2 A' n' c' B' m' d') (P : Qd w4 g (.bool false) (.slice none 0 0) (.bool false) (.slice none 0 0)) (hg : W.heap.size ≤ g) :
    FxT W k u1 v1 u2 v2 (.pointer (some ⟨w4.heap.size, 0, none⟩)) (.pointer (some ⟨g, 0, none⟩)) ((put4 w4 g (.bool z2) (.slice A' n' c') (.bool false) (.slice B' m' d')).alloc (.cells #[.bool z1, .slice A n c, .bool false, .slice B m d] t)) :=
  ⟨_, _, rfl, rfl, ((X.put4 P _ _ _ _).alloc _).fx (Qd.new _ _ (size_put4 _ _ _ _ _ _) _ _ _ _ t), ((Y.put4 P _ _ _ _).alloc _).fx ((P.set _ _ _ _).alloc _), Nat.ne_of_gt P.lt, hB.size, hg, sbal (below_put4 hB hg _ _ _ _) _⟩
theorem xfin5 {g h : Nat} (hB : Below W.heap.size W w4) (X : Fd w4 k u1 v1 z1 A n c B m d) (Y : Fd w4 k u2 v2 z2 A' n' c' B' m' d') (P : Qd w4 g (.bool false) (.slice none 0 0) (.bool false) (.slice none 0 0)) (Q : Qd w4 h (.bool false) (.slice none 0 0) (.bool false) (.slice none 0 0)) (hg : W.heap.size ≤ g) (hh : W.heap.size ≤ h) (hne : g ≠ h) :
    FxT W k u1 v1 u2 v2 (.pointer (some ⟨g, 0, none⟩)) (.pointer (some ⟨h, 0, none⟩)) (put4 (put4 w4 g (.bool z1) (.slice A n c) (.bool false) (.slice B m d)) h (.bool z2) (.slice A' n' c') (.bool false) (.slice B' m' d')) :=
  have Q' := Q.far (h := g) (fun e => hne e.symm) (.bool z1) (.slice A n c) (.bool false) (.slice B m d)
  ⟨_, _, rfl, rfl, ((X.put4 P _ _ _ _).put4 Q' _ _ _ _).fx ((P.set _ _ _ _).far hne _ _ _ _), ((Y.put4 P _ _ _ _).put4 Q' _ _ _ _).fx (Q'.set _ _ _ _), hne, hg, hh, below_put4 (below_put4 hB hg _ _ _ _) hh _ _ _ _⟩
end
end Go.Proofs.YtglgfjknhplajaaGreatDoor

/- A part of an interval has a part of the result. -/
namespace Go.Proofs.YtglgfjknhplajaaGreatDoor
open Go.RowKit

/-- If there is a result p, there is a result q, and it is a part of p. -/
def PartO (p q : Out) : Prop := p.err = 0 → q.err = 0 ∧ p.lo ≤ q.lo ∧ q.hi ≤ p.hi
theorem part_mk {lo hi lo' hi' : Int} (h1 : lo ≤ lo') (h2 : hi' ≤ hi) : PartO (mkI lo hi) (mkI lo' hi') := by
  intro h
  by_cases c : lo < -2305843009213693952 ∨ 2305843009213693952 < hi
  · rw [mkI_out c] at h; cases h
  · rw [mkI_in (by omega) (by omega), mkI_in (by omega) (by omega)]
    exact ⟨rfl, h1, h2⟩
theorem lin_mul {a b t c : Int} (h1 : a ≤ t) (h2 : t ≤ b) : min (a * c) (b * c) ≤ t * c ∧ t * c ≤ max (a * c) (b * c) := by
  rcases Int.le_total 0 c with h | h
  · have e1 := Int.mul_le_mul_of_nonneg_right h1 h
    have e2 := Int.mul_le_mul_of_nonneg_right h2 h
    omega
  · have e1 := Int.mul_le_mul_of_nonpos_right h1 h
    have e2 := Int.mul_le_mul_of_nonpos_right h2 h
    omega
theorem corner {al ah bl bh t s : Int} (h1 : al ≤ t) (h2 : t ≤ ah) (h3 : bl ≤ s) (h4 : s ≤ bh) :
    mn4 (al * bl) (al * bh) (ah * bl) (ah * bh) ≤ t * s ∧ t * s ≤ mx4 (al * bl) (al * bh) (ah * bl) (ah * bh) := by
  obtain ⟨a1, a2⟩ := lin_mul (c := s) h1 h2
  obtain ⟨b1, b2⟩ := lin_mul (c := al) h3 h4
  obtain ⟨c1, c2⟩ := lin_mul (c := ah) h3 h4
  rw [Int.mul_comm bl al, Int.mul_comm bh al, Int.mul_comm s al] at b1 b2
  rw [Int.mul_comm bl ah, Int.mul_comm bh ah, Int.mul_comm s ah] at c1 c2
  unfold mn4 mx4
  omega
theorem part_mul {al ah bl bh x y z w : Int} (h1 : al ≤ x) (h2 : x ≤ y) (h3 : y ≤ ah) (h4 : bl ≤ z) (h5 : z ≤ w) (h6 : w ≤ bh) :
    PartO (mkI (mulLo al ah bl bh) (mulHi al ah bl bh)) (mkI (mulLo x y z w) (mulHi x y z w)) := by
  obtain ⟨a1, a2⟩ := corner (t := x) (s := z) h1 (by omega) h4 (by omega) (ah := ah) (bh := bh)
  obtain ⟨b1, b2⟩ := corner (t := x) (s := w) h1 (by omega) (show bl ≤ w by omega) h6 (ah := ah)
  obtain ⟨c1, c2⟩ := corner (t := y) (s := z) (show al ≤ y by omega) h3 h4 (by omega) (bh := bh)
  obtain ⟨d1, d2⟩ := corner (t := y) (s := w) (show al ≤ y by omega) h3 (show bl ≤ w by omega) h6
  refine part_mk (fdiv_mono (by omega) ?_) (cdiv_mono (by omega) ?_)
  · show _ ≤ mn4 (x * z) (x * w) (y * z) (y * w)
    conv => rhs; unfold mn4
    omega
  · show mx4 (x * z) (x * w) (y * z) (y * w) ≤ _
    conv => lhs; unfold mx4
    omega
theorem dvLo_part {p q c d p' q' c' d' : Int} (h1 : p ≤ p') (h2 : p' ≤ q') (h3 : q' ≤ q) (h4 : 0 < c) (h5 : c ≤ c') (h6 : c' ≤ d') (h7 : d' ≤ d) : dvLo p q c d ≤ dvLo p' q' c' d' := by
  unfold dvLo
  rw [least_quo (by omega) h4 (by omega), least_quo h2 (by omega) h6]
  by_cases hp : p < 0
  · rw [if_pos hp]
    have e1 := fdiv_mono h4 h1
    by_cases hp' : p' < 0
    · rw [if_pos hp']
      have e2 := quo_mono_div_neg (p := p') (by omega) h4 h5
      omega
    · rw [if_neg hp']
      have e2 : 0 ≤ p' / d' := Int.ediv_nonneg (by omega) (by omega)
      have e3 := fdiv_mono h4 (show p ≤ 0 by omega)
      rw [Int.zero_ediv] at e3
      omega
  · rw [if_neg hp, if_neg (by omega)]
    have e1 := fdiv_mono (show 0 < d by omega) h1
    have e2 := quo_mono_div (p := p') (by omega) (show 0 < d' by omega) h7
    omega
theorem dvHi_part {p q c d p' q' c' d' : Int} (h1 : p ≤ p') (h2 : p' ≤ q') (h3 : q' ≤ q) (h4 : 0 < c) (h5 : c ≤ c') (h6 : c' ≤ d') (h7 : d' ≤ d) : dvHi p' q' c' d' ≤ dvHi p q c d := by
  unfold dvHi
  rw [most_quo (by omega) h4 (by omega), most_quo h2 (by omega) h6]
  by_cases hq : 0 < q
  · rw [if_pos hq]
    have e1 := cdiv_mono h4 h3
    by_cases hq' : 0 < q'
    · rw [if_pos hq']
      have e2 := cquo_mono_div (p := q') (by omega) h4 h5
      omega
    · rw [if_neg hq']
      have e2 := cdiv_mono (show 0 < d' by omega) (show q' ≤ 0 by omega)
      have e3 := cdiv_mono h4 (show 0 ≤ q by omega)
      have z1 : cdiv 0 d' = 0 := by unfold cdiv; simp
      have z2 : cdiv 0 c = 0 := by unfold cdiv; simp
      omega
  · rw [if_neg hq, if_neg (by omega)]
    have e1 := cdiv_mono (show 0 < d by omega) h3
    have e2 := cquo_mono_div_neg (p := q') (by omega) (show 0 < d' by omega) h7
    omega
theorem part_div {al ah bl bh x y z w : Int} (h1 : al ≤ x) (h2 : x ≤ y) (h3 : y ≤ ah) (h4 : bl ≤ z) (h5 : z ≤ w) (h6 : w ≤ bh) : PartO (divO al ah bl bh) (divO x y z w) := by
  unfold divO
  by_cases c0 : bl ≤ 0 ∧ 0 ≤ bh
  · rw [if_pos c0]; intro h; cases h
  · rw [if_neg c0, if_neg (show ¬ (z ≤ 0 ∧ 0 ≤ w) by omega)]
    by_cases c1 : 0 < bl
    · rw [if_pos c1, if_pos (show 0 < z by omega)]
      exact part_mk (dvLo_part (by omega) (by omega) (by omega) c1 h4 h5 h6) (dvHi_part (by omega) (by omega) (by omega) c1 h4 h5 h6)
    · rw [if_neg c1, if_neg (show ¬ 0 < z by omega)]
      exact part_mk (dvLo_part (by omega) (by omega) (by omega) (by omega) (by omega) (by omega) (by omega)) (dvHi_part (by omega) (by omega) (by omega) (by omega) (by omega) (by omega) (by omega))
theorem part_sq {al ah x y : Int} (h1 : al ≤ x) (h2 : x ≤ y) (h3 : y ≤ ah) : PartO (sqO al ah) (sqO x y) := by
  unfold sqO
  refine part_mk (fdiv_mono (by omega) (sq_mono ?_ ?_)) (cdiv_mono (by omega) (sq_mono ?_ ?_))
  all_goals first | (unfold sqA; omega) | (unfold sqB; omega)
theorem part_sub {al ah bl bh x y z w : Int} (h1 : al ≤ x) (h3 : y ≤ ah) (h4 : bl ≤ z) (h6 : w ≤ bh) : PartO (mkI (al - bh) (ah - bl)) (mkI (x - w) (y - z)) :=
  part_mk (by omega) (by omega)
end Go.Proofs.YtglgfjknhplajaaGreatDoor

/- Results of intervals have the exact results: in whole numbers of units. -/
namespace Go.Proofs.YtglgfjknhplajaaGreatDoor
open Go.RowKit

theorem mk_ok {lo hi : Int} (h : (mkI lo hi).err = 0) : (mkI lo hi).lo = lo ∧ (mkI lo hi).hi = hi := by
  by_cases c : lo < -2305843009213693952 ∨ 2305843009213693952 < hi
  · rw [mkI_out c] at h; cases h
  · rw [mkI_in (by omega) (by omega)]; exact ⟨rfl, rfl⟩
theorem fl_mul {p d : Int} (hd : 0 < d) : p / d * d ≤ p := Int.ediv_mul_le p (by omega)
theorem cl_mul {p d : Int} (hd : 0 < d) : p ≤ cdiv p d * d := by
  have h := Int.ediv_mul_le (-p) (show d ≠ 0 by omega)
  unfold cdiv
  rw [Int.neg_mul]
  omega
theorem hold_add {al ah bl bh x y : Int} (h1 : al ≤ x) (h2 : x ≤ ah) (h3 : bl ≤ y) (h4 : y ≤ bh) (he : (mkI (al + bl) (ah + bh)).err = 0) :
    (mkI (al + bl) (ah + bh)).lo ≤ x + y ∧ x + y ≤ (mkI (al + bl) (ah + bh)).hi := by
  obtain ⟨e1, e2⟩ := mk_ok he
  rw [e1, e2]; omega
theorem hold_sub {al ah bl bh x y : Int} (h1 : al ≤ x) (h2 : x ≤ ah) (h3 : bl ≤ y) (h4 : y ≤ bh) (he : (mkI (al - bh) (ah - bl)).err = 0) :
    (mkI (al - bh) (ah - bl)).lo ≤ x - y ∧ x - y ≤ (mkI (al - bh) (ah - bl)).hi := by
  obtain ⟨e1, e2⟩ := mk_ok he
  rw [e1, e2]; omega
theorem hold_mul {al ah bl bh x y : Int} (h1 : al ≤ x) (h2 : x ≤ ah) (h3 : bl ≤ y) (h4 : y ≤ bh) (he : (mkI (mulLo al ah bl bh) (mulHi al ah bl bh)).err = 0) :
    (mkI (mulLo al ah bl bh) (mulHi al ah bl bh)).lo * 1099511627776 ≤ x * y ∧ x * y ≤ (mkI (mulLo al ah bl bh) (mulHi al ah bl bh)).hi * 1099511627776 := by
  obtain ⟨e1, e2⟩ := mk_ok he
  obtain ⟨c1, c2⟩ := corner h1 h2 h3 h4
  have f1 := fl_mul (p := mn4 (al * bl) (al * bh) (ah * bl) (ah * bh)) (d := 1099511627776) (by omega)
  have f2 := cl_mul (p := mx4 (al * bl) (al * bh) (ah * bl) (ah * bh)) (d := 1099511627776) (by omega)
  rw [e1, e2]
  unfold mulLo mulHi
  generalize x * y = t at *
  omega
theorem sq_in {al ah x : Int} (h1 : al ≤ x) (h2 : x ≤ ah) : sqA al ah * sqA al ah ≤ x * x ∧ x * x ≤ sqB al ah * sqB al ah := by
  rcases Int.le_total 0 x with h | h
  · exact ⟨sq_mono (by unfold sqA; omega) (by unfold sqA; omega), sq_mono h (by unfold sqB; omega)⟩
  · have e : x * x = (-x) * (-x) := by rw [Int.neg_mul_neg]
    rw [e]
    exact ⟨sq_mono (by unfold sqA; omega) (by unfold sqA; omega), sq_mono (by omega) (by unfold sqB; omega)⟩
theorem hold_sq {al ah x : Int} (h1 : al ≤ x) (h2 : x ≤ ah) (he : (sqO al ah).err = 0) : (sqO al ah).lo * 1099511627776 ≤ x * x ∧ x * x ≤ (sqO al ah).hi * 1099511627776 := by
  obtain ⟨e1, e2⟩ := mk_ok he
  obtain ⟨c1, c2⟩ := sq_in h1 h2
  have f1 := fl_mul (p := sqA al ah * sqA al ah) (d := 1099511627776) (by omega)
  have f2 := cl_mul (p := sqB al ah * sqB al ah) (d := 1099511627776) (by omega)
  unfold sqO
  rw [e1, e2]
  generalize x * x = t at *
  omega
theorem dv_one {p y : Int} : dvLo p p y y = p / y ∧ dvHi p p y y = cdiv p y := by unfold dvLo dvHi mn4 mx4; omega
/-- The result of a quotient, by a number of the divisor that is greater than 0. -/
theorem hold_div_pos {al ah bl bh x y : Int} (h1 : al ≤ x) (h2 : x ≤ ah) (h3 : bl ≤ y) (h4 : y ≤ bh) (hy : 0 < y) (he : (divO al ah bl bh).err = 0) :
    (divO al ah bl bh).lo * y ≤ x * 1099511627776 ∧ x * 1099511627776 ≤ (divO al ah bl bh).hi * y := by
  by_cases c0 : bl ≤ 0 ∧ 0 ≤ bh
  · unfold divO at he; rw [if_pos c0] at he; cases he
  · have e : divO al ah bl bh = mkI (dvLo (al * 1099511627776) (ah * 1099511627776) bl bh) (dvHi (al * 1099511627776) (ah * 1099511627776) bl bh) := by
      unfold divO; rw [if_neg c0, if_pos (show 0 < bl by omega)]
    rw [e] at he ⊢
    obtain ⟨e1, e2⟩ := mk_ok he
    have k1 := dvLo_part (p := al * 1099511627776) (p' := x * 1099511627776) (q' := x * 1099511627776) (q := ah * 1099511627776) (c := bl) (c' := y) (d' := y) (d := bh) (by omega) (by omega) (by omega) (by omega) h3 (by omega) h4
    have k2 := dvHi_part (p := al * 1099511627776) (p' := x * 1099511627776) (q' := x * 1099511627776) (q := ah * 1099511627776) (c := bl) (c' := y) (d' := y) (d := bh) (by omega) (by omega) (by omega) (by omega) h3 (by omega) h4
    rw [dv_one.1] at k1
    rw [dv_one.2] at k2
    have f1 := fl_mul (p := x * 1099511627776) hy
    have f2 := cl_mul (p := x * 1099511627776) hy
    have m1 := Int.mul_le_mul_of_nonneg_right k1 (show 0 ≤ y by omega)
    have m2 := Int.mul_le_mul_of_nonneg_right k2 (show 0 ≤ y by omega)
    rw [e1, e2]
    exact ⟨Int.le_trans m1 f1, Int.le_trans f2 m2⟩
theorem hold_div_neg {al ah bl bh x y : Int} (h1 : al ≤ x) (h2 : x ≤ ah) (h3 : bl ≤ y) (h4 : y ≤ bh) (hy : y < 0) (he : (divO al ah bl bh).err = 0) :
    (divO al ah bl bh).lo * (-y) ≤ -(x * 1099511627776) ∧ -(x * 1099511627776) ≤ (divO al ah bl bh).hi * (-y) := by
  by_cases c0 : bl ≤ 0 ∧ 0 ≤ bh
  · unfold divO at he; rw [if_pos c0] at he; cases he
  · have e : divO al ah bl bh = mkI (dvLo (-(ah * 1099511627776)) (-(al * 1099511627776)) (-bh) (-bl)) (dvHi (-(ah * 1099511627776)) (-(al * 1099511627776)) (-bh) (-bl)) := by
      unfold divO; rw [if_neg c0, if_neg (show ¬ 0 < bl by omega)]
    rw [e] at he ⊢
    obtain ⟨e1, e2⟩ := mk_ok he
    have k1 := dvLo_part (p := -(ah * 1099511627776)) (p' := -(x * 1099511627776)) (q' := -(x * 1099511627776)) (q := -(al * 1099511627776)) (c := -bh) (c' := -y) (d' := -y) (d := -bl) (by omega) (by omega) (by omega) (by omega) (by omega) (by omega) (by omega)
    have k2 := dvHi_part (p := -(ah * 1099511627776)) (p' := -(x * 1099511627776)) (q' := -(x * 1099511627776)) (q := -(al * 1099511627776)) (c := -bh) (c' := -y) (d' := -y) (d := -bl) (by omega) (by omega) (by omega) (by omega) (by omega) (by omega) (by omega)
    rw [dv_one.1] at k1
    rw [dv_one.2] at k2
    have f1 := fl_mul (p := -(x * 1099511627776)) (show 0 < -y by omega)
    have f2 := cl_mul (p := -(x * 1099511627776)) (show 0 < -y by omega)
    have m1 := Int.mul_le_mul_of_nonneg_right k1 (show 0 ≤ -y by omega)
    have m2 := Int.mul_le_mul_of_nonneg_right k2 (show 0 ≤ -y by omega)
    rw [e1, e2]
    exact ⟨Int.le_trans m1 f1, Int.le_trans f2 m2⟩
/-- The ends of a square root: squares below and above. -/
theorem hold_sqrt {x Rl Rh Nl Nh N : Nat} (hl : IsRt Nl Rl) (hh : IsRt Nh Rh) (h1 : Nl ≤ N) (h2 : N ≤ Nh) (hx : x = N) :
    (Rl : Int) * (Rl : Int) ≤ (x : Int) ∧ (x : Int) ≤ rtHi Nh Rh * rtHi Nh Rh := by
  subst hx
  obtain ⟨a1, _⟩ := hl
  obtain ⟨_, b2⟩ := hh
  have c1 : ((Rl * Rl : Nat) : Int) ≤ (x : Int) := Int.ofNat_le.2 (Nat.le_trans a1 h1)
  rw [Int.natCast_mul] at c1
  refine ⟨c1, ?_⟩
  unfold rtHi
  by_cases h : Rh * Rh = Nh
  · rw [if_pos h]
    have c2 : (x : Int) ≤ ((Rh * Rh : Nat) : Int) := Int.ofNat_le.2 (by omega)
    rwa [Int.natCast_mul] at c2
  · rw [if_neg h]
    have c2 : (x : Int) ≤ (((Rh + 1) * (Rh + 1) : Nat) : Int) := Int.ofNat_le.2 (by omega)
    rw [Int.natCast_mul] at c2
    simpa using c2
/-- A fraction p / q is the number u / v: comparisons with whole numbers of units. -/
theorem has_iff {lo p q u v K : Int} (hq : 0 < q) (hv : 0 < v) (he : p * v = u * q) : (lo * q ≤ p * K ↔ lo * v ≤ u * K) ∧ (p * K ≤ lo * q ↔ u * K ≤ lo * v) := by
  have e1 : lo * q * v = lo * v * q := by rw [Int.mul_assoc, Int.mul_comm q v, ← Int.mul_assoc]
  have e2 : p * K * v = u * K * q := by rw [Int.mul_assoc, Int.mul_comm K v, ← Int.mul_assoc, he, Int.mul_assoc, Int.mul_comm q K, ← Int.mul_assoc]
  constructor
  · constructor
    · intro h
      have h2 := Int.mul_le_mul_of_nonneg_right h (show 0 ≤ v by omega)
      rw [e1, e2] at h2
      exact Int.le_of_mul_le_mul_right h2 hq
    · intro h
      have h2 := Int.mul_le_mul_of_nonneg_right h (show 0 ≤ q by omega)
      rw [← e1, ← e2] at h2
      exact Int.le_of_mul_le_mul_right h2 hv
  · constructor
    · intro h
      have h2 := Int.mul_le_mul_of_nonneg_right h (show 0 ≤ v by omega)
      rw [e1, e2] at h2
      exact Int.le_of_mul_le_mul_right h2 hq
    · intro h
      have h2 := Int.mul_le_mul_of_nonneg_right h (show 0 ≤ q by omega)
      rw [← e1, ← e2] at h2
      exact Int.le_of_mul_le_mul_right h2 hv
end Go.Proofs.YtglgfjknhplajaaGreatDoor

/- The walk of the law SpanParts. -/
namespace Go.Proofs.YtglgfjknhplajaaGreatDoor
open Go.RowKit

def ptV (lo hi k : Int) : Int := lo + k % (hi - lo + 1)
theorem ptV_in {lo hi k : Int} (h : lo ≤ hi) : lo ≤ ptV lo hi k ∧ ptV lo hi k ≤ hi := by
  have h1 := Int.emod_nonneg k (show hi - lo + 1 ≠ 0 by omega)
  have h2 := Int.emod_lt_of_pos k (show 0 < hi - lo + 1 by omega)
  unfold ptV; omega
set_option maxRecDepth 100000 in
set_option maxHeartbeats 1000000 in
theorem lpoint_any (w : World) (lo hi k : Int) (h1 : -2305843009213693952 ≤ lo) (h2 : lo ≤ hi) (h3 : hi ≤ 2305843009213693952) (k0 : 0 ≤ k) (_k1 : k ≤ 18446744073709551615) :
    Calls Tryz.prog 7 #[iv lo hi, .int .u64 k] w (RN1 w (ptV lo hi k)) := by
  have hm1 := Int.emod_nonneg k (show hi - lo + 1 ≠ 0 by omega)
  have hm2 := Int.emod_lt_of_pos k (show 0 < hi - lo + 1 by omega)
  have ht : k.tmod (hi - lo + 1) = k % (hi - lo + 1) := Int.tmod_eq_emod_of_nonneg k0
  obtain ⟨t, htt⟩ : ∃ t, k % (hi - lo + 1) = t := ⟨_, rfl⟩
  have HV : Hid (ptV lo hi k = lo + t) := by show _ = _; unfold ptV; rw [htt]
  rw [htt] at hm1 hm2 ht
  have e1 : IntKind.i64.wrap (hi - lo) = hi - lo := IntWalk.i64_in _ (by omega)
  have e2 : IntKind.u64.wrap (hi - lo) = hi - lo := by rw [IntKind.wrap_u64]; omega
  have e3 : IntKind.u64.wrap (hi - lo + 1) = hi - lo + 1 := by rw [IntKind.wrap_u64]; omega
  have e4 : IntKind.i64.wrap t = t := IntWalk.i64_in _ (by omega)
  have e5 : IntKind.i64.wrap (lo + t) = lo + t := IntWalk.i64_in _ (by omega)
  have e6 : (hi - lo + 1 == 0) = false := by simp; omega
  have e7 : ¬ hi - lo + 1 = 0 := by omega
  have e8 : IntKind.u64.wrap t = t := by rw [IntKind.wrap_u64]; omega
  have QA := Lib.hid (Pr.new w w.heap.size rfl (.int .i64 lo) (.int .i64 hi) 23)
  have BW : Hid (Below w.heap.size w (w.alloc (ivB lo hi))) := sbal (Below.refl _ _) _
  clear h1 h2 h3 k0 hm1 hm2
  go_enter Tryz.func7, Tryz.ntmps7
  go_upto_region 2 with (fail)
  generalize w.alloc (ivB lo hi) = W0 at *
  have ⟨a0, a1, _, _, _⟩ := QA.out
  go_region
  all_goals
    go_wp2
    go_ret
    exact ⟨ret_int HV.out.symm, bdrewN BW.out 1⟩
end Go.Proofs.YtglgfjknhplajaaGreatDoor

/- A fraction stored whole into a box that lies there. -/
namespace Go.Proofs.YtglgfjknhplajaaGreatDoor
open Go.RowKit

theorem Qd.there {w : World} {g : Nat} {x0 x1 x2 x3 : Value} (p : Qd w g x0 x1 x2 x3) : w.there g 0 4 := by
  intro j hj
  rcases (show j = 0 ∨ j = 1 ∨ j = 2 ∨ j = 3 by omega) with rfl | rfl | rfl | rfl
  · rw [Nat.zero_add]; exact ⟨by rw [p.c0]; rfl, p.f0⟩
  · rw [Nat.zero_add]; exact ⟨by rw [p.c1]; rfl, p.f1⟩
  · rw [Nat.zero_add]; exact ⟨by rw [p.c2]; rfl, p.f2⟩
  · rw [Nat.zero_add]; exact ⟨by rw [p.c3]; rfl, p.f3⟩
/-- What the walk's store of a fraction does. -/
theorem store_qd {w : World} {g : Nat} {x0 x1 x2 x3 : Value} (p : Qd w g x0 x1 x2 x3) (z z' : Bool) (A B : Option Addr) (n c m d : Nat) :
    (Instr.storeAt 31 (.pointer (some ⟨g, 0, none⟩)) (.agg #[.bool z, .slice A n c, .bool z', .slice B m d])).run Tryz.prog w = .ok () (put4 w g (.bool z) (.slice A n c) (.bool z') (.slice B m d)) :=
  run_storeAt_mid (P := Tryz.prog) w g 0 31 #[.bool z, .slice A n c, .bool z', .slice B m d] p.there (by kernel_rfl) (by simp [Value.oneCell'])
theorem Qd.range {w : World} {g : Nat} {x0 x1 x2 x3 : Value} (p : Qd w g x0 x1 x2 x3) : w.rangeAt g 0 [x0, x1, x2, x3] := by
  intro j v hv
  rw [Nat.zero_add]
  match j, hv with
  | 0, hv => cases hv; exact p.c0
  | 1, hv => cases hv; exact p.c1
  | 2, hv => cases hv; exact p.c2
  | 3, hv => cases hv; exact p.c3
theorem frac_info : (Tryz.prog.info? 31).map (·.size) = some 4 := by kernel_rfl
/-- A walk's store of a fraction into a box that lies there, whole. -/
theorem wpList_store_qd {ops : Array Oper} {rest : List Oper} {op : Oper} {a : Act} {w : World} {Q : Exit → Act → World → Prop} {g : Nat} {x0 x1 x2 x3 : Value} (p : Qd w g x0 x1 x2 x3) (hgd : op.guard = none) (x y : Operand)
    (ho : op.op = .store 31 x y) (z z' : Bool) (A B : Option Addr) (n c m d : Nat) (hx : a.eval x = .pointer (some ⟨g, 0, none⟩)) (hy : a.eval y = .agg #[.bool z, .slice A n c, .bool z', .slice B m d])
    (h : wpList Tryz.prog ops Q rest (a.put op.dst undef) (put4 w g (.bool z) (.slice A n c) (.bool z') (.slice B m d))) : wpList Tryz.prog ops Q (op :: rest) a w :=
  wpList_store_mid hgd 31 x y ho g 0 _ hx hy p.there frac_info (by simp [Value.oneCell']) h
/-- A walk's load of a fraction, whole. -/
theorem wpList_load_qd {ops : Array Oper} {rest : List Oper} {op : Oper} {a : Act} {w : World} {Q : Exit → Act → World → Prop} {g : Nat} {x0 x1 x2 x3 : Value} (p : Qd w g x0 x1 x2 x3) (hgd : op.guard = none) (x : Operand)
    (ho : op.op = .load 31 x) (hx : a.eval x = .pointer (some ⟨g, 0, none⟩))
    (h : wpList Tryz.prog ops Q rest (a.put op.dst (.agg #[x0, x1, x2, x3])) w) : wpList Tryz.prog ops Q (op :: rest) a w :=
  wpList_load_mid hgd 31 x ho g 0 hx [x0, x1, x2, x3] _ p.range Tryz.underlying31 rfl frac_info h
/-- As an operation: in a region that draws. -/
theorem wp_store_qd {op : Oper} {a : Act} {w : World} {K : Act → World → Prop} {Q : Exit → Act → World → Prop} {g : Nat} {x0 x1 x2 x3 : Value} (p : Qd w g x0 x1 x2 x3) (x y : Operand)
    (ho : op.op = .store 31 x y) (z z' : Bool) (A B : Option Addr) (n c m d : Nat) (hx : a.eval x = .pointer (some ⟨g, 0, none⟩)) (hy : a.eval y = .agg #[.bool z, .slice A n c, .bool z', .slice B m d])
    (h : K (a.put op.dst undef) (put4 w g (.bool z) (.slice A n c) (.bool z') (.slice B m d))) : op.wp Tryz.prog a w K Q :=
  wp_store_mid 31 x y ho g 0 _ hx hy p.there frac_info (by simp [Value.oneCell']) h
end Go.Proofs.YtglgfjknhplajaaGreatDoor

