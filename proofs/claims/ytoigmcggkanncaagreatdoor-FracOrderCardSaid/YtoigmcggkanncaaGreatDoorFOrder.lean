
/-
  For any three fractions a, b and c the law FracOrder returns true: where they are valid and of at most 20 limbs, Cmp of package frac is the sign of the difference that Sub returns, goes on from one to the next, and is 0 only for the same fraction; and the chapter's examples hold. Conditions: the library's table of powers of ten holds what its initialiser lays (the card ties it, and the other listed variables, to the program's text); no other condition.
-/
import Derived.Test.YtoigmcggkanncaaGreatDoorTie
import Derived.Test.YtoigmcggkanncaaGreatDoorCards
import Derived.Test.YtoigmcggkanncaaGreatDoorFC10
/- The walk of the law FracOrder. -/
namespace Go.Proofs.YtoigmcggkanncaaGreatDoor
open Go.RowKit

theorem frac_sign {k : Nat} {p q u v : Int} (f : FrV k p q u v) (hv : 0 < v) : (u < 0 → p < 0) ∧ (u = 0 → p = 0) ∧ (0 < u → 0 < p) := by
  have h1 := f.eq
  have h2 := f.pos
  refine ⟨fun h => ?_, fun h => ?_, fun h => ?_⟩
  · have h3 : u * q < 0 := Int.mul_neg_of_neg_of_pos h h2
    rcases Int.lt_or_le p 0 with h4 | h4
    · exact h4
    · have := Int.mul_nonneg h4 (Int.le_of_lt hv)
      omega
  · rw [h, Int.zero_mul] at h1
    exact (Int.mul_eq_zero.1 h1).resolve_right (by omega)
  · have h3 : 0 < u * q := Int.mul_pos h h2
    rcases Int.lt_or_le 0 p with h4 | h4
    · exact h4
    · have := Int.mul_nonneg (show 0 ≤ -p by omega) (Int.le_of_lt hv)
      rw [Int.neg_mul] at this
      omega
theorem cmpZ_cases (a b : Int) : (cmpZ a b = -1 ∧ a < b) ∨ (cmpZ a b = 0 ∧ a = b) ∨ (cmpZ a b = 1 ∧ b < a) := by
  unfold cmpZ
  split
  · exact .inl ⟨rfl, by assumption⟩
  · split
    · exact .inr (.inl ⟨rfl, by assumption⟩)
    · exact .inr (.inr ⟨rfl, by omega⟩)
theorem lt_of_mul {a b c : Int} (hc : 0 < c) (h : a * c < b * c) : a < b := Int.lt_of_mul_lt_mul_right h (Int.le_of_lt hc)
/-- The signs of three differences. -/
theorem order_cases {x P y Q t R : Int} (hP : 0 < P) (hQ : 0 < Q) (hR : 0 < R) :
    (cmpZ (x * Q) (y * P) = -1 ∧ x * Q - y * P < 0 ∧ ((cmpZ (y * R) (t * Q) = -1 ∧ cmpZ (x * R) (t * P) = -1) ∨ (cmpZ (y * R) (t * Q) = 0 ∧ cmpZ (x * R) (t * P) = -1) ∨ (cmpZ (y * R) (t * Q) = 1 ∧ True))) ∨
    (cmpZ (x * Q) (y * P) = 0 ∧ x * Q - y * P = 0 ∧ ((cmpZ (y * R) (t * Q) = -1 ∧ cmpZ (x * R) (t * P) = -1) ∨ (cmpZ (y * R) (t * Q) = 0 ∧ cmpZ (x * R) (t * P) = 0) ∨ (cmpZ (y * R) (t * Q) = 1 ∧ cmpZ (x * R) (t * P) = 1))) ∨
    (cmpZ (x * Q) (y * P) = 1 ∧ 0 < x * Q - y * P ∧ ((cmpZ (y * R) (t * Q) = -1 ∧ True) ∨ (cmpZ (y * R) (t * Q) = 0 ∧ cmpZ (x * R) (t * P) = 1) ∨ (cmpZ (y * R) (t * Q) = 1 ∧ cmpZ (x * R) (t * P) = 1))) := by
  have e1 : x * R * Q = x * Q * R := by grind
  have e2 : t * P * Q = t * Q * P := by grind
  have e3 : y * P * R = y * R * P := by grind
  have low : x * Q ≤ y * P → y * R ≤ t * Q → (x * Q < y * P ∨ y * R < t * Q) → x * R < t * P := fun a b c => by
    refine lt_of_mul hQ ?_
    rw [e1, e2]
    have a1 := Int.mul_le_mul_of_nonneg_right a (Int.le_of_lt hR)
    have b1 := Int.mul_le_mul_of_nonneg_right b (Int.le_of_lt hP)
    rcases c with c | c
    · have c1 := Int.mul_lt_mul_of_pos_right c hR
      omega
    · have c1 := Int.mul_lt_mul_of_pos_right c hP
      omega
  have high : y * P ≤ x * Q → t * Q ≤ y * R → (y * P < x * Q ∨ t * Q < y * R) → t * P < x * R := fun a b c => by
    refine lt_of_mul hQ ?_
    rw [e1, e2]
    have a1 := Int.mul_le_mul_of_nonneg_right a (Int.le_of_lt hR)
    have b1 := Int.mul_le_mul_of_nonneg_right b (Int.le_of_lt hP)
    rcases c with c | c
    · have c1 := Int.mul_lt_mul_of_pos_right c hR
      omega
    · have c1 := Int.mul_lt_mul_of_pos_right c hP
      omega
  have same : x * Q = y * P → y * R = t * Q → x * R = t * P := fun a b => by
    refine Int.eq_of_mul_eq_mul_right (a := Q) (by omega) ?_
    rw [e1, e2, a, e3, b]
  rcases cmpZ_cases (x * Q) (y * P) with ⟨h1, h2⟩ | ⟨h1, h2⟩ | ⟨h1, h2⟩ <;> rcases cmpZ_cases (y * R) (t * Q) with ⟨h3, h4⟩ | ⟨h3, h4⟩ | ⟨h3, h4⟩ <;> rcases cmpZ_cases (x * R) (t * P) with ⟨h5, h6⟩ | ⟨h5, h6⟩ | ⟨h5, h6⟩ <;>
  first
  | (rw [h1, h3, h5]
     first
     | (refine .inl ⟨rfl, by omega, ?_⟩; first | exact .inl ⟨rfl, rfl⟩ | exact .inr (.inl ⟨rfl, rfl⟩) | exact .inr (.inr ⟨rfl, trivial⟩))
     | (refine .inr (.inl ⟨rfl, by omega, ?_⟩); first | exact .inl ⟨rfl, rfl⟩ | exact .inr (.inl ⟨rfl, rfl⟩) | exact .inr (.inr ⟨rfl, rfl⟩))
     | (refine .inr (.inr ⟨rfl, by omega, ?_⟩); first | exact .inl ⟨rfl, trivial⟩ | exact .inr (.inl ⟨rfl, rfl⟩) | exact .inr (.inr ⟨rfl, rfl⟩)))
  | (exfalso; have := low (by omega) (by omega) (by omega); omega)
  | (exfalso; have := high (by omega) (by omega) (by omega); omega)
  | (exfalso; have := same (by omega) (by omega); omega)
set_option maxRecDepth 100000 in
set_option maxHeartbeats 8000000 in
theorem order_any (w : World) (na nb nc nd ne nf : Bool) (A B C D E F : Option Addr) (n m r s i j ca cb cc cd ce cf : Nat) (xs ys us vs ps qs : List Nat) (h0 : Lm w w.heap.size A n ca xs) (g0 : Lm w w.heap.size B m cb ys) (h1 : Lm w w.heap.size C r cc us) (g1 : Lm w w.heap.size D s cd vs) (h2 : Lm w w.heap.size E i ce ps) (g2 : Lm w w.heap.size F j cf qs) (hU : TabU w) :
    Calls Tryz.prog 5 #[fv na A n ca nb B m cb, fv nc C r cc nd D s cd, fv ne E i ce nf F j cf] w (RBw w true) := by
  have Q0 := Lib.hid (((Qd.new w w.heap.size rfl (.bool na) (.slice A n ca) (.bool nb) (.slice B m cb) 29).alloc (.cells #[.bool nc, .slice C r cc, .bool nd, .slice D s cd] 29)).alloc (.cells #[.bool ne, .slice E i ce, .bool nf, .slice F j cf] 29))
  have Q1 := Lib.hid ((Qd.new (w.alloc (.cells #[.bool na, .slice A n ca, .bool nb, .slice B m cb] 29)) (w.heap.size + 1) (by simp) (.bool nc) (.slice C r cc) (.bool nd) (.slice D s cd) 29).alloc (.cells #[.bool ne, .slice E i ce, .bool nf, .slice F j cf] 29))
  have Q2 := Lib.hid (Qd.new ((w.alloc (.cells #[.bool na, .slice A n ca, .bool nb, .slice B m cb] 29)).alloc (.cells #[.bool nc, .slice C r cc, .bool nd, .slice D s cd] 29)) (w.heap.size + 1 + 1) (by simp) (.bool ne) (.slice E i ce) (.bool nf) (.slice F j cf) 29)
  have BX : Hid (Below w.heap.size w (((w.alloc (.cells #[.bool na, .slice A n ca, .bool nb, .slice B m cb] 29)).alloc (.cells #[.bool nc, .slice C r cc, .bool nd, .slice D s cd] 29)).alloc (.cells #[.bool ne, .slice E i ce, .bool nf, .slice F j cf] 29))) := below_alloc (below_alloc (below_alloc (Below.refl _ _) _) _) _
  have L0a := Lib.hid (h0.via BX.out)
  have L0b := Lib.hid (g0.via BX.out)
  have L1a := Lib.hid (h1.via BX.out)
  have L1b := Lib.hid (g1.via BX.out)
  have L2a := Lib.hid (h2.via BX.out)
  have L2b := Lib.hid (g2.via BX.out)
  have TU := Lib.hid (hU.via BX.out)
  clear h0 g0 h1 g1 h2 g2 hU
  go_enter Tryz.func5, Tryz.ntmps5
  go_upto_region 1 with (fail)
  generalize ((w.alloc (.cells #[.bool na, .slice A n ca, .bool nb, .slice B m cb] 29)).alloc (.cells #[.bool nc, .slice C r cc, .bool nd, .slice D s cd] 29)).alloc (.cells #[.bool ne, .slice E i ce, .bool nf, .slice F j cf] 29) = W0 at *
  generalize w.heap.size + 1 + 1 = p2 at *
  generalize w.heap.size + 1 = p1 at *
  have HB0 : Hid (Below w.heap.size w W0) := BX.out
  go_wp2_with fail
  refine (lalive_w _ TU.out).mono ?_
  rintro e w1 ⟨rfl, hb⟩
  replace Q0 := Lib.hid (Q0.out.via hb)
  replace Q1 := Lib.hid (Q1.out.via hb)
  replace Q2 := Lib.hid (Q2.out.via hb)
  replace L0a := Lib.hid (L0a.out.via hb)
  replace L0b := Lib.hid (L0b.out.via hb)
  replace L1a := Lib.hid (L1a.out.via hb)
  replace L1b := Lib.hid (L1b.out.via hb)
  replace L2a := Lib.hid (L2a.out.via hb)
  replace L2b := Lib.hid (L2b.out.via hb)
  replace TU := Lib.hid (TU.out.via hb)
  replace BX := Lib.hid (btr BX.out hb)
  clear hb
  clear TU
  have ⟨fa0, fa1, fa2, fa3, fa4, fa5, fa6, fa7, fa8⟩ := Q0.out
  have ⟨fb0, fb1, fb2, fb3, fb4, fb5, fb6, fb7, fb8⟩ := Q1.out
  have ⟨fc0, fc1, fc2, fc3, fc4, fc5, fc6, fc7, fc8⟩ := Q2.out
  go_wp2_with fail
  clear fa0 fa1 fa2 fa3 fa4 fa5 fa6 fa7 fa8
  clear fb0 fb1 fb2 fb3 fb4 fb5 fb6 fb7 fb8
  clear fc0 fc1 fc2 fc3 fc4 fc5 fc6 fc7 fc8
  rcases llong_any na nb nc nd ne nf n m r s i j xs ys us vs ps qs with hl | ⟨⟨⟨e0, e1, e2⟩, e3, e4, e5⟩, hl⟩
  · refine (hl _ A B C D E F ca cb cc cd ce cf L0a.out L0b.out L1a.out L1b.out L2a.out L2b.out).mono ?_
    rintro e w2 ⟨rfl, hb⟩
    clear hl
    go_wp2
    go_ret
    exact ⟨rfl, btr BX.out hb⟩
  · have HL := Lib.hid (hl _ A B C D E F ca cb cc cd ce cf L0a.out L0b.out L1a.out L1b.out L2a.out L2b.out)
    clear hl
    have k0 := L0a.out.len
    have k1 := L0b.out.len
    have k2 := L1a.out.len
    have k3 := L1b.out.len
    have k4 := L2a.out.len
    have k5 := L2b.out.len
    obtain ⟨x, P, a0, b0, s0, c0, d0, t0, p0, _⟩ := of_fchk e0 L0a.out.good L0b.out.good (k := 20) (by omega) (by omega)
    have X0 : Hid (Fw w1 20 x P na A n ca B m cb) := by
      show Fw _ _ _ _ _ _ _ _ _ _ _
      have h1 := L0a.out
      have h2 := L0b.out
      rw [b0] at h1 e0
      rw [d0] at h2 e0
      rw [a0, c0] at e0
      exact ⟨x, P, a0.symm, ⟨p0, rfl, e0, s0, t0⟩, h1, h2⟩
    have HP0 := Lib.hid p0
    subst c0
    obtain ⟨y, Q, a1, b1, s1, c1, d1, t1, p1, _⟩ := of_fchk e1 L1a.out.good L1b.out.good (k := 20) (by omega) (by omega)
    have X1 : Hid (Fw w1 20 y Q nc C r cc D s cd) := by
      show Fw _ _ _ _ _ _ _ _ _ _ _
      have h1 := L1a.out
      have h2 := L1b.out
      rw [b1] at h1 e1
      rw [d1] at h2 e1
      rw [a1, c1] at e1
      exact ⟨y, Q, a1.symm, ⟨p1, rfl, e1, s1, t1⟩, h1, h2⟩
    have HP1 := Lib.hid p1
    subst c1
    obtain ⟨t, R, a2, b2, s2, c2, d2, t2, p2, _⟩ := of_fchk e2 L2a.out.good L2b.out.good (k := 20) (by omega) (by omega)
    have X2 : Hid (Fw w1 20 t R ne E i ce F j cf) := by
      show Fw _ _ _ _ _ _ _ _ _ _ _
      have h1 := L2a.out
      have h2 := L2b.out
      rw [b2] at h1 e2
      rw [d2] at h2 e2
      rw [a2, c2] at e2
      exact ⟨t, R, a2.symm, ⟨p2, rfl, e2, s2, t2⟩, h1, h2⟩
    have HP2 := Lib.hid p2
    subst c2
    have HN1 : Hid (r = (digs y.natAbs).length) := by show _ = _; rw [← b1, k2]
    clear k0 k1 k2 k3 k4 k5 e0 e1 e2 e3 e4 e5 a0 a1 a2 b0 b1 b2 d0 d1 d2 s0 s1 s2 t0 t1 t2 p0 p1 L0a L0b L1a L1b L2a L2b
    refine HL.out.mono ?_
    rintro e w2 ⟨rfl, hb⟩
    clear HL
    replace Q0 := Lib.hid (Q0.out.via hb)
    replace Q1 := Lib.hid (Q1.out.via hb)
    replace Q2 := Lib.hid (Q2.out.via hb)
    replace X0 := Lib.hid (X0.out.via hb)
    replace X1 := Lib.hid (X1.out.via hb)
    replace X2 := Lib.hid (X2.out.via hb)
    replace BX := Lib.hid (btr BX.out hb)
    clear hb
    have ⟨fa0, fa1, fa2, fa3, fa4, fa5, fa6, fa7, fa8⟩ := Q0.out
    have ⟨fb0, fb1, fb2, fb3, fb4, fb5, fb6, fb7, fb8⟩ := Q1.out
    go_wp2_with fail
    clear fa0 fa1 fa2 fa3 fa4 fa5 fa6 fa7 fa8
    clear fb0 fb1 fb2 fb3 fb4 fb5 fb6 fb7 fb8
    refine (fcmp_w X0.out X1.out (by omega) HP0.out HP1.out).mono ?_
    rintro e w3 ⟨rfl, hb⟩
    replace Q0 := Lib.hid (Q0.out.via hb)
    replace Q1 := Lib.hid (Q1.out.via hb)
    replace Q2 := Lib.hid (Q2.out.via hb)
    replace X0 := Lib.hid (X0.out.via hb)
    replace X1 := Lib.hid (X1.out.via hb)
    replace X2 := Lib.hid (X2.out.via hb)
    replace BX := Lib.hid (btr BX.out hb)
    clear hb
    have ⟨fa0, fa1, fa2, fa3, fa4, fa5, fa6, fa7, fa8⟩ := Q1.out
    have ⟨fb0, fb1, fb2, fb3, fb4, fb5, fb6, fb7, fb8⟩ := Q2.out
    go_wp2_with fail
    clear fa0 fa1 fa2 fa3 fa4 fa5 fa6 fa7 fa8
    clear fb0 fb1 fb2 fb3 fb4 fb5 fb6 fb7 fb8
    refine (fcmp_w X1.out X2.out (by omega) HP1.out HP2.out).mono ?_
    rintro e w4 ⟨rfl, hb⟩
    replace Q0 := Lib.hid (Q0.out.via hb)
    replace Q1 := Lib.hid (Q1.out.via hb)
    replace Q2 := Lib.hid (Q2.out.via hb)
    replace X0 := Lib.hid (X0.out.via hb)
    replace X1 := Lib.hid (X1.out.via hb)
    replace X2 := Lib.hid (X2.out.via hb)
    replace BX := Lib.hid (btr BX.out hb)
    clear hb
    have ⟨fa0, fa1, fa2, fa3, fa4, fa5, fa6, fa7, fa8⟩ := Q0.out
    have ⟨fb0, fb1, fb2, fb3, fb4, fb5, fb6, fb7, fb8⟩ := Q2.out
    go_wp2_with fail
    clear fa0 fa1 fa2 fa3 fa4 fa5 fa6 fa7 fa8
    clear fb0 fb1 fb2 fb3 fb4 fb5 fb6 fb7 fb8
    refine (fcmp_w X0.out X2.out (by omega) HP0.out HP2.out).mono ?_
    rintro e w5 ⟨rfl, hb⟩
    replace Q0 := Lib.hid (Q0.out.via hb)
    replace Q1 := Lib.hid (Q1.out.via hb)
    replace Q2 := Lib.hid (Q2.out.via hb)
    replace X0 := Lib.hid (X0.out.via hb)
    replace X1 := Lib.hid (X1.out.via hb)
    replace X2 := Lib.hid (X2.out.via hb)
    replace BX := Lib.hid (btr BX.out hb)
    clear hb
    have ⟨fa0, fa1, fa2, fa3, fa4, fa5, fa6, fa7, fa8⟩ := Q0.out
    have ⟨fb0, fb1, fb2, fb3, fb4, fb5, fb6, fb7, fb8⟩ := Q1.out
    go_wp2_with fail
    clear fa0 fa1 fa2 fa3 fa4 fa5 fa6 fa7 fa8
    clear fb0 fb1 fb2 fb3 fb4 fb5 fb6 fb7 fb8
    refine (fsub_w X0.out X1.out (by omega)).mono ?_
    rintro e w6 ⟨z6, A6, n6, c6, B6, m6, d6, rfl, hX, hb⟩
    replace Q0 := Lib.hid (Q0.out.via hb)
    replace Q1 := Lib.hid (Q1.out.via hb)
    replace Q2 := Lib.hid (Q2.out.via hb)
    replace X0 := Lib.hid (X0.out.via hb)
    replace X1 := Lib.hid (X1.out.via hb)
    replace X2 := Lib.hid (X2.out.via hb)
    replace BX := Lib.hid (btr BX.out hb)
    have X6 := Lib.hid hX
    clear hb hX
    go_upto_region 8 with (fail)
    have Q6 := Lib.hid (Qd.new w6 _ rfl (.bool z6) (.slice A6 n6 c6) (.bool false) (.slice B6 m6 d6) 29)
    replace Q0 := Lib.hid (Q0.out.alloc (.cells #[.bool z6, .slice A6 n6 c6, .bool false, .slice B6 m6 d6] 29))
    replace Q1 := Lib.hid (Q1.out.alloc (.cells #[.bool z6, .slice A6 n6 c6, .bool false, .slice B6 m6 d6] 29))
    replace Q2 := Lib.hid (Q2.out.alloc (.cells #[.bool z6, .slice A6 n6 c6, .bool false, .slice B6 m6 d6] 29))
    replace X0 := Lib.hid (X0.out.alloc (.cells #[.bool z6, .slice A6 n6 c6, .bool false, .slice B6 m6 d6] 29))
    replace X1 := Lib.hid (X1.out.alloc (.cells #[.bool z6, .slice A6 n6 c6, .bool false, .slice B6 m6 d6] 29))
    replace X2 := Lib.hid (X2.out.alloc (.cells #[.bool z6, .slice A6 n6 c6, .bool false, .slice B6 m6 d6] 29))
    replace X6 := Lib.hid (X6.out.alloc (.cells #[.bool z6, .slice A6 n6 c6, .bool false, .slice B6 m6 d6] 29))
    replace BX := Lib.hid (below_alloc BX.out (.cells #[.bool z6, .slice A6 n6 c6, .bool false, .slice B6 m6 d6] 29))
    generalize w6.heap.size = gQ6 at *
    generalize w6.alloc (.cells #[.bool z6, .slice A6 n6 c6, .bool false, .slice B6 m6 d6] 29) = V6 at *
    obtain ⟨p, q, hz, f, hl, _⟩ := X6.out
    have hlen := hl.len
    have HPQ : 0 < P * Q := Int.mul_pos HP0.out HP1.out
    have hsg := frac_sign f HPQ
    have HE : Hid (x * Q = y * P → x * Q = y * P) := fun h => h
    have ho := order_cases (x := x) (P := P) (y := y) (Q := Q) (t := t) (R := R) HP0.out HP1.out HP2.out
    have HSM := Lib.hid (fun h : x * Q = y * P => fsame_w X0.out X1.out (show P ≠ 0 by have := HP0.out; omega) (show Q ≠ 0 by have := HP1.out; omega) h)
    clear hl f X6
    generalize cmpZ (y * R) (t * Q) = cy at *
    generalize cmpZ (x * R) (t * P) = cz at *
    rcases ho with ⟨hx, hu, hc⟩ | ⟨hx, hu, hc⟩ | ⟨hx, hu, hc⟩
    · rw [hx]
      have hp : p < 0 := hsg.1 hu
      have hn6 : 0 < n6 := by
        rw [← hlen]
        exact List.length_pos_iff.2 (by rw [Ne, digs_nil]; omega)
      have hz6 : z6 = true := by rw [← hz]; exact decide_eq_true hp
      subst hz6
      have hni : (0 : Int) < (n6 : Int) := by omega
      clear hz hlen hsg hu hx HE HSM hp hn6
      have ⟨fa0, fa1, fa2, fa3, fa4, fa5, fa6, fa7, fa8⟩ := Q6.out
      have ⟨fb0, fb1, fb2, fb3, fb4, fb5, fb6, fb7, fb8⟩ := Q0.out
      have ⟨fc0, fc1, fc2, fc3, fc4, fc5, fc6, fc7, fc8⟩ := Q1.out
      rcases hc with ⟨hy, hzz⟩ | ⟨hy, hzz⟩ | ⟨hy, hzz⟩
      · rw [hy, hzz]
        go_wp2
        go_ret
        exact ⟨rfl, BX.out⟩
      · rw [hy, hzz]
        go_wp2
        go_ret
        exact ⟨rfl, BX.out⟩
      · rw [hy]
        go_wp2
        go_ret
        exact ⟨rfl, BX.out⟩
    · rw [hx]
      have hp : p = 0 := hsg.2.1 hu
      have hn6 : n6 = 0 := by
        rw [← hlen, hp]
        rfl
      have hS := Lib.hid (HSM.out (by omega))
      clear hz hlen hsg hu hx HE HSM hp
      subst hn6
      have ⟨fa0, fa1, fa2, fa3, fa4, fa5, fa6, fa7, fa8⟩ := Q6.out
      have ⟨fb0, fb1, fb2, fb3, fb4, fb5, fb6, fb7, fb8⟩ := Q0.out
      have ⟨fc0, fc1, fc2, fc3, fc4, fc5, fc6, fc7, fc8⟩ := Q1.out
      rcases hc with ⟨hy, hzz⟩ | ⟨hy, hzz⟩ | ⟨hy, hzz⟩
      · rw [hy, hzz]
        go_wp2_with fail
        refine hS.out.mono ?_
        rintro e w7 ⟨rfl, hb⟩
        go_wp2
        go_ret
        exact ⟨rfl, btr BX.out hb⟩
      · rw [hy, hzz]
        go_wp2_with fail
        refine hS.out.mono ?_
        rintro e w7 ⟨rfl, hb⟩
        go_wp2
        go_ret
        exact ⟨rfl, btr BX.out hb⟩
      · rw [hy, hzz]
        go_wp2_with fail
        refine hS.out.mono ?_
        rintro e w7 ⟨rfl, hb⟩
        go_wp2
        go_ret
        exact ⟨rfl, btr BX.out hb⟩
    · rw [hx]
      have hp : 0 < p := hsg.2.2 hu
      have hn6 : 0 < n6 := by
        rw [← hlen]
        exact List.length_pos_iff.2 (by rw [Ne, digs_nil]; omega)
      have hz6 : z6 = false := by rw [← hz]; exact decide_eq_false (by omega)
      subst hz6
      have hni : (0 : Int) < (n6 : Int) := by omega
      clear hz hlen hsg hu hx HE HSM hp hn6
      have ⟨fa0, fa1, fa2, fa3, fa4, fa5, fa6, fa7, fa8⟩ := Q6.out
      have ⟨fb0, fb1, fb2, fb3, fb4, fb5, fb6, fb7, fb8⟩ := Q0.out
      have ⟨fc0, fc1, fc2, fc3, fc4, fc5, fc6, fc7, fc8⟩ := Q1.out
      rcases hc with ⟨hy, hzz⟩ | ⟨hy, hzz⟩ | ⟨hy, hzz⟩
      · rw [hy]
        go_wp2
        go_ret
        exact ⟨rfl, BX.out⟩
      · rw [hy, hzz]
        go_wp2
        go_ret
        exact ⟨rfl, BX.out⟩
      · rw [hy, hzz]
        go_wp2
        go_ret
        exact ⟨rfl, BX.out⟩
end Go.Proofs.YtoigmcggkanncaaGreatDoor

namespace Go.Proofs.YtoigmcggkanncaaGreatDoor
open Go.ChangeShapes Go.WideShapes Go.ChangeAt Go.RowKit

set_option maxRecDepth 100000 in
theorem fracOrder_lifted (os : Os) (started : os.Started) (H : Type) (enc : TypeId × Value → H) :
    ReturnsInHanded {} Tryz.checked os 5 .any (fun w args => (Rows.fracOrderSpec.pre enc Tryz.prog Tryz.f5 [] false w args ∧ laidMetH Tryz.prog laid7 w) ∧ sizedMet enc Tryz.prog Tryz.f5 (OpenSpec.ofChange Rows.fracOrderSpec) false w args)
      (Rows.fracOrderSpec.post enc Tryz.prog Tryz.f5 false true false false) := by
  refine returnsInHanded_of_change_and (C := Tryz.checked) (X := fun w _ => laidMetH Tryz.prog laid7 w) (fun _ _ _ hh h => h.of_heap hh) own started (by kernel_rfl) Tryz.func5
    (ChangeSpec.witness_shaped (enc := enc) (C := Tryz.checked) (os := os) (X := fun w _ => laidMetH Tryz.prog laid7 w) false (World.laidAll Tryz.prog os laid7) #[.agg #[.bool false, .slice none 0 0, .bool false, .slice none 0 0], .agg #[.bool false, .slice none 0 0, .bool false, .slice none 0 0], .agg #[.bool false, .slice none 0 0, .bool false, .slice none 0 0]] 8 (World.laidAll_os _ _ _) (World.shaped_of_ZipB (by kernel_rfl) (by kernel_rfl)) (by kernel_rfl) (by kernel_rfl) (by kernel_rfl) (by rw [MakeChecks.laidMetH_plain _ _ _ (by kernel_rfl)]; exact laidMet_laidAll _ (by kernel_rfl) (by kernel_rfl))) ?_
  intro W base args ds gs before hval0 hW _ _ hL _
  have hTU := tabU_of hL
  have hval : ∀ (j : Nat) t v, Tryz.f5.params[j]? = some t → args[j]? = some v → Value.okWide Tryz.prog W .any base t v := hval0
  have hW' := hW
  obtain ⟨p, q, hA0, hV, rfl, hfz, hnd⟩ := hW
  have hA : DataW.TrodAll enc Tryz.prog W 0 (fun _ => true) true Tryz.f5.params.toList args.toList ds p := hA0
  rw [Tryz.params5] at hA hval
  obtain ⟨v0, v1, v2, d0, d1, d2, p0, p1, p2, rfl, rfl, rfl, h0, h1, h2⟩ := trodAll_three hA
  obtain ⟨rfl, rfl⟩ := trodVars_none hV
  clear hA0 hval0
  simp only [List.append_nil] at hW'
  have hlt : ∀ x ∈ p0 ++ (p1 ++ p2), x.block < W.heap.size := fun x hx => by simpa using hW'.lt x (by rw [List.append_assoc]; exact hx)
  have hlt0 : ∀ x ∈ p0, x.block < W.heap.size := fun x hx => hlt x (List.mem_append_left _ hx)
  have hlt1 : ∀ x ∈ p1, x.block < W.heap.size := fun x hx => hlt x (List.mem_append_right _ (List.mem_append_left _ hx))
  have hlt2 : ∀ x ∈ p2, x.block < W.heap.size := fun x hx => hlt x (List.mem_append_right _ (List.mem_append_right _ hx))
  obtain ⟨na, A, n, ca, xs, nb, B, m, cb, ys, rfl, hLA, hLB⟩ := open_frac (hval 0 29 v0 rfl rfl) h0 hlt0
  obtain ⟨nc, C, r, cc, us, nd, D, s, cd, vs, rfl, hLC, hLD⟩ := open_frac (hval 1 29 v1 rfl rfl) h1 hlt1
  obtain ⟨ne, E, i, ce, ps, nf, F, j, cf, qs, rfl, hLE, hLF⟩ := open_frac (hval 2 29 v2 rfl rfl) h2 hlt2
  refine (order_any W na nb nc nd ne nf A B C D E F n m r s i j ca cb cc cd ce cf xs ys us vs ps qs hLA hLB hLC hLD hLE hLF hTU).mono fun e W' ⟨he, hb⟩ => ?_
  subst he
  rw [List.append_assoc] at hW'
  exact ⟨_, rfl, _, _, _, [], p0 ++ (p1 ++ p2), [], hW', trodAll_mk1 (shut_bool Tryz.underlying4 _),
    trodAll_mk3 (Below.trod laidOut (by kernel_rfl) (of_decide_eq_true (by kernel_rfl)) h0 hb hlt0) (Below.trod laidOut (by kernel_rfl) (of_decide_eq_true (by kernel_rfl)) h1 hb hlt1) (Below.trod laidOut (by kernel_rfl) (of_decide_eq_true (by kernel_rfl)) h2 hb hlt2), rfl, hb.frame _, fun h => by cases h⟩

theorem fracOrder_row : Rows.FracOrderSaid :=
  OpenClaim.holds_of_wide 5 Tryz.f5 rfl rfl rfl rfl rfl rfl rfl ⟨rfl, rfl, rfl, rfl, rfl⟩ rfl rfl rfl rfl rfl (by kernel_rfl) Tryz.func5 (by kernel_rfl)
    (of_decide_eq_true (by kernel_rfl)) (by unfold Func.isWrapper; first | (rw [if_pos (by decide +kernel)]; kernel_rfl) | (rw [if_neg (by decide +kernel)]; exact ⟨rfl, rfl⟩))
    (fun os started H enc _ => fracOrder_lifted os started H enc)

theorem fracOrder_holds : Rows.FracOrderCardSaid :=
  Claim7.holds_tied_plain_at .later [] [.data, .data, .data, .data, .sentinel, .sentinel, .pinned] true (Rows.fracOrderCard.stood.harness) true
    fracOrder_row (fun _ h => by cases h) (by kernel_rfl) (fun _ h => by cases h) fracOrder_row_tie rfl ⟨rfl, rfl⟩ (by kernel_rfl) rfl
    (fun f fn hf hfn => by
      obtain rfl : f = 5 := Option.some.inj ((show Tryz.prog.funcNamed "planisphere/planispherelaw02.FracOrder" = some 5 by kernel_rfl).symm.trans hf) |>.symm
      obtain rfl : fn = Tryz.f5 := (Option.some.inj (Tryz.func5.symm.trans hfn)).symm
      exact ⟨by kernel_rfl, fun j t ht => by
        rw [Tryz.params5] at ht
        have hm : t ∈ [29, 29, 29] := by simpa using Array.mem_of_getElem? ht
        have hall : ([29, 29, 29].all fun u => !Tryz.prog.wantsStandIn u) = true := by kernel_rfl
        exact (show Tryz.prog.wantsStandIn t = false by simpa using List.all_eq_true.1 hall t hm)⟩)
    (by kernel_rfl)
end Go.Proofs.YtoigmcggkanncaaGreatDoor

