
/-
  For any three fractions a, b and c the law FracField returns true: where they are valid and of at most 20 limbs, sums, differences, products, quotients and negatives of package frac obey the laws of fields; and the chapter's examples hold. Conditions: the library's table of powers of ten holds what its initialiser lays (the card ties it, and the other listed variables, to the program's text); no other condition.
-/
import Derived.Test.YtoigmcggkanncaaGreatDoorTie
import Derived.Test.YtoigmcggkanncaaGreatDoorCards
import Derived.Test.YtoigmcggkanncaaGreatDoorFC10
/- The walk of the law FracField. -/
namespace Go.Proofs.YtoigmcggkanncaaGreatDoor
open Go.RowKit

set_option maxRecDepth 100000 in
set_option maxHeartbeats 8000000 in
theorem field_any (w : World) (na nb nc nd ne nf : Bool) (A B C D E F : Option Addr) (n m r s i j ca cb cc cd ce cf : Nat) (xs ys us vs ps qs : List Nat) (h0 : Lm w w.heap.size A n ca xs) (g0 : Lm w w.heap.size B m cb ys) (h1 : Lm w w.heap.size C r cc us) (g1 : Lm w w.heap.size D s cd vs) (h2 : Lm w w.heap.size E i ce ps) (g2 : Lm w w.heap.size F j cf qs) (hU : TabU w) :
    Calls Tryz.prog 4 #[fv na A n ca nb B m cb, fv nc C r cc nd D s cd, fv ne E i ce nf F j cf] w (RBw w true) := by
  have Q0 := Lib.hid (((Qd.new w w.heap.size rfl (.bool na) (.slice A n ca) (.bool nb) (.slice B m cb) 29).alloc (.cells #[.bool nc, .slice C r cc, .bool nd, .slice D s cd] 29)).alloc (.cells #[.bool ne, .slice E i ce, .bool nf, .slice F j cf] 29))
  have Q1 := Lib.hid ((Qd.new (w.alloc (.cells #[.bool na, .slice A n ca, .bool nb, .slice B m cb] 29)) (w.heap.size + 1) (by simp) (.bool nc) (.slice C r cc) (.bool nd) (.slice D s cd) 29).alloc (.cells #[.bool ne, .slice E i ce, .bool nf, .slice F j cf] 29))
  have Q2 := Lib.hid (Qd.new ((w.alloc (.cells #[.bool na, .slice A n ca, .bool nb, .slice B m cb] 29)).alloc (.cells #[.bool nc, .slice C r cc, .bool nd, .slice D s cd] 29)) (w.heap.size + 1 + 1) (by simp) (.bool ne) (.slice E i ce) (.bool nf) (.slice F j cf) 29)
  have BX : Hid (Below w.heap.size w (((w.alloc (.cells #[.bool na, .slice A n ca, .bool nb, .slice B m cb] 29)).alloc (.cells #[.bool nc, .slice C r cc, .bool nd, .slice D s cd] 29)).alloc (.cells #[.bool ne, .slice E i ce, .bool nf, .slice F j cf] 29))) := below_alloc (below_alloc (below_alloc (Below.refl _ _) _) _) _
  have L0a := Lib.hid (h0.via BX.out)
  have L0b := Lib.hid (g0.via BX.out)
  have L1a := Lib.hid (h1.via BX.out)
  have L1b := Lib.hid (g1.via BX.out)
  have L2a := Lib.hid (h2.via BX.out)
  have L2b := Lib.hid (g2.via BX.out)
  have TU := Lib.hid (hU.via BX.out)
  clear h0 g0 h1 g1 h2 g2 hU
  go_enter Tryz.func4, Tryz.ntmps4
  go_upto_region 1 with (fail)
  generalize ((w.alloc (.cells #[.bool na, .slice A n ca, .bool nb, .slice B m cb] 29)).alloc (.cells #[.bool nc, .slice C r cc, .bool nd, .slice D s cd] 29)).alloc (.cells #[.bool ne, .slice E i ce, .bool nf, .slice F j cf] 29) = W0 at *
  generalize w.heap.size + 1 + 1 = p2 at *
  generalize w.heap.size + 1 = p1 at *
  have HB0 : Hid (Below w.heap.size w W0) := BX.out
  go_wp2_with fail
  refine (lalive_w _ TU.out).mono ?_
  rintro e w1 ⟨rfl, hb⟩
  replace Q0 := Lib.hid (Q0.out.via hb)
  replace Q1 := Lib.hid (Q1.out.via hb)
  replace Q2 := Lib.hid (Q2.out.via hb)
  replace L0a := Lib.hid (L0a.out.via hb)
  replace L0b := Lib.hid (L0b.out.via hb)
  replace L1a := Lib.hid (L1a.out.via hb)
  replace L1b := Lib.hid (L1b.out.via hb)
  replace L2a := Lib.hid (L2a.out.via hb)
  replace L2b := Lib.hid (L2b.out.via hb)
  replace TU := Lib.hid (TU.out.via hb)
  replace BX := Lib.hid (btr BX.out hb)
  clear hb
  clear TU
  have ⟨fa0, fa1, fa2, fa3, fa4, fa5, fa6, fa7, fa8⟩ := Q0.out
  have ⟨fb0, fb1, fb2, fb3, fb4, fb5, fb6, fb7, fb8⟩ := Q1.out
  have ⟨fc0, fc1, fc2, fc3, fc4, fc5, fc6, fc7, fc8⟩ := Q2.out
  go_wp2_with fail
  clear fa0 fa1 fa2 fa3 fa4 fa5 fa6 fa7 fa8
  clear fb0 fb1 fb2 fb3 fb4 fb5 fb6 fb7 fb8
  clear fc0 fc1 fc2 fc3 fc4 fc5 fc6 fc7 fc8
  rcases llong_any na nb nc nd ne nf n m r s i j xs ys us vs ps qs with hl | ⟨⟨⟨e0, e1, e2⟩, e3, e4, e5⟩, hl⟩
  · refine (hl _ A B C D E F ca cb cc cd ce cf L0a.out L0b.out L1a.out L1b.out L2a.out L2b.out).mono ?_
    rintro e w2 ⟨rfl, hb⟩
    clear hl
    go_wp2
    go_ret
    exact ⟨rfl, btr BX.out hb⟩
  · have HL := Lib.hid (hl _ A B C D E F ca cb cc cd ce cf L0a.out L0b.out L1a.out L1b.out L2a.out L2b.out)
    clear hl
    have k0 := L0a.out.len
    have k1 := L0b.out.len
    have k2 := L1a.out.len
    have k3 := L1b.out.len
    have k4 := L2a.out.len
    have k5 := L2b.out.len
    obtain ⟨x, P, a0, b0, s0, c0, d0, t0, p0, _⟩ := of_fchk e0 L0a.out.good L0b.out.good (k := 20) (by omega) (by omega)
    have X0 : Hid (Fw w1 20 x P na A n ca B m cb) := by
      show Fw _ _ _ _ _ _ _ _ _ _ _
      have h1 := L0a.out
      have h2 := L0b.out
      rw [b0] at h1 e0
      rw [d0] at h2 e0
      rw [a0, c0] at e0
      exact ⟨x, P, a0.symm, ⟨p0, rfl, e0, s0, t0⟩, h1, h2⟩
    have HP0 := Lib.hid p0
    subst c0
    obtain ⟨y, Q, a1, b1, s1, c1, d1, t1, p1, _⟩ := of_fchk e1 L1a.out.good L1b.out.good (k := 20) (by omega) (by omega)
    have X1 : Hid (Fw w1 20 y Q nc C r cc D s cd) := by
      show Fw _ _ _ _ _ _ _ _ _ _ _
      have h1 := L1a.out
      have h2 := L1b.out
      rw [b1] at h1 e1
      rw [d1] at h2 e1
      rw [a1, c1] at e1
      exact ⟨y, Q, a1.symm, ⟨p1, rfl, e1, s1, t1⟩, h1, h2⟩
    have HP1 := Lib.hid p1
    subst c1
    obtain ⟨t, R, a2, b2, s2, c2, d2, t2, p2, _⟩ := of_fchk e2 L2a.out.good L2b.out.good (k := 20) (by omega) (by omega)
    have X2 : Hid (Fw w1 20 t R ne E i ce F j cf) := by
      show Fw _ _ _ _ _ _ _ _ _ _ _
      have h1 := L2a.out
      have h2 := L2b.out
      rw [b2] at h1 e2
      rw [d2] at h2 e2
      rw [a2, c2] at e2
      exact ⟨t, R, a2.symm, ⟨p2, rfl, e2, s2, t2⟩, h1, h2⟩
    have HP2 := Lib.hid p2
    subst c2
    have HN1 : Hid (r = (digs y.natAbs).length) := by show _ = _; rw [← b1, k2]
    clear k0 k1 k2 k3 k4 k5 e0 e1 e2 e3 e4 e5 a0 a1 a2 b0 b1 b2 d0 d1 d2 s0 s1 s2 t0 t1 t2 p0 p1 L0a L0b L1a L1b L2a L2b
    refine HL.out.mono ?_
    rintro e w2 ⟨rfl, hb⟩
    clear HL
    replace Q0 := Lib.hid (Q0.out.via hb)
    replace Q1 := Lib.hid (Q1.out.via hb)
    replace Q2 := Lib.hid (Q2.out.via hb)
    replace X0 := Lib.hid (X0.out.via hb)
    replace X1 := Lib.hid (X1.out.via hb)
    replace X2 := Lib.hid (X2.out.via hb)
    replace BX := Lib.hid (btr BX.out hb)
    clear hb
    have hP0 : P ≠ 0 := by have := HP0.out; omega
    have hQ0 : Q ≠ 0 := by have := HP1.out; omega
    have hR0 : R ≠ 0 := by have := HP2.out; omega
    have HPn := Lib.hid hP0
    have HQn := Lib.hid hQ0
    have HRn := Lib.hid hR0
    clear hP0 hQ0 hR0
    have ⟨fa0, fa1, fa2, fa3, fa4, fa5, fa6, fa7, fa8⟩ := Q0.out
    have ⟨fb0, fb1, fb2, fb3, fb4, fb5, fb6, fb7, fb8⟩ := Q1.out
    go_wp2_with fail
    clear fa0 fa1 fa2 fa3 fa4 fa5 fa6 fa7 fa8
    clear fb0 fb1 fb2 fb3 fb4 fb5 fb6 fb7 fb8
    refine (fadd_w X0.out X1.out (by omega)).mono ?_
    rintro e w3 ⟨z6, A6, n6, c6, B6, m6, d6, rfl, hX, hb⟩
    replace Q0 := Lib.hid (Q0.out.via hb)
    replace Q1 := Lib.hid (Q1.out.via hb)
    replace Q2 := Lib.hid (Q2.out.via hb)
    replace X0 := Lib.hid (X0.out.via hb)
    replace X1 := Lib.hid (X1.out.via hb)
    replace X2 := Lib.hid (X2.out.via hb)
    replace BX := Lib.hid (btr BX.out hb)
    have X6 := Lib.hid hX
    clear hb hX
    go_upto_region 5 with (fail)
    have QS := Lib.hid (Qd.new w3 _ rfl (.bool z6) (.slice A6 n6 c6) (.bool false) (.slice B6 m6 d6) 29)
    replace Q0 := Lib.hid (Q0.out.alloc (.cells #[.bool z6, .slice A6 n6 c6, .bool false, .slice B6 m6 d6] 29))
    replace Q1 := Lib.hid (Q1.out.alloc (.cells #[.bool z6, .slice A6 n6 c6, .bool false, .slice B6 m6 d6] 29))
    replace Q2 := Lib.hid (Q2.out.alloc (.cells #[.bool z6, .slice A6 n6 c6, .bool false, .slice B6 m6 d6] 29))
    replace X0 := Lib.hid (X0.out.alloc (.cells #[.bool z6, .slice A6 n6 c6, .bool false, .slice B6 m6 d6] 29))
    replace X1 := Lib.hid (X1.out.alloc (.cells #[.bool z6, .slice A6 n6 c6, .bool false, .slice B6 m6 d6] 29))
    replace X2 := Lib.hid (X2.out.alloc (.cells #[.bool z6, .slice A6 n6 c6, .bool false, .slice B6 m6 d6] 29))
    replace X6 := Lib.hid (X6.out.alloc (.cells #[.bool z6, .slice A6 n6 c6, .bool false, .slice B6 m6 d6] 29))
    replace BX := Lib.hid (below_alloc BX.out (.cells #[.bool z6, .slice A6 n6 c6, .bool false, .slice B6 m6 d6] 29))
    generalize w3.heap.size = gQS at *
    generalize w3.alloc (.cells #[.bool z6, .slice A6 n6 c6, .bool false, .slice B6 m6 d6] 29) = V3 at *
    have ⟨fa0, fa1, fa2, fa3, fa4, fa5, fa6, fa7, fa8⟩ := QS.out
    have ⟨fb0, fb1, fb2, fb3, fb4, fb5, fb6, fb7, fb8⟩ := Q1.out
    go_wp2_with fail
    clear fa0 fa1 fa2 fa3 fa4 fa5 fa6 fa7 fa8
    clear fb0 fb1 fb2 fb3 fb4 fb5 fb6 fb7 fb8
    refine (fsub_w (X6.out) (X1.out.mono (by omega)) (by omega)).mono ?_
    rintro e w4 ⟨z7, A7, n7, c7, B7, m7, d7, rfl, hX, hb⟩
    replace Q0 := Lib.hid (Q0.out.via hb)
    replace Q1 := Lib.hid (Q1.out.via hb)
    replace Q2 := Lib.hid (Q2.out.via hb)
    replace X0 := Lib.hid (X0.out.via hb)
    replace X1 := Lib.hid (X1.out.via hb)
    replace X2 := Lib.hid (X2.out.via hb)
    replace X6 := Lib.hid (X6.out.via hb)
    replace QS := Lib.hid (QS.out.via hb)
    replace BX := Lib.hid (btr BX.out hb)
    have X7 := Lib.hid hX
    clear hb hX
    go_upto_region 6 with (fail)
    have QD := Lib.hid (Qd.new w4 _ rfl (.bool z7) (.slice A7 n7 c7) (.bool false) (.slice B7 m7 d7) 29)
    replace Q0 := Lib.hid (Q0.out.alloc (.cells #[.bool z7, .slice A7 n7 c7, .bool false, .slice B7 m7 d7] 29))
    replace Q1 := Lib.hid (Q1.out.alloc (.cells #[.bool z7, .slice A7 n7 c7, .bool false, .slice B7 m7 d7] 29))
    replace Q2 := Lib.hid (Q2.out.alloc (.cells #[.bool z7, .slice A7 n7 c7, .bool false, .slice B7 m7 d7] 29))
    replace X0 := Lib.hid (X0.out.alloc (.cells #[.bool z7, .slice A7 n7 c7, .bool false, .slice B7 m7 d7] 29))
    replace X1 := Lib.hid (X1.out.alloc (.cells #[.bool z7, .slice A7 n7 c7, .bool false, .slice B7 m7 d7] 29))
    replace X2 := Lib.hid (X2.out.alloc (.cells #[.bool z7, .slice A7 n7 c7, .bool false, .slice B7 m7 d7] 29))
    replace X6 := Lib.hid (X6.out.alloc (.cells #[.bool z7, .slice A7 n7 c7, .bool false, .slice B7 m7 d7] 29))
    replace QS := Lib.hid (QS.out.alloc (.cells #[.bool z7, .slice A7 n7 c7, .bool false, .slice B7 m7 d7] 29))
    replace X7 := Lib.hid (X7.out.alloc (.cells #[.bool z7, .slice A7 n7 c7, .bool false, .slice B7 m7 d7] 29))
    replace BX := Lib.hid (below_alloc BX.out (.cells #[.bool z7, .slice A7 n7 c7, .bool false, .slice B7 m7 d7] 29))
    generalize w4.heap.size = gQD at *
    generalize w4.alloc (.cells #[.bool z7, .slice A7 n7 c7, .bool false, .slice B7 m7 d7] 29) = V4 at *
    have ⟨fa0, fa1, fa2, fa3, fa4, fa5, fa6, fa7, fa8⟩ := QS.out
    have ⟨fb0, fb1, fb2, fb3, fb4, fb5, fb6, fb7, fb8⟩ := Q2.out
    go_wp2_with fail
    clear fa0 fa1 fa2 fa3 fa4 fa5 fa6 fa7 fa8
    clear fb0 fb1 fb2 fb3 fb4 fb5 fb6 fb7 fb8
    refine (fmul_w (X6.out) (X2.out.mono (by omega)) (by omega)).mono ?_
    rintro e w5 ⟨z8, A8, n8, c8, B8, m8, d8, rfl, hX, hb⟩
    replace Q0 := Lib.hid (Q0.out.via hb)
    replace Q1 := Lib.hid (Q1.out.via hb)
    replace Q2 := Lib.hid (Q2.out.via hb)
    replace X0 := Lib.hid (X0.out.via hb)
    replace X1 := Lib.hid (X1.out.via hb)
    replace X2 := Lib.hid (X2.out.via hb)
    replace X6 := Lib.hid (X6.out.via hb)
    replace QS := Lib.hid (QS.out.via hb)
    replace X7 := Lib.hid (X7.out.via hb)
    replace QD := Lib.hid (QD.out.via hb)
    replace BX := Lib.hid (btr BX.out hb)
    have X8 := Lib.hid hX
    clear hb hX
    go_upto_region 7 with (fail)
    have QP := Lib.hid (Qd.new w5 _ rfl (.bool z8) (.slice A8 n8 c8) (.bool false) (.slice B8 m8 d8) 29)
    replace Q0 := Lib.hid (Q0.out.alloc (.cells #[.bool z8, .slice A8 n8 c8, .bool false, .slice B8 m8 d8] 29))
    replace Q1 := Lib.hid (Q1.out.alloc (.cells #[.bool z8, .slice A8 n8 c8, .bool false, .slice B8 m8 d8] 29))
    replace Q2 := Lib.hid (Q2.out.alloc (.cells #[.bool z8, .slice A8 n8 c8, .bool false, .slice B8 m8 d8] 29))
    replace X0 := Lib.hid (X0.out.alloc (.cells #[.bool z8, .slice A8 n8 c8, .bool false, .slice B8 m8 d8] 29))
    replace X1 := Lib.hid (X1.out.alloc (.cells #[.bool z8, .slice A8 n8 c8, .bool false, .slice B8 m8 d8] 29))
    replace X2 := Lib.hid (X2.out.alloc (.cells #[.bool z8, .slice A8 n8 c8, .bool false, .slice B8 m8 d8] 29))
    replace X6 := Lib.hid (X6.out.alloc (.cells #[.bool z8, .slice A8 n8 c8, .bool false, .slice B8 m8 d8] 29))
    replace QS := Lib.hid (QS.out.alloc (.cells #[.bool z8, .slice A8 n8 c8, .bool false, .slice B8 m8 d8] 29))
    replace X7 := Lib.hid (X7.out.alloc (.cells #[.bool z8, .slice A8 n8 c8, .bool false, .slice B8 m8 d8] 29))
    replace QD := Lib.hid (QD.out.alloc (.cells #[.bool z8, .slice A8 n8 c8, .bool false, .slice B8 m8 d8] 29))
    replace X8 := Lib.hid (X8.out.alloc (.cells #[.bool z8, .slice A8 n8 c8, .bool false, .slice B8 m8 d8] 29))
    replace BX := Lib.hid (below_alloc BX.out (.cells #[.bool z8, .slice A8 n8 c8, .bool false, .slice B8 m8 d8] 29))
    generalize w5.heap.size = gQP at *
    generalize w5.alloc (.cells #[.bool z8, .slice A8 n8 c8, .bool false, .slice B8 m8 d8] 29) = V5 at *
    have ⟨fa0, fa1, fa2, fa3, fa4, fa5, fa6, fa7, fa8⟩ := Q0.out
    have ⟨fb0, fb1, fb2, fb3, fb4, fb5, fb6, fb7, fb8⟩ := Q2.out
    go_wp2_with fail
    clear fa0 fa1 fa2 fa3 fa4 fa5 fa6 fa7 fa8
    clear fb0 fb1 fb2 fb3 fb4 fb5 fb6 fb7 fb8
    refine (fmul_w X0.out X2.out (by omega)).mono ?_
    rintro e w6 ⟨z9, A9, n9, c9, B9, m9, d9, rfl, hX, hb⟩
    replace Q0 := Lib.hid (Q0.out.via hb)
    replace Q1 := Lib.hid (Q1.out.via hb)
    replace Q2 := Lib.hid (Q2.out.via hb)
    replace X0 := Lib.hid (X0.out.via hb)
    replace X1 := Lib.hid (X1.out.via hb)
    replace X2 := Lib.hid (X2.out.via hb)
    replace X6 := Lib.hid (X6.out.via hb)
    replace QS := Lib.hid (QS.out.via hb)
    replace X7 := Lib.hid (X7.out.via hb)
    replace QD := Lib.hid (QD.out.via hb)
    replace X8 := Lib.hid (X8.out.via hb)
    replace QP := Lib.hid (QP.out.via hb)
    replace BX := Lib.hid (btr BX.out hb)
    have X9 := Lib.hid hX
    clear hb hX
    go_upto_region 8 with (fail)
    have QX := Lib.hid (Qd.new w6 _ rfl (.bool z9) (.slice A9 n9 c9) (.bool false) (.slice B9 m9 d9) 29)
    replace Q0 := Lib.hid (Q0.out.alloc (.cells #[.bool z9, .slice A9 n9 c9, .bool false, .slice B9 m9 d9] 29))
    replace Q1 := Lib.hid (Q1.out.alloc (.cells #[.bool z9, .slice A9 n9 c9, .bool false, .slice B9 m9 d9] 29))
    replace Q2 := Lib.hid (Q2.out.alloc (.cells #[.bool z9, .slice A9 n9 c9, .bool false, .slice B9 m9 d9] 29))
    replace X0 := Lib.hid (X0.out.alloc (.cells #[.bool z9, .slice A9 n9 c9, .bool false, .slice B9 m9 d9] 29))
    replace X1 := Lib.hid (X1.out.alloc (.cells #[.bool z9, .slice A9 n9 c9, .bool false, .slice B9 m9 d9] 29))
    replace X2 := Lib.hid (X2.out.alloc (.cells #[.bool z9, .slice A9 n9 c9, .bool false, .slice B9 m9 d9] 29))
    replace X6 := Lib.hid (X6.out.alloc (.cells #[.bool z9, .slice A9 n9 c9, .bool false, .slice B9 m9 d9] 29))
    replace QS := Lib.hid (QS.out.alloc (.cells #[.bool z9, .slice A9 n9 c9, .bool false, .slice B9 m9 d9] 29))
    replace X7 := Lib.hid (X7.out.alloc (.cells #[.bool z9, .slice A9 n9 c9, .bool false, .slice B9 m9 d9] 29))
    replace QD := Lib.hid (QD.out.alloc (.cells #[.bool z9, .slice A9 n9 c9, .bool false, .slice B9 m9 d9] 29))
    replace X8 := Lib.hid (X8.out.alloc (.cells #[.bool z9, .slice A9 n9 c9, .bool false, .slice B9 m9 d9] 29))
    replace QP := Lib.hid (QP.out.alloc (.cells #[.bool z9, .slice A9 n9 c9, .bool false, .slice B9 m9 d9] 29))
    replace X9 := Lib.hid (X9.out.alloc (.cells #[.bool z9, .slice A9 n9 c9, .bool false, .slice B9 m9 d9] 29))
    replace BX := Lib.hid (below_alloc BX.out (.cells #[.bool z9, .slice A9 n9 c9, .bool false, .slice B9 m9 d9] 29))
    generalize w6.heap.size = gQX at *
    generalize w6.alloc (.cells #[.bool z9, .slice A9 n9 c9, .bool false, .slice B9 m9 d9] 29) = V6 at *
    have ⟨fa0, fa1, fa2, fa3, fa4, fa5, fa6, fa7, fa8⟩ := Q1.out
    have ⟨fb0, fb1, fb2, fb3, fb4, fb5, fb6, fb7, fb8⟩ := Q2.out
    go_wp2_with fail
    clear fa0 fa1 fa2 fa3 fa4 fa5 fa6 fa7 fa8
    clear fb0 fb1 fb2 fb3 fb4 fb5 fb6 fb7 fb8
    refine (fmul_w X1.out X2.out (by omega)).mono ?_
    rintro e w7 ⟨z10, A10, n10, c10, B10, m10, d10, rfl, hX, hb⟩
    replace Q0 := Lib.hid (Q0.out.via hb)
    replace Q1 := Lib.hid (Q1.out.via hb)
    replace Q2 := Lib.hid (Q2.out.via hb)
    replace X0 := Lib.hid (X0.out.via hb)
    replace X1 := Lib.hid (X1.out.via hb)
    replace X2 := Lib.hid (X2.out.via hb)
    replace X6 := Lib.hid (X6.out.via hb)
    replace QS := Lib.hid (QS.out.via hb)
    replace X7 := Lib.hid (X7.out.via hb)
    replace QD := Lib.hid (QD.out.via hb)
    replace X8 := Lib.hid (X8.out.via hb)
    replace QP := Lib.hid (QP.out.via hb)
    replace X9 := Lib.hid (X9.out.via hb)
    replace QX := Lib.hid (QX.out.via hb)
    replace BX := Lib.hid (btr BX.out hb)
    have X10 := Lib.hid hX
    clear hb hX
    go_upto_region 9 with (fail)
    have QY := Lib.hid (Qd.new w7 _ rfl (.bool z10) (.slice A10 n10 c10) (.bool false) (.slice B10 m10 d10) 29)
    replace Q0 := Lib.hid (Q0.out.alloc (.cells #[.bool z10, .slice A10 n10 c10, .bool false, .slice B10 m10 d10] 29))
    replace Q1 := Lib.hid (Q1.out.alloc (.cells #[.bool z10, .slice A10 n10 c10, .bool false, .slice B10 m10 d10] 29))
    replace Q2 := Lib.hid (Q2.out.alloc (.cells #[.bool z10, .slice A10 n10 c10, .bool false, .slice B10 m10 d10] 29))
    replace X0 := Lib.hid (X0.out.alloc (.cells #[.bool z10, .slice A10 n10 c10, .bool false, .slice B10 m10 d10] 29))
    replace X1 := Lib.hid (X1.out.alloc (.cells #[.bool z10, .slice A10 n10 c10, .bool false, .slice B10 m10 d10] 29))
    replace X2 := Lib.hid (X2.out.alloc (.cells #[.bool z10, .slice A10 n10 c10, .bool false, .slice B10 m10 d10] 29))
    replace X6 := Lib.hid (X6.out.alloc (.cells #[.bool z10, .slice A10 n10 c10, .bool false, .slice B10 m10 d10] 29))
    replace QS := Lib.hid (QS.out.alloc (.cells #[.bool z10, .slice A10 n10 c10, .bool false, .slice B10 m10 d10] 29))
    replace X7 := Lib.hid (X7.out.alloc (.cells #[.bool z10, .slice A10 n10 c10, .bool false, .slice B10 m10 d10] 29))
    replace QD := Lib.hid (QD.out.alloc (.cells #[.bool z10, .slice A10 n10 c10, .bool false, .slice B10 m10 d10] 29))
    replace X8 := Lib.hid (X8.out.alloc (.cells #[.bool z10, .slice A10 n10 c10, .bool false, .slice B10 m10 d10] 29))
    replace QP := Lib.hid (QP.out.alloc (.cells #[.bool z10, .slice A10 n10 c10, .bool false, .slice B10 m10 d10] 29))
    replace X9 := Lib.hid (X9.out.alloc (.cells #[.bool z10, .slice A10 n10 c10, .bool false, .slice B10 m10 d10] 29))
    replace QX := Lib.hid (QX.out.alloc (.cells #[.bool z10, .slice A10 n10 c10, .bool false, .slice B10 m10 d10] 29))
    replace X10 := Lib.hid (X10.out.alloc (.cells #[.bool z10, .slice A10 n10 c10, .bool false, .slice B10 m10 d10] 29))
    replace BX := Lib.hid (below_alloc BX.out (.cells #[.bool z10, .slice A10 n10 c10, .bool false, .slice B10 m10 d10] 29))
    generalize w7.heap.size = gQY at *
    generalize w7.alloc (.cells #[.bool z10, .slice A10 n10 c10, .bool false, .slice B10 m10 d10] 29) = V7 at *
    have ⟨fa0, fa1, fa2, fa3, fa4, fa5, fa6, fa7, fa8⟩ := QY.out
    have ⟨fb0, fb1, fb2, fb3, fb4, fb5, fb6, fb7, fb8⟩ := QX.out
    go_wp2_with fail
    clear fa0 fa1 fa2 fa3 fa4 fa5 fa6 fa7 fa8
    clear fb0 fb1 fb2 fb3 fb4 fb5 fb6 fb7 fb8
    refine (fadd_w X10.out X9.out (by omega)).mono ?_
    rintro e w8 ⟨z11, A11, n11, c11, B11, m11, d11, rfl, hX, hb⟩
    replace Q0 := Lib.hid (Q0.out.via hb)
    replace Q1 := Lib.hid (Q1.out.via hb)
    replace Q2 := Lib.hid (Q2.out.via hb)
    replace X0 := Lib.hid (X0.out.via hb)
    replace X1 := Lib.hid (X1.out.via hb)
    replace X2 := Lib.hid (X2.out.via hb)
    replace X6 := Lib.hid (X6.out.via hb)
    replace QS := Lib.hid (QS.out.via hb)
    replace X7 := Lib.hid (X7.out.via hb)
    replace QD := Lib.hid (QD.out.via hb)
    replace X8 := Lib.hid (X8.out.via hb)
    replace QP := Lib.hid (QP.out.via hb)
    replace X9 := Lib.hid (X9.out.via hb)
    replace QX := Lib.hid (QX.out.via hb)
    replace X10 := Lib.hid (X10.out.via hb)
    replace QY := Lib.hid (QY.out.via hb)
    replace BX := Lib.hid (btr BX.out hb)
    have X11 := Lib.hid hX
    clear hb hX
    go_upto_region 10 with (fail)
    have QZ := Lib.hid (Qd.new w8 _ rfl (.bool z11) (.slice A11 n11 c11) (.bool false) (.slice B11 m11 d11) 29)
    replace Q0 := Lib.hid (Q0.out.alloc (.cells #[.bool z11, .slice A11 n11 c11, .bool false, .slice B11 m11 d11] 29))
    replace Q1 := Lib.hid (Q1.out.alloc (.cells #[.bool z11, .slice A11 n11 c11, .bool false, .slice B11 m11 d11] 29))
    replace Q2 := Lib.hid (Q2.out.alloc (.cells #[.bool z11, .slice A11 n11 c11, .bool false, .slice B11 m11 d11] 29))
    replace X0 := Lib.hid (X0.out.alloc (.cells #[.bool z11, .slice A11 n11 c11, .bool false, .slice B11 m11 d11] 29))
    replace X1 := Lib.hid (X1.out.alloc (.cells #[.bool z11, .slice A11 n11 c11, .bool false, .slice B11 m11 d11] 29))
    replace X2 := Lib.hid (X2.out.alloc (.cells #[.bool z11, .slice A11 n11 c11, .bool false, .slice B11 m11 d11] 29))
    replace X6 := Lib.hid (X6.out.alloc (.cells #[.bool z11, .slice A11 n11 c11, .bool false, .slice B11 m11 d11] 29))
    replace QS := Lib.hid (QS.out.alloc (.cells #[.bool z11, .slice A11 n11 c11, .bool false, .slice B11 m11 d11] 29))
    replace X7 := Lib.hid (X7.out.alloc (.cells #[.bool z11, .slice A11 n11 c11, .bool false, .slice B11 m11 d11] 29))
    replace QD := Lib.hid (QD.out.alloc (.cells #[.bool z11, .slice A11 n11 c11, .bool false, .slice B11 m11 d11] 29))
    replace X8 := Lib.hid (X8.out.alloc (.cells #[.bool z11, .slice A11 n11 c11, .bool false, .slice B11 m11 d11] 29))
    replace QP := Lib.hid (QP.out.alloc (.cells #[.bool z11, .slice A11 n11 c11, .bool false, .slice B11 m11 d11] 29))
    replace X9 := Lib.hid (X9.out.alloc (.cells #[.bool z11, .slice A11 n11 c11, .bool false, .slice B11 m11 d11] 29))
    replace QX := Lib.hid (QX.out.alloc (.cells #[.bool z11, .slice A11 n11 c11, .bool false, .slice B11 m11 d11] 29))
    replace X10 := Lib.hid (X10.out.alloc (.cells #[.bool z11, .slice A11 n11 c11, .bool false, .slice B11 m11 d11] 29))
    replace QY := Lib.hid (QY.out.alloc (.cells #[.bool z11, .slice A11 n11 c11, .bool false, .slice B11 m11 d11] 29))
    replace X11 := Lib.hid (X11.out.alloc (.cells #[.bool z11, .slice A11 n11 c11, .bool false, .slice B11 m11 d11] 29))
    replace BX := Lib.hid (below_alloc BX.out (.cells #[.bool z11, .slice A11 n11 c11, .bool false, .slice B11 m11 d11] 29))
    generalize w8.heap.size = gQZ at *
    generalize w8.alloc (.cells #[.bool z11, .slice A11 n11 c11, .bool false, .slice B11 m11 d11] 29) = V8 at *
    have ⟨fa0, fa1, fa2, fa3, fa4, fa5, fa6, fa7, fa8⟩ := Q0.out
    go_wp2_with fail
    clear fa0 fa1 fa2 fa3 fa4 fa5 fa6 fa7 fa8
    refine (fneg_w X0.out (by omega)).mono ?_
    rintro e w9 ⟨z12, A12, n12, c12, B12, m12, d12, rfl, hX, hb⟩
    replace Q0 := Lib.hid (Q0.out.via hb)
    replace Q1 := Lib.hid (Q1.out.via hb)
    replace Q2 := Lib.hid (Q2.out.via hb)
    replace X0 := Lib.hid (X0.out.via hb)
    replace X1 := Lib.hid (X1.out.via hb)
    replace X2 := Lib.hid (X2.out.via hb)
    replace X6 := Lib.hid (X6.out.via hb)
    replace QS := Lib.hid (QS.out.via hb)
    replace X7 := Lib.hid (X7.out.via hb)
    replace QD := Lib.hid (QD.out.via hb)
    replace X8 := Lib.hid (X8.out.via hb)
    replace QP := Lib.hid (QP.out.via hb)
    replace X9 := Lib.hid (X9.out.via hb)
    replace QX := Lib.hid (QX.out.via hb)
    replace X10 := Lib.hid (X10.out.via hb)
    replace QY := Lib.hid (QY.out.via hb)
    replace X11 := Lib.hid (X11.out.via hb)
    replace QZ := Lib.hid (QZ.out.via hb)
    replace BX := Lib.hid (btr BX.out hb)
    have X12 := Lib.hid hX
    clear hb hX
    go_upto_region 11 with (fail)
    have QN := Lib.hid (Qd.new w9 _ rfl (.bool z12) (.slice A12 n12 c12) (.bool false) (.slice B12 m12 d12) 29)
    replace Q0 := Lib.hid (Q0.out.alloc (.cells #[.bool z12, .slice A12 n12 c12, .bool false, .slice B12 m12 d12] 29))
    replace Q1 := Lib.hid (Q1.out.alloc (.cells #[.bool z12, .slice A12 n12 c12, .bool false, .slice B12 m12 d12] 29))
    replace Q2 := Lib.hid (Q2.out.alloc (.cells #[.bool z12, .slice A12 n12 c12, .bool false, .slice B12 m12 d12] 29))
    replace X0 := Lib.hid (X0.out.alloc (.cells #[.bool z12, .slice A12 n12 c12, .bool false, .slice B12 m12 d12] 29))
    replace X1 := Lib.hid (X1.out.alloc (.cells #[.bool z12, .slice A12 n12 c12, .bool false, .slice B12 m12 d12] 29))
    replace X2 := Lib.hid (X2.out.alloc (.cells #[.bool z12, .slice A12 n12 c12, .bool false, .slice B12 m12 d12] 29))
    replace X6 := Lib.hid (X6.out.alloc (.cells #[.bool z12, .slice A12 n12 c12, .bool false, .slice B12 m12 d12] 29))
    replace QS := Lib.hid (QS.out.alloc (.cells #[.bool z12, .slice A12 n12 c12, .bool false, .slice B12 m12 d12] 29))
    replace X7 := Lib.hid (X7.out.alloc (.cells #[.bool z12, .slice A12 n12 c12, .bool false, .slice B12 m12 d12] 29))
    replace QD := Lib.hid (QD.out.alloc (.cells #[.bool z12, .slice A12 n12 c12, .bool false, .slice B12 m12 d12] 29))
    replace X8 := Lib.hid (X8.out.alloc (.cells #[.bool z12, .slice A12 n12 c12, .bool false, .slice B12 m12 d12] 29))
    replace QP := Lib.hid (QP.out.alloc (.cells #[.bool z12, .slice A12 n12 c12, .bool false, .slice B12 m12 d12] 29))
    replace X9 := Lib.hid (X9.out.alloc (.cells #[.bool z12, .slice A12 n12 c12, .bool false, .slice B12 m12 d12] 29))
    replace QX := Lib.hid (QX.out.alloc (.cells #[.bool z12, .slice A12 n12 c12, .bool false, .slice B12 m12 d12] 29))
    replace X10 := Lib.hid (X10.out.alloc (.cells #[.bool z12, .slice A12 n12 c12, .bool false, .slice B12 m12 d12] 29))
    replace QY := Lib.hid (QY.out.alloc (.cells #[.bool z12, .slice A12 n12 c12, .bool false, .slice B12 m12 d12] 29))
    replace X11 := Lib.hid (X11.out.alloc (.cells #[.bool z12, .slice A12 n12 c12, .bool false, .slice B12 m12 d12] 29))
    replace QZ := Lib.hid (QZ.out.alloc (.cells #[.bool z12, .slice A12 n12 c12, .bool false, .slice B12 m12 d12] 29))
    replace X12 := Lib.hid (X12.out.alloc (.cells #[.bool z12, .slice A12 n12 c12, .bool false, .slice B12 m12 d12] 29))
    replace BX := Lib.hid (below_alloc BX.out (.cells #[.bool z12, .slice A12 n12 c12, .bool false, .slice B12 m12 d12] 29))
    generalize w9.heap.size = gQN at *
    generalize w9.alloc (.cells #[.bool z12, .slice A12 n12 c12, .bool false, .slice B12 m12 d12] 29) = V9 at *
    have ⟨fa0, fa1, fa2, fa3, fa4, fa5, fa6, fa7, fa8⟩ := QN.out
    have ⟨fb0, fb1, fb2, fb3, fb4, fb5, fb6, fb7, fb8⟩ := Q0.out
    go_wp2_with fail
    clear fa0 fa1 fa2 fa3 fa4 fa5 fa6 fa7 fa8
    clear fb0 fb1 fb2 fb3 fb4 fb5 fb6 fb7 fb8
    refine (fadd_w X12.out X0.out (by omega)).mono ?_
    rintro e w10 ⟨z13, A13, n13, c13, B13, m13, d13, rfl, hX, hb⟩
    replace Q0 := Lib.hid (Q0.out.via hb)
    replace Q1 := Lib.hid (Q1.out.via hb)
    replace Q2 := Lib.hid (Q2.out.via hb)
    replace X0 := Lib.hid (X0.out.via hb)
    replace X1 := Lib.hid (X1.out.via hb)
    replace X2 := Lib.hid (X2.out.via hb)
    replace X6 := Lib.hid (X6.out.via hb)
    replace QS := Lib.hid (QS.out.via hb)
    replace X7 := Lib.hid (X7.out.via hb)
    replace QD := Lib.hid (QD.out.via hb)
    replace X8 := Lib.hid (X8.out.via hb)
    replace QP := Lib.hid (QP.out.via hb)
    replace X9 := Lib.hid (X9.out.via hb)
    replace QX := Lib.hid (QX.out.via hb)
    replace X10 := Lib.hid (X10.out.via hb)
    replace QY := Lib.hid (QY.out.via hb)
    replace X11 := Lib.hid (X11.out.via hb)
    replace QZ := Lib.hid (QZ.out.via hb)
    replace X12 := Lib.hid (X12.out.via hb)
    replace QN := Lib.hid (QN.out.via hb)
    replace BX := Lib.hid (btr BX.out hb)
    have X13 := Lib.hid hX
    clear hb hX
    go_upto_region 12 with (fail)
    have QO := Lib.hid (Qd.new w10 _ rfl (.bool z13) (.slice A13 n13 c13) (.bool false) (.slice B13 m13 d13) 29)
    replace Q0 := Lib.hid (Q0.out.alloc (.cells #[.bool z13, .slice A13 n13 c13, .bool false, .slice B13 m13 d13] 29))
    replace Q1 := Lib.hid (Q1.out.alloc (.cells #[.bool z13, .slice A13 n13 c13, .bool false, .slice B13 m13 d13] 29))
    replace Q2 := Lib.hid (Q2.out.alloc (.cells #[.bool z13, .slice A13 n13 c13, .bool false, .slice B13 m13 d13] 29))
    replace X0 := Lib.hid (X0.out.alloc (.cells #[.bool z13, .slice A13 n13 c13, .bool false, .slice B13 m13 d13] 29))
    replace X1 := Lib.hid (X1.out.alloc (.cells #[.bool z13, .slice A13 n13 c13, .bool false, .slice B13 m13 d13] 29))
    replace X2 := Lib.hid (X2.out.alloc (.cells #[.bool z13, .slice A13 n13 c13, .bool false, .slice B13 m13 d13] 29))
    replace X6 := Lib.hid (X6.out.alloc (.cells #[.bool z13, .slice A13 n13 c13, .bool false, .slice B13 m13 d13] 29))
    replace QS := Lib.hid (QS.out.alloc (.cells #[.bool z13, .slice A13 n13 c13, .bool false, .slice B13 m13 d13] 29))
    replace X7 := Lib.hid (X7.out.alloc (.cells #[.bool z13, .slice A13 n13 c13, .bool false, .slice B13 m13 d13] 29))
    replace QD := Lib.hid (QD.out.alloc (.cells #[.bool z13, .slice A13 n13 c13, .bool false, .slice B13 m13 d13] 29))
    replace X8 := Lib.hid (X8.out.alloc (.cells #[.bool z13, .slice A13 n13 c13, .bool false, .slice B13 m13 d13] 29))
    replace QP := Lib.hid (QP.out.alloc (.cells #[.bool z13, .slice A13 n13 c13, .bool false, .slice B13 m13 d13] 29))
    replace X9 := Lib.hid (X9.out.alloc (.cells #[.bool z13, .slice A13 n13 c13, .bool false, .slice B13 m13 d13] 29))
    replace QX := Lib.hid (QX.out.alloc (.cells #[.bool z13, .slice A13 n13 c13, .bool false, .slice B13 m13 d13] 29))
    replace X10 := Lib.hid (X10.out.alloc (.cells #[.bool z13, .slice A13 n13 c13, .bool false, .slice B13 m13 d13] 29))
    replace QY := Lib.hid (QY.out.alloc (.cells #[.bool z13, .slice A13 n13 c13, .bool false, .slice B13 m13 d13] 29))
    replace X11 := Lib.hid (X11.out.alloc (.cells #[.bool z13, .slice A13 n13 c13, .bool false, .slice B13 m13 d13] 29))
    replace QZ := Lib.hid (QZ.out.alloc (.cells #[.bool z13, .slice A13 n13 c13, .bool false, .slice B13 m13 d13] 29))
    replace X12 := Lib.hid (X12.out.alloc (.cells #[.bool z13, .slice A13 n13 c13, .bool false, .slice B13 m13 d13] 29))
    replace QN := Lib.hid (QN.out.alloc (.cells #[.bool z13, .slice A13 n13 c13, .bool false, .slice B13 m13 d13] 29))
    replace X13 := Lib.hid (X13.out.alloc (.cells #[.bool z13, .slice A13 n13 c13, .bool false, .slice B13 m13 d13] 29))
    replace BX := Lib.hid (below_alloc BX.out (.cells #[.bool z13, .slice A13 n13 c13, .bool false, .slice B13 m13 d13] 29))
    generalize w10.heap.size = gQO at *
    generalize w10.alloc (.cells #[.bool z13, .slice A13 n13 c13, .bool false, .slice B13 m13 d13] 29) = V10 at *
    clear X6 X9 X10 X12 QS QX QY QN
    have ⟨fa0, fa1, fa2, fa3, fa4, fa5, fa6, fa7, fa8⟩ := QD.out
    have ⟨fb0, fb1, fb2, fb3, fb4, fb5, fb6, fb7, fb8⟩ := Q0.out
    go_wp2_with fail
    clear fa0 fa1 fa2 fa3 fa4 fa5 fa6 fa7 fa8
    clear fb0 fb1 fb2 fb3 fb4 fb5 fb6 fb7 fb8
    refine (fsame_w X7.out X0.out (Int.mul_ne_zero (Int.mul_ne_zero HPn.out HQn.out) HQn.out) HPn.out (by grind)).mono ?_
    rintro e w11 ⟨rfl, hb⟩
    replace Q0 := Lib.hid (Q0.out.via hb)
    replace Q1 := Lib.hid (Q1.out.via hb)
    replace Q2 := Lib.hid (Q2.out.via hb)
    replace X0 := Lib.hid (X0.out.via hb)
    replace X1 := Lib.hid (X1.out.via hb)
    replace X2 := Lib.hid (X2.out.via hb)
    replace X7 := Lib.hid (X7.out.via hb)
    replace QD := Lib.hid (QD.out.via hb)
    replace X8 := Lib.hid (X8.out.via hb)
    replace QP := Lib.hid (QP.out.via hb)
    replace X11 := Lib.hid (X11.out.via hb)
    replace QZ := Lib.hid (QZ.out.via hb)
    replace X13 := Lib.hid (X13.out.via hb)
    replace QO := Lib.hid (QO.out.via hb)
    replace BX := Lib.hid (btr BX.out hb)
    clear hb
    have ⟨fa0, fa1, fa2, fa3, fa4, fa5, fa6, fa7, fa8⟩ := QP.out
    have ⟨fb0, fb1, fb2, fb3, fb4, fb5, fb6, fb7, fb8⟩ := QZ.out
    go_wp2_with fail
    clear fa0 fa1 fa2 fa3 fa4 fa5 fa6 fa7 fa8
    clear fb0 fb1 fb2 fb3 fb4 fb5 fb6 fb7 fb8
    refine (fsame_w X8.out X11.out (Int.mul_ne_zero (Int.mul_ne_zero HPn.out HQn.out) HRn.out) (Int.mul_ne_zero (Int.mul_ne_zero HQn.out HRn.out) (Int.mul_ne_zero HPn.out HRn.out)) (by grind)).mono ?_
    rintro e w12 ⟨rfl, hb⟩
    replace Q0 := Lib.hid (Q0.out.via hb)
    replace Q1 := Lib.hid (Q1.out.via hb)
    replace Q2 := Lib.hid (Q2.out.via hb)
    replace X0 := Lib.hid (X0.out.via hb)
    replace X1 := Lib.hid (X1.out.via hb)
    replace X2 := Lib.hid (X2.out.via hb)
    replace X7 := Lib.hid (X7.out.via hb)
    replace QD := Lib.hid (QD.out.via hb)
    replace X8 := Lib.hid (X8.out.via hb)
    replace QP := Lib.hid (QP.out.via hb)
    replace X11 := Lib.hid (X11.out.via hb)
    replace QZ := Lib.hid (QZ.out.via hb)
    replace X13 := Lib.hid (X13.out.via hb)
    replace QO := Lib.hid (QO.out.via hb)
    replace BX := Lib.hid (btr BX.out hb)
    clear hb
    have ⟨fa0, fa1, fa2, fa3, fa4, fa5, fa6, fa7, fa8⟩ := QO.out
    go_wp2_with fail
    clear fa0 fa1 fa2 fa3 fa4 fa5 fa6 fa7 fa8
    refine (lsame_w _ _ _ _ 0 1 _ _ _ _ _ _ _ X13.out (by decide) (by decide) (by decide) (by decide) (by decide) (Int.mul_ne_zero HPn.out HPn.out) (by
      rw [if_neg (by decide), Int.zero_mul]
      show (-x * P + x * P) * 1 = 0
      rw [Int.mul_one, Int.neg_mul]
      omega)).mono ?_
    rintro e w13 ⟨rfl, hb⟩
    replace Q0 := Lib.hid (Q0.out.via hb)
    replace Q1 := Lib.hid (Q1.out.via hb)
    replace Q2 := Lib.hid (Q2.out.via hb)
    replace X0 := Lib.hid (X0.out.via hb)
    replace X1 := Lib.hid (X1.out.via hb)
    replace X2 := Lib.hid (X2.out.via hb)
    replace X7 := Lib.hid (X7.out.via hb)
    replace QD := Lib.hid (QD.out.via hb)
    replace X8 := Lib.hid (X8.out.via hb)
    replace QP := Lib.hid (QP.out.via hb)
    replace X11 := Lib.hid (X11.out.via hb)
    replace QZ := Lib.hid (QZ.out.via hb)
    replace X13 := Lib.hid (X13.out.via hb)
    replace QO := Lib.hid (QO.out.via hb)
    replace BX := Lib.hid (btr BX.out hb)
    clear hb
    have HFC : Hid (∃ xs ys, Lm w13 w13.heap.size A8 n8 c8 xs ∧ Lm w13 w13.heap.size B8 m8 d8 ys ∧ fchk z8 xs false ys = 0) := by
      obtain ⟨p1, q1, e1, f1, i1, i2⟩ := X8.out
      exact ⟨_, _, i1, i2, by rw [← e1]; exact f1.ok⟩
    obtain ⟨xs1, ys1, i1, i2, hf1⟩ := HFC.out
    have I1 := Lib.hid i1
    have I2 := Lib.hid i2
    have HF1 := Lib.hid hf1
    clear HFC i1 i2 hf1
    have ⟨fa0, fa1, fa2, fa3, fa4, fa5, fa6, fa7, fa8⟩ := QP.out
    go_wp2_with fail
    clear fa0 fa1 fa2 fa3 fa4 fa5 fa6 fa7 fa8
    refine (rfcheck_any _ z8 false A8 B8 n8 m8 c8 d8 xs1 ys1 I1.out I2.out).mono ?_
    rintro e w14 ⟨rfl, hb⟩
    replace Q0 := Lib.hid (Q0.out.via hb)
    replace Q1 := Lib.hid (Q1.out.via hb)
    replace Q2 := Lib.hid (Q2.out.via hb)
    replace X0 := Lib.hid (X0.out.via hb)
    replace X1 := Lib.hid (X1.out.via hb)
    replace X2 := Lib.hid (X2.out.via hb)
    replace X7 := Lib.hid (X7.out.via hb)
    replace QD := Lib.hid (QD.out.via hb)
    replace X8 := Lib.hid (X8.out.via hb)
    replace QP := Lib.hid (QP.out.via hb)
    replace X11 := Lib.hid (X11.out.via hb)
    replace QZ := Lib.hid (QZ.out.via hb)
    replace X13 := Lib.hid (X13.out.via hb)
    replace QO := Lib.hid (QO.out.via hb)
    replace BX := Lib.hid (btr BX.out hb)
    clear hb
    rw [HF1.out]
    clear I1 I2 HF1
    clear X7 X8 X11 X13 QD QP QZ QO
    have hlr := HN1.out
    by_cases hy : y = 0
    · have X1z : Fw w14 20 0 Q nc C r cc D s cd := by
        have := X1.out
        rw [hy] at this
        exact this
      have hr0 : r = 0 := by rw [hlr, hy]; rfl
      subst hr0
      have HX1z := Lib.hid X1z
      clear X1z hy hlr
      have ⟨fa0, fa1, fa2, fa3, fa4, fa5, fa6, fa7, fa8⟩ := Q0.out
      have ⟨fb0, fb1, fb2, fb3, fb4, fb5, fb6, fb7, fb8⟩ := Q1.out
      go_wp2_with fail
      clear fa0 fa1 fa2 fa3 fa4 fa5 fa6 fa7 fa8
      clear fb0 fb1 fb2 fb3 fb4 fb5 fb6 fb7 fb8
      refine (fdiv_z X0.out HX1z.out (by omega) HQn.out).mono ?_
      rintro e w15 ⟨A30, n30, c30, B30, m30, d30, rfl, _, _, hb⟩
      replace Q0 := Lib.hid (Q0.out.via hb)
      replace Q1 := Lib.hid (Q1.out.via hb)
      replace Q2 := Lib.hid (Q2.out.via hb)
      replace X0 := Lib.hid (X0.out.via hb)
      replace X1 := Lib.hid (X1.out.via hb)
      replace X2 := Lib.hid (X2.out.via hb)
      replace BX := Lib.hid (btr BX.out hb)
      clear hb
      clear HX1z
      go_upto_region 17 with (fail)
      have QQ := Lib.hid (Qd.new w15 _ rfl (.bool false) (.slice A30 n30 c30) (.bool false) (.slice B30 m30 d30) 29)
      replace Q0 := Lib.hid (Q0.out.alloc (.cells #[.bool false, .slice A30 n30 c30, .bool false, .slice B30 m30 d30] 29))
      replace Q1 := Lib.hid (Q1.out.alloc (.cells #[.bool false, .slice A30 n30 c30, .bool false, .slice B30 m30 d30] 29))
      replace Q2 := Lib.hid (Q2.out.alloc (.cells #[.bool false, .slice A30 n30 c30, .bool false, .slice B30 m30 d30] 29))
      replace X0 := Lib.hid (X0.out.alloc (.cells #[.bool false, .slice A30 n30 c30, .bool false, .slice B30 m30 d30] 29))
      replace X1 := Lib.hid (X1.out.alloc (.cells #[.bool false, .slice A30 n30 c30, .bool false, .slice B30 m30 d30] 29))
      replace X2 := Lib.hid (X2.out.alloc (.cells #[.bool false, .slice A30 n30 c30, .bool false, .slice B30 m30 d30] 29))
      replace BX := Lib.hid (below_alloc BX.out (.cells #[.bool false, .slice A30 n30 c30, .bool false, .slice B30 m30 d30] 29))
      generalize w15.heap.size = gQQ at *
      generalize w15.alloc (.cells #[.bool false, .slice A30 n30 c30, .bool false, .slice B30 m30 d30] 29) = V15 at *
      have ⟨f0, f1, f2, f3, f4, f5, f6, f7, f8⟩ := Q1.out
      go_wp2
      go_ret
      exact ⟨rfl, BX.out⟩
    · have hr0 : 0 < r := by
        rw [hlr]
        exact List.length_pos_iff.2 (by rw [Ne, digs_nil]; omega)
      have hr1 : ((r : Int) == 0) = false := by simp; omega
      have hr2 : decide ((r : Int) = 0) = false := decide_eq_false (by omega)
      have hr3 : ¬ r = 0 := by omega
      have HY := Lib.hid hy
      clear hy hlr
      have ⟨fa0, fa1, fa2, fa3, fa4, fa5, fa6, fa7, fa8⟩ := Q0.out
      have ⟨fb0, fb1, fb2, fb3, fb4, fb5, fb6, fb7, fb8⟩ := Q1.out
      go_wp2_with fail
      clear fa0 fa1 fa2 fa3 fa4 fa5 fa6 fa7 fa8
      clear fb0 fb1 fb2 fb3 fb4 fb5 fb6 fb7 fb8
      refine (fdiv_w X0.out X1.out (by omega) HY.out).mono ?_
      rintro e w15 ⟨z40, A40, n40, c40, B40, m40, d40, rfl, hX, hb⟩
      replace Q0 := Lib.hid (Q0.out.via hb)
      replace Q1 := Lib.hid (Q1.out.via hb)
      replace Q2 := Lib.hid (Q2.out.via hb)
      replace X0 := Lib.hid (X0.out.via hb)
      replace X1 := Lib.hid (X1.out.via hb)
      replace X2 := Lib.hid (X2.out.via hb)
      replace BX := Lib.hid (btr BX.out hb)
      have X40 := Lib.hid hX
      clear hb hX
      go_upto_region 17 with (fail)
      have QQ := Lib.hid (Qd.new w15 _ rfl (.bool z40) (.slice A40 n40 c40) (.bool false) (.slice B40 m40 d40) 29)
      replace Q0 := Lib.hid (Q0.out.alloc (.cells #[.bool z40, .slice A40 n40 c40, .bool false, .slice B40 m40 d40] 29))
      replace Q1 := Lib.hid (Q1.out.alloc (.cells #[.bool z40, .slice A40 n40 c40, .bool false, .slice B40 m40 d40] 29))
      replace Q2 := Lib.hid (Q2.out.alloc (.cells #[.bool z40, .slice A40 n40 c40, .bool false, .slice B40 m40 d40] 29))
      replace X0 := Lib.hid (X0.out.alloc (.cells #[.bool z40, .slice A40 n40 c40, .bool false, .slice B40 m40 d40] 29))
      replace X1 := Lib.hid (X1.out.alloc (.cells #[.bool z40, .slice A40 n40 c40, .bool false, .slice B40 m40 d40] 29))
      replace X2 := Lib.hid (X2.out.alloc (.cells #[.bool z40, .slice A40 n40 c40, .bool false, .slice B40 m40 d40] 29))
      replace X40 := Lib.hid (X40.out.alloc (.cells #[.bool z40, .slice A40 n40 c40, .bool false, .slice B40 m40 d40] 29))
      replace BX := Lib.hid (below_alloc BX.out (.cells #[.bool z40, .slice A40 n40 c40, .bool false, .slice B40 m40 d40] 29))
      generalize w15.heap.size = gQQ at *
      generalize w15.alloc (.cells #[.bool z40, .slice A40 n40 c40, .bool false, .slice B40 m40 d40] 29) = V15 at *
      have ⟨fd0, fd1, fd2, fd3, fd4, fd5, fd6, fd7, fd8⟩ := Q1.out
      have ⟨fa0, fa1, fa2, fa3, fa4, fa5, fa6, fa7, fa8⟩ := QQ.out
      go_wp2_with fail
      clear fa0 fa1 fa2 fa3 fa4 fa5 fa6 fa7 fa8
      refine (fmul_w X40.out (X1.out.mono (by omega)) (by omega)).mono ?_
      rintro e w16 ⟨z41, A41, n41, c41, B41, m41, d41, rfl, hX, hb⟩
      replace Q0 := Lib.hid (Q0.out.via hb)
      replace Q1 := Lib.hid (Q1.out.via hb)
      replace Q2 := Lib.hid (Q2.out.via hb)
      replace X0 := Lib.hid (X0.out.via hb)
      replace X1 := Lib.hid (X1.out.via hb)
      replace X2 := Lib.hid (X2.out.via hb)
      replace X40 := Lib.hid (X40.out.via hb)
      replace QQ := Lib.hid (QQ.out.via hb)
      replace BX := Lib.hid (btr BX.out hb)
      have X41 := Lib.hid hX
      clear hb hX
      clear fd0 fd1 fd2 fd3 fd4 fd5 fd6 fd7 fd8
      go_upto_region 20 with (fail)
      have QU := Lib.hid (Qd.new w16 _ rfl (.bool z41) (.slice A41 n41 c41) (.bool false) (.slice B41 m41 d41) 29)
      replace Q0 := Lib.hid (Q0.out.alloc (.cells #[.bool z41, .slice A41 n41 c41, .bool false, .slice B41 m41 d41] 29))
      replace Q1 := Lib.hid (Q1.out.alloc (.cells #[.bool z41, .slice A41 n41 c41, .bool false, .slice B41 m41 d41] 29))
      replace Q2 := Lib.hid (Q2.out.alloc (.cells #[.bool z41, .slice A41 n41 c41, .bool false, .slice B41 m41 d41] 29))
      replace X0 := Lib.hid (X0.out.alloc (.cells #[.bool z41, .slice A41 n41 c41, .bool false, .slice B41 m41 d41] 29))
      replace X1 := Lib.hid (X1.out.alloc (.cells #[.bool z41, .slice A41 n41 c41, .bool false, .slice B41 m41 d41] 29))
      replace X2 := Lib.hid (X2.out.alloc (.cells #[.bool z41, .slice A41 n41 c41, .bool false, .slice B41 m41 d41] 29))
      replace X40 := Lib.hid (X40.out.alloc (.cells #[.bool z41, .slice A41 n41 c41, .bool false, .slice B41 m41 d41] 29))
      replace QQ := Lib.hid (QQ.out.alloc (.cells #[.bool z41, .slice A41 n41 c41, .bool false, .slice B41 m41 d41] 29))
      replace X41 := Lib.hid (X41.out.alloc (.cells #[.bool z41, .slice A41 n41 c41, .bool false, .slice B41 m41 d41] 29))
      replace BX := Lib.hid (below_alloc BX.out (.cells #[.bool z41, .slice A41 n41 c41, .bool false, .slice B41 m41 d41] 29))
      generalize w16.heap.size = gQU at *
      generalize w16.alloc (.cells #[.bool z41, .slice A41 n41 c41, .bool false, .slice B41 m41 d41] 29) = V16 at *
      have ⟨fa0, fa1, fa2, fa3, fa4, fa5, fa6, fa7, fa8⟩ := QU.out
      have ⟨fb0, fb1, fb2, fb3, fb4, fb5, fb6, fb7, fb8⟩ := Q0.out
      go_wp2_with fail
      clear fa0 fa1 fa2 fa3 fa4 fa5 fa6 fa7 fa8
      clear fb0 fb1 fb2 fb3 fb4 fb5 fb6 fb7 fb8
      refine (fsame_w X41.out X0.out (Int.mul_ne_zero (Int.mul_ne_zero HPn.out HY.out) HQn.out) HPn.out (by grind)).mono ?_
      rintro e w17 ⟨rfl, hb⟩
      replace Q0 := Lib.hid (Q0.out.via hb)
      replace Q1 := Lib.hid (Q1.out.via hb)
      replace Q2 := Lib.hid (Q2.out.via hb)
      replace X0 := Lib.hid (X0.out.via hb)
      replace X1 := Lib.hid (X1.out.via hb)
      replace X2 := Lib.hid (X2.out.via hb)
      replace X40 := Lib.hid (X40.out.via hb)
      replace QQ := Lib.hid (QQ.out.via hb)
      replace X41 := Lib.hid (X41.out.via hb)
      replace QU := Lib.hid (QU.out.via hb)
      replace BX := Lib.hid (btr BX.out hb)
      clear hb
      go_wp2
      go_ret
      exact ⟨rfl, BX.out⟩
end Go.Proofs.YtoigmcggkanncaaGreatDoor

namespace Go.Proofs.YtoigmcggkanncaaGreatDoor
open Go.ChangeShapes Go.WideShapes Go.ChangeAt Go.RowKit

set_option maxRecDepth 100000 in
theorem fracField_lifted (os : Os) (started : os.Started) (H : Type) (enc : TypeId × Value → H) :
    ReturnsInHanded {} Tryz.checked os 4 .any (fun w args => (Rows.fracFieldSpec.pre enc Tryz.prog Tryz.f4 [] false w args ∧ laidMetH Tryz.prog laid7 w) ∧ sizedMet enc Tryz.prog Tryz.f4 (OpenSpec.ofChange Rows.fracFieldSpec) false w args)
      (Rows.fracFieldSpec.post enc Tryz.prog Tryz.f4 false true false false) := by
  refine returnsInHanded_of_change_and (C := Tryz.checked) (X := fun w _ => laidMetH Tryz.prog laid7 w) (fun _ _ _ hh h => h.of_heap hh) own started (by kernel_rfl) Tryz.func4
    (ChangeSpec.witness_shaped (enc := enc) (C := Tryz.checked) (os := os) (X := fun w _ => laidMetH Tryz.prog laid7 w) false (World.laidAll Tryz.prog os laid7) #[.agg #[.bool false, .slice none 0 0, .bool false, .slice none 0 0], .agg #[.bool false, .slice none 0 0, .bool false, .slice none 0 0], .agg #[.bool false, .slice none 0 0, .bool false, .slice none 0 0]] 8 (World.laidAll_os _ _ _) (World.shaped_of_ZipB (by kernel_rfl) (by kernel_rfl)) (by kernel_rfl) (by kernel_rfl) (by kernel_rfl) (by rw [MakeChecks.laidMetH_plain _ _ _ (by kernel_rfl)]; exact laidMet_laidAll _ (by kernel_rfl) (by kernel_rfl))) ?_
  intro W base args ds gs before hval0 hW _ _ hL _
  have hTU := tabU_of hL
  have hval : ∀ (j : Nat) t v, Tryz.f4.params[j]? = some t → args[j]? = some v → Value.okWide Tryz.prog W .any base t v := hval0
  have hW' := hW
  obtain ⟨p, q, hA0, hV, rfl, hfz, hnd⟩ := hW
  have hA : DataW.TrodAll enc Tryz.prog W 0 (fun _ => true) true Tryz.f4.params.toList args.toList ds p := hA0
  rw [Tryz.params4] at hA hval
  obtain ⟨v0, v1, v2, d0, d1, d2, p0, p1, p2, rfl, rfl, rfl, h0, h1, h2⟩ := trodAll_three hA
  obtain ⟨rfl, rfl⟩ := trodVars_none hV
  clear hA0 hval0
  simp only [List.append_nil] at hW'
  have hlt : ∀ x ∈ p0 ++ (p1 ++ p2), x.block < W.heap.size := fun x hx => by simpa using hW'.lt x (by rw [List.append_assoc]; exact hx)
  have hlt0 : ∀ x ∈ p0, x.block < W.heap.size := fun x hx => hlt x (List.mem_append_left _ hx)
  have hlt1 : ∀ x ∈ p1, x.block < W.heap.size := fun x hx => hlt x (List.mem_append_right _ (List.mem_append_left _ hx))
  have hlt2 : ∀ x ∈ p2, x.block < W.heap.size := fun x hx => hlt x (List.mem_append_right _ (List.mem_append_right _ hx))
  obtain ⟨na, A, n, ca, xs, nb, B, m, cb, ys, rfl, hLA, hLB⟩ := open_frac (hval 0 29 v0 rfl rfl) h0 hlt0
  obtain ⟨nc, C, r, cc, us, nd, D, s, cd, vs, rfl, hLC, hLD⟩ := open_frac (hval 1 29 v1 rfl rfl) h1 hlt1
  obtain ⟨ne, E, i, ce, ps, nf, F, j, cf, qs, rfl, hLE, hLF⟩ := open_frac (hval 2 29 v2 rfl rfl) h2 hlt2
  refine (field_any W na nb nc nd ne nf A B C D E F n m r s i j ca cb cc cd ce cf xs ys us vs ps qs hLA hLB hLC hLD hLE hLF hTU).mono fun e W' ⟨he, hb⟩ => ?_
  subst he
  rw [List.append_assoc] at hW'
  exact ⟨_, rfl, _, _, _, [], p0 ++ (p1 ++ p2), [], hW', trodAll_mk1 (shut_bool Tryz.underlying4 _),
    trodAll_mk3 (Below.trod laidOut (by kernel_rfl) (of_decide_eq_true (by kernel_rfl)) h0 hb hlt0) (Below.trod laidOut (by kernel_rfl) (of_decide_eq_true (by kernel_rfl)) h1 hb hlt1) (Below.trod laidOut (by kernel_rfl) (of_decide_eq_true (by kernel_rfl)) h2 hb hlt2), rfl, hb.frame _, fun h => by cases h⟩

theorem fracField_row : Rows.FracFieldSaid :=
  OpenClaim.holds_of_wide 4 Tryz.f4 rfl rfl rfl rfl rfl rfl rfl ⟨rfl, rfl, rfl, rfl, rfl⟩ rfl rfl rfl rfl rfl (by kernel_rfl) Tryz.func4 (by kernel_rfl)
    (of_decide_eq_true (by kernel_rfl)) (by unfold Func.isWrapper; first | (rw [if_pos (by decide +kernel)]; kernel_rfl) | (rw [if_neg (by decide +kernel)]; exact ⟨rfl, rfl⟩))
    (fun os started H enc _ => fracField_lifted os started H enc)

theorem fracField_holds : Rows.FracFieldCardSaid :=
  Claim7.holds_tied_plain_at .later [] [.data, .data, .data, .data, .sentinel, .sentinel, .pinned] true (Rows.fracFieldCard.stood.harness) true
    fracField_row (fun _ h => by cases h) (by kernel_rfl) (fun _ h => by cases h) fracField_row_tie rfl ⟨rfl, rfl⟩ (by kernel_rfl) rfl
    (fun f fn hf hfn => by
      obtain rfl : f = 4 := Option.some.inj ((show Tryz.prog.funcNamed "planisphere/planispherelaw02.FracField" = some 4 by kernel_rfl).symm.trans hf) |>.symm
      obtain rfl : fn = Tryz.f4 := (Option.some.inj (Tryz.func4.symm.trans hfn)).symm
      exact ⟨by kernel_rfl, fun j t ht => by
        rw [Tryz.params4] at ht
        have hm : t ∈ [29, 29, 29] := by simpa using Array.mem_of_getElem? ht
        have hall : ([29, 29, 29].all fun u => !Tryz.prog.wantsStandIn u) = true := by kernel_rfl
        exact (show Tryz.prog.wantsStandIn t = false by simpa using List.all_eq_true.1 hall t hm)⟩)
    (by kernel_rfl)
end Go.Proofs.YtoigmcggkanncaaGreatDoor

