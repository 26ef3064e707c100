
/-
  For any fraction a and number of digits the law FracBack returns true: where a is valid and of at most 15 limbs, Parse of package frac reads the text that Text returns as a (unless it is longer than 200 bytes), and the decimal that Decimal returns as a fraction that is at most half a unit of the last digit away from a; and the chapter's examples hold. Conditions: the library's table of powers of ten holds what its initialiser lays (the card ties it, and the other listed variables, to the program's text); no other condition.
-/
import Derived.Test.YtkendkbicafdgaaGreatDoorTie
import Derived.Test.YtkendkbicafdgaaGreatDoorCards
import Derived.Test.YtkendkbicafdgaaGreatDoorFBack9
/- Law 02: alive. -/
namespace Go.Proofs.YtkendkbicafdgaaGreatDoor
open Go.RowKit

theorem fw_closed {w : World} {k : Nat} {u v : Int} {z : Bool} {A : Option Addr} {n c : Nat} {B : Option Addr} {m cb : Nat} (X : Fw w k u v z A n c B m cb) {p q : Int} (h : FrV k p q u v) (hv : v ≠ 0) : decide (p < 0) = z ∧ Lm w w.heap.size A n c (digs p.natAbs) ∧ Lm w w.heap.size B m cb (digs q.natAbs) := by
  obtain ⟨x, y, h1, f, h3, h4⟩ := X
  obtain ⟨rfl, rfl⟩ := frv_uniq f h hv hv rfl
  exact ⟨h1, h3, h4⟩
theorem fr_m32 : FrV 2 (-3) 2 (-3) 2 := ⟨by decide, by decide, by decide +kernel, by unfold Sz; decide, by unfold Sz; decide⟩
theorem fr_52 : FrV 2 (5) 2 (5) 2 := ⟨by decide, by decide, by decide +kernel, by unfold Sz; decide, by unfold Sz; decide⟩
theorem fr_m72 : FrV 2 (-7) 2 (-7) 2 := ⟨by decide, by decide, by decide +kernel, by unfold Sz; decide, by unfold Sz; decide⟩
theorem fr_252 : FrV 2 (25) 2 (25) 2 := ⟨by decide, by decide, by decide +kernel, by unfold Sz; decide, by unfold Sz; decide⟩
theorem fr_m12 : FrV 2 (-1) 2 (-1) 2 := ⟨by decide, by decide, by decide +kernel, by unfold Sz; decide, by unfold Sz; decide⟩
theorem fr_23 : FrV 2 (2) 3 (2) 3 := ⟨by decide, by decide, by decide +kernel, by unfold Sz; decide, by unfold Sz; decide⟩
theorem fr_m1000 : FrV 2 (-1) 1000 (-1) 1000 := ⟨by decide, by decide, by decide +kernel, by unfold Sz; decide, by unfold Sz; decide⟩
theorem lpart_c (w : World) (a b : Int) (ha1 : -9223372036854775808 ≤ a) (ha2 : a ≤ 9223372036854775807) (hb1 : 0 < b) (hb2 : b ≤ 9223372036854775807) : Calls Tryz.prog 17 #[.int .i64 a, .int .i64 b] w (RFp w 2 a b) := by
  have h := lpart_w w a b ha1 ha2 (by omega) hb2 (by omega)
  rw [if_neg (by omega), show (b.natAbs : Int) = b by omega] at h
  exact h
theorem al_floor {w : World} {z : Bool} {A : Option Addr} {n c : Nat} {B : Option Addr} {m cb : Nat} (X : Fw w 2 (-3) 2 z A n c B m cb) : Calls Tryz.prog 21 #[fv z A n c false B m cb] w (RN w (-2)) := by
  obtain ⟨h1, h2, h3⟩ := fw_closed X fr_m32 (by decide)
  exact ffloor_n w A B n m c cb 2 (-3) 2 h2 h3 fr_m32.sp fr_m32.sq (by omega) (by omega) h1 (by decide) (h1 ▸ fr_m32.ok)
theorem al_round {w : World} {z : Bool} {A : Option Addr} {n c : Nat} {B : Option Addr} {m cb : Nat} (X : Fw w 2 5 2 z A n c B m cb) : Calls Tryz.prog 22 #[fv z A n c false B m cb] w (RN w 2) := by
  obtain ⟨h1, h2, h3⟩ := fw_closed X fr_52 (by decide)
  have h := fround_n w A B n m c cb 2 5 2 h2 h3 fr_52.sp fr_52.sq (by omega) (by omega) h1 (by decide) (h1 ▸ fr_52.ok)
  rw [show rndZ 5 2 = 2 by decide] at h
  exact h
theorem al_round2 {w : World} {z : Bool} {A : Option Addr} {n c : Nat} {B : Option Addr} {m cb : Nat} (X : Fw w 2 (-7) 2 z A n c B m cb) : Calls Tryz.prog 22 #[fv z A n c false B m cb] w (RN w (-4)) := by
  obtain ⟨h1, h2, h3⟩ := fw_closed X fr_m72 (by decide)
  have h := fround_n w A B n m c cb 2 (-7) 2 h2 h3 fr_m72.sp fr_m72.sq (by omega) (by omega) h1 (by decide) (h1 ▸ fr_m72.ok)
  rw [show rndZ (-7) 2 = -4 by decide] at h
  exact h
theorem al_parse1 (w : World) : Calls Tryz.prog 9 #[.string ⟨#[49, 46, 50, 53, 101, 49]⟩] w (RFw w 2 25 2) := by
  have h := fparse_any w [49, 46, 50, 53, 101, 49] (by decide)
  rw [show prP [49, 46, 50, 53, 101, 49] = 25 by decide +kernel, show prQ [49, 46, 50, 53, 101, 49] = 2 by decide +kernel, show prE [49, 46, 50, 53, 101, 49] = 0 by decide +kernel] at h
  exact h.mono fun e w' hr => rfe_rfw fr_252 hr
theorem al_parse2 (w : World) : Calls Tryz.prog 9 #[.string ⟨#[45, 50, 47, 52]⟩] w (RFw w 2 (-1) 2) := by
  have h := fparse_any w [45, 50, 47, 52] (by decide)
  rw [show prP [45, 50, 47, 52] = -1 by decide +kernel, show prQ [45, 50, 47, 52] = 2 by decide +kernel, show prE [45, 50, 47, 52] = 0 by decide +kernel] at h
  exact h.mono fun e w' hr => rfe_rfw fr_m12 hr
theorem al_dec1 {w : World} {z : Bool} {A : Option Addr} {n c : Nat} {B : Option Addr} {m cb : Nat} (X : Fw w 2 2 3 z A n c B m cb) (hU : TabU w) : Calls Tryz.prog 11 #[fv z A n c false B m cb, .int .i64 3] w (RSE w ⟨#[48, 46, 54, 54, 55]⟩ 0) := by
  obtain ⟨h1, h2, h3⟩ := fw_closed X fr_23 (by decide)
  have h := fdecimal_n w A B n m c cb 2 3 2 3 h2 h3 fr_23.sp fr_23.sq (by omega) (by omega) (by omega) (by decide) hU h1 (h1 ▸ fr_23.ok)
  rw [show decT 2 3 3 = [48, 46, 54, 54, 55] by decide +kernel] at h
  exact h
theorem al_dec2 {w : World} {z : Bool} {A : Option Addr} {n c : Nat} {B : Option Addr} {m cb : Nat} (X : Fw w 2 (-1) 1000 z A n c B m cb) (hU : TabU w) : Calls Tryz.prog 11 #[fv z A n c false B m cb, .int .i64 2] w (RSE w ⟨#[48, 46, 48, 48]⟩ 0) := by
  obtain ⟨h1, h2, h3⟩ := fw_closed X fr_m1000 (by decide)
  have h := fdecimal_n w A B n m c cb 2 2 (-1) 1000 h2 h3 fr_m1000.sp fr_m1000.sq (by omega) (by omega) (by omega) (by decide) hU h1 (h1 ▸ fr_m1000.ok)
  rw [show decT (-1) 1000 2 = [48, 46, 48, 48] by decide +kernel] at h
  exact h
set_option maxRecDepth 100000 in
set_option maxHeartbeats 8000000 in
theorem lalive_w (w : World) (hU : TabU w) : Calls Tryz.prog 4 #[] w (RBw w true) := by
  have BX : Hid (Below w.heap.size w w) := Below.refl _ _
  have TU := Lib.hid hU
  clear hU
  go_enter Tryz.func4, Tryz.ntmps4
  go_wp2_with fail
  refine (of_w _ 6 (-4) (by decide) (by decide) (by decide) (by decide) (by decide)).mono ?_
  rintro e w1 ⟨z1, A1, n1, c1, B1, m1, d1, rfl, hX, hb⟩
  replace BX := Lib.hid (btr BX.out hb)
  replace TU := Lib.hid (TU.out.via hb)
  have X1 := Lib.hid hX
  clear hb hX
  go_upto_region 2 with (fail)
  have Q1 := Lib.hid (Qd.new w1 _ rfl (.bool z1) (.slice A1 n1 c1) (.bool false) (.slice B1 m1 d1) 26)
  replace X1 := Lib.hid (X1.out.alloc (.cells #[.bool z1, .slice A1 n1 c1, .bool false, .slice B1 m1 d1] 26))
  replace BX := Lib.hid (below_alloc BX.out (.cells #[.bool z1, .slice A1 n1 c1, .bool false, .slice B1 m1 d1] 26))
  replace TU := Lib.hid (TU.out.box (.cells #[.bool z1, .slice A1 n1 c1, .bool false, .slice B1 m1 d1] 26))
  generalize w1.heap.size = gQ1 at *
  generalize w1.alloc (.cells #[.bool z1, .slice A1 n1 c1, .bool false, .slice B1 m1 d1] 26) = V1 at *
  go_wp2_with fail
  refine (lpart_c _ 1 2 (by decide) (by decide) (by decide) (by decide)).mono ?_
  rintro e w2 ⟨z2, A2, n2, c2, B2, m2, d2, rfl, hX, hb⟩
  replace X1 := Lib.hid (X1.out.via hb)
  replace Q1 := Lib.hid (Q1.out.via hb)
  replace BX := Lib.hid (btr BX.out hb)
  replace TU := Lib.hid (TU.out.via hb)
  have X2 := Lib.hid hX
  clear hb hX
  go_wp2_with fail
  refine (lpart_c _ 1 3 (by decide) (by decide) (by decide) (by decide)).mono ?_
  rintro e w3 ⟨z3, A3, n3, c3, B3, m3, d3, rfl, hX, hb⟩
  replace X1 := Lib.hid (X1.out.via hb)
  replace Q1 := Lib.hid (Q1.out.via hb)
  replace X2 := Lib.hid (X2.out.via hb)
  replace BX := Lib.hid (btr BX.out hb)
  replace TU := Lib.hid (TU.out.via hb)
  have X3 := Lib.hid hX
  clear hb hX
  go_wp2_with fail
  refine (fadd_w X2.out X3.out (by omega)).mono ?_
  rintro e w4 ⟨z4, A4, n4, c4, B4, m4, d4, rfl, hX, hb⟩
  replace X1 := Lib.hid (X1.out.via hb)
  replace Q1 := Lib.hid (Q1.out.via hb)
  replace X2 := Lib.hid (X2.out.via hb)
  replace X3 := Lib.hid (X3.out.via hb)
  replace BX := Lib.hid (btr BX.out hb)
  replace TU := Lib.hid (TU.out.via hb)
  have X4 := Lib.hid hX
  clear hb hX
  clear X2 X3
  go_upto_region 3 with (fail)
  have Q4 := Lib.hid (Qd.new w4 _ rfl (.bool z4) (.slice A4 n4 c4) (.bool false) (.slice B4 m4 d4) 26)
  replace X1 := Lib.hid (X1.out.alloc (.cells #[.bool z4, .slice A4 n4 c4, .bool false, .slice B4 m4 d4] 26))
  replace Q1 := Lib.hid (Q1.out.alloc (.cells #[.bool z4, .slice A4 n4 c4, .bool false, .slice B4 m4 d4] 26))
  replace X4 := Lib.hid (X4.out.alloc (.cells #[.bool z4, .slice A4 n4 c4, .bool false, .slice B4 m4 d4] 26))
  replace BX := Lib.hid (below_alloc BX.out (.cells #[.bool z4, .slice A4 n4 c4, .bool false, .slice B4 m4 d4] 26))
  replace TU := Lib.hid (TU.out.box (.cells #[.bool z4, .slice A4 n4 c4, .bool false, .slice B4 m4 d4] 26))
  generalize w4.heap.size = gQ4 at *
  generalize w4.alloc (.cells #[.bool z4, .slice A4 n4 c4, .bool false, .slice B4 m4 d4] 26) = V4 at *
  go_wp2_with fail
  refine (lpart_c _ (-3) 2 (by decide) (by decide) (by decide) (by decide)).mono ?_
  rintro e w5 ⟨z5, A5, n5, c5, B5, m5, d5, rfl, hX, hb⟩
  replace X1 := Lib.hid (X1.out.via hb)
  replace Q1 := Lib.hid (Q1.out.via hb)
  replace X4 := Lib.hid (X4.out.via hb)
  replace Q4 := Lib.hid (Q4.out.via hb)
  replace BX := Lib.hid (btr BX.out hb)
  replace TU := Lib.hid (TU.out.via hb)
  have X5 := Lib.hid hX
  clear hb hX
  go_wp2_with fail
  refine (al_floor X5.out).mono ?_
  rintro e w6 ⟨A6, n6, c6, rfl, hL, hb⟩
  replace X1 := Lib.hid (X1.out.via hb)
  replace Q1 := Lib.hid (Q1.out.via hb)
  replace X4 := Lib.hid (X4.out.via hb)
  replace Q4 := Lib.hid (Q4.out.via hb)
  replace X5 := Lib.hid (X5.out.via hb)
  replace BX := Lib.hid (btr BX.out hb)
  replace TU := Lib.hid (TU.out.via hb)
  have L6 := Lib.hid hL
  clear hb hL
  clear X5
  go_upto_region 4 with (fail)
  have P6 := Lib.hid (Pr.new w6 _ rfl (.bool true) (.slice A6 n6 c6) 24)
  replace X1 := Lib.hid (X1.out.alloc (.cells #[.bool true, .slice A6 n6 c6] 24))
  replace Q1 := Lib.hid (Q1.out.alloc (.cells #[.bool true, .slice A6 n6 c6] 24))
  replace X4 := Lib.hid (X4.out.alloc (.cells #[.bool true, .slice A6 n6 c6] 24))
  replace Q4 := Lib.hid (Q4.out.alloc (.cells #[.bool true, .slice A6 n6 c6] 24))
  replace L6 := Lib.hid (L6.out.box (.cells #[.bool true, .slice A6 n6 c6] 24))
  replace BX := Lib.hid (below_alloc BX.out (.cells #[.bool true, .slice A6 n6 c6] 24))
  replace TU := Lib.hid (TU.out.box (.cells #[.bool true, .slice A6 n6 c6] 24))
  generalize w6.heap.size = gP6 at *
  generalize w6.alloc (.cells #[.bool true, .slice A6 n6 c6] 24) = V6 at *
  go_wp2_with fail
  refine (lpart_c _ 5 2 (by decide) (by decide) (by decide) (by decide)).mono ?_
  rintro e w7 ⟨z7, A7, n7, c7, B7, m7, d7, rfl, hX, hb⟩
  replace X1 := Lib.hid (X1.out.via hb)
  replace Q1 := Lib.hid (Q1.out.via hb)
  replace X4 := Lib.hid (X4.out.via hb)
  replace Q4 := Lib.hid (Q4.out.via hb)
  replace L6 := Lib.hid (L6.out.via hb)
  replace P6 := Lib.hid (P6.out.via hb)
  replace BX := Lib.hid (btr BX.out hb)
  replace TU := Lib.hid (TU.out.via hb)
  have X7 := Lib.hid hX
  clear hb hX
  go_wp2_with fail
  refine (al_round X7.out).mono ?_
  rintro e w8 ⟨A8, n8, c8, rfl, hL, hb⟩
  replace X1 := Lib.hid (X1.out.via hb)
  replace Q1 := Lib.hid (Q1.out.via hb)
  replace X4 := Lib.hid (X4.out.via hb)
  replace Q4 := Lib.hid (Q4.out.via hb)
  replace L6 := Lib.hid (L6.out.via hb)
  replace P6 := Lib.hid (P6.out.via hb)
  replace X7 := Lib.hid (X7.out.via hb)
  replace BX := Lib.hid (btr BX.out hb)
  replace TU := Lib.hid (TU.out.via hb)
  have L8 := Lib.hid hL
  clear hb hL
  clear X7
  go_upto_region 5 with (fail)
  have P8 := Lib.hid (Pr.new w8 _ rfl (.bool false) (.slice A8 n8 c8) 24)
  replace X1 := Lib.hid (X1.out.alloc (.cells #[.bool false, .slice A8 n8 c8] 24))
  replace Q1 := Lib.hid (Q1.out.alloc (.cells #[.bool false, .slice A8 n8 c8] 24))
  replace X4 := Lib.hid (X4.out.alloc (.cells #[.bool false, .slice A8 n8 c8] 24))
  replace Q4 := Lib.hid (Q4.out.alloc (.cells #[.bool false, .slice A8 n8 c8] 24))
  replace L6 := Lib.hid (L6.out.box (.cells #[.bool false, .slice A8 n8 c8] 24))
  replace P6 := Lib.hid (P6.out.alloc (.cells #[.bool false, .slice A8 n8 c8] 24))
  replace L8 := Lib.hid (L8.out.box (.cells #[.bool false, .slice A8 n8 c8] 24))
  replace BX := Lib.hid (below_alloc BX.out (.cells #[.bool false, .slice A8 n8 c8] 24))
  replace TU := Lib.hid (TU.out.box (.cells #[.bool false, .slice A8 n8 c8] 24))
  generalize w8.heap.size = gP8 at *
  generalize w8.alloc (.cells #[.bool false, .slice A8 n8 c8] 24) = V8 at *
  go_wp2_with fail
  refine (lpart_c _ (-7) 2 (by decide) (by decide) (by decide) (by decide)).mono ?_
  rintro e w9 ⟨z9, A9, n9, c9, B9, m9, d9, rfl, hX, hb⟩
  replace X1 := Lib.hid (X1.out.via hb)
  replace Q1 := Lib.hid (Q1.out.via hb)
  replace X4 := Lib.hid (X4.out.via hb)
  replace Q4 := Lib.hid (Q4.out.via hb)
  replace L6 := Lib.hid (L6.out.via hb)
  replace P6 := Lib.hid (P6.out.via hb)
  replace L8 := Lib.hid (L8.out.via hb)
  replace P8 := Lib.hid (P8.out.via hb)
  replace BX := Lib.hid (btr BX.out hb)
  replace TU := Lib.hid (TU.out.via hb)
  have X9 := Lib.hid hX
  clear hb hX
  go_wp2_with fail
  refine (al_round2 X9.out).mono ?_
  rintro e w10 ⟨A10, n10, c10, rfl, hL, hb⟩
  replace X1 := Lib.hid (X1.out.via hb)
  replace Q1 := Lib.hid (Q1.out.via hb)
  replace X4 := Lib.hid (X4.out.via hb)
  replace Q4 := Lib.hid (Q4.out.via hb)
  replace L6 := Lib.hid (L6.out.via hb)
  replace P6 := Lib.hid (P6.out.via hb)
  replace L8 := Lib.hid (L8.out.via hb)
  replace P8 := Lib.hid (P8.out.via hb)
  replace X9 := Lib.hid (X9.out.via hb)
  replace BX := Lib.hid (btr BX.out hb)
  replace TU := Lib.hid (TU.out.via hb)
  have L10 := Lib.hid hL
  clear hb hL
  clear X9
  go_upto_region 6 with (fail)
  have P10 := Lib.hid (Pr.new w10 _ rfl (.bool true) (.slice A10 n10 c10) 24)
  replace X1 := Lib.hid (X1.out.alloc (.cells #[.bool true, .slice A10 n10 c10] 24))
  replace Q1 := Lib.hid (Q1.out.alloc (.cells #[.bool true, .slice A10 n10 c10] 24))
  replace X4 := Lib.hid (X4.out.alloc (.cells #[.bool true, .slice A10 n10 c10] 24))
  replace Q4 := Lib.hid (Q4.out.alloc (.cells #[.bool true, .slice A10 n10 c10] 24))
  replace L6 := Lib.hid (L6.out.box (.cells #[.bool true, .slice A10 n10 c10] 24))
  replace P6 := Lib.hid (P6.out.alloc (.cells #[.bool true, .slice A10 n10 c10] 24))
  replace L8 := Lib.hid (L8.out.box (.cells #[.bool true, .slice A10 n10 c10] 24))
  replace P8 := Lib.hid (P8.out.alloc (.cells #[.bool true, .slice A10 n10 c10] 24))
  replace L10 := Lib.hid (L10.out.box (.cells #[.bool true, .slice A10 n10 c10] 24))
  replace BX := Lib.hid (below_alloc BX.out (.cells #[.bool true, .slice A10 n10 c10] 24))
  replace TU := Lib.hid (TU.out.box (.cells #[.bool true, .slice A10 n10 c10] 24))
  generalize w10.heap.size = gP10 at *
  generalize w10.alloc (.cells #[.bool true, .slice A10 n10 c10] 24) = V10 at *
  go_wp2_with fail
  refine (al_parse1 _).mono ?_
  rintro e w11 ⟨z11, A11, n11, c11, B11, m11, d11, rfl, hX, hb⟩
  replace X1 := Lib.hid (X1.out.via hb)
  replace Q1 := Lib.hid (Q1.out.via hb)
  replace X4 := Lib.hid (X4.out.via hb)
  replace Q4 := Lib.hid (Q4.out.via hb)
  replace L6 := Lib.hid (L6.out.via hb)
  replace P6 := Lib.hid (P6.out.via hb)
  replace L8 := Lib.hid (L8.out.via hb)
  replace P8 := Lib.hid (P8.out.via hb)
  replace L10 := Lib.hid (L10.out.via hb)
  replace P10 := Lib.hid (P10.out.via hb)
  replace BX := Lib.hid (btr BX.out hb)
  replace TU := Lib.hid (TU.out.via hb)
  have X11 := Lib.hid hX
  clear hb hX
  go_upto_region 7 with (fail)
  have Q11 := Lib.hid (Qd.new w11 _ rfl (.bool z11) (.slice A11 n11 c11) (.bool false) (.slice B11 m11 d11) 26)
  replace X1 := Lib.hid (X1.out.alloc (.cells #[.bool z11, .slice A11 n11 c11, .bool false, .slice B11 m11 d11] 26))
  replace Q1 := Lib.hid (Q1.out.alloc (.cells #[.bool z11, .slice A11 n11 c11, .bool false, .slice B11 m11 d11] 26))
  replace X4 := Lib.hid (X4.out.alloc (.cells #[.bool z11, .slice A11 n11 c11, .bool false, .slice B11 m11 d11] 26))
  replace Q4 := Lib.hid (Q4.out.alloc (.cells #[.bool z11, .slice A11 n11 c11, .bool false, .slice B11 m11 d11] 26))
  replace L6 := Lib.hid (L6.out.box (.cells #[.bool z11, .slice A11 n11 c11, .bool false, .slice B11 m11 d11] 26))
  replace P6 := Lib.hid (P6.out.alloc (.cells #[.bool z11, .slice A11 n11 c11, .bool false, .slice B11 m11 d11] 26))
  replace L8 := Lib.hid (L8.out.box (.cells #[.bool z11, .slice A11 n11 c11, .bool false, .slice B11 m11 d11] 26))
  replace P8 := Lib.hid (P8.out.alloc (.cells #[.bool z11, .slice A11 n11 c11, .bool false, .slice B11 m11 d11] 26))
  replace L10 := Lib.hid (L10.out.box (.cells #[.bool z11, .slice A11 n11 c11, .bool false, .slice B11 m11 d11] 26))
  replace P10 := Lib.hid (P10.out.alloc (.cells #[.bool z11, .slice A11 n11 c11, .bool false, .slice B11 m11 d11] 26))
  replace X11 := Lib.hid (X11.out.alloc (.cells #[.bool z11, .slice A11 n11 c11, .bool false, .slice B11 m11 d11] 26))
  replace BX := Lib.hid (below_alloc BX.out (.cells #[.bool z11, .slice A11 n11 c11, .bool false, .slice B11 m11 d11] 26))
  replace TU := Lib.hid (TU.out.box (.cells #[.bool z11, .slice A11 n11 c11, .bool false, .slice B11 m11 d11] 26))
  generalize w11.heap.size = gQ11 at *
  generalize w11.alloc (.cells #[.bool z11, .slice A11 n11 c11, .bool false, .slice B11 m11 d11] 26) = V11 at *
  go_wp2_with fail
  refine (al_parse2 _).mono ?_
  rintro e w12 ⟨z12, A12, n12, c12, B12, m12, d12, rfl, hX, hb⟩
  replace X1 := Lib.hid (X1.out.via hb)
  replace Q1 := Lib.hid (Q1.out.via hb)
  replace X4 := Lib.hid (X4.out.via hb)
  replace Q4 := Lib.hid (Q4.out.via hb)
  replace L6 := Lib.hid (L6.out.via hb)
  replace P6 := Lib.hid (P6.out.via hb)
  replace L8 := Lib.hid (L8.out.via hb)
  replace P8 := Lib.hid (P8.out.via hb)
  replace L10 := Lib.hid (L10.out.via hb)
  replace P10 := Lib.hid (P10.out.via hb)
  replace X11 := Lib.hid (X11.out.via hb)
  replace Q11 := Lib.hid (Q11.out.via hb)
  replace BX := Lib.hid (btr BX.out hb)
  replace TU := Lib.hid (TU.out.via hb)
  have X12 := Lib.hid hX
  clear hb hX
  go_upto_region 8 with (fail)
  have Q12 := Lib.hid (Qd.new w12 _ rfl (.bool z12) (.slice A12 n12 c12) (.bool false) (.slice B12 m12 d12) 26)
  replace X1 := Lib.hid (X1.out.alloc (.cells #[.bool z12, .slice A12 n12 c12, .bool false, .slice B12 m12 d12] 26))
  replace Q1 := Lib.hid (Q1.out.alloc (.cells #[.bool z12, .slice A12 n12 c12, .bool false, .slice B12 m12 d12] 26))
  replace X4 := Lib.hid (X4.out.alloc (.cells #[.bool z12, .slice A12 n12 c12, .bool false, .slice B12 m12 d12] 26))
  replace Q4 := Lib.hid (Q4.out.alloc (.cells #[.bool z12, .slice A12 n12 c12, .bool false, .slice B12 m12 d12] 26))
  replace L6 := Lib.hid (L6.out.box (.cells #[.bool z12, .slice A12 n12 c12, .bool false, .slice B12 m12 d12] 26))
  replace P6 := Lib.hid (P6.out.alloc (.cells #[.bool z12, .slice A12 n12 c12, .bool false, .slice B12 m12 d12] 26))
  replace L8 := Lib.hid (L8.out.box (.cells #[.bool z12, .slice A12 n12 c12, .bool false, .slice B12 m12 d12] 26))
  replace P8 := Lib.hid (P8.out.alloc (.cells #[.bool z12, .slice A12 n12 c12, .bool false, .slice B12 m12 d12] 26))
  replace L10 := Lib.hid (L10.out.box (.cells #[.bool z12, .slice A12 n12 c12, .bool false, .slice B12 m12 d12] 26))
  replace P10 := Lib.hid (P10.out.alloc (.cells #[.bool z12, .slice A12 n12 c12, .bool false, .slice B12 m12 d12] 26))
  replace X11 := Lib.hid (X11.out.alloc (.cells #[.bool z12, .slice A12 n12 c12, .bool false, .slice B12 m12 d12] 26))
  replace Q11 := Lib.hid (Q11.out.alloc (.cells #[.bool z12, .slice A12 n12 c12, .bool false, .slice B12 m12 d12] 26))
  replace X12 := Lib.hid (X12.out.alloc (.cells #[.bool z12, .slice A12 n12 c12, .bool false, .slice B12 m12 d12] 26))
  replace BX := Lib.hid (below_alloc BX.out (.cells #[.bool z12, .slice A12 n12 c12, .bool false, .slice B12 m12 d12] 26))
  replace TU := Lib.hid (TU.out.box (.cells #[.bool z12, .slice A12 n12 c12, .bool false, .slice B12 m12 d12] 26))
  generalize w12.heap.size = gQ12 at *
  generalize w12.alloc (.cells #[.bool z12, .slice A12 n12 c12, .bool false, .slice B12 m12 d12] 26) = V12 at *
  go_wp2_with fail
  refine (lpart_c _ 2 3 (by decide) (by decide) (by decide) (by decide)).mono ?_
  rintro e w13 ⟨z13, A13, n13, c13, B13, m13, d13, rfl, hX, hb⟩
  replace X1 := Lib.hid (X1.out.via hb)
  replace Q1 := Lib.hid (Q1.out.via hb)
  replace X4 := Lib.hid (X4.out.via hb)
  replace Q4 := Lib.hid (Q4.out.via hb)
  replace L6 := Lib.hid (L6.out.via hb)
  replace P6 := Lib.hid (P6.out.via hb)
  replace L8 := Lib.hid (L8.out.via hb)
  replace P8 := Lib.hid (P8.out.via hb)
  replace L10 := Lib.hid (L10.out.via hb)
  replace P10 := Lib.hid (P10.out.via hb)
  replace X11 := Lib.hid (X11.out.via hb)
  replace Q11 := Lib.hid (Q11.out.via hb)
  replace X12 := Lib.hid (X12.out.via hb)
  replace Q12 := Lib.hid (Q12.out.via hb)
  replace BX := Lib.hid (btr BX.out hb)
  replace TU := Lib.hid (TU.out.via hb)
  have X13 := Lib.hid hX
  clear hb hX
  go_wp2_with fail
  refine (al_dec1 X13.out TU.out).mono ?_
  rintro e w14 ⟨rfl, hb⟩
  replace X1 := Lib.hid (X1.out.via hb)
  replace Q1 := Lib.hid (Q1.out.via hb)
  replace X4 := Lib.hid (X4.out.via hb)
  replace Q4 := Lib.hid (Q4.out.via hb)
  replace L6 := Lib.hid (L6.out.via hb)
  replace P6 := Lib.hid (P6.out.via hb)
  replace L8 := Lib.hid (L8.out.via hb)
  replace P8 := Lib.hid (P8.out.via hb)
  replace L10 := Lib.hid (L10.out.via hb)
  replace P10 := Lib.hid (P10.out.via hb)
  replace X11 := Lib.hid (X11.out.via hb)
  replace Q11 := Lib.hid (Q11.out.via hb)
  replace X12 := Lib.hid (X12.out.via hb)
  replace Q12 := Lib.hid (Q12.out.via hb)
  replace X13 := Lib.hid (X13.out.via hb)
  replace BX := Lib.hid (btr BX.out hb)
  replace TU := Lib.hid (TU.out.via hb)
  clear hb
  clear X13
  go_wp2_with fail
  refine (lpart_c _ (-1) 1000 (by decide) (by decide) (by decide) (by decide)).mono ?_
  rintro e w15 ⟨z14, A14, n14, c14, B14, m14, d14, rfl, hX, hb⟩
  replace X1 := Lib.hid (X1.out.via hb)
  replace Q1 := Lib.hid (Q1.out.via hb)
  replace X4 := Lib.hid (X4.out.via hb)
  replace Q4 := Lib.hid (Q4.out.via hb)
  replace L6 := Lib.hid (L6.out.via hb)
  replace P6 := Lib.hid (P6.out.via hb)
  replace L8 := Lib.hid (L8.out.via hb)
  replace P8 := Lib.hid (P8.out.via hb)
  replace L10 := Lib.hid (L10.out.via hb)
  replace P10 := Lib.hid (P10.out.via hb)
  replace X11 := Lib.hid (X11.out.via hb)
  replace Q11 := Lib.hid (Q11.out.via hb)
  replace X12 := Lib.hid (X12.out.via hb)
  replace Q12 := Lib.hid (Q12.out.via hb)
  replace BX := Lib.hid (btr BX.out hb)
  replace TU := Lib.hid (TU.out.via hb)
  have X14 := Lib.hid hX
  clear hb hX
  go_wp2_with fail
  refine (al_dec2 X14.out TU.out).mono ?_
  rintro e w16 ⟨rfl, hb⟩
  replace X1 := Lib.hid (X1.out.via hb)
  replace Q1 := Lib.hid (Q1.out.via hb)
  replace X4 := Lib.hid (X4.out.via hb)
  replace Q4 := Lib.hid (Q4.out.via hb)
  replace L6 := Lib.hid (L6.out.via hb)
  replace P6 := Lib.hid (P6.out.via hb)
  replace L8 := Lib.hid (L8.out.via hb)
  replace P8 := Lib.hid (P8.out.via hb)
  replace L10 := Lib.hid (L10.out.via hb)
  replace P10 := Lib.hid (P10.out.via hb)
  replace X11 := Lib.hid (X11.out.via hb)
  replace Q11 := Lib.hid (Q11.out.via hb)
  replace X12 := Lib.hid (X12.out.via hb)
  replace Q12 := Lib.hid (Q12.out.via hb)
  replace X14 := Lib.hid (X14.out.via hb)
  replace BX := Lib.hid (btr BX.out hb)
  replace TU := Lib.hid (TU.out.via hb)
  clear hb
  clear X14
  have ⟨Q1r0, Q1r1, Q1r2, Q1r3, Q1r4, Q1r5, Q1r6, Q1r7, Q1r8⟩ := Q1.out
  go_wp2_with fail
  clear Q1r0 Q1r1 Q1r2 Q1r3 Q1r4 Q1r5 Q1r6 Q1r7 Q1r8
  refine (lsame_w _ 2 _ _ (-3) 2 _ _ _ _ _ _ _ X1.out (by decide) (by decide) (by decide) (by decide) (by decide) (by decide) (by decide)).mono ?_
  rintro e w17 ⟨rfl, hb⟩
  replace X1 := Lib.hid (X1.out.via hb)
  replace Q1 := Lib.hid (Q1.out.via hb)
  replace X4 := Lib.hid (X4.out.via hb)
  replace Q4 := Lib.hid (Q4.out.via hb)
  replace L6 := Lib.hid (L6.out.via hb)
  replace P6 := Lib.hid (P6.out.via hb)
  replace L8 := Lib.hid (L8.out.via hb)
  replace P8 := Lib.hid (P8.out.via hb)
  replace L10 := Lib.hid (L10.out.via hb)
  replace P10 := Lib.hid (P10.out.via hb)
  replace X11 := Lib.hid (X11.out.via hb)
  replace Q11 := Lib.hid (Q11.out.via hb)
  replace X12 := Lib.hid (X12.out.via hb)
  replace Q12 := Lib.hid (Q12.out.via hb)
  replace BX := Lib.hid (btr BX.out hb)
  replace TU := Lib.hid (TU.out.via hb)
  clear hb
  have ⟨Q4r0, Q4r1, Q4r2, Q4r3, Q4r4, Q4r5, Q4r6, Q4r7, Q4r8⟩ := Q4.out
  go_wp2_with fail
  clear Q4r0 Q4r1 Q4r2 Q4r3 Q4r4 Q4r5 Q4r6 Q4r7 Q4r8
  refine (lsame_w _ 5 _ _ (5) 6 _ _ _ _ _ _ _ X4.out (by decide) (by decide) (by decide) (by decide) (by decide) (by decide) (by decide)).mono ?_
  rintro e w18 ⟨rfl, hb⟩
  replace X1 := Lib.hid (X1.out.via hb)
  replace Q1 := Lib.hid (Q1.out.via hb)
  replace X4 := Lib.hid (X4.out.via hb)
  replace Q4 := Lib.hid (Q4.out.via hb)
  replace L6 := Lib.hid (L6.out.via hb)
  replace P6 := Lib.hid (P6.out.via hb)
  replace L8 := Lib.hid (L8.out.via hb)
  replace P8 := Lib.hid (P8.out.via hb)
  replace L10 := Lib.hid (L10.out.via hb)
  replace P10 := Lib.hid (P10.out.via hb)
  replace X11 := Lib.hid (X11.out.via hb)
  replace Q11 := Lib.hid (Q11.out.via hb)
  replace X12 := Lib.hid (X12.out.via hb)
  replace Q12 := Lib.hid (Q12.out.via hb)
  replace BX := Lib.hid (btr BX.out hb)
  replace TU := Lib.hid (TU.out.via hb)
  clear hb
  have ⟨P6r0, P6r1, P6r2, P6r3, P6r4⟩ := P6.out
  go_wp2_with fail
  clear P6r0 P6r1 P6r2 P6r3 P6r4
  refine (lwhole_w _ _ _ _ (-2) L6.out (by decide) (by decide) (by decide)).mono ?_
  rintro e w19 ⟨rfl, hb⟩
  replace X1 := Lib.hid (X1.out.via hb)
  replace Q1 := Lib.hid (Q1.out.via hb)
  replace X4 := Lib.hid (X4.out.via hb)
  replace Q4 := Lib.hid (Q4.out.via hb)
  replace L6 := Lib.hid (L6.out.via hb)
  replace P6 := Lib.hid (P6.out.via hb)
  replace L8 := Lib.hid (L8.out.via hb)
  replace P8 := Lib.hid (P8.out.via hb)
  replace L10 := Lib.hid (L10.out.via hb)
  replace P10 := Lib.hid (P10.out.via hb)
  replace X11 := Lib.hid (X11.out.via hb)
  replace Q11 := Lib.hid (Q11.out.via hb)
  replace X12 := Lib.hid (X12.out.via hb)
  replace Q12 := Lib.hid (Q12.out.via hb)
  replace BX := Lib.hid (btr BX.out hb)
  replace TU := Lib.hid (TU.out.via hb)
  clear hb
  have ⟨P8r0, P8r1, P8r2, P8r3, P8r4⟩ := P8.out
  go_wp2_with fail
  clear P8r0 P8r1 P8r2 P8r3 P8r4
  refine (lwhole_w _ _ _ _ (2) L8.out (by decide) (by decide) (by decide)).mono ?_
  rintro e w20 ⟨rfl, hb⟩
  replace X1 := Lib.hid (X1.out.via hb)
  replace Q1 := Lib.hid (Q1.out.via hb)
  replace X4 := Lib.hid (X4.out.via hb)
  replace Q4 := Lib.hid (Q4.out.via hb)
  replace L6 := Lib.hid (L6.out.via hb)
  replace P6 := Lib.hid (P6.out.via hb)
  replace L8 := Lib.hid (L8.out.via hb)
  replace P8 := Lib.hid (P8.out.via hb)
  replace L10 := Lib.hid (L10.out.via hb)
  replace P10 := Lib.hid (P10.out.via hb)
  replace X11 := Lib.hid (X11.out.via hb)
  replace Q11 := Lib.hid (Q11.out.via hb)
  replace X12 := Lib.hid (X12.out.via hb)
  replace Q12 := Lib.hid (Q12.out.via hb)
  replace BX := Lib.hid (btr BX.out hb)
  replace TU := Lib.hid (TU.out.via hb)
  clear hb
  have ⟨P10r0, P10r1, P10r2, P10r3, P10r4⟩ := P10.out
  go_wp2_with fail
  clear P10r0 P10r1 P10r2 P10r3 P10r4
  refine (lwhole_w _ _ _ _ (-4) L10.out (by decide) (by decide) (by decide)).mono ?_
  rintro e w21 ⟨rfl, hb⟩
  replace X1 := Lib.hid (X1.out.via hb)
  replace Q1 := Lib.hid (Q1.out.via hb)
  replace X4 := Lib.hid (X4.out.via hb)
  replace Q4 := Lib.hid (Q4.out.via hb)
  replace L6 := Lib.hid (L6.out.via hb)
  replace P6 := Lib.hid (P6.out.via hb)
  replace L8 := Lib.hid (L8.out.via hb)
  replace P8 := Lib.hid (P8.out.via hb)
  replace L10 := Lib.hid (L10.out.via hb)
  replace P10 := Lib.hid (P10.out.via hb)
  replace X11 := Lib.hid (X11.out.via hb)
  replace Q11 := Lib.hid (Q11.out.via hb)
  replace X12 := Lib.hid (X12.out.via hb)
  replace Q12 := Lib.hid (Q12.out.via hb)
  replace BX := Lib.hid (btr BX.out hb)
  replace TU := Lib.hid (TU.out.via hb)
  clear hb
  have ⟨Q11r0, Q11r1, Q11r2, Q11r3, Q11r4, Q11r5, Q11r6, Q11r7, Q11r8⟩ := Q11.out
  go_wp2_with fail
  clear Q11r0 Q11r1 Q11r2 Q11r3 Q11r4 Q11r5 Q11r6 Q11r7 Q11r8
  refine (lsame_w _ 2 _ _ (25) 2 _ _ _ _ _ _ _ X11.out (by decide) (by decide) (by decide) (by decide) (by decide) (by decide) (by decide)).mono ?_
  rintro e w22 ⟨rfl, hb⟩
  replace X1 := Lib.hid (X1.out.via hb)
  replace Q1 := Lib.hid (Q1.out.via hb)
  replace X4 := Lib.hid (X4.out.via hb)
  replace Q4 := Lib.hid (Q4.out.via hb)
  replace L6 := Lib.hid (L6.out.via hb)
  replace P6 := Lib.hid (P6.out.via hb)
  replace L8 := Lib.hid (L8.out.via hb)
  replace P8 := Lib.hid (P8.out.via hb)
  replace L10 := Lib.hid (L10.out.via hb)
  replace P10 := Lib.hid (P10.out.via hb)
  replace X11 := Lib.hid (X11.out.via hb)
  replace Q11 := Lib.hid (Q11.out.via hb)
  replace X12 := Lib.hid (X12.out.via hb)
  replace Q12 := Lib.hid (Q12.out.via hb)
  replace BX := Lib.hid (btr BX.out hb)
  replace TU := Lib.hid (TU.out.via hb)
  clear hb
  have ⟨Q12r0, Q12r1, Q12r2, Q12r3, Q12r4, Q12r5, Q12r6, Q12r7, Q12r8⟩ := Q12.out
  go_wp2_with fail
  clear Q12r0 Q12r1 Q12r2 Q12r3 Q12r4 Q12r5 Q12r6 Q12r7 Q12r8
  refine (lsame_w _ 2 _ _ (-1) 2 _ _ _ _ _ _ _ X12.out (by decide) (by decide) (by decide) (by decide) (by decide) (by decide) (by decide)).mono ?_
  rintro e w23 ⟨rfl, hb⟩
  replace X1 := Lib.hid (X1.out.via hb)
  replace Q1 := Lib.hid (Q1.out.via hb)
  replace X4 := Lib.hid (X4.out.via hb)
  replace Q4 := Lib.hid (Q4.out.via hb)
  replace L6 := Lib.hid (L6.out.via hb)
  replace P6 := Lib.hid (P6.out.via hb)
  replace L8 := Lib.hid (L8.out.via hb)
  replace P8 := Lib.hid (P8.out.via hb)
  replace L10 := Lib.hid (L10.out.via hb)
  replace P10 := Lib.hid (P10.out.via hb)
  replace X11 := Lib.hid (X11.out.via hb)
  replace Q11 := Lib.hid (Q11.out.via hb)
  replace X12 := Lib.hid (X12.out.via hb)
  replace Q12 := Lib.hid (Q12.out.via hb)
  replace BX := Lib.hid (btr BX.out hb)
  replace TU := Lib.hid (TU.out.via hb)
  clear hb
  go_wp2
  go_ret
  exact ⟨rfl, BX.out⟩
end Go.Proofs.YtkendkbicafdgaaGreatDoor

/- The text of a fraction. -/
namespace Go.Proofs.YtkendkbicafdgaaGreatDoor
open Go.RowKit

/-- The text of a fraction. -/
def ftx (p q : Int) : List UInt8 := if q = 1 then tx p else tx p ++ 47 :: tx q
end Go.Proofs.YtkendkbicafdgaaGreatDoor

/- Package frac: text, Text. -/
namespace Go.Proofs.YtkendkbicafdgaaGreatDoor
open Go.RowKit

theorem tx_len {k : Nat} {z : Int} (h : Sz k z) (hk : k ≤ 2000) : (tx z).length ≤ 30001 := by
  have h1 := decd_len h hk
  unfold tx txt
  rw [List.length_append]
  split
  · simp only [List.length_cons, List.length_nil]
    omega
  · simp only [List.length_nil]
    omega
theorem txt_slash (a b : List UInt8) : ((⟨a.toArray⟩ : ByteArray) ++ ⟨#[47]⟩) ++ ⟨b.toArray⟩ = ⟨(a ++ 47 :: b).toArray⟩ := by
  apply ByteArray.ext
  simp [ByteArray.data_append]
set_option maxRecDepth 100000 in
set_option maxHeartbeats 2000000 in
theorem changest_ok (w : World) (g0 ga : Nat) (f : FuncId) (na da : Bool) (A B : Option Addr) (n m ca cb : Nat) (xs ys : List Nat) (hf : Fb w g0 f) (qa : Qd w ga (.bool na) (.slice A n ca) (.bool da) (.slice B m cb)) (hA : Lm w w.heap.size A n ca xs) (hB : Lm w w.heap.size B m cb ys) (hv : fchk na xs da ys = 0) (t : ByteArray)
    (hcf : ∀ (u : Value) (W : World), (callFunc f #[u]).run Tryz.prog W = .ok (.enter f #[u]) W)
    (H : ∀ W, Below w.heap.size w W → Lm W W.heap.size A n ca xs → Lm W W.heap.size B m cb ys → Calls Tryz.prog f #[fv na A n ca da B m cb] W (RSs W t)) :
    Calls Tryz.prog 56 #[.pointer (some ⟨g0, 0, none⟩), .pointer (some ⟨ga, 0, none⟩)] w (RSs w t) := by
  have HF := Lib.hid hf
  have QA := Lib.hid qa
  have LA := Lib.hid hA
  have LB := Lib.hid hB
  have HV := Lib.hid hv
  have HH := Lib.hid H
  clear hA hB hv hf qa H
  go_enter Tryz.func56, Tryz.ntmps56
  have hg0 : g0 < w.heap.size := HF.out.lt
  have hga : ga < w.heap.size := QA.out.lt
  have HKS : Hid (∀ X : World, Below w.heap.size w X → X.cell? ⟨g0, 0, none⟩ = some (.func (.func f) #[] #[]) ∧ X.cell? ⟨ga, 0, none⟩ = some (.bool na) ∧ X.cell? ⟨ga, 1, none⟩ = some (.slice A n ca) ∧ X.cell? ⟨ga, 2, none⟩ = some (.bool da) ∧ X.cell? ⟨ga, 3, none⟩ = some (.slice B m cb)) := fun X h => ⟨(h.cell (p := ⟨g0, 0, none⟩) hg0).trans HF.out.c0, (QA.out.via h).c0, (QA.out.via h).c1, (QA.out.via h).c2, (QA.out.via h).c3⟩
  go_upto_region 1 with (fail)
  go_region_held3 (fun w' => w'.cell? ⟨g0, 0, none⟩ = some (.func (.func f) #[] #[]) ∧ w'.cell? ⟨ga, 0, none⟩ = some (.bool na) ∧ w'.cell? ⟨ga, 1, none⟩ = some (.slice A n ca) ∧ w'.cell? ⟨ga, 2, none⟩ = some (.bool da) ∧ w'.cell? ⟨ga, 3, none⟩ = some (.slice B m cb))
    (first | (refine HKS.out _ ?_; (repeat' (first | exact Be | exact Bc | exact (Below.refl _ _).drew | exact Below.refl _ _ | refine Below.setCell ?_ ?_ _)); all_goals (first | omega | (simp; done) | (simp; omega))))
    (first
     | (go_at_call 57; refine (known_ok _ na da A B n m ca cb xs ys (by first | exact LA.out.drew | exact LA.out) (by first | exact LB.out.drew | exact LB.out) HV.out).mono ?_; rintro e wc ⟨rfl, hbc⟩; have Bc : Below w.heap.size w wc := (by first | exact (Below.refl _ _).drew.trans hbc | exact hbc))
     | (refine (HH.out _ Bc (LA.out.via Bc) (LB.out.via Bc)).mono ?_; rintro e we ⟨rfl, hbe⟩; have Be : Below w.heap.size w we := btr Bc hbe)
     | fail)
  all_goals
    go_wp2
    go_ret
    exact ⟨rfl, Be⟩

set_option maxRecDepth 100000 in
set_option maxHeartbeats 2000000 in
theorem changest_g (w : World) (f : FuncId) (na da : Bool) (A B : Option Addr) (n m ca cb : Nat) (xs ys : List Nat) (hA : Lm w w.heap.size A n ca xs) (hB : Lm w w.heap.size B m cb ys) (t : ByteArray) (err : Int)
    (H : ∀ W g0 ga, Below w.heap.size w W → Fb W g0 f → Qd W ga (.bool na) (.slice A n ca) (.bool da) (.slice B m cb) → Lm W W.heap.size A n ca xs → Lm W W.heap.size B m cb ys → Calls Tryz.prog 55 #[.func (.func 56) #[] #[.pointer (some ⟨g0, 0, none⟩), .pointer (some ⟨ga, 0, none⟩)]] W (RSE W t err)) :
    Calls Tryz.prog 28 #[fv na A n ca da B m cb, .func (.func f) #[] #[]] w (RSE w t err) := by
  have hmf : ∀ (fn : Fn) (first cap : Array Value) (w : World), (Instr.makeFunc fn first cap).run Tryz.prog w = .ok (.func fn first cap) w := fun _ _ _ _ => rfl
  have HH := Lib.hid H
  have HA := Lib.hid hA
  have HB := Lib.hid hB
  clear H hA hB
  go_enter Tryz.func28, Tryz.ntmps28
  have QA := Lib.hid ((Qd.new w _ rfl (.bool na) (.slice A n ca) (.bool da) (.slice B m cb) 26).alloc (.cells #[.func (.func f) #[] #[]] 57))
  have QF : Hid (Fb ((w.alloc (.cells #[.bool na, .slice A n ca, .bool da, .slice B m cb] 26)).alloc (.cells #[.func (.func f) #[] #[]] 57)) (w.heap.size + 1) f) := ⟨by go_simp, by simp⟩
  have BW : Hid (Below w.heap.size w ((w.alloc (.cells #[.bool na, .slice A n ca, .bool da, .slice B m cb] 26)).alloc (.cells #[.func (.func f) #[] #[]] 57))) := below_alloc (below_alloc (Below.refl _ _) _) _
  have LA : Hid (Lm ((w.alloc (.cells #[.bool na, .slice A n ca, .bool da, .slice B m cb] 26)).alloc (.cells #[.func (.func f) #[] #[]] 57)) ((w.alloc (.cells #[.bool na, .slice A n ca, .bool da, .slice B m cb] 26)).alloc (.cells #[.func (.func f) #[] #[]] 57)).heap.size A n ca xs) := ((HA.out.box _).box _)
  have LB : Hid (Lm ((w.alloc (.cells #[.bool na, .slice A n ca, .bool da, .slice B m cb] 26)).alloc (.cells #[.func (.func f) #[] #[]] 57)) ((w.alloc (.cells #[.bool na, .slice A n ca, .bool da, .slice B m cb] 26)).alloc (.cells #[.func (.func f) #[] #[]] 57)).heap.size B m cb ys) := ((HB.out.box _).box _)
  clear HA HB
  go_wp2_with fail
  refine (HH.out _ (w.heap.size + 1) w.heap.size BW.out QF.out QA.out LA.out LB.out).mono ?_
  rintro e w1 ⟨rfl, hb⟩
  have BB := Lib.hid (btr BW.out hb)
  clear hb
  go_wp2
  go_returns
  exact ⟨rfl, BB.out⟩
set_option maxRecDepth 100000 in
set_option maxHeartbeats 4000000 in
theorem text_r (w : World) (A B : Option Addr) (n m ca cb k : Nat) (p q : Int) (hA : Lm w w.heap.size A n ca (digs p.natAbs)) (hB : Lm w w.heap.size B m cb (digs q.natAbs)) (hp : Sz k p) (hq : Sz k q) (hk : k ≤ 2000) (hq0 : 0 < q) (hU : TabU w) {na : Bool} (ha : decide (p < 0) = na) :
    Calls Tryz.prog 29 #[fv na A n ca false B m cb] w (RSs w ⟨(ftx p q).toArray⟩) := by
  have HP := Lib.hid hp
  have HQ := Lib.hid hq
  have HNa := Lib.hid ha
  have HNb : Hid (decide (q < 0) = false) := decide_eq_false (by omega)
  have QF := Lib.hid (Qd.new w w.heap.size rfl (.bool na) (.slice A n ca) (.bool false) (.slice B m cb) 59)
  have BX : Hid (Below w.heap.size w (w.alloc (.cells #[.bool na, .slice A n ca, .bool false, .slice B m cb] 59))) := below_alloc (Below.refl _ _) _
  have LA := Lib.hid (hA.via BX.out)
  have LB := Lib.hid (hB.via BX.out)
  have TU := Lib.hid (hU.via BX.out)
  clear hA hB hp hq ha hU
  go_enter Tryz.func29, Tryz.ntmps29
  go_wp2_with fail
  generalize w.alloc (.cells #[.bool na, .slice A n ca, .bool false, .slice B m cb] 59) = W0 at *
  have ⟨f0, f1, f2, f3, f4, f5, f6, f7, f8⟩ := QF.out
  go_wp2_with fail
  clear f0 f1 f2 f3 f4 f5 f6 f7 f8
  refine (text_n _ A n ca k p LA.out HP.out (by omega) TU.out HNa.out).mono ?_
  rintro e w1 ⟨rfl, hb⟩
  replace QF := Lib.hid (QF.out.via hb)
  replace LB := Lib.hid (LB.out.via hb)
  replace TU := Lib.hid (TU.out.via hb)
  replace BX := Lib.hid (btr BX.out hb)
  clear hb LA
  go_wp2_with fail
  refine (musts_ok _ _).mono ?_
  rintro e w2 ⟨rfl, rfl⟩
  by_cases hq1 : q = 1
  · have LB1 : Hid (Lm w1 w1.heap.size B m cb (digs 1)) := by
      show Lm _ _ _ _ _ _
      have := LB.out
      rw [hq1] at this
      exact this
    have HT : Hid (ftx p q = tx p) := by show _ = _; unfold ftx; rw [if_pos hq1]
    have ⟨f0, f1, f2, f3, f4, f5, f6, f7, f8⟩ := QF.out
    go_wp2_with fail
    clear f0 f1 f2 f3 f4 f5 f6 f7 f8
    refine (isOne_yes _ B m cb LB1.out).mono ?_
    rintro e w2 ⟨rfl, hb⟩
    go_wp2
    go_ret
    exact ⟨by rw [HT.out]; rfl, btr BX.out hb⟩
  · have HT : Hid (ftx p q = tx p ++ 47 :: tx q) := by show _ = _; unfold ftx; rw [if_neg hq1]
    have hsz1 : (⟨(tx p).toArray⟩ : ByteArray).size = (tx p).length := by simp [ByteArray.size]
    have hsz2 : (⟨(tx q).toArray⟩ : ByteArray).size = (tx q).length := by simp [ByteArray.size]
    have hl1 := tx_len HP.out hk
    have hl2 := tx_len HQ.out hk
    have hno : digs q.natAbs ≠ [1] := fun e => by
      have := congrArg val e
      rw [digs_val] at this
      have e2 : val [1] = 1 := rfl
      omega
    have ⟨f0, f1, f2, f3, f4, f5, f6, f7, f8⟩ := QF.out
    go_wp2_with fail
    clear f0 f1 f2 f3 f4 f5 f6 f7 f8
    refine (isOne_no _ false B m cb _ LB.out (.inr hno)).mono ?_
    rintro e w2 ⟨rfl, hb⟩
    replace QF := Lib.hid (QF.out.via hb)
    replace LB := Lib.hid (LB.out.via hb)
    replace TU := Lib.hid (TU.out.via hb)
    replace BX := Lib.hid (btr BX.out hb)
    clear hb
    have ⟨f0, f1, f2, f3, f4, f5, f6, f7, f8⟩ := QF.out
    go_wp2_with fail
    clear f0 f1 f2 f3 f4 f5 f6 f7 f8
    refine (text_n _ B m cb k q LB.out HQ.out (by omega) TU.out HNb.out).mono ?_
    rintro e w3 ⟨rfl, hb⟩
    replace BX := Lib.hid (btr BX.out hb)
    clear hb QF LB TU
    go_wp2_with fail
    refine (musts_ok _ _).mono ?_
    rintro e w4 ⟨rfl, rfl⟩
    go_wp2
    go_ret
    refine ⟨?_, BX.out⟩
    rw [HT.out, ← txt_slash]
    rfl
set_option maxRecDepth 100000 in
set_option maxHeartbeats 4000000 in
theorem ftext_g (w : World) (na da : Bool) (A B : Option Addr) (n m ca cb : Nat) (xs ys : List Nat) (hA : Lm w w.heap.size A n ca xs) (hB : Lm w w.heap.size B m cb ys) (t : ByteArray) (err : Int)
    (H : ∀ W, Below w.heap.size w W → Lm W W.heap.size A n ca xs → Lm W W.heap.size B m cb ys → Calls Tryz.prog 28 #[fv na A n ca da B m cb, .func (.func 29) #[] #[]] W (RSE W t err)) :
    Calls Tryz.prog 8 #[fv na A n ca da B m cb] w (RSE w t err) := by
  have HH := Lib.hid H
  have QF := Lib.hid (Qd.new w w.heap.size rfl (.bool na) (.slice A n ca) (.bool da) (.slice B m cb) 26)
  have BW : Hid (Below w.heap.size w (w.alloc (.cells #[.bool na, .slice A n ca, .bool da, .slice B m cb] 26))) := below_alloc (Below.refl _ _) _
  have LA := Lib.hid (hA.via BW.out)
  have LB := Lib.hid (hB.via BW.out)
  clear H hA hB
  go_enter Tryz.func8, Tryz.ntmps8
  go_upto_region 1 with (fail)
  generalize w.alloc (.cells #[.bool na, .slice A n ca, .bool da, .slice B m cb] 26) = W0 at *
  have ⟨f0, f1, f2, f3, f4, f5, f6, f7, f8⟩ := QF.out
  go_wp2_with fail
  refine (HH.out _ BW.out LA.out LB.out).mono ?_
  rintro e w1 ⟨rfl, hb⟩
  have BB := Lib.hid (btr BW.out hb)
  clear hb
  go_wp2
  go_returns
  exact ⟨rfl, BB.out⟩
theorem ftext_n (w : World) (A B : Option Addr) (n m ca cb k : Nat) (p q : Int) (hA : Lm w w.heap.size A n ca (digs p.natAbs)) (hB : Lm w w.heap.size B m cb (digs q.natAbs)) (hp : Sz k p) (hq : Sz k q) (hk : k ≤ 2000) (hq0 : 0 < q) (hU : TabU w) {na : Bool} (ha : decide (p < 0) = na) (hv : fchk na (digs p.natAbs) false (digs q.natAbs) = 0) :
    Calls Tryz.prog 8 #[fv na A n ca false B m cb] w (RSE w ⟨(ftx p q).toArray⟩ 0) := by
  have hcf2 : ∀ (u : Value) (W : World), (callFunc 29 #[u]).run Tryz.prog W = .ok (.enter 29 #[u]) W := fun u W => by go_simp
  have hcf3 : ∀ (u v : Value) (W : World), (callFunc 56 (#[] ++ #[u, v])).run Tryz.prog W = .ok (.enter 56 (#[] ++ #[u, v])) W := fun u v W => by go_simp
  exact ftext_g w na false A B n m ca cb _ _ hA hB _ 0 fun W bW h1 h2 => changest_g W 29 na false A B n m ca cb _ _ h1 h2 _ 0 fun W2 g0 ga b2 qf qa i1 i2 =>
    attempts_ok W2 56 #[] #[_, _] ⟨(ftx p q).toArray⟩ (hcf3 _ _) (changest_ok (Wai W2) g0 ga 29 na false A B n m ca cb _ _ (qf.via (wai_below W2)) (qa.via (wai_below W2)) (i1.via (wai_below W2)) (i2.via (wai_below W2)) hv ⟨(ftx p q).toArray⟩ hcf2 fun W3 b3 j1 j2 =>
      text_r W3 A B n m ca cb k p q j1 j2 hp hq hk hq0 (((hU.via bW).via b2).via (btr (wai_below W2) b3)) ha)
end Go.Proofs.YtkendkbicafdgaaGreatDoor

/- Texts of fractions and of decimals, and what Parse makes of them (mathematics of FracBack). -/
namespace Go.Proofs.YtkendkbicafdgaaGreatDoor
open Go.RowKit

theorem dg_full {l : List UInt8} (h : l.all isDig = true) : dg l = l ∧ dr l = [] := by
  have := dg_cut l l.length (by rw [List.take_length]; exact h) (fun hh => absurd hh (Nat.lt_irrefl _))
  rw [List.take_length, List.drop_length] at this
  exact this
theorem dg_stop {l r : List UInt8} {c : UInt8} (h : l.all isDig = true) (hc : isDig c = false) : dg (l ++ c :: r) = l ∧ dr (l ++ c :: r) = c :: r := by
  have h1 := dg_cut (l ++ c :: r) l.length (by rw [List.take_left]; exact h) (fun hh => by
    rw [List.getElem_append_right (Nat.le_refl _)]
    simpa using hc)
  rw [List.take_left, List.drop_left] at h1
  exact h1
theorem sk_yes (c : UInt8) (t : List UInt8) : sk c (c :: t) = (true, t) := by rw [sk_cons, if_pos rfl]
theorem sk_nil (c : UInt8) : sk c [] = (false, []) := rfl
theorem sk_diff {c a : UInt8} (t : List UInt8) (h : a ≠ c) : sk c (a :: t) = (false, a :: t) := by rw [sk_cons, if_neg h]
theorem sk_dig {c : UInt8} {l r : List UInt8} (h : l.all isDig = true) (hne : l ≠ []) (hc : isDig c = false) : sk c (l ++ r) = (false, l ++ r) := by
  cases l with
  | nil => exact absurd rfl hne
  | cons a t =>
    rw [List.all_cons, Bool.and_eq_true] at h
    rw [List.cons_append, sk_diff]
    intro e
    rw [e, hc] at h
    exact absurd h.1 (by simp)
theorem dec_ne_nil (u : Nat) : Lib.decDigits u ≠ [] := by
  rcases Nat.eq_zero_or_pos u with h | h
  · subst h
    rw [dec_small (by omega)]
    simp
  · exact (dec_head u h).1
theorem uns_whole {l : List UInt8} (h : l.all isDig = true) (hne : l ≠ []) : uns l = some ((decV l : Int), 1, []) := by
  have h1 := dg_full h
  unfold uns tl
  rw [h1.1, h1.2, if_neg hne, sk_nil, sk_nil]
  simp only [Bool.false_eq_true, if_false, List.append_nil]
  rw [sk_nil]
  rfl
theorem uns_ratio {l r : List UInt8} (h : l.all isDig = true) (hne : l ≠ []) (hr : r.all isDig = true) (hrn : r ≠ []) : uns (l ++ 47 :: r) = some ((decV l : Int), (decV r : Int), []) := by
  have h1 := dg_stop (r := r) h (show isDig 47 = false by decide)
  have h2 := dg_full hr
  unfold uns
  rw [h1.1, h1.2, if_neg hne, sk_yes]
  simp only [if_true]
  rw [h2.1, h2.2, if_neg hrn]
theorem uns_point {l r : List UInt8} (h : l.all isDig = true) (hne : l ≠ []) (hr : r.all isDig = true) (hrn : r ≠ []) : uns (l ++ 46 :: r) = some ((decV (l ++ r) : Int), 10 ^ r.length, []) := by
  have h1 := dg_stop (r := r) h (show isDig 46 = false by decide)
  have h2 := dg_full hr
  unfold uns
  rw [h1.1, h1.2, if_neg hne, sk_diff _ (show (46 : UInt8) ≠ 47 by decide)]
  simp only [Bool.false_eq_true, if_false]
  rw [sk_yes]
  simp only [if_true]
  rw [h2.1, h2.2, if_neg hrn]
  unfold tl
  rw [sk_nil]
  rfl
theorem nml_of {l : List UInt8} {p q : Int} (hl : l.length ≤ 200) (h : uns (sk 45 l).2 = some (p, q, [])) : nml l = some (if (sk 45 l).1 = true then -p else p, q) := by
  unfold nml
  rw [if_neg (by omega), h]
theorem toI_dec (z : Int) : (if decide (z < 0) = true then -((z.natAbs : Nat) : Int) else ((z.natAbs : Nat) : Int)) = z := by
  by_cases h : z < 0
  · rw [decide_eq_true h, if_pos rfl]
    omega
  · rw [decide_eq_false h, if_neg (by simp)]
    omega
/-- A sign and digits: the number without its sign, and whether there is one. -/
theorem sk_txt (neg : Bool) {r : List UInt8} (hr : ∃ a t, r = a :: t ∧ isDig a = true) : sk 45 ((if neg = true then [45] else []) ++ r) = (neg, r) := by
  obtain ⟨a, t, rfl, ha⟩ := hr
  cases neg with
  | true => exact sk_yes 45 _
  | false =>
    rw [if_neg (by simp), List.nil_append]
    refine sk_diff _ fun e => ?_
    rw [e] at ha
    exact absurd ha (by decide)
theorem dec_first (u : Nat) (r : List UInt8) : ∃ a t, Lib.decDigits u ++ r = a :: t ∧ isDig a = true := by
  cases h : Lib.decDigits u with
  | nil => exact absurd h (dec_ne_nil u)
  | cons a t =>
    have h1 := dec_all u
    rw [h, List.all_cons, Bool.and_eq_true] at h1
    exact ⟨a, t ++ r, rfl, h1.1⟩
/-- Parse of Text reads the two numbers of the fraction. -/
theorem nml_ftx {p q : Int} (hq : 0 < q) (hl : (ftx p q).length ≤ 200) : nml (ftx p q) = some (p, q) := by
  have hd := dec_all p.natAbs
  have hn := dec_ne_nil p.natAbs
  unfold ftx at hl ⊢
  by_cases h1 : q = 1
  · subst h1
    rw [if_pos rfl] at hl ⊢
    have e : tx p = (if decide (p < 0) = true then [45] else []) ++ Lib.decDigits p.natAbs := rfl
    have hs := sk_txt (decide (p < 0)) (r := Lib.decDigits p.natAbs) (by have := dec_first p.natAbs []; rwa [List.append_nil] at this)
    rw [e] at hl ⊢
    have h2 := nml_of (p := (p.natAbs : Int)) (q := 1) hl (by rw [hs, uns_whole hd hn, decV_dec])
    rw [h2, hs, toI_dec]
  · rw [if_neg h1] at hl ⊢
    have e : tx p ++ 47 :: tx q = (if decide (p < 0) = true then [45] else []) ++ (Lib.decDigits p.natAbs ++ 47 :: Lib.decDigits q.natAbs) := by
      have e1 : tx q = Lib.decDigits q.natAbs := by
        unfold tx txt
        rw [decide_eq_false (by omega), if_neg (by simp), List.nil_append]
      rw [e1, ← List.append_assoc]
      rfl
    have hs := sk_txt (decide (p < 0)) (dec_first p.natAbs (47 :: Lib.decDigits q.natAbs))
    rw [e] at hl ⊢
    have h2 := nml_of (p := (p.natAbs : Int)) (q := (q.natAbs : Int)) hl (by rw [hs, uns_ratio hd hn (dec_all _) (dec_ne_nil _), decV_dec, decV_dec])
    rw [h2, hs, toI_dec, show (q.natAbs : Int) = q by omega]
theorem rep_all (k : Nat) : (List.replicate k (48 : UInt8)).all isDig = true := by
  rw [List.all_eq_true]
  intro x hx
  rw [List.eq_of_mem_replicate hx]
  decide
theorem decV_rep (k : Nat) (l : List UInt8) : decV (List.replicate k 48 ++ l) = decV l := by
  induction k with
  | zero => rfl
  | succ k ih =>
    rw [List.replicate_succ, List.cons_append]
    exact ih
theorem pad_all {s : List UInt8} (h : s.all isDig = true) (k : Nat) : (pad0 s k).all isDig = true := by
  unfold pad0
  rw [List.all_append, rep_all, h]
  rfl
theorem pad_len {s : List UInt8} (k : Nat) : k < (pad0 s k).length := by
  unfold pad0
  rw [List.length_append, List.length_replicate]
  omega
theorem all_drop {l : List UInt8} (h : l.all isDig = true) (k : Nat) : (l.drop k).all isDig = true := by
  rw [List.all_eq_true] at h ⊢
  exact fun c hc => h c (List.mem_of_mem_drop hc)
/-- Digits with a point in front of the last k ones are read as the number over a power of ten. -/
theorem uns_ptd {s : List UInt8} (h : s.all isDig = true) (hne : s ≠ []) (k : Nat) : uns (ptd s k) = some ((decV s : Int), 10 ^ k, []) := by
  unfold ptd
  by_cases hk : k = 0
  · rw [if_pos hk, uns_whole h hne, hk]
    rfl
  · rw [if_neg hk]
    have hl := pad_len (s := s) k
    have hp := pad_all h k
    have e : decV (pad0 s k) = decV s := by unfold pad0; exact decV_rep _ _
    have hu := uns_point (all_take hp ((pad0 s k).length - k)) (by
      intro e0
      have := congrArg List.length e0
      rw [List.length_take] at this
      simp at this
      omega) (all_drop hp ((pad0 s k).length - k)) (by
      intro e0
      have := congrArg List.length e0
      rw [List.length_drop] at this
      simp at this
      omega)
    rw [hu, List.take_append_drop, e, List.length_drop, show (pad0 s k).length - ((pad0 s k).length - k) = k by omega]
theorem ptd_first {s : List UInt8} (h : s.all isDig = true) (hne : s ≠ []) (k : Nat) : ∃ a t, ptd s k = a :: t ∧ isDig a = true := by
  unfold ptd
  by_cases hk : k = 0
  · rw [if_pos hk]
    cases s with
    | nil => exact absurd rfl hne
    | cons a t =>
      rw [List.all_cons, Bool.and_eq_true] at h
      exact ⟨a, t, rfl, h.1⟩
  · rw [if_neg hk]
    have hl := pad_len (s := s) k
    have hp := pad_all h k
    cases hs : pad0 s k with
    | nil => rw [hs] at hl; simp at hl
    | cons a t =>
      rw [hs, List.all_cons, Bool.and_eq_true] at hp
      rw [hs] at hl
      refine ⟨a, t.take ((a :: t).length - k - 1) ++ 46 :: (a :: t).drop ((a :: t).length - k), ?_, hp.1⟩
      have e : (a :: t).length - k = ((a :: t).length - k - 1) + 1 := by omega
      conv => lhs; rw [e]
      rw [List.take_succ_cons, ← e]
      rfl
/-- Parse of Decimal reads the rounded number over a power of ten. -/
theorem nml_decT {x P : Int} {d : Nat} (hl : (decT x P d).length ≤ 200) : nml (decT x P d) = some (rndZ (x * 10 ^ d) P, 10 ^ d) := by
  unfold decT at hl ⊢
  generalize rndZ (x * 10 ^ d) P = z at *
  have hd := dec_all z.natAbs
  have hn := dec_ne_nil z.natAbs
  have e : ((if z < 0 then [45] else []) : List UInt8) = if decide (z < 0) = true then [45] else [] := by
    by_cases h : z < 0
    · rw [if_pos h, decide_eq_true h, if_pos rfl]
    · rw [if_neg h, decide_eq_false h, if_neg (by simp)]
  rw [e] at hl ⊢
  have hs := sk_txt (decide (z < 0)) (ptd_first hd hn d)
  have h2 := nml_of (p := (z.natAbs : Int)) (q := 10 ^ d) hl (by rw [hs, uns_ptd hd hn, decV_dec])
  rw [h2, hs, toI_dec]
/-- A rounded number is at most a half away. -/
theorem rnd_half {x P : Int} (hP : 0 < P) : 2 * (x - rndZ x P * P).natAbs ≤ P.natAbs := by
  have h1 := Int.emod_add_mul_ediv x P
  have h2 := Int.emod_nonneg x (show P ≠ 0 by omega)
  have h3 := Int.emod_lt_of_pos x hP
  have e1 : x / P * P = x - x % P := by rw [Int.mul_comm (x / P)]; omega
  have e2 : (x / P + 1) * P = x / P * P + P := by rw [Int.add_mul, Int.one_mul]
  unfold rndZ
  split
  · rw [e1]
    omega
  · split
    · rw [e1]
      omega
    · rw [e2, e1]
      omega
/-- The decimal of a fraction is half a unit off at most. -/
theorem back_le {x P r T p q s t a b : Int} (hP : 0 < P) (hT : 0 < T) (hq : 0 < q) (ht : 0 < t) (hb : 0 < b) (h1 : p * T = r * q) (h2 : s * (P * q) = (x * q - p * P) * t) (h3 : a * (2 * T) = 1 * b) (h4 : 2 * (x * T - r * P).natAbs ≤ P.natAbs) :
    (s.natAbs : Int) * b ≤ a * t := by
  have e1 : s * (P * T) * q = (x * T - r * P) * t * q := by
    have e : s * (P * q) * T = (x * q - p * P) * t * T := by rw [h2]
    have e' : (x * q - p * P) * t * T = ((x * T) * q - (p * T) * P) * t := by
      rw [Int.sub_mul, Int.sub_mul, Int.sub_mul]
      congr 1 <;> ac_rfl
    rw [e', h1] at e
    have e2 : ((x * T) * q - r * q * P) * t = (x * T - r * P) * t * q := by
      rw [Int.sub_mul, Int.sub_mul, Int.sub_mul]
      congr 1 <;> ac_rfl
    rw [e2] at e
    rw [← e]
    ac_rfl
  have e2 : s * (P * T) = (x * T - r * P) * t := Int.eq_of_mul_eq_mul_right (by omega) e1
  have e3 : s.natAbs * (P.natAbs * T.natAbs) = (x * T - r * P).natAbs * t.natAbs := by
    have := congrArg Int.natAbs e2
    rw [Int.natAbs_mul, Int.natAbs_mul, Int.natAbs_mul] at this
    exact this
  have hP1 : 0 < P.natAbs := by omega
  have e4 : (2 * (s.natAbs * T.natAbs)) * P.natAbs ≤ t.natAbs * P.natAbs := by
    have h5 : (2 * (x * T - r * P).natAbs) * t.natAbs ≤ P.natAbs * t.natAbs := Nat.mul_le_mul_right _ h4
    calc (2 * (s.natAbs * T.natAbs)) * P.natAbs = 2 * (s.natAbs * (P.natAbs * T.natAbs)) := by ac_rfl
      _ = (2 * (x * T - r * P).natAbs) * t.natAbs := by rw [e3, Nat.mul_assoc]
      _ ≤ P.natAbs * t.natAbs := h5
      _ = t.natAbs * P.natAbs := Nat.mul_comm ..
  have e5 : 2 * (s.natAbs * T.natAbs) ≤ t.natAbs := Nat.le_of_mul_le_mul_right e4 hP1
  have ha : 0 < a := by
    refine Int.lt_of_not_ge fun hn => ?_
    have : a * (2 * T) ≤ 0 := Int.mul_nonpos_of_nonpos_of_nonneg hn (by omega)
    omega
  have e6 : (2 * ((s.natAbs : Int) * T)) ≤ t := by
    have : (T.natAbs : Int) = T := by omega
    have h7 : ((2 * (s.natAbs * T.natAbs) : Nat) : Int) ≤ ((t.natAbs : Nat) : Int) := Int.ofNat_le.mpr e5
    rw [Int.natCast_mul, Int.natCast_mul, this, show ((t.natAbs : Nat) : Int) = t by omega] at h7
    exact h7
  have e7 : a * (2 * ((s.natAbs : Int) * T)) ≤ a * t := Int.mul_le_mul_of_nonneg_left e6 (by omega)
  have e8 : (s.natAbs : Int) * b = a * (2 * ((s.natAbs : Int) * T)) := by
    rw [show b = a * (2 * T) by omega]
    ac_rfl
  omega
end Go.Proofs.YtkendkbicafdgaaGreatDoor

/- The reference's Pow. -/
namespace Go.Proofs.YtkendkbicafdgaaGreatDoor
open Go.RowKit

theorem rmul_rz (w : World) (A B : Option Addr) (n m ca cb : Nat) (x y : Int) {na nb : Bool} (hA : Lm w w.heap.size A n ca (digs x.natAbs)) (hB : Lm w w.heap.size B m cb (digs y.natAbs)) (hx : (digs x.natAbs).length ≤ 4096) (hy : (digs y.natAbs).length ≤ 4096) (ha : decide (x < 0) = na) (hb : decide (y < 0) = nb) :
    Calls Tryz.prog 38 #[.agg #[.bool na, .slice A n ca], .agg #[.bool nb, .slice B m cb]] w (RZ w (x * y)) := by
  subst ha hb
  have h := rmul_ok w _ _ A B n m ca cb _ _ hA hB (chkB_z (digs_len.1 hx) (Nat.le_refl _) (digs_len.1 hy) (Nat.le_refl _))
  have e1 := rz_of w (decide (x < 0) != decide (y < 0)) (x.natAbs * y.natAbs) (z := x * y) (by rw [← toI_mul, toI_self, toI_self])
  rw [e1] at h
  exact h

set_option maxRecDepth 100000 in
set_option maxHeartbeats 1000000 in
theorem rpow_bad (w : World) (neg : Bool) (A : Option Addr) (n c : Nat) (xs : List Nat) (k : Int) (h : Lm w w.heap.size A n c xs) (hc : chk neg xs = 8) :
    Calls Tryz.prog 13 #[.agg #[.bool neg, .slice A n c], .int .i64 k] w (RW w false [] 8) := by
  have HH := Lib.hid h
  have HC := Lib.hid hc
  clear hc
  go_enter Tryz.func13, Tryz.ntmps13
  go_wp2_with fail
  refine (rcheck_bad _ _ _ _ _ _ ((HH.out.box _).box _) HC.out).mono ?_
  rintro e w1 ⟨rfl, hb1⟩
  have ⟨hx0, hx1, hy0, hy1, hf0, hf1, hsz⟩ := box2 hb1
  go_wp2_with fail
  refine (rcheck_bad _ _ _ _ _ _ (((HH.out.box _).box _).via hb1) HC.out).mono ?_
  rintro e w2 ⟨rfl, hb2⟩
  have hky2 := keep2 hb2 hsz ⟨hy0, hy1⟩
  have ⟨hkf0, hkf1⟩ := keepF hb2 hsz ⟨hf0, hf1⟩
  go_wp2
  exact post_ws Tryz.results13 rfl rfl hky2.1 hky2.2 ⟨none, 0, 0, rfl, Lm.nil _ _, below_set2 ((bbox (bbox hb1)).trans (hb2.mono (by omega))) (by omega) _ _⟩

set_option maxRecDepth 100000 in
set_option maxHeartbeats 1000000 in
theorem rpow_arg (w : World) (neg : Bool) (A : Option Addr) (n c : Nat) (xs : List Nat) (k : Int) (h : Lm w w.heap.size A n c xs) (hc : chk neg xs = 0) (hk : k < 0 ∨ 1000 < k) :
    Calls Tryz.prog 13 #[.agg #[.bool neg, .slice A n c], .int .i64 k] w (RW w false [] 2) := by
  have HH := Lib.hid h
  have HC := Lib.hid hc
  clear hc
  go_enter Tryz.func13, Tryz.ntmps13
  go_wp2_with fail
  refine (rcheck_ok _ _ _ _ _ _ ((HH.out.box _).box _) HC.out).mono ?_
  rintro e w1 ⟨rfl, hb1⟩
  have ⟨hx0, hx1, hy0, hy1, hf0, hf1, hsz⟩ := box2 hb1
  rcases hk with hk | hk
  · go_wp2
    exact post_ws Tryz.results13 rfl rfl hy0 hy1 ⟨none, 0, 0, rfl, Lm.nil _ _, below_set2 (bbox (bbox hb1)) (by omega) _ _⟩
  · have hk2 : decide (k < 0) = false := by simp; omega
    go_wp2
    exact post_ws Tryz.results13 rfl rfl hy0 hy1 ⟨none, 0, 0, rfl, Lm.nil _ _, below_set2 (bbox (bbox hb1)) (by omega) _ _⟩

set_option maxRecDepth 100000 in
set_option maxHeartbeats 2000000 in
theorem rpow_ok (w : World) (A : Option Addr) (n c k : Nat) (x : Int) {na : Bool} (h : Lm w w.heap.size A n c (digs x.natAbs)) (hx : (digs x.natAbs).length ≤ 4096) (hk : k ≤ 1000) (ha : decide (x < 0) = na) :
    Calls Tryz.prog 13 #[.agg #[.bool na, .slice A n c], .int .i64 (k : Int)] w (RZ w (x ^ k)) := by
  have HH := Lib.hid h
  have HX := Lib.hid hx
  have HN := Lib.hid ha
  have HC : Hid (chk na (digs x.natAbs) = 0) := by show _ = _; rw [← ha]; exact chk_z (digs_len.1 hx) (Nat.le_refl _)
  have hkd : decide ((k : Int) < 0) = false := decide_eq_false (by omega)
  have hkd2 : decide ((1000 : Int) < (k : Int)) = false := decide_eq_false (by omega)
  clear h hx ha
  go_enter Tryz.func13, Tryz.ntmps13
  go_wp2_with fail
  refine (rcheck_ok _ _ _ _ _ _ ((HH.out.box _).box _) HC.out).mono ?_
  rintro e w1 ⟨rfl, hb1⟩
  have P0 := Lib.hid (((Pr.new w _ rfl (.bool na) (.slice A n c) 24).alloc (.cells #[.bool false, .slice none 0 0] 24)).via hb1)
  have P1 := Lib.hid ((Pr.new (w.alloc (.cells #[.bool na, .slice A n c] 24)) (w.heap.size + 1) (by simp) (.bool false) (.slice none 0 0) 24).via hb1)
  have L1 := Lib.hid (((HH.out.box _).box _).via hb1)
  have B1 := Lib.hid (bbox (bbox hb1))
  clear hb1
  go_wp2_with fail
  refine (rfrom_any _ 1 (by omega) (by omega)).mono ?_
  rintro e w2 ⟨A2, n2, c2, rfl, hL2, hb2⟩
  have P0' := Lib.hid (P0.out.via hb2)
  have P1' := Lib.hid (P1.out.via hb2)
  have L1' := Lib.hid (L1.out.via hb2)
  have B2 := Lib.hid (B1.out.trans (hb2.mono B1.out.size))
  have L2 := Lib.hid hL2
  clear hL2 hb2 P0 P1 L1 B1
  have P2 := Lib.hid (Pr.new w2 _ rfl (.bool false) (.slice A2 n2 c2) 24)
  have P0 := Lib.hid (P0'.out.alloc (.cells #[.bool false, .slice A2 n2 c2] 24))
  have P1 := Lib.hid (P1'.out.alloc (.cells #[.bool false, .slice A2 n2 c2] 24))
  have L1 := Lib.hid (L1'.out.box (.cells #[.bool false, .slice A2 n2 c2] 24))
  have L3 := Lib.hid (L2.out.box (.cells #[.bool false, .slice A2 n2 c2] 24))
  have B3 := Lib.hid (B2.out.alloc B2.out.size (.cells #[.bool false, .slice A2 n2 c2] 24))
  have hg7 : w.heap.size + 1 < w2.heap.size := P1'.out.lt
  have hd1 : decide ((1 : Int) < 0) = false := rfl
  clear P0' P1' L1' L2 B2
  go_wp2
  generalize w2.alloc (.cells #[.bool false, .slice A2 n2 c2] 24) = W3 at *
  generalize w2.heap.size = g at *
  go_loopw [7] (fun iv wr => ∃ (j : Nat) (ny : Bool) (A' : Option Addr) (n' c' : Nat), j ≤ k ∧ iv = .int .i64 (j : Int) ∧ Pr wr g (.bool ny) (.slice A' n' c') ∧ Lm wr wr.heap.size A' n' c' (digs (x ^ j).natAbs) ∧ ny = decide (x ^ j < 0) ∧ (digs (x ^ j).natAbs).length ≤ 4096 ∧
      Pr wr w.heap.size (.bool na) (.slice A n c) ∧ Pr wr (w.heap.size + 1) (.bool false) (.slice none 0 0) ∧ Lm wr wr.heap.size A n c (digs x.natAbs) ∧ Below w.heap.size w wr) (fun iv _ => k - (intOf iv).toNat)
  case atStart =>
    refine ⟨0, false, A2, n2, c2, Nat.zero_le _, rfl, P2.out, ?_, ?_, ?_, P0.out, P1.out, L1.out, B3.out⟩
    · rw [Int.pow_zero]; exact L3.out
    · rw [Int.pow_zero]; rfl
    · rw [Int.pow_zero]; decide
  case round =>
    obtain ⟨j, ny, A', n', c', hj, rfl, hP, hY, hny, hyl, hP0, hP1, hL, hB⟩ := hrel
    have HP := Lib.hid hP
    have HP0 := Lib.hid hP0
    have HP1 := Lib.hid hP1
    have HL := Lib.hid hL
    have HB := Lib.hid hB
    have HY := Lib.hid hY
    have HNy := Lib.hid hny.symm
    have HFy := Lib.hid hyl
    clear P0 P1 P2 L1 L3 B3 hP hP0 hP1 hL hB hY hny hyl
    have ⟨p0, p1, _, _, _⟩ := HP.out
    have ⟨w0, w1, _, _, _⟩ := HP0.out
    have ⟨r0, r1, _, _, _⟩ := HP1.out
    by_cases hlt : j < k
    · go_wp2_with fail
      refine (rmul_rz _ _ _ _ _ _ _ (x ^ j) x HY.out HL.out HFy.out HX.out HNy.out HN.out).mono ?_
      intro e w4 hr
      rcases rz_cases hr with ⟨hfit, hr2⟩ | ⟨hfit, hr2⟩
      · obtain ⟨A4, n4, c4, rfl, hL4, hb4⟩ := hr2
        have HE : Hid (x ^ j * x = x ^ (j + 1)) := (Int.pow_succ x j).symm
        have hfit' := hfit
        rw [HE.out] at hL4 hfit'
        have HF := Lib.hid hfit'
        obtain ⟨nz, hnz⟩ : ∃ b, decide (x ^ j * x < 0) = b := ⟨_, rfl⟩
        rw [hnz]
        rw [HE.out] at hnz
        have HNz := Lib.hid hnz.symm
        have HQ := Lib.hid (HP.out.via hb4)
        have HQ0 := Lib.hid (HP0.out.via hb4)
        have HQ1 := Lib.hid (HP1.out.via hb4)
        have HM := Lib.hid (HL.out.via hb4)
        have HL4 := Lib.hid hL4
        have HB4 := Lib.hid (HB.out.trans (hb4.mono HB.out.size))
        clear hr hfit hfit' hL4 hb4 hnz p0 p1 w0 w1 r0 r1 HP HP0 HP1 HL HY HB
        have ⟨p0, p1, f0, f1, _⟩ := HQ.out
        go_wp2
        go_roundw
        case rel =>
          refine ⟨j + 1, nz, A4, n4, c4, by omega, by go_num, (HQ.out.set _ _).alloc _, (HL4.out.setP HQ.out _ _).box _, HNz.out, HF.out, (HQ0.out.far (by omega) _ _).alloc _, (HQ1.out.far (by omega) _ _).alloc _, (HM.out.setP HQ.out _ _).box _, ?_⟩
          have hb := below_set2 HB4.out (g := g) (by omega) (.bool nz) (.slice A4 n4 c4)
          exact hb.alloc hb.size _
        case measure => simp [intOf]; omega
      · have HF : Hid (4096 < (digs (x ^ k).natAbs).length) := by
          show _ < _
          have hE : x ^ j * x = x ^ (j + 1) := (Int.pow_succ x j).symm
          rw [hE] at hfit
          exact pow_way (show j + 1 ≤ k by omega) hfit
        obtain ⟨A4, n4, c4, rfl, hL4, hb4⟩ := hr2
        have HFit := Lib.hid (rz_big (w := w) HF.out)
        have HR4 := Lib.hid (HP1.out.via hb4)
        have HB4 := Lib.hid (HB.out.trans (hb4.mono HB.out.size))
        clear hr hfit hL4 hb4 p0 p1 w0 w1 r0 r1 HP HP0 HP1 HL HY HB
        have ⟨r0, r1, rf0, rf1, _⟩ := HR4.out
        go_wp2
        refine post_w Tryz.results13 rfl rfl ((HR4.out.set _ _).alloc _).c0 ((HR4.out.set _ _).alloc _).c1 ?_
        rw [HFit.out]
        have hb := below_set2 HB4.out (g := w.heap.size + 1) (by omega) (.bool false) (.slice none 0 0)
        exact ⟨none, 0, 0, rfl, Lm.nil _ _, hb.alloc hb.size _⟩
    · obtain rfl : j = k := by omega
      have HFit := Lib.hid (rz_fit (w := w) HFy.out)
      obtain rfl := HNy.out.symm
      obtain ⟨ny, hny⟩ : ∃ b, decide (x ^ j < 0) = b := ⟨_, rfl⟩
      rw [hny] at HP HFit p0
      go_wp2
      exact post_ws Tryz.results13 rfl rfl r0 r1 (by rw [HFit.out]; exact ⟨A', n', c', rfl, HY.out.setP HP1.out _ _, below_set2 HB.out (by omega) _ _⟩)
end Go.Proofs.YtkendkbicafdgaaGreatDoor

/- The reference of frac at valid fractions, by what these are worth: Check, Few, Sub, Mul, Cmp, Reduced. -/
namespace Go.Proofs.YtkendkbicafdgaaGreatDoor
open Go.RowKit

theorem rsub_w {w : World} {k : Nat} {u v a b : Int} {z1 z2 : Bool} {A B C D : Option Addr} {n m r s ca cb cc cd : Nat} (X : Fw w k u v z1 A n ca B m cb) (Y : Fw w k a b z2 C r cc D s cd) (hk : k ≤ 300) : Calls Tryz.prog 12 #[fv z1 A n ca false B m cb, fv z2 C r cc false D s cd] w (RFw w (2 * k + 1) (u * b - a * v) (v * b)) := by
  obtain ⟨p, q, e1, f, hA, hB⟩ := X
  obtain ⟨x, z, e2, g, hC, hD⟩ := Y
  have h0 : 0 < q * z := Int.mul_pos f.pos g.pos
  have hf := red_fr (k := 2 * k + 1) (x := p * z - x * q) (y := q * z) (((f.sp.mul g.sq).sub (g.sp.mul f.sq)).mono (by omega)) ((f.sq.mul g.sq).mono (by omega)) (by omega) (by omega)
  have hw := frv_to hf (by omega) (u' := u * b - a * v) (v' := v * b) (frv_sub f.eq g.eq)
  exact (rsub_g w z1 false z2 false A B C D n m r s ca cb cc cd _ _ _ _ hA hB hC hD (by rw [← e1]; exact f.ok) (by rw [← e2]; exact g.ok) _ _ fun W h1 h2 h3 h4 => radded_sub W A B C D n m r s ca cb cc cd k p x q z h1 f.sp e1 h3 g.sp e2 h2 f.sq (decide_eq_false (show ¬ q < 0 by have := f.pos; omega)) h4 g.sq (decide_eq_false (show ¬ z < 0 by have := g.pos; omega)) hk f.pos g.pos).mono fun e w' h => rfe_rfw hw h
theorem rmul_w {w : World} {k : Nat} {u v a b : Int} {z1 z2 : Bool} {A B C D : Option Addr} {n m r s ca cb cc cd : Nat} (X : Fw w k u v z1 A n ca B m cb) (Y : Fw w k a b z2 C r cc D s cd) (hk : k ≤ 300) : Calls Tryz.prog 16 #[fv z1 A n ca false B m cb, fv z2 C r cc false D s cd] w (RFw w (2 * k) (u * a) (v * b)) := by
  obtain ⟨p, q, e1, f, hA, hB⟩ := X
  obtain ⟨x, z, e2, g, hC, hD⟩ := Y
  have h0 : 0 < q * z := Int.mul_pos f.pos g.pos
  have hf := red_fr (k := 2 * k) (x := p * x) (y := q * z) ((f.sp.mul g.sp).mono (by omega)) ((f.sq.mul g.sq).mono (by omega)) (by omega) (by omega)
  have hw := frv_to hf (by omega) (u' := u * a) (v' := v * b) (frv_mul f.eq g.eq)
  exact (rmul_g w z1 false z2 false A B C D n m r s ca cb cc cd _ _ _ _ hA hB hC hD (by rw [← e1]; exact f.ok) (by rw [← e2]; exact g.ok) _ _ fun W h1 h2 h3 h4 => rprod_pos W A B C D n m r s ca cb cc cd k p x q z h1 f.sp e1 h3 g.sp e2 h2 f.sq (decide_eq_false (show ¬ q < 0 by have := f.pos; omega)) h4 g.sq (decide_eq_false (show ¬ z < 0 by have := g.pos; omega)) hk h0).mono fun e w' h => rfe_rfw hw h
theorem rcmp_w {w : World} {k : Nat} {u v a b : Int} {z1 z2 : Bool} {A B C D : Option Addr} {n m r s ca cb cc cd : Nat} (X : Fw w k u v z1 A n ca B m cb) (Y : Fw w k a b z2 C r cc D s cd) (hk : k ≤ 300) (hv : 0 < v) (hb : 0 < b) : Calls Tryz.prog 18 #[fv z1 A n ca false B m cb, fv z2 C r cc false D s cd] w (RIE w (cmpZ (u * b) (a * v)) 0) := by
  obtain ⟨p, q, e1, f, hA, hB⟩ := X
  obtain ⟨x, z, e2, g, hC, hD⟩ := Y
  have hc := frv_cmp f.pos g.pos hv hb f.eq g.eq
  have e : cmpZ (p * z) (x * q) = cmpZ (u * b) (a * v) := by
    have h1 := hc.1
    have h2 := hc.2
    generalize p * z = i at *
    generalize x * q = j at *
    generalize u * b = i2 at *
    generalize a * v = j2 at *
    unfold cmpZ
    repeat' split
    all_goals omega
  rw [← e]
  exact rcmp_g w z1 z2 A B C D n m r s ca cb cc cd k p q x z hA f.sp hB f.sq hC g.sp hD g.sq hk e1 e2 f.pos g.pos (by rw [← e1]; exact f.ok) (by rw [← e2]; exact g.ok)
/-- Check of a valid fraction. -/
theorem rchk_w {w : World} {k : Nat} {u v : Int} {z1 : Bool} {A B : Option Addr} {n m ca cb : Nat} (X : Fw w k u v z1 A n ca B m cb) : Calls Tryz.prog 6 #[fv z1 A n ca false B m cb] w (fun e w' => e = .returned (.int .i64 0) ∧ Below w.heap.size w w') := by
  obtain ⟨p, q, e1, f, hA, hB⟩ := X
  have h := rfcheck_any w z1 false A B n m ca cb _ _ hA hB
  rw [show fchk z1 (digs p.natAbs) false (digs q.natAbs) = 0 by rw [← e1]; exact f.ok] at h
  exact h
/-- Few of a valid fraction is what its size allows. -/
theorem rfew_w {w : World} {k : Nat} {u v : Int} {z1 : Bool} {A B : Option Addr} {n m ca cb : Nat} (X : Fw w k u v z1 A n ca B m cb) : Calls Tryz.prog 7 #[fv z1 A n ca false B m cb] w (fun e w' => ∃ l : Nat, e = .returned (.int .i64 (l : Int)) ∧ l ≤ k ∧ Below w.heap.size w w') := by
  obtain ⟨p, q, e1, f, hA, hB⟩ := X
  refine (few_any w z1 false A B n m ca cb).mono ?_
  rintro e w' ⟨rfl, hb⟩
  have h1 := f.sp.len
  have h2 := f.sq.len
  have h3 := hA.len
  have h4 := hB.len
  exact ⟨max n m, rfl, by omega, hb⟩
/-- The fraction 1 / y of the reference. -/
theorem rone_w {w : World} {k : Nat} {y : Int} {A B : Option Addr} {n m ca cb : Nat} (hA : Lm w w.heap.size A n ca (digs (1 : Int).natAbs)) (hB : Lm w w.heap.size B m cb (digs y.natAbs)) (hy : Sz k y) (hk : k ≤ 2000) (hk1 : 1 ≤ k) (hs : 0 < y) :
    Calls Tryz.prog 15 #[.agg #[.bool false, .slice A n ca], .agg #[.bool false, .slice B m cb]] w (RFp w k 1 y) := by
  have h1 : Sz k (1 : Int) := Sz.mono (show Sz 1 (1 : Int) by unfold Sz; decide) hk1
  have hf := red_fr (k := k) (x := 1) (y := y) h1 hy hk (by omega)
  refine (rreduced_pos w A B n m ca cb k 1 y hA hB h1 hy hk (by decide) (decide_eq_false (by omega)) hs).mono ?_
  rintro e w' ⟨A1, n1, c1, B1, m1, d1, rfl, hL1, hL2, hb⟩
  refine ⟨decide (1 / dvr 1 y < 0), A1, n1, c1, B1, m1, d1, ?_, ⟨_, _, rfl, hf, hL1, hL2⟩, hb⟩
  rw [decide_eq_false (show ¬ y / dvr 1 y < 0 by have := hf.pos; omega)]
/-- The sign of a fraction put out. -/
theorem Fw.abs {w : World} {k : Nat} {u v : Int} {z : Bool} {A B : Option Addr} {n c m cb : Nat} (h : Fw w k u v z A n c B m cb) (hv : 0 < v) : Fw w k (u.natAbs : Int) v false A n c B m cb := by
  obtain ⟨p, q, h1, f, h3, h4⟩ := h
  have hq := f.pos
  have e : ((p.natAbs : Nat) : Int).natAbs = p.natAbs := by omega
  refine ⟨(p.natAbs : Int), q, decide_eq_false (by omega), ⟨f.pos, ?_, ?_, ?_, f.sq⟩, by rw [e]; exact h3, h4⟩
  · have := congrArg Int.natAbs f.eq
    rw [Int.natAbs_mul, Int.natAbs_mul] at this
    have h7 : ((p.natAbs * v.natAbs : Nat) : Int) = ((u.natAbs * q.natAbs : Nat) : Int) := by rw [this]
    rw [Int.natCast_mul, Int.natCast_mul, show ((v.natAbs : Nat) : Int) = v by omega, show ((q.natAbs : Nat) : Int) = q by omega] at h7
    exact h7
  · have h8 := f.ok
    rw [e, decide_eq_false (show ¬ (((p.natAbs : Nat) : Int) < 0) by omega)]
    unfold fchk at h8 ⊢
    split at h8
    · rename_i hh
      refine if_pos ⟨?_, hh.2⟩
      have h9 := hh.1
      exact chk_ok.2 ⟨(chk_ok.1 h9).1, (chk_ok.1 h9).2.1, fun hh => absurd hh (by decide)⟩
    · cases h8
  · exact (show Sz k ((p.natAbs : Nat) : Int) by have := f.sp; unfold Sz at *; omega)
theorem Qd.sgn {w : World} {g : Nat} {x0 x1 x2 x3 : Value} (p : Qd w g x0 x1 x2 x3) (y : Value) : Qd (w.setCell ⟨g, 0, none⟩ y) g y x1 x2 x3 := by
  have h0 := p.c0; have h1 := p.c1; have h2 := p.c2; have h3 := p.c3; have f0 := p.f0; have f1 := p.f1; have f2 := p.f2; have f3 := p.f3; have hl := p.lt
  exact ⟨by go_simp, by go_simp, by go_simp, by go_simp, by simpa using f0, by simpa using f1, by simpa using f2, by simpa using f3, by simpa [World.size_setCell] using hl⟩
theorem Fw.sgn {w : World} {k : Nat} {u v : Int} {z : Bool} {A B : Option Addr} {n c m cb : Nat} (h : Fw w k u v z A n c B m cb) {g : Nat} {b b' : Bool} {A0 A1 : Option Addr} {n0 c0 n1 c1 : Nat} (p : Qd w g (.bool b) (.slice A0 n0 c0) (.bool b') (.slice A1 n1 c1)) (y : Value) : Fw (w.setCell ⟨g, 0, none⟩ y) k u v z A n c B m cb := by
  obtain ⟨p1, q1, h1, h2, h3, h4⟩ := h
  exact ⟨p1, q1, h1, h2, h3.setv p.c0 (fun _ hh => by cases hh) y, h4.setv p.c0 (fun _ hh => by cases hh) y⟩
/-- A box with a valid fraction. -/
def Fq (w : World) (g k : Nat) (u v : Int) : Prop := ∃ z A n c B m cb, Qd w g (.bool z) (.slice A n c) (.bool false) (.slice B m cb) ∧ Fw w k u v z A n c B m cb
def FqO (W : World) (k : Nat) (u v : Int) (sx : Value) (wx : World) : Prop := ∃ g, sx = .pointer (some ⟨g, 0, none⟩) ∧ Fq wx g k u v ∧ W.heap.size ≤ g ∧ Below W.heap.size W wx
section
variable {W w4 : World} {k : Nat} {u v : Int} {z : Bool} {A B : Option Addr} {n c m d : Nat} {t : TypeId}
theorem qfin1 (hB : Below W.heap.size W w4) (X : Fw w4 k u v z A n c B m d) : FqO W k u v (.pointer (some ⟨w4.heap.size, 0, none⟩)) (w4.alloc (.cells #[.bool z, .slice A n c, .bool false, .slice B m d] t)) :=
  ⟨_, rfl, ⟨_, _, _, _, _, _, _, Qd.new w4 _ rfl _ _ _ _ t, X.alloc _⟩, hB.size, hB.alloc hB.size _⟩
theorem qfin2 {g : Nat} (hB : Below W.heap.size W w4) (X : Fw w4 k u v z A n c B m d) (P : Qd w4 g (.bool false) (.slice none 0 0) (.bool false) (.slice none 0 0)) (hg : W.heap.size ≤ g) :
    FqO W k u v (.pointer (some ⟨g, 0, none⟩)) (Proofs.YtkendkbicafdgaaGreatDoor.put4 w4 g (.bool z) (.slice A n c) (.bool false) (.slice B m d)) :=
  ⟨_, rfl, ⟨_, _, _, _, _, _, _, P.set _ _ _ _, X.put4 P _ _ _ _⟩, hg, below_put4 hB hg _ _ _ _⟩
end
/-- A power of ten of the reference. -/
theorem rpow10 {w : World} {A : Option Addr} {n c d : Nat} {T : Int} (h : Lm w w.heap.size A n c (digs (10 : Int).natAbs)) (hd : d ≤ 50) (e : (10 : Int) ^ d = T) (hs : Sz 6 T) (hT : 0 < T) :
    Calls Tryz.prog 13 #[.agg #[.bool false, .slice A n c], .int .i64 (d : Int)] w (fun e w' => ∃ A n c, e = .returned (.tuple #[.agg #[.bool false, .slice A n c], .int .i64 0]) ∧ Lm w' w'.heap.size A n c (digs T.natAbs) ∧ Below w.heap.size w w') := by
  have h1 := rpow_ok w A n c d 10 (na := false) h (by decide) (by omega) (by decide)
  rw [e] at h1
  refine h1.mono fun e2 w' hr => ?_
  obtain ⟨A1, n1, c1, he, hL, hb⟩ := rz_rn hs (by omega) hr
  refine ⟨A1, n1, c1, ?_, hL, hb⟩
  rw [he, decide_eq_false (show ¬ T < 0 by omega)]
/-- The last comparison. -/
theorem cmp_half {D P T : Int} (hP : 0 < P) (hT : 0 < T) (h : 2 * D.natAbs ≤ P.natAbs) : decide (cmpZ ((D.natAbs : Int) * (T * 2)) (1 * 1 * (P * T)) ≤ 0) = true := by
  have h1 : 2 * (D.natAbs : Int) ≤ P := by omega
  have h2 : 2 * (D.natAbs : Int) * T ≤ P * T := Int.mul_le_mul_of_nonneg_right h1 (by omega)
  have h3 : (D.natAbs : Int) * (T * 2) = 2 * (D.natAbs : Int) * T := by ac_rfl
  rw [h3, Int.one_mul, Int.one_mul]
  generalize 2 * (D.natAbs : Int) * T = i at *
  generalize P * T = j at *
  refine decide_eq_true ?_
  unfold cmpZ
  repeat' split
  all_goals omega
end Go.Proofs.YtkendkbicafdgaaGreatDoor

/- The walk of the law FracBack. -/
namespace Go.Proofs.YtkendkbicafdgaaGreatDoor
open Go.RowKit

set_option maxRecDepth 100000 in
set_option maxHeartbeats 8000000 in
theorem bk_out0 (w : World) (na nb : Bool) (A B : Option Addr) (n m ca cb u : Nat) (hu : u < 256) (xs ys : List Nat) (hA : Lm w w.heap.size A n ca xs) (hB : Lm w w.heap.size B m cb ys) (hU : TabU w) (hg : 130 < n ∨ 130 < m) :
    Calls Tryz.prog 3 #[fv na A n ca nb B m cb, .int .u8 (u : Int)] w (RBw w true) := by
  have HG : Hid ((decide (130 < n) || decide (130 < m)) = true) := by
    show _ = _
    simp
    omega
  clear hg
  have QF := Lib.hid (Qd.new w w.heap.size rfl (.bool na) (.slice A n ca) (.bool nb) (.slice B m cb) 26)
  have BX : Hid (Below w.heap.size w (w.alloc (.cells #[.bool na, .slice A n ca, .bool nb, .slice B m cb] 26))) := below_alloc (Below.refl _ _) _
  have LA := Lib.hid (hA.via BX.out)
  have LB := Lib.hid (hB.via BX.out)
  have hq1 := hA.cap
  have hq2 := hA.max
  have hq3 := hB.cap
  have hq4 := hB.max
  have HU := Lib.hid (hU.via BX.out)
  clear hA hB hU
  go_enter Tryz.func3, Tryz.ntmps3
  go_upto_region 1 with (fail)
  generalize w.alloc (.cells #[.bool na, .slice A n ca, .bool nb, .slice B m cb] 26) = W0 at *
  go_wp2_with fail
  refine (lalive_w _ HU.out).mono ?_
  rintro e w1 ⟨rfl, hb⟩
  replace QF := Lib.hid (QF.out.via hb)
  replace LA := Lib.hid (LA.out.via hb)
  replace LB := Lib.hid (LB.out.via hb)
  replace BX := Lib.hid (btr BX.out hb)
  clear hb
  clear HU
  obtain ⟨d, hd⟩ : ∃ d, u % 51 = d := ⟨_, rfl⟩
  have hu1 : ((u : Int).tmod 51) = (d : Int) := by rw [Int.tmod_eq_emod_of_nonneg (by omega)]; omega
  have hd5 : d ≤ 50 := by omega
  clear hd
  have ⟨fa0, fa1, fa2, fa3, fa4, fa5, fa6, fa7, fa8⟩ := QF.out
  go_wp2_with fail
  clear fa0 fa1 fa2 fa3 fa4 fa5 fa6 fa7 fa8
  refine (fgreat_any _ na nb A B n m ca cb hq1 hq2 hq3 hq4).mono ?_
  rintro e w2 ⟨rfl, hb⟩
  replace QF := Lib.hid (QF.out.via hb)
  replace LA := Lib.hid (LA.out.via hb)
  replace LB := Lib.hid (LB.out.via hb)
  replace BX := Lib.hid (btr BX.out hb)
  clear hb
  rw [HG.out]
  go_wp2
  go_ret
  exact ⟨rfl, BX.out⟩
set_option maxRecDepth 100000 in
set_option maxHeartbeats 8000000 in
theorem bk_out1 (w : World) (na nb : Bool) (A B : Option Addr) (n m ca cb u : Nat) (hu : u < 256) (xs ys : List Nat) (hA : Lm w w.heap.size A n ca xs) (hB : Lm w w.heap.size B m cb ys) (hU : TabU w) (hg : ¬ (130 < n ∨ 130 < m)) (hc : fchk na xs nb ys = 8) :
    Calls Tryz.prog 3 #[fv na A n ca nb B m cb, .int .u8 (u : Int)] w (RBw w true) := by
  have HG : Hid ((decide (130 < n) || decide (130 < m)) = false) := by
    show _ = _
    simp
    omega
  clear hg
  have HC := Lib.hid hc
  clear hc
  have QF := Lib.hid (Qd.new w w.heap.size rfl (.bool na) (.slice A n ca) (.bool nb) (.slice B m cb) 26)
  have BX : Hid (Below w.heap.size w (w.alloc (.cells #[.bool na, .slice A n ca, .bool nb, .slice B m cb] 26))) := below_alloc (Below.refl _ _) _
  have LA := Lib.hid (hA.via BX.out)
  have LB := Lib.hid (hB.via BX.out)
  have hq1 := hA.cap
  have hq2 := hA.max
  have hq3 := hB.cap
  have hq4 := hB.max
  have HU := Lib.hid (hU.via BX.out)
  clear hA hB hU
  go_enter Tryz.func3, Tryz.ntmps3
  go_upto_region 1 with (fail)
  generalize w.alloc (.cells #[.bool na, .slice A n ca, .bool nb, .slice B m cb] 26) = W0 at *
  go_wp2_with fail
  refine (lalive_w _ HU.out).mono ?_
  rintro e w1 ⟨rfl, hb⟩
  replace QF := Lib.hid (QF.out.via hb)
  replace LA := Lib.hid (LA.out.via hb)
  replace LB := Lib.hid (LB.out.via hb)
  replace BX := Lib.hid (btr BX.out hb)
  clear hb
  clear HU
  obtain ⟨d, hd⟩ : ∃ d, u % 51 = d := ⟨_, rfl⟩
  have hu1 : ((u : Int).tmod 51) = (d : Int) := by rw [Int.tmod_eq_emod_of_nonneg (by omega)]; omega
  have hd5 : d ≤ 50 := by omega
  clear hd
  have ⟨fa0, fa1, fa2, fa3, fa4, fa5, fa6, fa7, fa8⟩ := QF.out
  go_wp2_with fail
  clear fa0 fa1 fa2 fa3 fa4 fa5 fa6 fa7 fa8
  refine (fgreat_any _ na nb A B n m ca cb hq1 hq2 hq3 hq4).mono ?_
  rintro e w2 ⟨rfl, hb⟩
  replace QF := Lib.hid (QF.out.via hb)
  replace LA := Lib.hid (LA.out.via hb)
  replace LB := Lib.hid (LB.out.via hb)
  replace BX := Lib.hid (btr BX.out hb)
  clear hb
  rw [HG.out]
  have ⟨fa0, fa1, fa2, fa3, fa4, fa5, fa6, fa7, fa8⟩ := QF.out
  go_wp2_with fail
  clear fa0 fa1 fa2 fa3 fa4 fa5 fa6 fa7 fa8
  refine (rfcheck_any _ na nb A B n m ca cb xs ys LA.out LB.out).mono ?_
  rintro e w3 ⟨rfl, hb⟩
  replace QF := Lib.hid (QF.out.via hb)
  replace LA := Lib.hid (LA.out.via hb)
  replace LB := Lib.hid (LB.out.via hb)
  replace BX := Lib.hid (btr BX.out hb)
  clear hb
  rw [HC.out]
  go_wp2
  go_ret
  exact ⟨rfl, BX.out⟩
set_option maxRecDepth 100000 in
set_option maxHeartbeats 8000000 in
theorem bk_out2 (w : World) (na nb : Bool) (A B : Option Addr) (n m ca cb u : Nat) (hu : u < 256) (xs ys : List Nat) (hA : Lm w w.heap.size A n ca xs) (hB : Lm w w.heap.size B m cb ys) (hU : TabU w) (hg : ¬ (130 < n ∨ 130 < m)) (hc : fchk na xs nb ys = 0) (hf : 15 < max n m) :
    Calls Tryz.prog 3 #[fv na A n ca nb B m cb, .int .u8 (u : Int)] w (RBw w true) := by
  have HG : Hid ((decide (130 < n) || decide (130 < m)) = false) := by
    show _ = _
    simp
    omega
  clear hg
  have HC := Lib.hid hc
  clear hc
  obtain ⟨M, hM⟩ : ∃ M, max n m = M := ⟨_, rfl⟩
  rw [hM] at hf
  have HM := Lib.hid hM
  have hf2 : (15 : Int) < (M : Int) := by omega
  clear hM hf
  have QF := Lib.hid (Qd.new w w.heap.size rfl (.bool na) (.slice A n ca) (.bool nb) (.slice B m cb) 26)
  have BX : Hid (Below w.heap.size w (w.alloc (.cells #[.bool na, .slice A n ca, .bool nb, .slice B m cb] 26))) := below_alloc (Below.refl _ _) _
  have LA := Lib.hid (hA.via BX.out)
  have LB := Lib.hid (hB.via BX.out)
  have hq1 := hA.cap
  have hq2 := hA.max
  have hq3 := hB.cap
  have hq4 := hB.max
  have HU := Lib.hid (hU.via BX.out)
  clear hA hB hU
  go_enter Tryz.func3, Tryz.ntmps3
  go_upto_region 1 with (fail)
  generalize w.alloc (.cells #[.bool na, .slice A n ca, .bool nb, .slice B m cb] 26) = W0 at *
  go_wp2_with fail
  refine (lalive_w _ HU.out).mono ?_
  rintro e w1 ⟨rfl, hb⟩
  replace QF := Lib.hid (QF.out.via hb)
  replace LA := Lib.hid (LA.out.via hb)
  replace LB := Lib.hid (LB.out.via hb)
  replace BX := Lib.hid (btr BX.out hb)
  clear hb
  clear HU
  obtain ⟨d, hd⟩ : ∃ d, u % 51 = d := ⟨_, rfl⟩
  have hu1 : ((u : Int).tmod 51) = (d : Int) := by rw [Int.tmod_eq_emod_of_nonneg (by omega)]; omega
  have hd5 : d ≤ 50 := by omega
  clear hd
  have ⟨fa0, fa1, fa2, fa3, fa4, fa5, fa6, fa7, fa8⟩ := QF.out
  go_wp2_with fail
  clear fa0 fa1 fa2 fa3 fa4 fa5 fa6 fa7 fa8
  refine (fgreat_any _ na nb A B n m ca cb hq1 hq2 hq3 hq4).mono ?_
  rintro e w2 ⟨rfl, hb⟩
  replace QF := Lib.hid (QF.out.via hb)
  replace LA := Lib.hid (LA.out.via hb)
  replace LB := Lib.hid (LB.out.via hb)
  replace BX := Lib.hid (btr BX.out hb)
  clear hb
  rw [HG.out]
  have ⟨fa0, fa1, fa2, fa3, fa4, fa5, fa6, fa7, fa8⟩ := QF.out
  go_wp2_with fail
  clear fa0 fa1 fa2 fa3 fa4 fa5 fa6 fa7 fa8
  refine (rfcheck_any _ na nb A B n m ca cb xs ys LA.out LB.out).mono ?_
  rintro e w3 ⟨rfl, hb⟩
  replace QF := Lib.hid (QF.out.via hb)
  replace LA := Lib.hid (LA.out.via hb)
  replace LB := Lib.hid (LB.out.via hb)
  replace BX := Lib.hid (btr BX.out hb)
  clear hb
  rw [HC.out]
  have ⟨fa0, fa1, fa2, fa3, fa4, fa5, fa6, fa7, fa8⟩ := QF.out
  go_wp2_with fail
  clear fa0 fa1 fa2 fa3 fa4 fa5 fa6 fa7 fa8
  refine (few_any _ na nb A B n m ca cb).mono ?_
  rintro e w4 ⟨rfl, hb⟩
  replace QF := Lib.hid (QF.out.via hb)
  replace LA := Lib.hid (LA.out.via hb)
  replace LB := Lib.hid (LB.out.via hb)
  replace BX := Lib.hid (btr BX.out hb)
  clear hb
  rw [HM.out]
  go_wp2
  go_ret
  exact ⟨rfl, BX.out⟩
theorem bk_err (w : World) (l : List UInt8) (hl : l.length ≤ 60003) (hn : nml l = none) : Calls Tryz.prog 9 #[.string ⟨l.toArray⟩] w (RG w false [] false [] 12) := by
  have h := fparse_any w l (by omega)
  rw [show prP l = 0 by unfold prP; rw [hn], show prQ l = 0 by unfold prQ; rw [hn], show prE l = 12 by unfold prE; rw [hn]] at h
  exact h
theorem bk_ok (w : World) (l : List UInt8) (p q : Int) (k : Nat) (hn : nml l = some (p, q)) (hq : 0 < q) (hp : Sz k p) (hq2 : Sz k q) (hk : k ≤ 2000) : Calls Tryz.prog 9 #[.string ⟨l.toArray⟩] w (RFw w k p q) := by
  have hz := nml_sz hn
  have h := fparse_any w l (by omega)
  have e1 : prP l = p / dvr p q := by unfold prP; rw [hn]; exact if_neg (by omega)
  have e2 : prQ l = q / dvr p q := by unfold prQ; rw [hn]; exact if_neg (by omega)
  have e3 : prE l = 0 := by unfold prE; rw [hn]; exact if_neg (by omega)
  rw [e1, e2, e3] at h
  exact h.mono fun e w' hr => rfe_rfw (red_fr hp hq2 (by omega) (by omega)) hr
theorem sz_ten6 (d : Nat) (hd : d ≤ 50) : Sz 6 ((10 : Int) ^ d) := by
  show ((10 : Int) ^ d).natAbs < 4294967296 ^ 6
  rw [Int.natAbs_pow]
  exact Nat.lt_of_le_of_lt (Nat.pow_le_pow_right (by decide) hd) (by decide)
theorem nml_long {l : List UInt8} (h : 200 < l.length) : nml l = none := by unfold nml; rw [if_pos h]
theorem ftx_len {k : Nat} {x P : Int} (hx : Sz k x) (hP : Sz k P) (hk : k ≤ 2000) : (ftx x P).length ≤ 60003 := by
  have h1 := tx_len hx hk
  have h2 := tx_len hP hk
  unfold ftx
  split
  · omega
  · rw [List.length_append, List.length_cons]
    omega
set_option maxRecDepth 100000 in
set_option maxHeartbeats 8000000 in
theorem bk_in (w : World) (na : Bool) (A B : Option Addr) (n m ca cb u : Nat) (hu : u < 256) (x P : Int) (hA : Lm w w.heap.size A n ca (digs x.natAbs)) (hB : Lm w w.heap.size B m cb (digs P.natAbs)) (hU : TabU w) (hg : ¬ (130 < n ∨ 130 < m)) (hf : max n m ≤ 15) (hx : Sz 15 x) (hP : Sz 15 P) (hP0 : 0 < P) (ha : decide (x < 0) = na) (hc : fchk na (digs x.natAbs) false (digs P.natAbs) = 0) :
    Calls Tryz.prog 3 #[fv na A n ca false B m cb, .int .u8 (u : Int)] w (RBw w true) := by
  have HG : Hid ((decide (130 < n) || decide (130 < m)) = false) := by
    show _ = _
    simp
    omega
  obtain ⟨M, hM⟩ : ∃ M, max n m = M := ⟨_, rfl⟩
  rw [hM] at hf
  have HM := Lib.hid hM
  have hf2 : decide ((15 : Int) < (M : Int)) = false := decide_eq_false (by omega)
  clear hM hf
  have HX := Lib.hid hx
  have HP := Lib.hid hP
  have HP0 := Lib.hid hP0
  have HNa := Lib.hid ha
  have HC := Lib.hid hc
  clear hx hP ha hc hg
  have QF := Lib.hid (Qd.new w w.heap.size rfl (.bool na) (.slice A n ca) (.bool false) (.slice B m cb) 26)
  have BX : Hid (Below w.heap.size w (w.alloc (.cells #[.bool na, .slice A n ca, .bool false, .slice B m cb] 26))) := below_alloc (Below.refl _ _) _
  have LA := Lib.hid (hA.via BX.out)
  have LB := Lib.hid (hB.via BX.out)
  have hq1 := hA.cap
  have hq2 := hA.max
  have hq3 := hB.cap
  have hq4 := hB.max
  have HU := Lib.hid (hU.via BX.out)
  clear hA hB hU
  go_enter Tryz.func3, Tryz.ntmps3
  go_upto_region 1 with (fail)
  generalize w.alloc (.cells #[.bool na, .slice A n ca, .bool false, .slice B m cb] 26) = W0 at *
  go_wp2_with fail
  refine (lalive_w _ HU.out).mono ?_
  rintro e w1 ⟨rfl, hb⟩
  replace QF := Lib.hid (QF.out.via hb)
  replace LA := Lib.hid (LA.out.via hb)
  replace LB := Lib.hid (LB.out.via hb)
  replace HU := Lib.hid (HU.out.via hb)
  replace BX := Lib.hid (btr BX.out hb)
  clear hb
  obtain ⟨d, hd⟩ : ∃ d, u % 51 = d := ⟨_, rfl⟩
  have hu1 : ((u : Int).tmod 51) = (d : Int) := by rw [Int.tmod_eq_emod_of_nonneg (by omega)]; omega
  have hd5 : d ≤ 50 := by omega
  clear hd
  have ⟨fa0, fa1, fa2, fa3, fa4, fa5, fa6, fa7, fa8⟩ := QF.out
  go_wp2_with fail
  clear fa0 fa1 fa2 fa3 fa4 fa5 fa6 fa7 fa8
  refine (fgreat_any _ na false A B n m ca cb hq1 hq2 hq3 hq4).mono ?_
  rintro e w2 ⟨rfl, hb⟩
  replace QF := Lib.hid (QF.out.via hb)
  replace LA := Lib.hid (LA.out.via hb)
  replace LB := Lib.hid (LB.out.via hb)
  replace HU := Lib.hid (HU.out.via hb)
  replace BX := Lib.hid (btr BX.out hb)
  clear hb
  rw [HG.out]
  have ⟨fa0, fa1, fa2, fa3, fa4, fa5, fa6, fa7, fa8⟩ := QF.out
  go_wp2_with fail
  clear fa0 fa1 fa2 fa3 fa4 fa5 fa6 fa7 fa8
  refine (rfcheck_any _ na false A B n m ca cb _ _ LA.out LB.out).mono ?_
  rintro e w3 ⟨rfl, hb⟩
  replace QF := Lib.hid (QF.out.via hb)
  replace LA := Lib.hid (LA.out.via hb)
  replace LB := Lib.hid (LB.out.via hb)
  replace HU := Lib.hid (HU.out.via hb)
  replace BX := Lib.hid (btr BX.out hb)
  clear hb
  rw [HC.out]
  have ⟨fa0, fa1, fa2, fa3, fa4, fa5, fa6, fa7, fa8⟩ := QF.out
  go_wp2_with fail
  clear fa0 fa1 fa2 fa3 fa4 fa5 fa6 fa7 fa8
  refine (few_any _ na false A B n m ca cb).mono ?_
  rintro e w4 ⟨rfl, hb⟩
  replace QF := Lib.hid (QF.out.via hb)
  replace LA := Lib.hid (LA.out.via hb)
  replace LB := Lib.hid (LB.out.via hb)
  replace HU := Lib.hid (HU.out.via hb)
  replace BX := Lib.hid (btr BX.out hb)
  clear hb
  rw [HM.out]
  clear hq1 hq2 hq3 hq4
  have ⟨fa0, fa1, fa2, fa3, fa4, fa5, fa6, fa7, fa8⟩ := QF.out
  go_wp2_with fail
  clear fa0 fa1 fa2 fa3 fa4 fa5 fa6 fa7 fa8
  refine (ftext_n _ A B n m ca cb 15 x P LA.out LB.out HX.out HP.out (by omega) HP0.out HU.out HNa.out HC.out).mono ?_
  rintro e w5 ⟨rfl, hb⟩
  replace QF := Lib.hid (QF.out.via hb)
  replace LA := Lib.hid (LA.out.via hb)
  replace LB := Lib.hid (LB.out.via hb)
  replace HU := Lib.hid (HU.out.via hb)
  replace BX := Lib.hid (btr BX.out hb)
  clear hb
  have HS : Hid (nml (ftx x P) = none ∨ (ftx x P).length ≤ 200) := by
    show _ ∨ _
    by_cases h : (ftx x P).length ≤ 200
    · exact .inr h
    · exact .inl (nml_long (by omega))
  have hsz : (⟨(ftx x P).toArray⟩ : ByteArray).size = (ftx x P).length := by simp [ByteArray.size]
  by_cases hl : (ftx x P).length ≤ 200
  · have HN : Hid (nml (ftx x P) = some (x, P)) := nml_ftx HP0.out hl
    have hlen : ((ftx x P).length : Int) ≤ 200 := by omega
    generalize ftx x P = ft at *
    go_wp2_with fail
    refine (bk_ok _ ft x P 15 HN.out HP0.out HX.out HP.out (by omega)).mono ?_
    rintro e w6 ⟨z1, A1, n1, c1, B1, m1, d1, rfl, hX, hb⟩
    replace QF := Lib.hid (QF.out.via hb)
    replace LA := Lib.hid (LA.out.via hb)
    replace LB := Lib.hid (LB.out.via hb)
    replace HU := Lib.hid (HU.out.via hb)
    replace BX := Lib.hid (btr BX.out hb)
    have FX := Lib.hid hX
    clear hb hX
    go_upto_region 7 with (fail)
    have Q1 := Lib.hid (Qd.new w6 _ rfl (.bool z1) (.slice A1 n1 c1) (.bool false) (.slice B1 m1 d1) 26)
    replace QF := Lib.hid (QF.out.alloc (.cells #[.bool z1, .slice A1 n1 c1, .bool false, .slice B1 m1 d1] 26))
    replace LA := Lib.hid (LA.out.box (.cells #[.bool z1, .slice A1 n1 c1, .bool false, .slice B1 m1 d1] 26))
    replace LB := Lib.hid (LB.out.box (.cells #[.bool z1, .slice A1 n1 c1, .bool false, .slice B1 m1 d1] 26))
    replace HU := Lib.hid (HU.out.via ((Below.refl _ _).alloc (Nat.le_refl _) (.cells #[.bool z1, .slice A1 n1 c1, .bool false, .slice B1 m1 d1] 26)))
    replace FX := Lib.hid (FX.out.alloc (.cells #[.bool z1, .slice A1 n1 c1, .bool false, .slice B1 m1 d1] 26))
    replace BX := Lib.hid (below_alloc BX.out (.cells #[.bool z1, .slice A1 n1 c1, .bool false, .slice B1 m1 d1] 26))
    generalize w6.heap.size = g1 at *
    generalize w6.alloc (.cells #[.bool z1, .slice A1 n1 c1, .bool false, .slice B1 m1 d1] 26) = V1 at *
    have FA : Hid (Fw V1 15 x P na A n ca B m cb) := ⟨x, P, HNa.out, ⟨HP0.out, rfl, HNa.out ▸ HC.out, HX.out, HP.out⟩, LA.out, LB.out⟩
    have hP1 : P ≠ 0 := by omega
    have ⟨fa0, fa1, fa2, fa3, fa4, fa5, fa6, fa7, fa8⟩ := QF.out
    have ⟨fb0, fb1, fb2, fb3, fb4, fb5, fb6, fb7, fb8⟩ := Q1.out
    go_wp2_with fail
    clear fa0 fa1 fa2 fa3 fa4 fa5 fa6 fa7 fa8
    clear fb0 fb1 fb2 fb3 fb4 fb5 fb6 fb7 fb8
    refine (fsame_w FA.out FX.out hP1 hP1 rfl).mono ?_
    rintro e w7 ⟨rfl, hb⟩
    replace QF := Lib.hid (QF.out.via hb)
    replace LA := Lib.hid (LA.out.via hb)
    replace LB := Lib.hid (LB.out.via hb)
    replace HU := Lib.hid (HU.out.via hb)
    replace FX := Lib.hid (FX.out.via hb)
    replace Q1 := Lib.hid (Q1.out.via hb)
    replace FA := Lib.hid (FA.out.via hb)
    replace BX := Lib.hid (btr BX.out hb)
    clear hb
    clear FA FX Q1
    have ⟨fa0, fa1, fa2, fa3, fa4, fa5, fa6, fa7, fa8⟩ := QF.out
    go_wp2_with fail
    clear fa0 fa1 fa2 fa3 fa4 fa5 fa6 fa7 fa8
    refine (fdecimal_n _ A B n m ca cb 15 d x P LA.out LB.out HX.out HP.out (by omega) (by omega) hd5 HP0.out HU.out HNa.out HC.out).mono ?_
    rintro e w8 ⟨rfl, hb⟩
    replace QF := Lib.hid (QF.out.via hb)
    replace LA := Lib.hid (LA.out.via hb)
    replace LB := Lib.hid (LB.out.via hb)
    replace HU := Lib.hid (HU.out.via hb)
    replace BX := Lib.hid (btr BX.out hb)
    clear hb
    have hszt : (⟨(decT x P d).toArray⟩ : ByteArray).size = (decT x P d).length := by simp [ByteArray.size]
    by_cases hl2 : 200 < (decT x P d).length
    · have hl3 : (200 : Int) < ((decT x P d).length : Int) := by omega
      generalize decT x P d = tt at *
      go_wp2
      go_ret
      exact ⟨rfl, BX.out⟩
    · have hl3 : ((decT x P d).length : Int) ≤ 200 := by omega
      have HN : Hid (nml (decT x P d) = some (rndZ (x * 10 ^ d) P, 10 ^ d)) := nml_decT (by omega)
      have HT : Hid (Sz 6 ((10 : Int) ^ d)) := sz_ten6 d hd5
      have HR : Hid (Sz 22 (rndZ (x * 10 ^ d) P)) := rnd_sz (k := 21) (HX.out.mul HT.out) HP0.out
      have HT0 : Hid (0 < (10 : Int) ^ d) := Int.pow_pos (by decide)
      have HH : Hid (2 * (x * 10 ^ d - rndZ (x * 10 ^ d) P * P).natAbs ≤ P.natAbs) := rnd_half HP0.out
      have FA : Hid (Fw w8 22 x P na A n ca B m cb) := ⟨x, P, HNa.out, ⟨HP0.out, rfl, HNa.out ▸ HC.out, HX.out.mono (by omega), HP.out.mono (by omega)⟩, LA.out, LB.out⟩
      clear LA LB HU HX HP HNa HC
      obtain ⟨T, hT⟩ : ∃ T, (10 : Int) ^ d = T := ⟨_, rfl⟩
      rw [hT] at HN HT HR HT0 HH
      obtain ⟨r, hr⟩ : ∃ r, rndZ (x * T) P = r := ⟨_, rfl⟩
      rw [hr] at HN HR HH
      clear hr
      have HTd := Lib.hid hT
      clear hT
      generalize decT x P d = tt at *
      have HPT : Hid (0 < P * T) := Int.mul_pos HP0.out HT0.out
      have HT2 : Hid (0 < T * 2) := by have := HT0.out; show 0 < T * 2; omega
      have HCM := Lib.hid (cmp_half HP0.out HT0.out HH.out)
      clear HH
      go_wp2_with fail
      refine (bk_ok _ tt r T 22 HN.out HT0.out HR.out (HT.out.mono (by omega)) (by omega)).mono ?_
      rintro e w9 ⟨z2, A2, n2, c2, B2, m2, d2, rfl, hX, hb⟩
      replace QF := Lib.hid (QF.out.via hb)
      replace FA := Lib.hid (FA.out.via hb)
      replace BX := Lib.hid (btr BX.out hb)
      have FC := Lib.hid hX
      clear hb hX
      clear HN HR
      go_upto_region 15 with (fail)
      have Q2 := Lib.hid (Qd.new w9 _ rfl (.bool z2) (.slice A2 n2 c2) (.bool false) (.slice B2 m2 d2) 26)
      replace QF := Lib.hid (QF.out.alloc (.cells #[.bool z2, .slice A2 n2 c2, .bool false, .slice B2 m2 d2] 26))
      replace FA := Lib.hid (FA.out.alloc (.cells #[.bool z2, .slice A2 n2 c2, .bool false, .slice B2 m2 d2] 26))
      replace FC := Lib.hid (FC.out.alloc (.cells #[.bool z2, .slice A2 n2 c2, .bool false, .slice B2 m2 d2] 26))
      replace BX := Lib.hid (below_alloc BX.out (.cells #[.bool z2, .slice A2 n2 c2, .bool false, .slice B2 m2 d2] 26))
      generalize w9.heap.size = g2 at *
      generalize w9.alloc (.cells #[.bool z2, .slice A2 n2 c2, .bool false, .slice B2 m2 d2] 26) = V2 at *
      have ⟨fa0, fa1, fa2, fa3, fa4, fa5, fa6, fa7, fa8⟩ := Q2.out
      go_wp2_with fail
      clear fa0 fa1 fa2 fa3 fa4 fa5 fa6 fa7 fa8
      refine (rchk_w FC.out).mono ?_
      rintro e w10 ⟨rfl, hb⟩
      replace QF := Lib.hid (QF.out.via hb)
      replace FA := Lib.hid (FA.out.via hb)
      replace FC := Lib.hid (FC.out.via hb)
      replace Q2 := Lib.hid (Q2.out.via hb)
      replace BX := Lib.hid (btr BX.out hb)
      clear hb
      have ⟨fa0, fa1, fa2, fa3, fa4, fa5, fa6, fa7, fa8⟩ := Q2.out
      go_wp2_with fail
      clear fa0 fa1 fa2 fa3 fa4 fa5 fa6 fa7 fa8
      refine (rfew_w FC.out).mono ?_
      rintro e w11 ⟨l, rfl, hl, hb⟩
      replace QF := Lib.hid (QF.out.via hb)
      replace FA := Lib.hid (FA.out.via hb)
      replace FC := Lib.hid (FC.out.via hb)
      replace Q2 := Lib.hid (Q2.out.via hb)
      replace BX := Lib.hid (btr BX.out hb)
      clear hb
      have hl30 : decide ((30 : Int) < (l : Int)) = false := decide_eq_false (by omega)
      have ⟨fa0, fa1, fa2, fa3, fa4, fa5, fa6, fa7, fa8⟩ := QF.out
      have ⟨fb0, fb1, fb2, fb3, fb4, fb5, fb6, fb7, fb8⟩ := Q2.out
      go_wp2_with fail
      clear fa0 fa1 fa2 fa3 fa4 fa5 fa6 fa7 fa8
      clear fb0 fb1 fb2 fb3 fb4 fb5 fb6 fb7 fb8
      refine (rsub_w FA.out FC.out (by omega)).mono ?_
      rintro e w12 ⟨z3, A3, n3, c3, B3, m3, d3, rfl, hX, hb⟩
      replace QF := Lib.hid (QF.out.via hb)
      replace FA := Lib.hid (FA.out.via hb)
      replace FC := Lib.hid (FC.out.via hb)
      replace Q2 := Lib.hid (Q2.out.via hb)
      replace BX := Lib.hid (btr BX.out hb)
      have FD := Lib.hid hX
      clear hb hX
      clear FA FC QF Q2
      clear hl30 hl
      go_upto_region 18 with (fail)
      have Q3 := Lib.hid (Qd.new w12 _ rfl (.bool z3) (.slice A3 n3 c3) (.bool false) (.slice B3 m3 d3) 26)
      replace FD := Lib.hid (FD.out.alloc (.cells #[.bool z3, .slice A3 n3 c3, .bool false, .slice B3 m3 d3] 26))
      have HG3 : Hid (w.heap.size ≤ w12.heap.size) := BX.out.size
      replace BX := Lib.hid (below_alloc BX.out (.cells #[.bool z3, .slice A3 n3 c3, .bool false, .slice B3 m3 d3] 26))
      generalize w12.heap.size = g3 at *
      generalize w12.alloc (.cells #[.bool z3, .slice A3 n3 c3, .bool false, .slice B3 m3 d3] 26) = V3 at *
      have ⟨fa0, fa1, fa2, fa3, fa4, fa5, fa6, fa7, fa8⟩ := Q3.out
      go_upto_region 19 with (fail)
      clear fa0 fa1 fa2 fa3 fa4 fa5 fa6 fa7 fa8
      replace FD := Lib.hid ((FD.out.abs HPT.out).sgn Q3.out (.bool false))
      replace Q3 := Lib.hid (Q3.out.sgn (.bool false))
      replace BX := Lib.hid (BX.out.setCell (p := ⟨g3, 0, none⟩) HG3.out (.bool false))
      clear HG3
      generalize V3.setCell ⟨g3, 0, none⟩ (.bool false) = V4 at *
      go_wp2_with fail
      refine (rfrom_any _ 10 (by decide) (by decide)).mono ?_
      rintro e w13 ⟨A4, n4, c4, rfl, hL, hb⟩
      replace FD := Lib.hid (FD.out.via hb)
      replace Q3 := Lib.hid (Q3.out.via hb)
      replace BX := Lib.hid (btr BX.out hb)
      have L4 := Lib.hid hL
      clear hb hL
      go_wp2_with fail
      refine (rpow10 L4.out hd5 HTd.out HT.out HT0.out).mono ?_
      rintro e w14 ⟨A5, n5, c5, rfl, hL, hb⟩
      replace FD := Lib.hid (FD.out.via hb)
      replace Q3 := Lib.hid (Q3.out.via hb)
      replace L4 := Lib.hid (L4.out.via hb)
      replace BX := Lib.hid (btr BX.out hb)
      have L5 := Lib.hid hL
      clear hb hL
      clear L4
      clear HTd
      go_upto_region 20 with (fail)
      have P5 := Lib.hid (Pr.new w14 _ rfl (.bool false) (.slice A5 n5 c5) 24)
      replace FD := Lib.hid (FD.out.alloc (.cells #[.bool false, .slice A5 n5 c5] 24))
      replace Q3 := Lib.hid (Q3.out.alloc (.cells #[.bool false, .slice A5 n5 c5] 24))
      replace L5 := Lib.hid (L5.out.box (.cells #[.bool false, .slice A5 n5 c5] 24))
      replace BX := Lib.hid (below_alloc BX.out (.cells #[.bool false, .slice A5 n5 c5] 24))
      generalize w14.heap.size = g5 at *
      generalize w14.alloc (.cells #[.bool false, .slice A5 n5 c5] 24) = V5 at *
      have HKS : Hid (∀ X : World, Below V5.heap.size V5 X → X.cell? ⟨g5, 0, none⟩ = some (.bool false) ∧ X.cell? ⟨g5, 1, none⟩ = some (.slice A5 n5 c5)) := fun X h => ⟨(P5.out.via h).c0, (P5.out.via h).c1⟩
      go_cut [19] (fun sx wx => FqO V5 6 1 T sx wx)
      case first =>
        go_region_held3 (fun X => X.cell? ⟨g5, 0, none⟩ = some (.bool false) ∧ X.cell? ⟨g5, 1, none⟩ = some (.slice A5 n5 c5))
          (first | (refine HKS.out _ ?_; (repeat' (first | with_reducible exact BB2 | with_reducible exact BB1 | with_reducible exact (Below.refl _ _).drew | with_reducible exact Below.refl _ _ | with_reducible refine Below.drew ?_ | with_reducible refine Below.setCell ?_ ?_ _ | with_reducible refine Below.alloc ?_ ?_ _)); all_goals (first | omega | exact Nat.le_refl _ | exact S2 | exact S1 | (simp; done) | (simp; omega))))
          (first
           | (have _t := BB1; go_at_call 15; refine (rone_w (by first | with_reducible exact hL6 | with_reducible exact hL6.box _ | with_reducible exact (hL6.box _).box _) (by first | with_reducible exact L5.out.via BB1 | with_reducible exact (L5.out.via BB1).box _) HT.out (by omega) (by omega) HT0.out).mono ?_; rintro e u2 ⟨z7, A7, n7, c7, B7, m7, d7, rfl, hX7, hh⟩; have B2 : Below u1.heap.size u1 u2 := (by first | with_reducible exact hh | with_reducible exact b_two hh | with_reducible exact b_one hh); have BB2 := btr BB1 B2; have S2 := BB2.size; have T2 := B2.size; (try (have P0 := P0.via B2)); (try (have D0a := D0a.via B2; have D0b := D0b.via B2)); have X7 : Fw u2 (6) (1) (T) z7 A7 n7 c7 B7 m7 d7 := hX7; (try (have P1 : (Qd u2 (u1.heap.size) (.bool false) (.slice none 0 0) (.bool false) (.slice none 0 0)) := (by with_reducible exact (Qd.new u1 (u1.heap.size) rfl (.bool false) (.slice none 0 0) (.bool false) (.slice none 0 0) 26).via hh); have l1 := P1.lt)); (try (have D1a : (Qd u2 (u1.heap.size) (.bool false) (.slice none 0 0) (.bool false) (.slice none 0 0)) := (by with_reducible exact ((Qd.new u1 (u1.heap.size) rfl (.bool false) (.slice none 0 0) (.bool false) (.slice none 0 0) 26).alloc (.cells #[.bool false, .slice none 0 0, .bool false, .slice none 0 0] 26)).via hh); have D1b : (Qd u2 (u1.heap.size + 1) (.bool false) (.slice none 0 0) (.bool false) (.slice none 0 0)) := (by with_reducible exact (Qd.new (u1.alloc (.cells #[.bool false, .slice none 0 0, .bool false, .slice none 0 0] 26)) (u1.heap.size + 1) (by simp) (.bool false) (.slice none 0 0) (.bool false) (.slice none 0 0) 26).via hh); have l1 := D1a.lt)); (try (have ⟨p00, p01, p02, p03, p04, p05, p06, p07, p0l⟩ := P0; have p0a0 := fun o => (P0.alloc o).c0; have p0a1 := fun o => (P0.alloc o).c1; have p0a2 := fun o => (P0.alloc o).c2; have p0a3 := fun o => (P0.alloc o).c3; have p0a4 := fun o => (P0.alloc o).f0; have p0a5 := fun o => (P0.alloc o).f1; have p0a6 := fun o => (P0.alloc o).f2; have p0a7 := fun o => (P0.alloc o).f3; have p0n1 := Nat.ne_of_lt p0l; have p0n2 := Nat.ne_of_gt p0l)); (try (have ⟨da0_0, da0_1, da0_2, da0_3, da0_4, da0_5, da0_6, da0_7, da0_l⟩ := D0a; have ⟨db0_0, db0_1, db0_2, db0_3, db0_4, db0_5, db0_6, db0_7, db0_l⟩ := D0b)); (try (have m01 : ¬ (V5.heap.size = u1.heap.size) := (by have := l0; have := l1; omega); have n01 : ¬ (u1.heap.size = V5.heap.size) := (by have := l0; have := l1; omega))); (try (have ⟨p10, p11, p12, p13, p14, p15, p16, p17, p1l⟩ := P1; have p1a0 := fun o => (P1.alloc o).c0; have p1a1 := fun o => (P1.alloc o).c1; have p1a2 := fun o => (P1.alloc o).c2; have p1a3 := fun o => (P1.alloc o).c3; have p1a4 := fun o => (P1.alloc o).f0; have p1a5 := fun o => (P1.alloc o).f1; have p1a6 := fun o => (P1.alloc o).f2; have p1a7 := fun o => (P1.alloc o).f3; have p1n1 := Nat.ne_of_lt p1l; have p1n2 := Nat.ne_of_gt p1l)); (try (have ⟨da1_0, da1_1, da1_2, da1_3, da1_4, da1_5, da1_6, da1_7, da1_l⟩ := D1a; have ⟨db1_0, db1_1, db1_2, db1_3, db1_4, db1_5, db1_6, db1_7, db1_l⟩ := D1b)))
           | (go_at_call 14; refine (rfrom_any _ 1 (by decide) (by decide)).mono ?_; rintro e u1 ⟨A6, n6, c6, rfl, hL6, hh⟩; have BB1 : Below V5.heap.size V5 u1 := (by first | with_reducible exact b_two_d hh | with_reducible exact b_one_d hh | exact (Below.refl _ _).drew.trans hh); have S1 := BB1.size; have T1 := BB1.size; (try (have P0 : (Qd u1 (V5.heap.size) (.bool false) (.slice none 0 0) (.bool false) (.slice none 0 0)) := (by with_reducible exact (Qd.new V5 (V5.heap.size) rfl (.bool false) (.slice none 0 0) (.bool false) (.slice none 0 0) 26).drew.via hh); have l0 := P0.lt)); (try (have D0a : (Qd u1 (V5.heap.size) (.bool false) (.slice none 0 0) (.bool false) (.slice none 0 0)) := (by with_reducible exact ((Qd.new V5 (V5.heap.size) rfl (.bool false) (.slice none 0 0) (.bool false) (.slice none 0 0) 26).alloc (.cells #[.bool false, .slice none 0 0, .bool false, .slice none 0 0] 26)).drew.via hh); have D0b : (Qd u1 (V5.heap.size + 1) (.bool false) (.slice none 0 0) (.bool false) (.slice none 0 0)) := (by with_reducible exact (Qd.new (V5.alloc (.cells #[.bool false, .slice none 0 0, .bool false, .slice none 0 0] 26)) (V5.heap.size + 1) (by simp) (.bool false) (.slice none 0 0) (.bool false) (.slice none 0 0) 26).drew.via hh); have l0 := D0a.lt)))
           | fail)
        all_goals
          go_wp2_with fail
          go_meet
          (try rw [pt4_eq])
          first
          | with_reducible exact qfin1 BB2 X7
          | with_reducible exact qfin2 BB2 X7 P0 (Nat.le_refl _)
          | with_reducible exact qfin2 BB2 X7 P1 S1
      case rest =>
        clear P5 L5
        obtain ⟨g7, rfl, ⟨z7, A7, n7, c7, B7, m7, d7, hQ, hF⟩, -, hb⟩ := hcut
        clear HKS
        replace FD := Lib.hid (FD.out.via hb)
        replace Q3 := Lib.hid (Q3.out.via hb)
        replace BX := Lib.hid (btr BX.out hb)
        have Q7 := Lib.hid hQ
        have F7 := Lib.hid hF
        clear hb hQ hF
        generalize wc = V7 at *
        go_upto_region 21 with (fail)
        have HKS : Hid (∀ X : World, Below V7.heap.size V7 X → X.cell? ⟨g7, 0, none⟩ = some (.bool z7) ∧ X.cell? ⟨g7, 1, none⟩ = some (.slice A7 n7 c7) ∧ X.cell? ⟨g7, 2, none⟩ = some (.bool false) ∧ X.cell? ⟨g7, 3, none⟩ = some (.slice B7 m7 d7)) := fun X h => ⟨(Q7.out.via h).c0, (Q7.out.via h).c1, (Q7.out.via h).c2, (Q7.out.via h).c3⟩
        go_cut [20] (fun sx wx => FqO V7 (2 * 6) (1 * 1) (T * 2) sx wx)
        case first =>
          go_region_held3 (fun X => X.cell? ⟨g7, 0, none⟩ = some (.bool z7) ∧ X.cell? ⟨g7, 1, none⟩ = some (.slice A7 n7 c7) ∧ X.cell? ⟨g7, 2, none⟩ = some (.bool false) ∧ X.cell? ⟨g7, 3, none⟩ = some (.slice B7 m7 d7))
            (first | (refine HKS.out _ ?_; (repeat' (first | with_reducible exact BB2 | with_reducible exact BB1 | with_reducible exact (Below.refl _ _).drew | with_reducible exact Below.refl _ _ | with_reducible refine Below.drew ?_ | with_reducible refine Below.setCell ?_ ?_ _ | with_reducible refine Below.alloc ?_ ?_ _)); all_goals (first | omega | exact Nat.le_refl _ | exact S2 | exact S1 | (simp; done) | (simp; omega))))
            (first
             | (have _t := BB1; go_at_call 16; refine (rmul_w (k := 6) (by first | with_reducible exact F7.out.via BB1 | with_reducible exact (F7.out.via BB1).alloc _) (by first | with_reducible exact hX8.mono (by omega) | with_reducible exact (hX8.alloc _).mono (by omega)) (by omega)).mono ?_; rintro e u2 ⟨z9, A9, n9, c9, B9, m9, d9, rfl, hX9, hh⟩; have B2 : Below u1.heap.size u1 u2 := (by first | with_reducible exact hh | with_reducible exact b_two hh | with_reducible exact b_one hh); have BB2 := btr BB1 B2; have S2 := BB2.size; have T2 := B2.size; (try (have P0 := P0.via B2)); (try (have D0a := D0a.via B2; have D0b := D0b.via B2)); have X9 : Fw u2 (2 * 6) (1 * 1) (T * 2) z9 A9 n9 c9 B9 m9 d9 := hX9; (try (have P1 : (Qd u2 (u1.heap.size) (.bool false) (.slice none 0 0) (.bool false) (.slice none 0 0)) := (by with_reducible exact (Qd.new u1 (u1.heap.size) rfl (.bool false) (.slice none 0 0) (.bool false) (.slice none 0 0) 26).via hh); have l1 := P1.lt)); (try (have D1a : (Qd u2 (u1.heap.size) (.bool false) (.slice none 0 0) (.bool false) (.slice none 0 0)) := (by with_reducible exact ((Qd.new u1 (u1.heap.size) rfl (.bool false) (.slice none 0 0) (.bool false) (.slice none 0 0) 26).alloc (.cells #[.bool false, .slice none 0 0, .bool false, .slice none 0 0] 26)).via hh); have D1b : (Qd u2 (u1.heap.size + 1) (.bool false) (.slice none 0 0) (.bool false) (.slice none 0 0)) := (by with_reducible exact (Qd.new (u1.alloc (.cells #[.bool false, .slice none 0 0, .bool false, .slice none 0 0] 26)) (u1.heap.size + 1) (by simp) (.bool false) (.slice none 0 0) (.bool false) (.slice none 0 0) 26).via hh); have l1 := D1a.lt)); (try (have ⟨p00, p01, p02, p03, p04, p05, p06, p07, p0l⟩ := P0; have p0a0 := fun o => (P0.alloc o).c0; have p0a1 := fun o => (P0.alloc o).c1; have p0a2 := fun o => (P0.alloc o).c2; have p0a3 := fun o => (P0.alloc o).c3; have p0a4 := fun o => (P0.alloc o).f0; have p0a5 := fun o => (P0.alloc o).f1; have p0a6 := fun o => (P0.alloc o).f2; have p0a7 := fun o => (P0.alloc o).f3; have p0n1 := Nat.ne_of_lt p0l; have p0n2 := Nat.ne_of_gt p0l)); (try (have ⟨da0_0, da0_1, da0_2, da0_3, da0_4, da0_5, da0_6, da0_7, da0_l⟩ := D0a; have ⟨db0_0, db0_1, db0_2, db0_3, db0_4, db0_5, db0_6, db0_7, db0_l⟩ := D0b)); (try (have m01 : ¬ (V7.heap.size = u1.heap.size) := (by have := l0; have := l1; omega); have n01 : ¬ (u1.heap.size = V7.heap.size) := (by have := l0; have := l1; omega))); (try (have ⟨p10, p11, p12, p13, p14, p15, p16, p17, p1l⟩ := P1; have p1a0 := fun o => (P1.alloc o).c0; have p1a1 := fun o => (P1.alloc o).c1; have p1a2 := fun o => (P1.alloc o).c2; have p1a3 := fun o => (P1.alloc o).c3; have p1a4 := fun o => (P1.alloc o).f0; have p1a5 := fun o => (P1.alloc o).f1; have p1a6 := fun o => (P1.alloc o).f2; have p1a7 := fun o => (P1.alloc o).f3; have p1n1 := Nat.ne_of_lt p1l; have p1n2 := Nat.ne_of_gt p1l)); (try (have ⟨da1_0, da1_1, da1_2, da1_3, da1_4, da1_5, da1_6, da1_7, da1_l⟩ := D1a; have ⟨db1_0, db1_1, db1_2, db1_3, db1_4, db1_5, db1_6, db1_7, db1_l⟩ := D1b)))
             | (go_at_call 17; refine (lpart_c _ 1 2 (by decide) (by decide) (by decide) (by decide)).mono ?_; rintro e u1 ⟨z8, A8, n8, c8, B8, m8, d8, rfl, hX8, hh⟩; have BB1 : Below V7.heap.size V7 u1 := (by first | with_reducible exact b_two_d hh | with_reducible exact b_one_d hh | exact (Below.refl _ _).drew.trans hh); have S1 := BB1.size; have T1 := BB1.size; (try (have P0 : (Qd u1 (V7.heap.size) (.bool false) (.slice none 0 0) (.bool false) (.slice none 0 0)) := (by with_reducible exact (Qd.new V7 (V7.heap.size) rfl (.bool false) (.slice none 0 0) (.bool false) (.slice none 0 0) 26).drew.via hh); have l0 := P0.lt)); (try (have D0a : (Qd u1 (V7.heap.size) (.bool false) (.slice none 0 0) (.bool false) (.slice none 0 0)) := (by with_reducible exact ((Qd.new V7 (V7.heap.size) rfl (.bool false) (.slice none 0 0) (.bool false) (.slice none 0 0) 26).alloc (.cells #[.bool false, .slice none 0 0, .bool false, .slice none 0 0] 26)).drew.via hh); have D0b : (Qd u1 (V7.heap.size + 1) (.bool false) (.slice none 0 0) (.bool false) (.slice none 0 0)) := (by with_reducible exact (Qd.new (V7.alloc (.cells #[.bool false, .slice none 0 0, .bool false, .slice none 0 0] 26)) (V7.heap.size + 1) (by simp) (.bool false) (.slice none 0 0) (.bool false) (.slice none 0 0) 26).drew.via hh); have l0 := D0a.lt)))
             | fail)
          all_goals
            go_wp2_with fail
            go_meet
            (try rw [pt4_eq])
            first
            | with_reducible exact qfin1 BB2 X9
            | with_reducible exact qfin2 BB2 X9 P0 (Nat.le_refl _)
            | with_reducible exact qfin2 BB2 X9 P1 S1
        case rest =>
          clear Q7 F7
          obtain ⟨g9, rfl, ⟨z9, A9, n9, c9, B9, m9, d9, hQ, hF⟩, -, hb⟩ := hcut
          clear HKS
          replace FD := Lib.hid (FD.out.via hb)
          replace Q3 := Lib.hid (Q3.out.via hb)
          replace BX := Lib.hid (btr BX.out hb)
          have Q9 := Lib.hid hQ
          have F9 := Lib.hid hF
          clear hb hQ hF
          generalize wc = V9 at *
          have ⟨fa0, fa1, fa2, fa3, fa4, fa5, fa6, fa7, fa8⟩ := Q3.out
          have ⟨fb0, fb1, fb2, fb3, fb4, fb5, fb6, fb7, fb8⟩ := Q9.out
          go_wp2_with fail
          clear fa0 fa1 fa2 fa3 fa4 fa5 fa6 fa7 fa8
          clear fb0 fb1 fb2 fb3 fb4 fb5 fb6 fb7 fb8
          refine (rcmp_w (k := 45) FD.out (F9.out.mono (by omega)) (by omega) HPT.out HT2.out).mono ?_
          rintro e w15 ⟨rfl, hb⟩
          replace FD := Lib.hid (FD.out.via hb)
          replace Q3 := Lib.hid (Q3.out.via hb)
          replace Q9 := Lib.hid (Q9.out.via hb)
          replace F9 := Lib.hid (F9.out.via hb)
          replace BX := Lib.hid (btr BX.out hb)
          clear hb
          obtain ⟨c, hc⟩ : ∃ c, cmpZ (((x * T - r * P).natAbs : Int) * (T * 2)) (1 * 1 * (P * T)) = c := ⟨_, rfl⟩
          have hc2 := HCM.out
          rw [hc] at hc2 ⊢
          clear hc HCM
          go_wp2
          go_ret
          exact ⟨rfl, BX.out⟩
  · have HN : Hid (nml (ftx x P) = none) := nml_long (by omega)
    have hlen : (200 : Int) < ((ftx x P).length : Int) := by omega
    have HL : Hid ((ftx x P).length ≤ 60003) := ftx_len HX.out HP.out (by omega)
    generalize ftx x P = ft at *
    go_wp2_with fail
    refine (bk_err _ ft HL.out HN.out).mono ?_
    rintro e w6 ⟨A1, n1, c1, B1, m1, d1, rfl, hL, hM, hb⟩
    replace QF := Lib.hid (QF.out.via hb)
    replace LA := Lib.hid (LA.out.via hb)
    replace LB := Lib.hid (LB.out.via hb)
    replace HU := Lib.hid (HU.out.via hb)
    replace BX := Lib.hid (btr BX.out hb)
    clear hb
    clear hL hM
    go_upto_region 7 with (fail)
    have Q1 := Lib.hid (Qd.new w6 _ rfl (.bool false) (.slice A1 n1 c1) (.bool false) (.slice B1 m1 d1) 26)
    replace QF := Lib.hid (QF.out.alloc (.cells #[.bool false, .slice A1 n1 c1, .bool false, .slice B1 m1 d1] 26))
    replace LA := Lib.hid (LA.out.box (.cells #[.bool false, .slice A1 n1 c1, .bool false, .slice B1 m1 d1] 26))
    replace LB := Lib.hid (LB.out.box (.cells #[.bool false, .slice A1 n1 c1, .bool false, .slice B1 m1 d1] 26))
    replace HU := Lib.hid (HU.out.via ((Below.refl _ _).alloc (Nat.le_refl _) (.cells #[.bool false, .slice A1 n1 c1, .bool false, .slice B1 m1 d1] 26)))
    replace BX := Lib.hid (below_alloc BX.out (.cells #[.bool false, .slice A1 n1 c1, .bool false, .slice B1 m1 d1] 26))
    generalize w6.heap.size = g1 at *
    generalize w6.alloc (.cells #[.bool false, .slice A1 n1 c1, .bool false, .slice B1 m1 d1] 26) = V1 at *
    have ⟨fa0, fa1, fa2, fa3, fa4, fa5, fa6, fa7, fa8⟩ := QF.out
    go_wp2_with fail
    clear fa0 fa1 fa2 fa3 fa4 fa5 fa6 fa7 fa8
    refine (fdecimal_n _ A B n m ca cb 15 d x P LA.out LB.out HX.out HP.out (by omega) (by omega) hd5 HP0.out HU.out HNa.out HC.out).mono ?_
    rintro e w7 ⟨rfl, hb⟩
    replace QF := Lib.hid (QF.out.via hb)
    replace LA := Lib.hid (LA.out.via hb)
    replace LB := Lib.hid (LB.out.via hb)
    replace HU := Lib.hid (HU.out.via hb)
    replace Q1 := Lib.hid (Q1.out.via hb)
    replace BX := Lib.hid (btr BX.out hb)
    clear hb
    have hszt : (⟨(decT x P d).toArray⟩ : ByteArray).size = (decT x P d).length := by simp [ByteArray.size]
    by_cases hl2 : 200 < (decT x P d).length
    · have hl3 : (200 : Int) < ((decT x P d).length : Int) := by omega
      generalize decT x P d = tt at *
      go_wp2
      go_ret
      exact ⟨rfl, BX.out⟩
    · have hl3 : ((decT x P d).length : Int) ≤ 200 := by omega
      have HN : Hid (nml (decT x P d) = some (rndZ (x * 10 ^ d) P, 10 ^ d)) := nml_decT (by omega)
      have HT : Hid (Sz 6 ((10 : Int) ^ d)) := sz_ten6 d hd5
      have HR : Hid (Sz 22 (rndZ (x * 10 ^ d) P)) := rnd_sz (k := 21) (HX.out.mul HT.out) HP0.out
      have HT0 : Hid (0 < (10 : Int) ^ d) := Int.pow_pos (by decide)
      have HH : Hid (2 * (x * 10 ^ d - rndZ (x * 10 ^ d) P * P).natAbs ≤ P.natAbs) := rnd_half HP0.out
      have FA : Hid (Fw w7 22 x P na A n ca B m cb) := ⟨x, P, HNa.out, ⟨HP0.out, rfl, HNa.out ▸ HC.out, HX.out.mono (by omega), HP.out.mono (by omega)⟩, LA.out, LB.out⟩
      clear LA LB HU HX HP HNa HC
      clear Q1
      obtain ⟨T, hT⟩ : ∃ T, (10 : Int) ^ d = T := ⟨_, rfl⟩
      rw [hT] at HN HT HR HT0 HH
      obtain ⟨r, hr⟩ : ∃ r, rndZ (x * T) P = r := ⟨_, rfl⟩
      rw [hr] at HN HR HH
      clear hr
      have HTd := Lib.hid hT
      clear hT
      generalize decT x P d = tt at *
      have HPT : Hid (0 < P * T) := Int.mul_pos HP0.out HT0.out
      have HT2 : Hid (0 < T * 2) := by have := HT0.out; show 0 < T * 2; omega
      have HCM := Lib.hid (cmp_half HP0.out HT0.out HH.out)
      clear HH
      go_wp2_with fail
      refine (bk_ok _ tt r T 22 HN.out HT0.out HR.out (HT.out.mono (by omega)) (by omega)).mono ?_
      rintro e w8 ⟨z2, A2, n2, c2, B2, m2, d2, rfl, hX, hb⟩
      replace QF := Lib.hid (QF.out.via hb)
      replace FA := Lib.hid (FA.out.via hb)
      replace BX := Lib.hid (btr BX.out hb)
      have FC := Lib.hid hX
      clear hb hX
      clear HN HR
      go_upto_region 15 with (fail)
      have Q2 := Lib.hid (Qd.new w8 _ rfl (.bool z2) (.slice A2 n2 c2) (.bool false) (.slice B2 m2 d2) 26)
      replace QF := Lib.hid (QF.out.alloc (.cells #[.bool z2, .slice A2 n2 c2, .bool false, .slice B2 m2 d2] 26))
      replace FA := Lib.hid (FA.out.alloc (.cells #[.bool z2, .slice A2 n2 c2, .bool false, .slice B2 m2 d2] 26))
      replace FC := Lib.hid (FC.out.alloc (.cells #[.bool z2, .slice A2 n2 c2, .bool false, .slice B2 m2 d2] 26))
      replace BX := Lib.hid (below_alloc BX.out (.cells #[.bool z2, .slice A2 n2 c2, .bool false, .slice B2 m2 d2] 26))
      generalize w8.heap.size = g2 at *
      generalize w8.alloc (.cells #[.bool z2, .slice A2 n2 c2, .bool false, .slice B2 m2 d2] 26) = V2 at *
      have ⟨fa0, fa1, fa2, fa3, fa4, fa5, fa6, fa7, fa8⟩ := Q2.out
      go_wp2_with fail
      clear fa0 fa1 fa2 fa3 fa4 fa5 fa6 fa7 fa8
      refine (rchk_w FC.out).mono ?_
      rintro e w9 ⟨rfl, hb⟩
      replace QF := Lib.hid (QF.out.via hb)
      replace FA := Lib.hid (FA.out.via hb)
      replace FC := Lib.hid (FC.out.via hb)
      replace Q2 := Lib.hid (Q2.out.via hb)
      replace BX := Lib.hid (btr BX.out hb)
      clear hb
      have ⟨fa0, fa1, fa2, fa3, fa4, fa5, fa6, fa7, fa8⟩ := Q2.out
      go_wp2_with fail
      clear fa0 fa1 fa2 fa3 fa4 fa5 fa6 fa7 fa8
      refine (rfew_w FC.out).mono ?_
      rintro e w10 ⟨l, rfl, hl, hb⟩
      replace QF := Lib.hid (QF.out.via hb)
      replace FA := Lib.hid (FA.out.via hb)
      replace FC := Lib.hid (FC.out.via hb)
      replace Q2 := Lib.hid (Q2.out.via hb)
      replace BX := Lib.hid (btr BX.out hb)
      clear hb
      have hl30 : decide ((30 : Int) < (l : Int)) = false := decide_eq_false (by omega)
      have ⟨fa0, fa1, fa2, fa3, fa4, fa5, fa6, fa7, fa8⟩ := QF.out
      have ⟨fb0, fb1, fb2, fb3, fb4, fb5, fb6, fb7, fb8⟩ := Q2.out
      go_wp2_with fail
      clear fa0 fa1 fa2 fa3 fa4 fa5 fa6 fa7 fa8
      clear fb0 fb1 fb2 fb3 fb4 fb5 fb6 fb7 fb8
      refine (rsub_w FA.out FC.out (by omega)).mono ?_
      rintro e w11 ⟨z3, A3, n3, c3, B3, m3, d3, rfl, hX, hb⟩
      replace QF := Lib.hid (QF.out.via hb)
      replace FA := Lib.hid (FA.out.via hb)
      replace FC := Lib.hid (FC.out.via hb)
      replace Q2 := Lib.hid (Q2.out.via hb)
      replace BX := Lib.hid (btr BX.out hb)
      have FD := Lib.hid hX
      clear hb hX
      clear FA FC QF Q2
      clear hl30 hl
      go_upto_region 18 with (fail)
      have Q3 := Lib.hid (Qd.new w11 _ rfl (.bool z3) (.slice A3 n3 c3) (.bool false) (.slice B3 m3 d3) 26)
      replace FD := Lib.hid (FD.out.alloc (.cells #[.bool z3, .slice A3 n3 c3, .bool false, .slice B3 m3 d3] 26))
      have HG3 : Hid (w.heap.size ≤ w11.heap.size) := BX.out.size
      replace BX := Lib.hid (below_alloc BX.out (.cells #[.bool z3, .slice A3 n3 c3, .bool false, .slice B3 m3 d3] 26))
      generalize w11.heap.size = g3 at *
      generalize w11.alloc (.cells #[.bool z3, .slice A3 n3 c3, .bool false, .slice B3 m3 d3] 26) = V3 at *
      have ⟨fa0, fa1, fa2, fa3, fa4, fa5, fa6, fa7, fa8⟩ := Q3.out
      go_upto_region 19 with (fail)
      clear fa0 fa1 fa2 fa3 fa4 fa5 fa6 fa7 fa8
      replace FD := Lib.hid ((FD.out.abs HPT.out).sgn Q3.out (.bool false))
      replace Q3 := Lib.hid (Q3.out.sgn (.bool false))
      replace BX := Lib.hid (BX.out.setCell (p := ⟨g3, 0, none⟩) HG3.out (.bool false))
      clear HG3
      generalize V3.setCell ⟨g3, 0, none⟩ (.bool false) = V4 at *
      go_wp2_with fail
      refine (rfrom_any _ 10 (by decide) (by decide)).mono ?_
      rintro e w12 ⟨A4, n4, c4, rfl, hL, hb⟩
      replace FD := Lib.hid (FD.out.via hb)
      replace Q3 := Lib.hid (Q3.out.via hb)
      replace BX := Lib.hid (btr BX.out hb)
      have L4 := Lib.hid hL
      clear hb hL
      go_wp2_with fail
      refine (rpow10 L4.out hd5 HTd.out HT.out HT0.out).mono ?_
      rintro e w13 ⟨A5, n5, c5, rfl, hL, hb⟩
      replace FD := Lib.hid (FD.out.via hb)
      replace Q3 := Lib.hid (Q3.out.via hb)
      replace L4 := Lib.hid (L4.out.via hb)
      replace BX := Lib.hid (btr BX.out hb)
      have L5 := Lib.hid hL
      clear hb hL
      clear L4
      clear HTd
      go_upto_region 20 with (fail)
      have P5 := Lib.hid (Pr.new w13 _ rfl (.bool false) (.slice A5 n5 c5) 24)
      replace FD := Lib.hid (FD.out.alloc (.cells #[.bool false, .slice A5 n5 c5] 24))
      replace Q3 := Lib.hid (Q3.out.alloc (.cells #[.bool false, .slice A5 n5 c5] 24))
      replace L5 := Lib.hid (L5.out.box (.cells #[.bool false, .slice A5 n5 c5] 24))
      replace BX := Lib.hid (below_alloc BX.out (.cells #[.bool false, .slice A5 n5 c5] 24))
      generalize w13.heap.size = g5 at *
      generalize w13.alloc (.cells #[.bool false, .slice A5 n5 c5] 24) = V5 at *
      have HKS : Hid (∀ X : World, Below V5.heap.size V5 X → X.cell? ⟨g5, 0, none⟩ = some (.bool false) ∧ X.cell? ⟨g5, 1, none⟩ = some (.slice A5 n5 c5)) := fun X h => ⟨(P5.out.via h).c0, (P5.out.via h).c1⟩
      go_cut [19] (fun sx wx => FqO V5 6 1 T sx wx)
      case first =>
        go_region_held3 (fun X => X.cell? ⟨g5, 0, none⟩ = some (.bool false) ∧ X.cell? ⟨g5, 1, none⟩ = some (.slice A5 n5 c5))
          (first | (refine HKS.out _ ?_; (repeat' (first | with_reducible exact BB2 | with_reducible exact BB1 | with_reducible exact (Below.refl _ _).drew | with_reducible exact Below.refl _ _ | with_reducible refine Below.drew ?_ | with_reducible refine Below.setCell ?_ ?_ _ | with_reducible refine Below.alloc ?_ ?_ _)); all_goals (first | omega | exact Nat.le_refl _ | exact S2 | exact S1 | (simp; done) | (simp; omega))))
          (first
           | (have _t := BB1; go_at_call 15; refine (rone_w (by first | with_reducible exact hL6 | with_reducible exact hL6.box _ | with_reducible exact (hL6.box _).box _) (by first | with_reducible exact L5.out.via BB1 | with_reducible exact (L5.out.via BB1).box _) HT.out (by omega) (by omega) HT0.out).mono ?_; rintro e u2 ⟨z7, A7, n7, c7, B7, m7, d7, rfl, hX7, hh⟩; have B2 : Below u1.heap.size u1 u2 := (by first | with_reducible exact hh | with_reducible exact b_two hh | with_reducible exact b_one hh); have BB2 := btr BB1 B2; have S2 := BB2.size; have T2 := B2.size; (try (have P0 := P0.via B2)); (try (have D0a := D0a.via B2; have D0b := D0b.via B2)); have X7 : Fw u2 (6) (1) (T) z7 A7 n7 c7 B7 m7 d7 := hX7; (try (have P1 : (Qd u2 (u1.heap.size) (.bool false) (.slice none 0 0) (.bool false) (.slice none 0 0)) := (by with_reducible exact (Qd.new u1 (u1.heap.size) rfl (.bool false) (.slice none 0 0) (.bool false) (.slice none 0 0) 26).via hh); have l1 := P1.lt)); (try (have D1a : (Qd u2 (u1.heap.size) (.bool false) (.slice none 0 0) (.bool false) (.slice none 0 0)) := (by with_reducible exact ((Qd.new u1 (u1.heap.size) rfl (.bool false) (.slice none 0 0) (.bool false) (.slice none 0 0) 26).alloc (.cells #[.bool false, .slice none 0 0, .bool false, .slice none 0 0] 26)).via hh); have D1b : (Qd u2 (u1.heap.size + 1) (.bool false) (.slice none 0 0) (.bool false) (.slice none 0 0)) := (by with_reducible exact (Qd.new (u1.alloc (.cells #[.bool false, .slice none 0 0, .bool false, .slice none 0 0] 26)) (u1.heap.size + 1) (by simp) (.bool false) (.slice none 0 0) (.bool false) (.slice none 0 0) 26).via hh); have l1 := D1a.lt)); (try (have ⟨p00, p01, p02, p03, p04, p05, p06, p07, p0l⟩ := P0; have p0a0 := fun o => (P0.alloc o).c0; have p0a1 := fun o => (P0.alloc o).c1; have p0a2 := fun o => (P0.alloc o).c2; have p0a3 := fun o => (P0.alloc o).c3; have p0a4 := fun o => (P0.alloc o).f0; have p0a5 := fun o => (P0.alloc o).f1; have p0a6 := fun o => (P0.alloc o).f2; have p0a7 := fun o => (P0.alloc o).f3; have p0n1 := Nat.ne_of_lt p0l; have p0n2 := Nat.ne_of_gt p0l)); (try (have ⟨da0_0, da0_1, da0_2, da0_3, da0_4, da0_5, da0_6, da0_7, da0_l⟩ := D0a; have ⟨db0_0, db0_1, db0_2, db0_3, db0_4, db0_5, db0_6, db0_7, db0_l⟩ := D0b)); (try (have m01 : ¬ (V5.heap.size = u1.heap.size) := (by have := l0; have := l1; omega); have n01 : ¬ (u1.heap.size = V5.heap.size) := (by have := l0; have := l1; omega))); (try (have ⟨p10, p11, p12, p13, p14, p15, p16, p17, p1l⟩ := P1; have p1a0 := fun o => (P1.alloc o).c0; have p1a1 := fun o => (P1.alloc o).c1; have p1a2 := fun o => (P1.alloc o).c2; have p1a3 := fun o => (P1.alloc o).c3; have p1a4 := fun o => (P1.alloc o).f0; have p1a5 := fun o => (P1.alloc o).f1; have p1a6 := fun o => (P1.alloc o).f2; have p1a7 := fun o => (P1.alloc o).f3; have p1n1 := Nat.ne_of_lt p1l; have p1n2 := Nat.ne_of_gt p1l)); (try (have ⟨da1_0, da1_1, da1_2, da1_3, da1_4, da1_5, da1_6, da1_7, da1_l⟩ := D1a; have ⟨db1_0, db1_1, db1_2, db1_3, db1_4, db1_5, db1_6, db1_7, db1_l⟩ := D1b)))
           | (go_at_call 14; refine (rfrom_any _ 1 (by decide) (by decide)).mono ?_; rintro e u1 ⟨A6, n6, c6, rfl, hL6, hh⟩; have BB1 : Below V5.heap.size V5 u1 := (by first | with_reducible exact b_two_d hh | with_reducible exact b_one_d hh | exact (Below.refl _ _).drew.trans hh); have S1 := BB1.size; have T1 := BB1.size; (try (have P0 : (Qd u1 (V5.heap.size) (.bool false) (.slice none 0 0) (.bool false) (.slice none 0 0)) := (by with_reducible exact (Qd.new V5 (V5.heap.size) rfl (.bool false) (.slice none 0 0) (.bool false) (.slice none 0 0) 26).drew.via hh); have l0 := P0.lt)); (try (have D0a : (Qd u1 (V5.heap.size) (.bool false) (.slice none 0 0) (.bool false) (.slice none 0 0)) := (by with_reducible exact ((Qd.new V5 (V5.heap.size) rfl (.bool false) (.slice none 0 0) (.bool false) (.slice none 0 0) 26).alloc (.cells #[.bool false, .slice none 0 0, .bool false, .slice none 0 0] 26)).drew.via hh); have D0b : (Qd u1 (V5.heap.size + 1) (.bool false) (.slice none 0 0) (.bool false) (.slice none 0 0)) := (by with_reducible exact (Qd.new (V5.alloc (.cells #[.bool false, .slice none 0 0, .bool false, .slice none 0 0] 26)) (V5.heap.size + 1) (by simp) (.bool false) (.slice none 0 0) (.bool false) (.slice none 0 0) 26).drew.via hh); have l0 := D0a.lt)))
           | fail)
        all_goals
          go_wp2_with fail
          go_meet
          (try rw [pt4_eq])
          first
          | with_reducible exact qfin1 BB2 X7
          | with_reducible exact qfin2 BB2 X7 P0 (Nat.le_refl _)
          | with_reducible exact qfin2 BB2 X7 P1 S1
      case rest =>
        clear P5 L5
        obtain ⟨g7, rfl, ⟨z7, A7, n7, c7, B7, m7, d7, hQ, hF⟩, -, hb⟩ := hcut
        clear HKS
        replace FD := Lib.hid (FD.out.via hb)
        replace Q3 := Lib.hid (Q3.out.via hb)
        replace BX := Lib.hid (btr BX.out hb)
        have Q7 := Lib.hid hQ
        have F7 := Lib.hid hF
        clear hb hQ hF
        generalize wc = V7 at *
        go_upto_region 21 with (fail)
        have HKS : Hid (∀ X : World, Below V7.heap.size V7 X → X.cell? ⟨g7, 0, none⟩ = some (.bool z7) ∧ X.cell? ⟨g7, 1, none⟩ = some (.slice A7 n7 c7) ∧ X.cell? ⟨g7, 2, none⟩ = some (.bool false) ∧ X.cell? ⟨g7, 3, none⟩ = some (.slice B7 m7 d7)) := fun X h => ⟨(Q7.out.via h).c0, (Q7.out.via h).c1, (Q7.out.via h).c2, (Q7.out.via h).c3⟩
        go_cut [20] (fun sx wx => FqO V7 (2 * 6) (1 * 1) (T * 2) sx wx)
        case first =>
          go_region_held3 (fun X => X.cell? ⟨g7, 0, none⟩ = some (.bool z7) ∧ X.cell? ⟨g7, 1, none⟩ = some (.slice A7 n7 c7) ∧ X.cell? ⟨g7, 2, none⟩ = some (.bool false) ∧ X.cell? ⟨g7, 3, none⟩ = some (.slice B7 m7 d7))
            (first | (refine HKS.out _ ?_; (repeat' (first | with_reducible exact BB2 | with_reducible exact BB1 | with_reducible exact (Below.refl _ _).drew | with_reducible exact Below.refl _ _ | with_reducible refine Below.drew ?_ | with_reducible refine Below.setCell ?_ ?_ _ | with_reducible refine Below.alloc ?_ ?_ _)); all_goals (first | omega | exact Nat.le_refl _ | exact S2 | exact S1 | (simp; done) | (simp; omega))))
            (first
             | (have _t := BB1; go_at_call 16; refine (rmul_w (k := 6) (by first | with_reducible exact F7.out.via BB1 | with_reducible exact (F7.out.via BB1).alloc _) (by first | with_reducible exact hX8.mono (by omega) | with_reducible exact (hX8.alloc _).mono (by omega)) (by omega)).mono ?_; rintro e u2 ⟨z9, A9, n9, c9, B9, m9, d9, rfl, hX9, hh⟩; have B2 : Below u1.heap.size u1 u2 := (by first | with_reducible exact hh | with_reducible exact b_two hh | with_reducible exact b_one hh); have BB2 := btr BB1 B2; have S2 := BB2.size; have T2 := B2.size; (try (have P0 := P0.via B2)); (try (have D0a := D0a.via B2; have D0b := D0b.via B2)); have X9 : Fw u2 (2 * 6) (1 * 1) (T * 2) z9 A9 n9 c9 B9 m9 d9 := hX9; (try (have P1 : (Qd u2 (u1.heap.size) (.bool false) (.slice none 0 0) (.bool false) (.slice none 0 0)) := (by with_reducible exact (Qd.new u1 (u1.heap.size) rfl (.bool false) (.slice none 0 0) (.bool false) (.slice none 0 0) 26).via hh); have l1 := P1.lt)); (try (have D1a : (Qd u2 (u1.heap.size) (.bool false) (.slice none 0 0) (.bool false) (.slice none 0 0)) := (by with_reducible exact ((Qd.new u1 (u1.heap.size) rfl (.bool false) (.slice none 0 0) (.bool false) (.slice none 0 0) 26).alloc (.cells #[.bool false, .slice none 0 0, .bool false, .slice none 0 0] 26)).via hh); have D1b : (Qd u2 (u1.heap.size + 1) (.bool false) (.slice none 0 0) (.bool false) (.slice none 0 0)) := (by with_reducible exact (Qd.new (u1.alloc (.cells #[.bool false, .slice none 0 0, .bool false, .slice none 0 0] 26)) (u1.heap.size + 1) (by simp) (.bool false) (.slice none 0 0) (.bool false) (.slice none 0 0) 26).via hh); have l1 := D1a.lt)); (try (have ⟨p00, p01, p02, p03, p04, p05, p06, p07, p0l⟩ := P0; have p0a0 := fun o => (P0.alloc o).c0; have p0a1 := fun o => (P0.alloc o).c1; have p0a2 := fun o => (P0.alloc o).c2; have p0a3 := fun o => (P0.alloc o).c3; have p0a4 := fun o => (P0.alloc o).f0; have p0a5 := fun o => (P0.alloc o).f1; have p0a6 := fun o => (P0.alloc o).f2; have p0a7 := fun o => (P0.alloc o).f3; have p0n1 := Nat.ne_of_lt p0l; have p0n2 := Nat.ne_of_gt p0l)); (try (have ⟨da0_0, da0_1, da0_2, da0_3, da0_4, da0_5, da0_6, da0_7, da0_l⟩ := D0a; have ⟨db0_0, db0_1, db0_2, db0_3, db0_4, db0_5, db0_6, db0_7, db0_l⟩ := D0b)); (try (have m01 : ¬ (V7.heap.size = u1.heap.size) := (by have := l0; have := l1; omega); have n01 : ¬ (u1.heap.size = V7.heap.size) := (by have := l0; have := l1; omega))); (try (have ⟨p10, p11, p12, p13, p14, p15, p16, p17, p1l⟩ := P1; have p1a0 := fun o => (P1.alloc o).c0; have p1a1 := fun o => (P1.alloc o).c1; have p1a2 := fun o => (P1.alloc o).c2; have p1a3 := fun o => (P1.alloc o).c3; have p1a4 := fun o => (P1.alloc o).f0; have p1a5 := fun o => (P1.alloc o).f1; have p1a6 := fun o => (P1.alloc o).f2; have p1a7 := fun o => (P1.alloc o).f3; have p1n1 := Nat.ne_of_lt p1l; have p1n2 := Nat.ne_of_gt p1l)); (try (have ⟨da1_0, da1_1, da1_2, da1_3, da1_4, da1_5, da1_6, da1_7, da1_l⟩ := D1a; have ⟨db1_0, db1_1, db1_2, db1_3, db1_4, db1_5, db1_6, db1_7, db1_l⟩ := D1b)))
             | (go_at_call 17; refine (lpart_c _ 1 2 (by decide) (by decide) (by decide) (by decide)).mono ?_; rintro e u1 ⟨z8, A8, n8, c8, B8, m8, d8, rfl, hX8, hh⟩; have BB1 : Below V7.heap.size V7 u1 := (by first | with_reducible exact b_two_d hh | with_reducible exact b_one_d hh | exact (Below.refl _ _).drew.trans hh); have S1 := BB1.size; have T1 := BB1.size; (try (have P0 : (Qd u1 (V7.heap.size) (.bool false) (.slice none 0 0) (.bool false) (.slice none 0 0)) := (by with_reducible exact (Qd.new V7 (V7.heap.size) rfl (.bool false) (.slice none 0 0) (.bool false) (.slice none 0 0) 26).drew.via hh); have l0 := P0.lt)); (try (have D0a : (Qd u1 (V7.heap.size) (.bool false) (.slice none 0 0) (.bool false) (.slice none 0 0)) := (by with_reducible exact ((Qd.new V7 (V7.heap.size) rfl (.bool false) (.slice none 0 0) (.bool false) (.slice none 0 0) 26).alloc (.cells #[.bool false, .slice none 0 0, .bool false, .slice none 0 0] 26)).drew.via hh); have D0b : (Qd u1 (V7.heap.size + 1) (.bool false) (.slice none 0 0) (.bool false) (.slice none 0 0)) := (by with_reducible exact (Qd.new (V7.alloc (.cells #[.bool false, .slice none 0 0, .bool false, .slice none 0 0] 26)) (V7.heap.size + 1) (by simp) (.bool false) (.slice none 0 0) (.bool false) (.slice none 0 0) 26).drew.via hh); have l0 := D0a.lt)))
             | fail)
          all_goals
            go_wp2_with fail
            go_meet
            (try rw [pt4_eq])
            first
            | with_reducible exact qfin1 BB2 X9
            | with_reducible exact qfin2 BB2 X9 P0 (Nat.le_refl _)
            | with_reducible exact qfin2 BB2 X9 P1 S1
        case rest =>
          clear Q7 F7
          obtain ⟨g9, rfl, ⟨z9, A9, n9, c9, B9, m9, d9, hQ, hF⟩, -, hb⟩ := hcut
          clear HKS
          replace FD := Lib.hid (FD.out.via hb)
          replace Q3 := Lib.hid (Q3.out.via hb)
          replace BX := Lib.hid (btr BX.out hb)
          have Q9 := Lib.hid hQ
          have F9 := Lib.hid hF
          clear hb hQ hF
          generalize wc = V9 at *
          have ⟨fa0, fa1, fa2, fa3, fa4, fa5, fa6, fa7, fa8⟩ := Q3.out
          have ⟨fb0, fb1, fb2, fb3, fb4, fb5, fb6, fb7, fb8⟩ := Q9.out
          go_wp2_with fail
          clear fa0 fa1 fa2 fa3 fa4 fa5 fa6 fa7 fa8
          clear fb0 fb1 fb2 fb3 fb4 fb5 fb6 fb7 fb8
          refine (rcmp_w (k := 45) FD.out (F9.out.mono (by omega)) (by omega) HPT.out HT2.out).mono ?_
          rintro e w14 ⟨rfl, hb⟩
          replace FD := Lib.hid (FD.out.via hb)
          replace Q3 := Lib.hid (Q3.out.via hb)
          replace Q9 := Lib.hid (Q9.out.via hb)
          replace F9 := Lib.hid (F9.out.via hb)
          replace BX := Lib.hid (btr BX.out hb)
          clear hb
          obtain ⟨c, hc⟩ : ∃ c, cmpZ (((x * T - r * P).natAbs : Int) * (T * 2)) (1 * 1 * (P * T)) = c := ⟨_, rfl⟩
          have hc2 := HCM.out
          rw [hc] at hc2 ⊢
          clear hc HCM
          go_wp2
          go_ret
          exact ⟨rfl, BX.out⟩
end Go.Proofs.YtkendkbicafdgaaGreatDoor

namespace Go.Proofs.YtkendkbicafdgaaGreatDoor
open Go.ChangeShapes Go.WideShapes Go.ChangeAt Go.RowKit

theorem back_any (w : World) (na nb : Bool) (A B : Option Addr) (n m ca cb : Nat) (xs ys : List Nat) (hA : Lm w w.heap.size A n ca xs) (hB : Lm w w.heap.size B m cb ys) (k : Int) (hk : Lit.wf (.int .u8 k)) (hU : TabU w) :
    Calls Tryz.prog 3 #[fv na A n ca nb B m cb, .int .u8 k] w (RBw w true) := by
  have hr : 0 ≤ k ∧ k ≤ 255 := by simpa [Lit.wf, IntKind.min, IntKind.max, IntKind.signed, IntKind.bits] using hk
  obtain ⟨u, rfl⟩ := Int.eq_ofNat_of_zero_le hr.1
  have hu : u < 256 := by omega
  by_cases hg : 130 < n ∨ 130 < m
  · exact bk_out0 w na nb A B n m ca cb u hu xs ys hA hB hU hg
  · rcases fchk_cases na xs nb ys with hc | hc
    · by_cases hf : 15 < max n m
      · exact bk_out2 w na nb A B n m ca cb u hu xs ys hA hB hU hg hc hf
      · obtain ⟨x, P, e1, e2, sx, e3, e4, sP, hP0, _⟩ := of_fchk hc hA.good hB.good (k := 15) (by have := hA.len; omega) (by have := hB.len; omega)
        subst e2 e3 e4
        exact bk_in w na A B n m ca cb u hu x P hA hB hU hg (by omega) sx sP hP0 e1.symm hc
    · exact bk_out1 w na nb A B n m ca cb u hu xs ys hA hB hU hg hc

set_option maxRecDepth 100000 in
theorem fracBack_lifted (os : Os) (started : os.Started) (H : Type) (enc : TypeId × Value → H) :
    ReturnsInHanded {} Tryz.checked os 3 .any (fun w args => (Rows.fracBackSpec.pre enc Tryz.prog Tryz.f3 [] false w args ∧ laidMetH Tryz.prog laid7 w) ∧ sizedMet enc Tryz.prog Tryz.f3 (OpenSpec.ofChange Rows.fracBackSpec) false w args)
      (Rows.fracBackSpec.post enc Tryz.prog Tryz.f3 false true false false) := by
  refine returnsInHanded_of_change_and (C := Tryz.checked) (X := fun w _ => laidMetH Tryz.prog laid7 w) (fun _ _ _ hh h => h.of_heap hh) own started (by kernel_rfl) Tryz.func3
    (ChangeSpec.witness_shaped (enc := enc) (C := Tryz.checked) (os := os) (X := fun w _ => laidMetH Tryz.prog laid7 w) false (World.laidAll Tryz.prog os laid7) #[.agg #[.bool false, .slice none 0 0, .bool false, .slice none 0 0], .int .u8 0] 8 (World.laidAll_os _ _ _) (World.shaped_of_ZipB (by kernel_rfl) (by kernel_rfl)) (by kernel_rfl) (by kernel_rfl) (by kernel_rfl) (by rw [MakeChecks.laidMetH_plain _ _ _ (by kernel_rfl)]; exact laidMet_laidAll _ (by kernel_rfl) (by kernel_rfl))) ?_
  intro W base args ds gs before hval0 hW _ _ hL _
  have hTU := tabU_of hL
  have hval : ∀ (j : Nat) t v, Tryz.f3.params[j]? = some t → args[j]? = some v → Value.okWide Tryz.prog W .any base t v := hval0
  have hW' := hW
  obtain ⟨p, q, hA0, hV, rfl, hfz, hnd⟩ := hW
  have hA : DataW.TrodAll enc Tryz.prog W 0 (fun _ => true) true Tryz.f3.params.toList args.toList ds p := hA0
  rw [Tryz.params3] at hA hval
  obtain ⟨v0, v1, d0, d1, p0, p1, rfl, rfl, rfl, h0, h1⟩ := trodAll_two hA
  obtain ⟨rfl, rfl⟩ := trodVars_none hV
  clear hA0 hval0
  simp only [List.append_nil] at hW'
  obtain ⟨k1, rfl, rfl, rfl, wk1⟩ := open_int Tryz.underlying5 (hval 1 5 v1 rfl rfl) h1
  try (simp only [List.append_nil] at hW')
  have hlt0 : ∀ x ∈ p0, x.block < W.heap.size := fun x hx => by simpa using hW'.lt x (by simpa using hx)
  obtain ⟨na, A, n, ca, xs, nb, B, m, cb, ys, rfl, hLA, hLB⟩ := open_frac (hval 0 26 v0 rfl rfl) h0 hlt0
  refine (back_any W na nb A B n m ca cb xs ys hLA hLB k1 wk1 hTU).mono fun e W' ⟨he, hb⟩ => ?_
  subst he
  exact ⟨_, rfl, _, _, _, [], p0, [], hW', trodAll_mk1 (shut_bool Tryz.underlying4 _),
    (by have e := trodAll_mk2 (Below.trod laidOut (by kernel_rfl) (of_decide_eq_true (by kernel_rfl)) h0 hb hlt0) (shut_int Tryz.underlying5 wk1); (try (simp only [List.append_nil] at e)); exact e), rfl, hb.frame _, fun h => by cases h⟩

theorem fracBack_row : Rows.FracBackSaid :=
  OpenClaim.holds_of_wide 3 Tryz.f3 rfl rfl rfl rfl rfl rfl rfl ⟨rfl, rfl, rfl, rfl, rfl⟩ rfl rfl rfl rfl rfl (by kernel_rfl) Tryz.func3 (by kernel_rfl)
    (of_decide_eq_true (by kernel_rfl)) (by unfold Func.isWrapper; first | (rw [if_pos (by decide +kernel)]; kernel_rfl) | (rw [if_neg (by decide +kernel)]; exact ⟨rfl, rfl⟩))
    (fun os started H enc _ => fracBack_lifted os started H enc)

theorem fracBack_holds : Rows.FracBackCardSaid :=
  Claim7.holds_tied_plain_at .later [] [.data, .data, .data, .data, .sentinel, .sentinel, .pinned] true (Rows.fracBackCard.stood.harness) true
    fracBack_row (fun _ h => by cases h) (by kernel_rfl) (fun _ h => by cases h) fracBack_row_tie rfl ⟨rfl, rfl⟩ (by kernel_rfl) rfl
    (fun f fn hf hfn => by
      obtain rfl : f = 3 := Option.some.inj ((show Tryz.prog.funcNamed "planisphere/planispherelaw02.FracBack" = some 3 by kernel_rfl).symm.trans hf) |>.symm
      obtain rfl : fn = Tryz.f3 := (Option.some.inj (Tryz.func3.symm.trans hfn)).symm
      exact ⟨by kernel_rfl, fun j t ht => by
        rw [Tryz.params3] at ht
        have hm : t ∈ [26, 5] := by simpa using Array.mem_of_getElem? ht
        have hall : ([26, 5].all fun u => !Tryz.prog.wantsStandIn u) = true := by kernel_rfl
        exact (show Tryz.prog.wantsStandIn t = false by simpa using List.all_eq_true.1 hall t hm)⟩)
    (by kernel_rfl)
end Go.Proofs.YtkendkbicafdgaaGreatDoor

