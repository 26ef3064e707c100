/-
  The walk of the law WideAsks: whatever the two numbers and the whole number, it returns true and keeps what was there.
-/
import Derived.Test.YtdbilpmhejigpaaAskT
namespace Go.Proofs.Ytdbilpmhejigpaa
open Go.RowKit

theorem pair_keep {w0 w2 : World} {g : Nat} {x y : Value} (hb : Below w0.heap.size w0 w2) (hg : g < w0.heap.size) (h0 : w0.cell? ⟨g, 0, none⟩ = some x) (h1 : w0.cell? ⟨g, 1, none⟩ = some y) :
    w2.cell? ⟨g, 0, none⟩ = some x ∧ w2.cell? ⟨g, 1, none⟩ = some y := keep2 hb hg ⟨h0, h1⟩

set_option maxRecDepth 100000 in
set_option maxHeartbeats 2000000 in
theorem asks_small (w : World) (na nb : Bool) (A B : Option Addr) (n m ca cb : Nat) (xs ys : List Nat) (k : Int) (hA : Lm w w.heap.size A n ca xs) (hB : Lm w w.heap.size B m cb ys)
    (hk1 : -9223372036854775808 ≤ k) (hk2 : k ≤ 9223372036854775807) (hga : greatB n = false) (hgb : greatB m = false) :
    Calls Try.prog 4 #[.agg #[.bool na, .slice A n ca], .agg #[.bool nb, .slice B m cb], .int .i64 k] w fun e w' => e = .returned (.bool true) ∧ Below w.heap.size w w' := by
  have HA := Lib.hid hA
  have HB := Lib.hid hB
  have h1 := hA.cap
  have h2 := hA.max
  have h3 := hB.cap
  have h4 := hB.max
  have HGA := Lib.hid hga
  have HGB := Lib.hid hgb
  clear hA hB hga hgb
  go_enter Try.func4, Try.ntmps4
  go_wp2_with fail
  refine (great_any _ _ _ _ _ h1 h2).mono ?_
  rintro e w1 ⟨rfl, hb1⟩
  have ⟨a0_1, a1_1, b0_1, b1_1, _, _, bl_1⟩ := box2 hb1
  have al_1 : w.heap.size < w1.heap.size := by omega
  have LA_1 := Lib.hid (((HA.out.box _).box _).via hb1)
  have LB_1 := Lib.hid (((HB.out.box _).box _).via hb1)
  have BB_1 := Lib.hid (bbox (bbox hb1))
  clear hb1 HA HB
  rw [HGA.out]
  go_wp2_with fail
  refine (great_any _ _ _ _ _ h3 h4).mono ?_
  rintro e w2 ⟨rfl, hb2⟩
  rw [HGB.out]
  have B2 := hb2
  obtain ⟨a0_2, a1_2⟩ := pair_keep B2 al_1 a0_1 a1_1
  have al_2 := Nat.lt_of_lt_of_le al_1 B2.size
  obtain ⟨b0_2, b1_2⟩ := pair_keep B2 bl_1 b0_1 b1_1
  have bl_2 := Nat.lt_of_lt_of_le bl_1 B2.size
  have LA_2 := Lib.hid (LA_1.out.via B2)
  have LB_2 := Lib.hid (LB_1.out.via B2)
  have BB_2 := Lib.hid (BB_1.out.trans (B2.mono (Nat.le_of_lt al_1)))
  clear a0_1 a1_1 al_1 b0_1 b1_1 bl_1 LA_1 LB_1 BB_1 B2
  clear hb2
  go_wp2_with fail
  refine (int_t _ _ _ _ _ _ LA_2.out).mono ?_
  rintro e w3 ⟨rfl, hb3⟩
  have B3 := hb3
  obtain ⟨a0_3, a1_3⟩ := pair_keep B3 al_2 a0_2 a1_2
  have al_3 := Nat.lt_of_lt_of_le al_2 B3.size
  obtain ⟨b0_3, b1_3⟩ := pair_keep B3 bl_2 b0_2 b1_2
  have bl_3 := Nat.lt_of_lt_of_le bl_2 B3.size
  have LA_3 := Lib.hid (LA_2.out.via B3)
  have LB_3 := Lib.hid (LB_2.out.via B3)
  have BB_3 := Lib.hid (BB_2.out.trans (B3.mono (Nat.le_of_lt al_2)))
  clear a0_2 a1_2 al_2 b0_2 b1_2 bl_2 LA_2 LB_2 BB_2 B3
  clear hb3
  go_wp2_with fail
  refine (rint_t _ _ _ _ _ _ LA_3.out).mono ?_
  rintro e w4 ⟨rfl, hb4⟩
  have B4 := hb4
  obtain ⟨a0_4, a1_4⟩ := pair_keep B4 al_3 a0_3 a1_3
  have al_4 := Nat.lt_of_lt_of_le al_3 B4.size
  obtain ⟨b0_4, b1_4⟩ := pair_keep B4 bl_3 b0_3 b1_3
  have bl_4 := Nat.lt_of_lt_of_le bl_3 B4.size
  have LA_4 := Lib.hid (LA_3.out.via B4)
  have LB_4 := Lib.hid (LB_3.out.via B4)
  have BB_4 := Lib.hid (BB_3.out.trans (B4.mono (Nat.le_of_lt al_3)))
  clear a0_3 a1_3 al_3 b0_3 b1_3 bl_3 LA_3 LB_3 BB_3 B4
  clear hb4
  go_wp2_with fail
  refine (neg_t _ _ _ _ _ _ LA_4.out).mono ?_
  rintro e w5 ⟨A5, n5, c5, rfl, L5, hb5⟩
  have B5 := hb5
  obtain ⟨a0_5, a1_5⟩ := pair_keep B5 al_4 a0_4 a1_4
  have al_5 := Nat.lt_of_lt_of_le al_4 B5.size
  obtain ⟨b0_5, b1_5⟩ := pair_keep B5 bl_4 b0_4 b1_4
  have bl_5 := Nat.lt_of_lt_of_le bl_4 B5.size
  have LA_5 := Lib.hid (LA_4.out.via B5)
  have LB_5 := Lib.hid (LB_4.out.via B5)
  have BB_5 := Lib.hid (BB_4.out.trans (B5.mono (Nat.le_of_lt al_4)))
  clear a0_4 a1_4 al_4 b0_4 b1_4 bl_4 LA_4 LB_4 BB_4 B5
  clear hb5
  have HL5 := Lib.hid L5
  clear L5
  go_wp2_with fail
  refine (rneg_t _ _ _ _ _ _ (LA_5.out.box _)).mono ?_
  rintro e w6 ⟨A6, n6, c6, rfl, L6, hb6⟩
  have ⟨x50_6, x51_6, _, _, x5l_6⟩ := box1 hb6
  have L5_6 := Lib.hid ((HL5.out.box _).via hb6)
  clear HL5
  have B6 := bbox hb6
  obtain ⟨a0_6, a1_6⟩ := pair_keep B6 al_5 a0_5 a1_5
  have al_6 := Nat.lt_of_lt_of_le al_5 B6.size
  obtain ⟨b0_6, b1_6⟩ := pair_keep B6 bl_5 b0_5 b1_5
  have bl_6 := Nat.lt_of_lt_of_le bl_5 B6.size
  have LA_6 := Lib.hid (LA_5.out.via B6)
  have LB_6 := Lib.hid (LB_5.out.via B6)
  have BB_6 := Lib.hid (BB_5.out.trans (B6.mono (Nat.le_of_lt al_5)))
  clear a0_5 a1_5 al_5 b0_5 b1_5 bl_5 LA_5 LB_5 BB_5 B6
  clear hb6
  have HL6 := Lib.hid L6
  clear L6
  go_wp2_with fail
  refine (abs_t _ _ _ _ _ _ (LA_6.out.box _)).mono ?_
  rintro e w7 ⟨A7, n7, c7, rfl, L7, hb7⟩
  have ⟨x60_7, x61_7, _, _, x6l_7⟩ := box1 hb7
  have L6_7 := Lib.hid ((HL6.out.box _).via hb7)
  clear HL6
  have B7 := bbox hb7
  obtain ⟨a0_7, a1_7⟩ := pair_keep B7 al_6 a0_6 a1_6
  have al_7 := Nat.lt_of_lt_of_le al_6 B7.size
  obtain ⟨b0_7, b1_7⟩ := pair_keep B7 bl_6 b0_6 b1_6
  have bl_7 := Nat.lt_of_lt_of_le bl_6 B7.size
  obtain ⟨x50_7, x51_7⟩ := pair_keep B7 x5l_6 x50_6 x51_6
  have x5l_7 := Nat.lt_of_lt_of_le x5l_6 B7.size
  have LA_7 := Lib.hid (LA_6.out.via B7)
  have LB_7 := Lib.hid (LB_6.out.via B7)
  have L5_7 := Lib.hid (L5_6.out.via B7)
  have BB_7 := Lib.hid (BB_6.out.trans (B7.mono (Nat.le_of_lt al_6)))
  clear a0_6 a1_6 al_6 b0_6 b1_6 bl_6 x50_6 x51_6 x5l_6 LA_6 LB_6 L5_6 BB_6 B7
  clear hb7
  have HL7 := Lib.hid L7
  clear L7
  go_wp2_with fail
  refine (rabs_t _ _ _ _ _ _ (LA_7.out.box _)).mono ?_
  rintro e w8 ⟨A8, n8, c8, rfl, L8, hb8⟩
  have ⟨x70_8, x71_8, _, _, x7l_8⟩ := box1 hb8
  have L7_8 := Lib.hid ((HL7.out.box _).via hb8)
  clear HL7
  have B8 := bbox hb8
  obtain ⟨a0_8, a1_8⟩ := pair_keep B8 al_7 a0_7 a1_7
  have al_8 := Nat.lt_of_lt_of_le al_7 B8.size
  obtain ⟨b0_8, b1_8⟩ := pair_keep B8 bl_7 b0_7 b1_7
  have bl_8 := Nat.lt_of_lt_of_le bl_7 B8.size
  obtain ⟨x50_8, x51_8⟩ := pair_keep B8 x5l_7 x50_7 x51_7
  have x5l_8 := Nat.lt_of_lt_of_le x5l_7 B8.size
  obtain ⟨x60_8, x61_8⟩ := pair_keep B8 x6l_7 x60_7 x61_7
  have x6l_8 := Nat.lt_of_lt_of_le x6l_7 B8.size
  have LA_8 := Lib.hid (LA_7.out.via B8)
  have LB_8 := Lib.hid (LB_7.out.via B8)
  have L5_8 := Lib.hid (L5_7.out.via B8)
  have L6_8 := Lib.hid (L6_7.out.via B8)
  have BB_8 := Lib.hid (BB_7.out.trans (B8.mono (Nat.le_of_lt al_7)))
  clear a0_7 a1_7 al_7 b0_7 b1_7 bl_7 x50_7 x51_7 x5l_7 x60_7 x61_7 x6l_7 LA_7 LB_7 L5_7 L6_7 BB_7 B8
  clear hb8
  have HL8 := Lib.hid L8
  clear L8
  go_wp2_with fail
  refine (cmp_t _ _ _ _ _ _ _ _ _ _ _ (LA_8.out.box _) (LB_8.out.box _)).mono ?_
  rintro e w9 ⟨rfl, hb9⟩
  have ⟨x80_9, x81_9, _, _, x8l_9⟩ := box1 hb9
  have L8_9 := Lib.hid ((HL8.out.box _).via hb9)
  clear HL8
  have B9 := bbox hb9
  obtain ⟨a0_9, a1_9⟩ := pair_keep B9 al_8 a0_8 a1_8
  have al_9 := Nat.lt_of_lt_of_le al_8 B9.size
  obtain ⟨b0_9, b1_9⟩ := pair_keep B9 bl_8 b0_8 b1_8
  have bl_9 := Nat.lt_of_lt_of_le bl_8 B9.size
  obtain ⟨x50_9, x51_9⟩ := pair_keep B9 x5l_8 x50_8 x51_8
  have x5l_9 := Nat.lt_of_lt_of_le x5l_8 B9.size
  obtain ⟨x60_9, x61_9⟩ := pair_keep B9 x6l_8 x60_8 x61_8
  have x6l_9 := Nat.lt_of_lt_of_le x6l_8 B9.size
  obtain ⟨x70_9, x71_9⟩ := pair_keep B9 x7l_8 x70_8 x71_8
  have x7l_9 := Nat.lt_of_lt_of_le x7l_8 B9.size
  have LA_9 := Lib.hid (LA_8.out.via B9)
  have LB_9 := Lib.hid (LB_8.out.via B9)
  have L5_9 := Lib.hid (L5_8.out.via B9)
  have L6_9 := Lib.hid (L6_8.out.via B9)
  have L7_9 := Lib.hid (L7_8.out.via B9)
  have BB_9 := Lib.hid (BB_8.out.trans (B9.mono (Nat.le_of_lt al_8)))
  clear a0_8 a1_8 al_8 b0_8 b1_8 bl_8 x50_8 x51_8 x5l_8 x60_8 x61_8 x6l_8 x70_8 x71_8 x7l_8 LA_8 LB_8 L5_8 L6_8 L7_8 BB_8 B9
  clear hb9
  go_wp2_with fail
  refine (rcmp_t _ _ _ _ _ _ _ _ _ _ _ LA_9.out LB_9.out).mono ?_
  rintro e w10 ⟨rfl, hb10⟩
  have B10 := hb10
  obtain ⟨a0_10, a1_10⟩ := pair_keep B10 al_9 a0_9 a1_9
  have al_10 := Nat.lt_of_lt_of_le al_9 B10.size
  obtain ⟨b0_10, b1_10⟩ := pair_keep B10 bl_9 b0_9 b1_9
  have bl_10 := Nat.lt_of_lt_of_le bl_9 B10.size
  obtain ⟨x50_10, x51_10⟩ := pair_keep B10 x5l_9 x50_9 x51_9
  have x5l_10 := Nat.lt_of_lt_of_le x5l_9 B10.size
  obtain ⟨x60_10, x61_10⟩ := pair_keep B10 x6l_9 x60_9 x61_9
  have x6l_10 := Nat.lt_of_lt_of_le x6l_9 B10.size
  obtain ⟨x70_10, x71_10⟩ := pair_keep B10 x7l_9 x70_9 x71_9
  have x7l_10 := Nat.lt_of_lt_of_le x7l_9 B10.size
  obtain ⟨x80_10, x81_10⟩ := pair_keep B10 x8l_9 x80_9 x81_9
  have x8l_10 := Nat.lt_of_lt_of_le x8l_9 B10.size
  have LA_10 := Lib.hid (LA_9.out.via B10)
  have LB_10 := Lib.hid (LB_9.out.via B10)
  have L5_10 := Lib.hid (L5_9.out.via B10)
  have L6_10 := Lib.hid (L6_9.out.via B10)
  have L7_10 := Lib.hid (L7_9.out.via B10)
  have L8_10 := Lib.hid (L8_9.out.via B10)
  have BB_10 := Lib.hid (BB_9.out.trans (B10.mono (Nat.le_of_lt al_9)))
  clear a0_9 a1_9 al_9 b0_9 b1_9 bl_9 x50_9 x51_9 x5l_9 x60_9 x61_9 x6l_9 x70_9 x71_9 x7l_9 x80_9 x81_9 x8l_9 LA_9 LB_9 L5_9 L6_9 L7_9 L8_9 BB_9 B10
  clear hb10
  go_wp2_with fail
  refine (sign_t _ _ _ _ _ _ LA_10.out).mono ?_
  rintro e w11 ⟨rfl, hb11⟩
  have B11 := hb11
  obtain ⟨a0_11, a1_11⟩ := pair_keep B11 al_10 a0_10 a1_10
  have al_11 := Nat.lt_of_lt_of_le al_10 B11.size
  obtain ⟨b0_11, b1_11⟩ := pair_keep B11 bl_10 b0_10 b1_10
  have bl_11 := Nat.lt_of_lt_of_le bl_10 B11.size
  obtain ⟨x50_11, x51_11⟩ := pair_keep B11 x5l_10 x50_10 x51_10
  have x5l_11 := Nat.lt_of_lt_of_le x5l_10 B11.size
  obtain ⟨x60_11, x61_11⟩ := pair_keep B11 x6l_10 x60_10 x61_10
  have x6l_11 := Nat.lt_of_lt_of_le x6l_10 B11.size
  obtain ⟨x70_11, x71_11⟩ := pair_keep B11 x7l_10 x70_10 x71_10
  have x7l_11 := Nat.lt_of_lt_of_le x7l_10 B11.size
  obtain ⟨x80_11, x81_11⟩ := pair_keep B11 x8l_10 x80_10 x81_10
  have x8l_11 := Nat.lt_of_lt_of_le x8l_10 B11.size
  have LA_11 := Lib.hid (LA_10.out.via B11)
  have LB_11 := Lib.hid (LB_10.out.via B11)
  have L5_11 := Lib.hid (L5_10.out.via B11)
  have L6_11 := Lib.hid (L6_10.out.via B11)
  have L7_11 := Lib.hid (L7_10.out.via B11)
  have L8_11 := Lib.hid (L8_10.out.via B11)
  have BB_11 := Lib.hid (BB_10.out.trans (B11.mono (Nat.le_of_lt al_10)))
  clear a0_10 a1_10 al_10 b0_10 b1_10 bl_10 x50_10 x51_10 x5l_10 x60_10 x61_10 x6l_10 x70_10 x71_10 x7l_10 x80_10 x81_10 x8l_10 LA_10 LB_10 L5_10 L6_10 L7_10 L8_10 BB_10 B11
  clear hb11
  go_wp2_with fail
  refine (rsign_t _ _ _ _ _ _ LA_11.out).mono ?_
  rintro e w12 ⟨rfl, hb12⟩
  have B12 := hb12
  obtain ⟨a0_12, a1_12⟩ := pair_keep B12 al_11 a0_11 a1_11
  have al_12 := Nat.lt_of_lt_of_le al_11 B12.size
  obtain ⟨b0_12, b1_12⟩ := pair_keep B12 bl_11 b0_11 b1_11
  have bl_12 := Nat.lt_of_lt_of_le bl_11 B12.size
  obtain ⟨x50_12, x51_12⟩ := pair_keep B12 x5l_11 x50_11 x51_11
  have x5l_12 := Nat.lt_of_lt_of_le x5l_11 B12.size
  obtain ⟨x60_12, x61_12⟩ := pair_keep B12 x6l_11 x60_11 x61_11
  have x6l_12 := Nat.lt_of_lt_of_le x6l_11 B12.size
  obtain ⟨x70_12, x71_12⟩ := pair_keep B12 x7l_11 x70_11 x71_11
  have x7l_12 := Nat.lt_of_lt_of_le x7l_11 B12.size
  obtain ⟨x80_12, x81_12⟩ := pair_keep B12 x8l_11 x80_11 x81_11
  have x8l_12 := Nat.lt_of_lt_of_le x8l_11 B12.size
  have LA_12 := Lib.hid (LA_11.out.via B12)
  have LB_12 := Lib.hid (LB_11.out.via B12)
  have L5_12 := Lib.hid (L5_11.out.via B12)
  have L6_12 := Lib.hid (L6_11.out.via B12)
  have L7_12 := Lib.hid (L7_11.out.via B12)
  have L8_12 := Lib.hid (L8_11.out.via B12)
  have BB_12 := Lib.hid (BB_11.out.trans (B12.mono (Nat.le_of_lt al_11)))
  clear a0_11 a1_11 al_11 b0_11 b1_11 bl_11 x50_11 x51_11 x5l_11 x60_11 x61_11 x6l_11 x70_11 x71_11 x7l_11 x80_11 x81_11 x8l_11 LA_11 LB_11 L5_11 L6_11 L7_11 L8_11 BB_11 B12
  clear hb12
  go_wp2_with fail
  refine (bits_t _ _ _ _ _ _ LA_12.out).mono ?_
  rintro e w13 ⟨rfl, hb13⟩
  have B13 := hb13
  obtain ⟨a0_13, a1_13⟩ := pair_keep B13 al_12 a0_12 a1_12
  have al_13 := Nat.lt_of_lt_of_le al_12 B13.size
  obtain ⟨b0_13, b1_13⟩ := pair_keep B13 bl_12 b0_12 b1_12
  have bl_13 := Nat.lt_of_lt_of_le bl_12 B13.size
  obtain ⟨x50_13, x51_13⟩ := pair_keep B13 x5l_12 x50_12 x51_12
  have x5l_13 := Nat.lt_of_lt_of_le x5l_12 B13.size
  obtain ⟨x60_13, x61_13⟩ := pair_keep B13 x6l_12 x60_12 x61_12
  have x6l_13 := Nat.lt_of_lt_of_le x6l_12 B13.size
  obtain ⟨x70_13, x71_13⟩ := pair_keep B13 x7l_12 x70_12 x71_12
  have x7l_13 := Nat.lt_of_lt_of_le x7l_12 B13.size
  obtain ⟨x80_13, x81_13⟩ := pair_keep B13 x8l_12 x80_12 x81_12
  have x8l_13 := Nat.lt_of_lt_of_le x8l_12 B13.size
  have LA_13 := Lib.hid (LA_12.out.via B13)
  have LB_13 := Lib.hid (LB_12.out.via B13)
  have L5_13 := Lib.hid (L5_12.out.via B13)
  have L6_13 := Lib.hid (L6_12.out.via B13)
  have L7_13 := Lib.hid (L7_12.out.via B13)
  have L8_13 := Lib.hid (L8_12.out.via B13)
  have BB_13 := Lib.hid (BB_12.out.trans (B13.mono (Nat.le_of_lt al_12)))
  clear a0_12 a1_12 al_12 b0_12 b1_12 bl_12 x50_12 x51_12 x5l_12 x60_12 x61_12 x6l_12 x70_12 x71_12 x7l_12 x80_12 x81_12 x8l_12 LA_12 LB_12 L5_12 L6_12 L7_12 L8_12 BB_12 B13
  clear hb13
  go_wp2_with fail
  refine (rbits_t _ _ _ _ _ _ LA_13.out).mono ?_
  rintro e w14 ⟨rfl, hb14⟩
  have B14 := hb14
  obtain ⟨a0_14, a1_14⟩ := pair_keep B14 al_13 a0_13 a1_13
  have al_14 := Nat.lt_of_lt_of_le al_13 B14.size
  obtain ⟨b0_14, b1_14⟩ := pair_keep B14 bl_13 b0_13 b1_13
  have bl_14 := Nat.lt_of_lt_of_le bl_13 B14.size
  obtain ⟨x50_14, x51_14⟩ := pair_keep B14 x5l_13 x50_13 x51_13
  have x5l_14 := Nat.lt_of_lt_of_le x5l_13 B14.size
  obtain ⟨x60_14, x61_14⟩ := pair_keep B14 x6l_13 x60_13 x61_13
  have x6l_14 := Nat.lt_of_lt_of_le x6l_13 B14.size
  obtain ⟨x70_14, x71_14⟩ := pair_keep B14 x7l_13 x70_13 x71_13
  have x7l_14 := Nat.lt_of_lt_of_le x7l_13 B14.size
  obtain ⟨x80_14, x81_14⟩ := pair_keep B14 x8l_13 x80_13 x81_13
  have x8l_14 := Nat.lt_of_lt_of_le x8l_13 B14.size
  have LA_14 := Lib.hid (LA_13.out.via B14)
  have LB_14 := Lib.hid (LB_13.out.via B14)
  have L5_14 := Lib.hid (L5_13.out.via B14)
  have L6_14 := Lib.hid (L6_13.out.via B14)
  have L7_14 := Lib.hid (L7_13.out.via B14)
  have L8_14 := Lib.hid (L8_13.out.via B14)
  have BB_14 := Lib.hid (BB_13.out.trans (B14.mono (Nat.le_of_lt al_13)))
  clear a0_13 a1_13 al_13 b0_13 b1_13 bl_13 x50_13 x51_13 x5l_13 x60_13 x61_13 x6l_13 x70_13 x71_13 x7l_13 x80_13 x81_13 x8l_13 LA_13 LB_13 L5_13 L6_13 L7_13 L8_13 BB_13 B14
  clear hb14
  go_wp2_with fail
  go_region_held3 (fun w' => ((w'.cell? ⟨w.heap.size, 0, none⟩ = some (.bool na) ∧ w'.cell? ⟨w.heap.size, 1, none⟩ = some (.slice A n ca)) ∧ (w'.cell? ⟨w5.heap.size, 0, none⟩ = some (.bool (unN (!na) na xs)) ∧ w'.cell? ⟨w5.heap.size, 1, none⟩ = some (.slice A5 n5 c5))) ∧ (w'.cell? ⟨w6.heap.size, 0, none⟩ = some (.bool (unN (!na) na xs)) ∧ w'.cell? ⟨w6.heap.size, 1, none⟩ = some (.slice A6 n6 c6)))
    (first | exact ⟨⟨⟨a0_14, a1_14⟩, ⟨x50_14, x51_14⟩⟩, ⟨x60_14, x61_14⟩⟩ | exact ⟨⟨⟨a0_15, a1_15⟩, ⟨x50_15, x51_15⟩⟩, ⟨x60_15, x61_15⟩⟩ | exact ⟨⟨⟨a0_16, a1_16⟩, ⟨x50_16, x51_16⟩⟩, ⟨x60_16, x61_16⟩⟩ | exact ⟨⟨⟨a0_17, a1_17⟩, ⟨x50_17, x51_17⟩⟩, ⟨x60_17, x61_17⟩⟩ | exact ⟨⟨⟨a0_18, a1_18⟩, ⟨x50_18, x51_18⟩⟩, ⟨x60_18, x61_18⟩⟩ | exact ⟨⟨⟨a0_19, a1_19⟩, ⟨x50_19, x51_19⟩⟩, ⟨x60_19, x61_19⟩⟩ | exact ⟨⟨⟨a0_20, a1_20⟩, ⟨x50_20, x51_20⟩⟩, ⟨x60_20, x61_20⟩⟩ | go_keep)
    (first
     | (go_at_call 28; refine (check_any _ _ _ _ _ _ (by first | exact LA_14.out | exact LA_14.out.drew)).mono ?_; rintro e w15 ⟨rfl, hb15⟩; have B15 := ((Below.refl w14.heap.size w14).drew.trans hb15); obtain ⟨a0_15, a1_15⟩ := pair_keep B15 al_14 a0_14 a1_14; have al_15 := Nat.lt_of_lt_of_le al_14 B15.size; obtain ⟨b0_15, b1_15⟩ := pair_keep B15 bl_14 b0_14 b1_14; have bl_15 := Nat.lt_of_lt_of_le bl_14 B15.size; obtain ⟨x50_15, x51_15⟩ := pair_keep B15 x5l_14 x50_14 x51_14; have x5l_15 := Nat.lt_of_lt_of_le x5l_14 B15.size; obtain ⟨x60_15, x61_15⟩ := pair_keep B15 x6l_14 x60_14 x61_14; have x6l_15 := Nat.lt_of_lt_of_le x6l_14 B15.size; obtain ⟨x70_15, x71_15⟩ := pair_keep B15 x7l_14 x70_14 x71_14; have x7l_15 := Nat.lt_of_lt_of_le x7l_14 B15.size; obtain ⟨x80_15, x81_15⟩ := pair_keep B15 x8l_14 x80_14 x81_14; have x8l_15 := Nat.lt_of_lt_of_le x8l_14 B15.size; have LA_15 := Lib.hid (LA_14.out.via B15); have LB_15 := Lib.hid (LB_14.out.via B15); have L5_15 := Lib.hid (L5_14.out.via B15); have L6_15 := Lib.hid (L6_14.out.via B15); have L7_15 := Lib.hid (L7_14.out.via B15); have L8_15 := Lib.hid (L8_14.out.via B15); have BB_15 := Lib.hid (BB_14.out.trans (B15.mono (Nat.le_of_lt al_14))); clear a0_14 a1_14 al_14 b0_14 b1_14 bl_14 x50_14 x51_14 x5l_14 x60_14 x61_14 x6l_14 x70_14 x71_14 x7l_14 x80_14 x81_14 x8l_14 LA_14 LB_14 L5_14 L6_14 L7_14 L8_14 BB_14 B15)
     | (go_at_call 29; refine (rcheck_any _ _ _ _ _ _ LA_15.out).mono ?_; rintro e w16 ⟨rfl, hb16⟩; have B16 := hb16; obtain ⟨a0_16, a1_16⟩ := pair_keep B16 al_15 a0_15 a1_15; have al_16 := Nat.lt_of_lt_of_le al_15 B16.size; obtain ⟨b0_16, b1_16⟩ := pair_keep B16 bl_15 b0_15 b1_15; have bl_16 := Nat.lt_of_lt_of_le bl_15 B16.size; obtain ⟨x50_16, x51_16⟩ := pair_keep B16 x5l_15 x50_15 x51_15; have x5l_16 := Nat.lt_of_lt_of_le x5l_15 B16.size; obtain ⟨x60_16, x61_16⟩ := pair_keep B16 x6l_15 x60_15 x61_15; have x6l_16 := Nat.lt_of_lt_of_le x6l_15 B16.size; obtain ⟨x70_16, x71_16⟩ := pair_keep B16 x7l_15 x70_15 x71_15; have x7l_16 := Nat.lt_of_lt_of_le x7l_15 B16.size; obtain ⟨x80_16, x81_16⟩ := pair_keep B16 x8l_15 x80_15 x81_15; have x8l_16 := Nat.lt_of_lt_of_le x8l_15 B16.size; have LA_16 := Lib.hid (LA_15.out.via B16); have LB_16 := Lib.hid (LB_15.out.via B16); have L5_16 := Lib.hid (L5_15.out.via B16); have L6_16 := Lib.hid (L6_15.out.via B16); have L7_16 := Lib.hid (L7_15.out.via B16); have L8_16 := Lib.hid (L8_15.out.via B16); have BB_16 := Lib.hid (BB_15.out.trans (B16.mono (Nat.le_of_lt al_15))); clear a0_15 a1_15 al_15 b0_15 b1_15 bl_15 x50_15 x51_15 x5l_15 x60_15 x61_15 x6l_15 x70_15 x71_15 x7l_15 x80_15 x81_15 x8l_15 LA_15 LB_15 L5_15 L6_15 L7_15 L8_15 BB_15 B16)
     | (go_at_call 30; refine (from_any _ k hk1 hk2).mono ?_; rintro e w17 ⟨A17, n17, c17, rfl, L17, hb17⟩; have B17 := hb17; obtain ⟨a0_17, a1_17⟩ := pair_keep B17 al_16 a0_16 a1_16; have al_17 := Nat.lt_of_lt_of_le al_16 B17.size; obtain ⟨b0_17, b1_17⟩ := pair_keep B17 bl_16 b0_16 b1_16; have bl_17 := Nat.lt_of_lt_of_le bl_16 B17.size; obtain ⟨x50_17, x51_17⟩ := pair_keep B17 x5l_16 x50_16 x51_16; have x5l_17 := Nat.lt_of_lt_of_le x5l_16 B17.size; obtain ⟨x60_17, x61_17⟩ := pair_keep B17 x6l_16 x60_16 x61_16; have x6l_17 := Nat.lt_of_lt_of_le x6l_16 B17.size; obtain ⟨x70_17, x71_17⟩ := pair_keep B17 x7l_16 x70_16 x71_16; have x7l_17 := Nat.lt_of_lt_of_le x7l_16 B17.size; obtain ⟨x80_17, x81_17⟩ := pair_keep B17 x8l_16 x80_16 x81_16; have x8l_17 := Nat.lt_of_lt_of_le x8l_16 B17.size; have LA_17 := Lib.hid (LA_16.out.via B17); have LB_17 := Lib.hid (LB_16.out.via B17); have L5_17 := Lib.hid (L5_16.out.via B17); have L6_17 := Lib.hid (L6_16.out.via B17); have L7_17 := Lib.hid (L7_16.out.via B17); have L8_17 := Lib.hid (L8_16.out.via B17); have BB_17 := Lib.hid (BB_16.out.trans (B17.mono (Nat.le_of_lt al_16))); clear a0_16 a1_16 al_16 b0_16 b1_16 bl_16 x50_16 x51_16 x5l_16 x60_16 x61_16 x6l_16 x70_16 x71_16 x7l_16 x80_16 x81_16 x8l_16 LA_16 LB_16 L5_16 L6_16 L7_16 L8_16 BB_16 B17; have L17_17 := Lib.hid L17; clear L17)
     | (go_at_call 31; refine (rfrom_any _ k hk1 hk2).mono ?_; rintro e w18 ⟨A18, n18, c18, rfl, L18, hb18⟩; have B18 := hb18; obtain ⟨a0_18, a1_18⟩ := pair_keep B18 al_17 a0_17 a1_17; have al_18 := Nat.lt_of_lt_of_le al_17 B18.size; obtain ⟨b0_18, b1_18⟩ := pair_keep B18 bl_17 b0_17 b1_17; have bl_18 := Nat.lt_of_lt_of_le bl_17 B18.size; obtain ⟨x50_18, x51_18⟩ := pair_keep B18 x5l_17 x50_17 x51_17; have x5l_18 := Nat.lt_of_lt_of_le x5l_17 B18.size; obtain ⟨x60_18, x61_18⟩ := pair_keep B18 x6l_17 x60_17 x61_17; have x6l_18 := Nat.lt_of_lt_of_le x6l_17 B18.size; obtain ⟨x70_18, x71_18⟩ := pair_keep B18 x7l_17 x70_17 x71_17; have x7l_18 := Nat.lt_of_lt_of_le x7l_17 B18.size; obtain ⟨x80_18, x81_18⟩ := pair_keep B18 x8l_17 x80_17 x81_17; have x8l_18 := Nat.lt_of_lt_of_le x8l_17 B18.size; have LA_18 := Lib.hid (LA_17.out.via B18); have LB_18 := Lib.hid (LB_17.out.via B18); have L5_18 := Lib.hid (L5_17.out.via B18); have L6_18 := Lib.hid (L6_17.out.via B18); have L7_18 := Lib.hid (L7_17.out.via B18); have L8_18 := Lib.hid (L8_17.out.via B18); have L17_18 := Lib.hid (L17_17.out.via B18); have BB_18 := Lib.hid (BB_17.out.trans (B18.mono (Nat.le_of_lt al_17))); clear a0_17 a1_17 al_17 b0_17 b1_17 bl_17 x50_17 x51_17 x5l_17 x60_17 x61_17 x6l_17 x70_17 x71_17 x7l_17 x80_17 x81_17 x8l_17 LA_17 LB_17 L5_17 L6_17 L7_17 L8_17 L17_17 BB_17 B18)
     | (go_at_call 15; refine (rsame_self _ _ _ _ _ _ _ _ _ L17_18.out L18).mono ?_; rintro e w19 ⟨rfl, hb19⟩; clear L18; have B19 := hb19; obtain ⟨a0_19, a1_19⟩ := pair_keep B19 al_18 a0_18 a1_18; have al_19 := Nat.lt_of_lt_of_le al_18 B19.size; obtain ⟨b0_19, b1_19⟩ := pair_keep B19 bl_18 b0_18 b1_18; have bl_19 := Nat.lt_of_lt_of_le bl_18 B19.size; obtain ⟨x50_19, x51_19⟩ := pair_keep B19 x5l_18 x50_18 x51_18; have x5l_19 := Nat.lt_of_lt_of_le x5l_18 B19.size; obtain ⟨x60_19, x61_19⟩ := pair_keep B19 x6l_18 x60_18 x61_18; have x6l_19 := Nat.lt_of_lt_of_le x6l_18 B19.size; obtain ⟨x70_19, x71_19⟩ := pair_keep B19 x7l_18 x70_18 x71_18; have x7l_19 := Nat.lt_of_lt_of_le x7l_18 B19.size; obtain ⟨x80_19, x81_19⟩ := pair_keep B19 x8l_18 x80_18 x81_18; have x8l_19 := Nat.lt_of_lt_of_le x8l_18 B19.size; have LA_19 := Lib.hid (LA_18.out.via B19); have LB_19 := Lib.hid (LB_18.out.via B19); have L5_19 := Lib.hid (L5_18.out.via B19); have L6_19 := Lib.hid (L6_18.out.via B19); have L7_19 := Lib.hid (L7_18.out.via B19); have L8_19 := Lib.hid (L8_18.out.via B19); have L17_19 := Lib.hid (L17_18.out.via B19); have BB_19 := Lib.hid (BB_18.out.trans (B19.mono (Nat.le_of_lt al_18))); clear a0_18 a1_18 al_18 b0_18 b1_18 bl_18 x50_18 x51_18 x5l_18 x60_18 x61_18 x6l_18 x70_18 x71_18 x7l_18 x80_18 x81_18 x8l_18 LA_18 LB_18 L5_18 L6_18 L7_18 L8_18 L17_18 BB_18 B19)
     | (go_at_call 15; refine (rsame_self _ _ _ _ _ _ _ _ _ L5_19.out L6_19.out).mono ?_; rintro e w20 ⟨rfl, hb20⟩; have B20 := hb20; obtain ⟨a0_20, a1_20⟩ := pair_keep B20 al_19 a0_19 a1_19; have al_20 := Nat.lt_of_lt_of_le al_19 B20.size; obtain ⟨b0_20, b1_20⟩ := pair_keep B20 bl_19 b0_19 b1_19; have bl_20 := Nat.lt_of_lt_of_le bl_19 B20.size; obtain ⟨x50_20, x51_20⟩ := pair_keep B20 x5l_19 x50_19 x51_19; have x5l_20 := Nat.lt_of_lt_of_le x5l_19 B20.size; obtain ⟨x60_20, x61_20⟩ := pair_keep B20 x6l_19 x60_19 x61_19; have x6l_20 := Nat.lt_of_lt_of_le x6l_19 B20.size; obtain ⟨x70_20, x71_20⟩ := pair_keep B20 x7l_19 x70_19 x71_19; have x7l_20 := Nat.lt_of_lt_of_le x7l_19 B20.size; obtain ⟨x80_20, x81_20⟩ := pair_keep B20 x8l_19 x80_19 x81_19; have x8l_20 := Nat.lt_of_lt_of_le x8l_19 B20.size; have LA_20 := Lib.hid (LA_19.out.via B20); have LB_20 := Lib.hid (LB_19.out.via B20); have L5_20 := Lib.hid (L5_19.out.via B20); have L6_20 := Lib.hid (L6_19.out.via B20); have L7_20 := Lib.hid (L7_19.out.via B20); have L8_20 := Lib.hid (L8_19.out.via B20); have L17_20 := Lib.hid (L17_19.out.via B20); have BB_20 := Lib.hid (BB_19.out.trans (B20.mono (Nat.le_of_lt al_19))); clear a0_19 a1_19 al_19 b0_19 b1_19 bl_19 x50_19 x51_19 x5l_19 x60_19 x61_19 x6l_19 x70_19 x71_19 x7l_19 x80_19 x81_19 x8l_19 LA_19 LB_19 L5_19 L6_19 L7_19 L8_19 L17_19 BB_19 B20)
    )
  go_wp2_with (go_at_call 15; refine (rsame_self _ _ _ _ _ _ _ _ _ L7_20.out L8_20.out).mono ?_; rintro e w21 ⟨rfl, hb21⟩)
  go_ret
  exact ⟨rfl, BB_20.out.trans (hb21.mono (Nat.le_of_lt al_20))⟩

end Go.Proofs.Ytdbilpmhejigpaa
