
/-
  For any two intervals a and b and any two indices the law SpanHolds returns true: the chapter's examples hold, and if both intervals are valid, the results of Add, Sub, Mul, Sq, Div and Sqrt, where they are not errors, have the exact results for the numbers of a and b that the indices name. Condition: none.
-/
import Derived.Test.YtglgfjknhplajaaGreatDoorRows
import Derived.Test.YtglgfjknhplajaaGreatDoorTie
import Derived.Test.YtglgfjknhplajaaGreatDoorCards
import Derived.Carry
import Derived.LaidMore
import Derived.OpenShut
import Derived.Stop.LaidErr
import Derived.MakeChecks
import Derived.SevenTiedAt
import Derived.Test.YtglgfjknhplajaaGreatDoorSH9
/- The walk of the law SpanHolds. -/
namespace Go.Proofs.YtglgfjknhplajaaGreatDoor
open Go.RowKit

set_option maxRecDepth 100000 in
set_option maxHeartbeats 64000000 in
theorem holds_bad1 (w : World) (al ah bl bh k n : Int) (h1 : ivC al ah = 8) : Calls Tryz.prog 3 #[iv al ah, iv bl bh, .int .u64 k, .int .u64 n] w (RB1 w true) := by
  have QA := Lib.hid ((Pr.new w w.heap.size rfl (.int .i64 al) (.int .i64 ah) 23).alloc (ivB bl bh))
  have QB := Lib.hid (Pr.new (w.alloc (ivB al ah)) (w.heap.size + 1) (by simp) (.int .i64 bl) (.int .i64 bh) 23)
  have BX : Hid (Below w.heap.size w ((w.alloc (ivB al ah)).alloc (ivB bl bh))) := sbal (sbal (Below.refl _ _) _) _
  go_enter Tryz.func3, Tryz.ntmps3
  go_upto_region 1 with (fail)
  generalize (w.alloc (ivB al ah)).alloc (ivB bl bh) = W0 at *
  have hz0 : w.heap.size < w.heap.size + 1 := by omega
  generalize w.heap.size + 1 = gb at *
  go_wp2_with fail
  refine (lalive_any _).mono ?_
  rintro e w1 ⟨rfl, hb⟩
  replace QA := Lib.hid (QA.out.via hb)
  replace QB := Lib.hid (QB.out.via hb)
  replace BX := Lib.hid (sbtr BX.out hb)
  clear hb
  have hc1 := fun W => rscheck_any W al ah
  rw [h1] at hc1
  have HC1 := Lib.hid hc1
  clear hc1 h1
  have ⟨rQA0, rQA1, rQA2, rQA3, rQA4⟩ := QA.out
  go_wp2_with fail
  clear rQA0 rQA1 rQA2 rQA3 rQA4
  refine (HC1.out _).mono ?_
  rintro e w2 ⟨rfl, hb⟩
  replace QA := Lib.hid (QA.out.via hb)
  replace QB := Lib.hid (QB.out.via hb)
  replace BX := Lib.hid (sbtr BX.out hb)
  clear hb
  go_wp2
  go_ret
  exact ⟨rfl, BX.out⟩
set_option maxRecDepth 100000 in
set_option maxHeartbeats 64000000 in
theorem holds_bad2 (w : World) (al ah bl bh k n : Int) (h1 : ivC al ah = 0) (h2 : ivC bl bh = 8) : Calls Tryz.prog 3 #[iv al ah, iv bl bh, .int .u64 k, .int .u64 n] w (RB1 w true) := by
  have QA := Lib.hid ((Pr.new w w.heap.size rfl (.int .i64 al) (.int .i64 ah) 23).alloc (ivB bl bh))
  have QB := Lib.hid (Pr.new (w.alloc (ivB al ah)) (w.heap.size + 1) (by simp) (.int .i64 bl) (.int .i64 bh) 23)
  have BX : Hid (Below w.heap.size w ((w.alloc (ivB al ah)).alloc (ivB bl bh))) := sbal (sbal (Below.refl _ _) _) _
  go_enter Tryz.func3, Tryz.ntmps3
  go_upto_region 1 with (fail)
  generalize (w.alloc (ivB al ah)).alloc (ivB bl bh) = W0 at *
  have hz0 : w.heap.size < w.heap.size + 1 := by omega
  generalize w.heap.size + 1 = gb at *
  go_wp2_with fail
  refine (lalive_any _).mono ?_
  rintro e w1 ⟨rfl, hb⟩
  replace QA := Lib.hid (QA.out.via hb)
  replace QB := Lib.hid (QB.out.via hb)
  replace BX := Lib.hid (sbtr BX.out hb)
  clear hb
  have hc1 := fun W => rscheck_any W al ah
  rw [h1] at hc1
  have HC1 := Lib.hid hc1
  have hc2 := fun W => rscheck_any W bl bh
  rw [h2] at hc2
  have HC2 := Lib.hid hc2
  clear hc1 h1 hc2 h2
  have ⟨rQA0, rQA1, rQA2, rQA3, rQA4⟩ := QA.out
  go_wp2_with fail
  clear rQA0 rQA1 rQA2 rQA3 rQA4
  refine (HC1.out _).mono ?_
  rintro e w2 ⟨rfl, hb⟩
  replace QA := Lib.hid (QA.out.via hb)
  replace QB := Lib.hid (QB.out.via hb)
  replace BX := Lib.hid (sbtr BX.out hb)
  clear hb
  have ⟨rQB0, rQB1, rQB2, rQB3, rQB4⟩ := QB.out
  go_wp2_with fail
  clear rQB0 rQB1 rQB2 rQB3 rQB4
  refine (HC2.out _).mono ?_
  rintro e w3 ⟨rfl, hb⟩
  replace QA := Lib.hid (QA.out.via hb)
  replace QB := Lib.hid (QB.out.via hb)
  replace BX := Lib.hid (sbtr BX.out hb)
  clear hb
  go_wp2
  go_ret
  exact ⟨rfl, BX.out⟩
def HK (lo hi N D : Int) : Prop := -2305843009213693952 ≤ lo ∧ hi ≤ 2305843009213693952 ∧ lo * D ≤ N ∧ N ≤ hi * D
theorem HK.rg {lo hi N D : Int} (h : HK lo hi N D) (hD : 0 < D) : -9223372036854775808 ≤ lo ∧ lo ≤ 9223372036854775807 ∧ -9223372036854775808 ≤ hi ∧ hi ≤ 9223372036854775807 := by
  obtain ⟨a, b, c, d⟩ := h
  have e := Int.le_of_mul_le_mul_right (Int.le_trans c d) hD
  omega
theorem HK.rgA {lo hi N : Int} (h : HK lo hi N (1099511627776 * 1099511627776)) : -9223372036854775808 ≤ lo := (h.rg (by decide)).1
theorem HK.rgB {lo hi N : Int} (h : HK lo hi N (1099511627776 * 1099511627776)) : lo ≤ 9223372036854775807 := (h.rg (by decide)).2.1
theorem HK.rgC {lo hi N : Int} (h : HK lo hi N (1099511627776 * 1099511627776)) : -9223372036854775808 ≤ hi := (h.rg (by decide)).2.2.1
theorem HK.rgD {lo hi N : Int} (h : HK lo hi N (1099511627776 * 1099511627776)) : hi ≤ 9223372036854775807 := (h.rg (by decide)).2.2.2
theorem isrt_ex (v : Nat) : ∃ R, IsRt v R := by
  induction v with
  | zero => exact ⟨0, by unfold IsRt; decide⟩
  | succ v ih =>
    obtain ⟨R, h1, h2⟩ := ih
    by_cases h : v + 1 < (R + 1) * (R + 1)
    · exact ⟨R, by omega, h⟩
    · refine ⟨R + 1, by omega, ?_⟩
      have : (R + 1 + 1) * (R + 1 + 1) = (R + 1) * (R + 1) + 2 * R + 3 := by grind
      omega
theorem rt_main {al ah tx : Int} {Rl Rh : Nat} (hl : IsRt (al.toNat * 1099511627776) Rl) (hh : IsRt (ah.toNat * 1099511627776) Rh) (hal : ¬ al < 0) (x2 : al ≤ ah) (x3 : ah ≤ 2305843009213693952) (n1 : al ≤ tx) (n2 : tx ≤ ah) :
    rtHi (ah.toNat * 1099511627776) Rh ≤ 2305843009213693952 ∧ (Rl : Int) ≤ rtHi (ah.toNat * 1099511627776) Rh ∧ ((Rl : Int) * (Rl : Int) ≤ tx * 1099511627776 ∧ tx * 1099511627776 ≤ rtHi (ah.toNat * 1099511627776) Rh * rtHi (ah.toNat * 1099511627776) Rh) := by
  have e1 : Rh < 2305843009213693952 := by
    rcases Nat.lt_or_ge Rh 2305843009213693952 with h | h
    · exact h
    · have := Nat.mul_le_mul h h
      have := hh.1
      have : ah.toNat * 1099511627776 ≤ 2305843009213693952 * 1099511627776 := Nat.mul_le_mul_right _ (by omega)
      omega
  have e2 : Rl ≤ Rh := by
    rcases Nat.lt_or_ge Rh Rl with h | h
    · have a := Nat.mul_le_mul (show Rh + 1 ≤ Rl from h) (show Rh + 1 ≤ Rl from h)
      have b := hl.1
      have c := hh.2
      have : al.toNat * 1099511627776 ≤ ah.toNat * 1099511627776 := Nat.mul_le_mul_right _ (by omega)
      omega
    · exact h
  have h := hold_sqrt (x := tx.toNat * 1099511627776) (N := tx.toNat * 1099511627776) hl hh (Nat.mul_le_mul_right _ (by omega)) (Nat.mul_le_mul_right _ (by omega)) rfl
  have e3 : ((tx.toNat * 1099511627776 : Nat) : Int) = tx * 1099511627776 := by omega
  rw [e3] at h
  refine ⟨?_, ?_, h⟩
  · unfold rtHi; split <;> omega
  · unfold rtHi; split <;> omega
theorem mk_rg {lo hi : Int} (h : (mkI lo hi).err = 0) : -2305843009213693952 ≤ (mkI lo hi).lo ∧ (mkI lo hi).hi ≤ 2305843009213693952 := by
  by_cases c : lo < -2305843009213693952 ∨ 2305843009213693952 < hi
  · rw [mkI_out c] at h; cases h
  · rw [mkI_in (by omega) (by omega)]
    show -2305843009213693952 ≤ lo ∧ hi ≤ 2305843009213693952
    omega
theorem hk_add {lo hi x y : Int} {o : Out} (ho : o = mkI lo hi) (he : o.err = 0) (h : o.lo ≤ x + y ∧ x + y ≤ o.hi) : HK o.lo o.hi ((x * 1099511627776 + y * 1099511627776) * 1099511627776) (1099511627776 * 1099511627776) := by
  subst ho
  obtain ⟨a, b⟩ := mk_rg he
  exact ⟨a, b, by omega, by omega⟩
theorem hk_sub {lo hi x y : Int} {o : Out} (ho : o = mkI lo hi) (he : o.err = 0) (h : o.lo ≤ x - y ∧ x - y ≤ o.hi) : HK o.lo o.hi ((x * 1099511627776 - y * 1099511627776) * 1099511627776) (1099511627776 * 1099511627776) := by
  subst ho
  obtain ⟨a, b⟩ := mk_rg he
  exact ⟨a, b, by omega, by omega⟩
theorem hk_mul {lo hi t : Int} {o : Out} (ho : o = mkI lo hi) (he : o.err = 0) (h : o.lo * 1099511627776 ≤ t ∧ t ≤ o.hi * 1099511627776) : HK o.lo o.hi (t * 1099511627776) (1099511627776 * 1099511627776) := by
  subst ho
  obtain ⟨a, b⟩ := mk_rg he
  exact ⟨a, b, by omega, by omega⟩
theorem div_rg {al ah bl bh : Int} (he : (divO al ah bl bh).err = 0) : -2305843009213693952 ≤ (divO al ah bl bh).lo ∧ (divO al ah bl bh).hi ≤ 2305843009213693952 := by
  unfold divO at he ⊢
  split at he
  · cases he
  · rename_i h0
    rw [if_neg h0]
    split at he
    · rename_i h1
      rw [if_pos h1]; exact mk_rg he
    · rename_i h1
      rw [if_neg h1]; exact mk_rg he
theorem hk_div {al ah bl bh x y : Int} (h1 : al ≤ x) (h2 : x ≤ ah) (h3 : bl ≤ y) (h4 : y ≤ bh) (he : (divO al ah bl bh).err = 0) (hy : y ≠ 0) :
    ∃ uz vz : Int, 0 < vz ∧ HK (divO al ah bl bh).lo (divO al ah bl bh).hi (uz * 1099511627776) vz ∧ ∀ p q, FrV 4 p q (x * 1099511627776) (1099511627776 * y) → FrV 4 p q uz vz := by
  obtain ⟨a, b⟩ := div_rg he
  rcases Int.lt_or_lt_of_ne hy with hn | hp
  · obtain ⟨c, d⟩ := hold_div_neg h1 h2 h3 h4 hn he
    refine ⟨-(x * 1099511627776), 1099511627776 * -y, by omega, ⟨a, b, ?_, ?_⟩, fun p q f => frv_to f (by omega) (by rw [Int.mul_neg, Int.mul_neg, Int.neg_mul])⟩
    · have : (divO al ah bl bh).lo * (1099511627776 * -y) = (divO al ah bl bh).lo * (-y) * 1099511627776 := by rw [Int.mul_comm 1099511627776, ← Int.mul_assoc]
      rw [this]; exact Int.mul_le_mul_of_nonneg_right c (by omega)
    · have : (divO al ah bl bh).hi * (1099511627776 * -y) = (divO al ah bl bh).hi * (-y) * 1099511627776 := by rw [Int.mul_comm 1099511627776, ← Int.mul_assoc]
      rw [this]; exact Int.mul_le_mul_of_nonneg_right d (by omega)
  · obtain ⟨c, d⟩ := hold_div_pos h1 h2 h3 h4 hp he
    refine ⟨x * 1099511627776, 1099511627776 * y, by omega, ⟨a, b, ?_, ?_⟩, fun p q f => f⟩
    · have : (divO al ah bl bh).lo * (1099511627776 * y) = (divO al ah bl bh).lo * y * 1099511627776 := by rw [Int.mul_comm 1099511627776, ← Int.mul_assoc]
      rw [this]; exact Int.mul_le_mul_of_nonneg_right c (by omega)
    · have : (divO al ah bl bh).hi * (1099511627776 * y) = (divO al ah bl bh).hi * y * 1099511627776 := by rw [Int.mul_comm 1099511627776, ← Int.mul_assoc]
      rw [this]; exact Int.mul_le_mul_of_nonneg_right d (by omega)
set_option maxRecDepth 100000 in
set_option maxHeartbeats 64000000 in
theorem holds_main (w : World) (al ah bl bh k n : Int) (hk0 : 0 ≤ k) (hk1 : k ≤ 18446744073709551615) (hn0 : 0 ≤ n) (hn1 : n ≤ 18446744073709551615) (h1 : ivC al ah = 0) (h2 : ivC bl bh = 0) (x1 : -2305843009213693952 ≤ al) (x2 : al ≤ ah) (x3 : ah ≤ 2305843009213693952) (y1 : -2305843009213693952 ≤ bl) (y2 : bl ≤ bh) (y3 : bh ≤ 2305843009213693952) : Calls Tryz.prog 3 #[iv al ah, iv bl bh, .int .u64 k, .int .u64 n] w (RB1 w true) := by
  have hc1 := fun W => rscheck_any W al ah
  rw [h1] at hc1
  have HC1 := Lib.hid hc1
  have hc2 := fun W => rscheck_any W bl bh
  rw [h2] at hc2
  have HC2 := Lib.hid hc2
  have q1 := fun W => lpoint_any W al ah k x1 x2 x3 hk0 hk1
  have q2 := fun W => lpoint_any W bl bh n y1 y2 y3 hn0 hn1
  have i1 := ptV_in (k := k) x2
  have i2 := ptV_in (k := n) y2
  generalize ptV al ah k = tx at *
  generalize ptV bl bh n = ty at *
  have Q1 := Lib.hid q1
  have Q2 := Lib.hid q2
  have q3 := fun W => lnumber_any W tx (by omega) (by omega)
  have q4 := fun W => lnumber_any W ty (by omega) (by omega)
  have Q3 := Lib.hid q3
  have Q4 := Lib.hid q4
  clear hc1 hc2 q1 q2 q3 q4 hk0 hk1 hn0 hn1 h1 h2
  have HN : Hid (al ≤ tx ∧ tx ≤ ah ∧ bl ≤ ty ∧ ty ≤ bh) := by show _ ∧ _; omega
  have HX : Hid (-2305843009213693952 ≤ al ∧ al ≤ ah ∧ ah ≤ 2305843009213693952 ∧ -2305843009213693952 ≤ bl ∧ bl ≤ bh ∧ bh ≤ 2305843009213693952) := ⟨x1, x2, x3, y1, y2, y3⟩
  clear i1 i2 x1 x2 x3 y1 y2 y3
  have QA := Lib.hid ((Pr.new w w.heap.size rfl (.int .i64 al) (.int .i64 ah) 23).alloc (ivB bl bh))
  have QB := Lib.hid (Pr.new (w.alloc (ivB al ah)) (w.heap.size + 1) (by simp) (.int .i64 bl) (.int .i64 bh) 23)
  have BX : Hid (Below w.heap.size w ((w.alloc (ivB al ah)).alloc (ivB bl bh))) := sbal (sbal (Below.refl _ _) _) _
  go_enter Tryz.func3, Tryz.ntmps3
  go_upto_region 1 with (fail)
  generalize (w.alloc (ivB al ah)).alloc (ivB bl bh) = W0 at *
  have hz0 : w.heap.size < w.heap.size + 1 := by omega
  generalize w.heap.size + 1 = gb at *
  go_wp2_with fail
  refine (lalive_any _).mono ?_
  rintro e w1 ⟨rfl, hb⟩
  replace QA := Lib.hid (QA.out.via hb)
  replace QB := Lib.hid (QB.out.via hb)
  replace BX := Lib.hid (sbtr BX.out hb)
  clear hb
  have ⟨rQA0, rQA1, rQA2, rQA3, rQA4⟩ := QA.out
  go_wp2_with fail
  clear rQA0 rQA1 rQA2 rQA3 rQA4
  refine (HC1.out _).mono ?_
  rintro e w2 ⟨rfl, hb⟩
  replace QA := Lib.hid (QA.out.via hb)
  replace QB := Lib.hid (QB.out.via hb)
  replace BX := Lib.hid (sbtr BX.out hb)
  clear hb
  have ⟨rQB0, rQB1, rQB2, rQB3, rQB4⟩ := QB.out
  go_wp2_with fail
  clear rQB0 rQB1 rQB2 rQB3 rQB4
  refine (HC2.out _).mono ?_
  rintro e w3 ⟨rfl, hb⟩
  replace QA := Lib.hid (QA.out.via hb)
  replace QB := Lib.hid (QB.out.via hb)
  replace BX := Lib.hid (sbtr BX.out hb)
  clear hb
  go_wp2_with fail
  have HKS : Hid (∀ X : World, Below w3.heap.size w3 X → X.cell? ⟨w.heap.size, 0, none⟩ = some (.int .i64 al) ∧ X.cell? ⟨w.heap.size, 1, none⟩ = some (.int .i64 ah) ∧ X.cell? ⟨gb, 0, none⟩ = some (.int .i64 bl) ∧ X.cell? ⟨gb, 1, none⟩ = some (.int .i64 bh)) := fun X h => ⟨(QA.out.via h).c0, (QA.out.via h).c1, (QB.out.via h).c0, (QB.out.via h).c1⟩
  go_cut [10, 11] (fun sx sy wx => FxT w3 2 tx 1099511627776 ty 1099511627776 sx sy wx)
  case first =>
    go_region_held3 (fun X => X.cell? ⟨w.heap.size, 0, none⟩ = some (.int .i64 al) ∧ X.cell? ⟨w.heap.size, 1, none⟩ = some (.int .i64 ah) ∧ X.cell? ⟨gb, 0, none⟩ = some (.int .i64 bl) ∧ X.cell? ⟨gb, 1, none⟩ = some (.int .i64 bh))
      (first | (refine HKS.out _ ?_; (repeat' (first | with_reducible exact BB4 | with_reducible exact BB3 | with_reducible exact BB2 | with_reducible exact BB1 | with_reducible exact (Below.refl _ _).drew | with_reducible exact Below.refl _ _ | with_reducible refine Below.drew ?_ | with_reducible refine Below.setCell ?_ ?_ _ | with_reducible refine Below.alloc ?_ ?_ _)); all_goals (first | omega | (simp [World.size_setCell]; done) | (simp [World.size_setCell]; omega))))
      (first
       | (have _t := BB3; go_at_call 6; refine (Q4.out _).mono ?_; rintro e u4 ⟨p2, q2, z2, A2, n2, c2, G2, m2, d2, hz2, hf2, rfl, hL2, hM2, hh⟩; have B4 : Below u3.heap.size u3 u4 := (by first | with_reducible exact hh | with_reducible exact b_two hh | with_reducible exact b_one hh); have BB4 := sbtr BB3 B4; have S4 := BB4.size; have T4 := B4.size; have X1 := X1.via B4; (try (have P0 := P0.via B4)); (try (have D0a := D0a.via B4; have D0b := D0b.via B4)); (try (have P1 := P1.via B4)); (try (have D1a := D1a.via B4; have D1b := D1b.via B4)); (try (have P2 := P2.via B4)); (try (have D2a := D2a.via B4; have D2b := D2b.via B4)); have X2 : Fd u4 2 ty 1099511627776 z2 A2 n2 c2 G2 m2 d2 := ⟨p2, q2, hz2, hf2, hL2, hM2⟩; (try (have P3 : (Qd u4 (u3.heap.size) (.bool false) (.slice none 0 0) (.bool false) (.slice none 0 0)) := (by with_reducible exact (Qd.new u3 (u3.heap.size) rfl (.bool false) (.slice none 0 0) (.bool false) (.slice none 0 0) 31).via hh); have l3 := P3.lt)); (try (have D3a : (Qd u4 (u3.heap.size) (.bool false) (.slice none 0 0) (.bool false) (.slice none 0 0)) := (by with_reducible exact ((Qd.new u3 (u3.heap.size) rfl (.bool false) (.slice none 0 0) (.bool false) (.slice none 0 0) 31).alloc (.cells #[.bool false, .slice none 0 0, .bool false, .slice none 0 0] 31)).via hh); have D3b : (Qd u4 (u3.heap.size + 1) (.bool false) (.slice none 0 0) (.bool false) (.slice none 0 0)) := (by with_reducible exact (Qd.new (u3.alloc (.cells #[.bool false, .slice none 0 0, .bool false, .slice none 0 0] 31)) (u3.heap.size + 1) (by simp) (.bool false) (.slice none 0 0) (.bool false) (.slice none 0 0) 31).via hh); have l3 := D3a.lt)); (try (have ⟨p00, p01, p02, p03, p04, p05, p06, p07, p0l⟩ := P0; have p0a0 := fun o => (P0.alloc o).c0; have p0a1 := fun o => (P0.alloc o).c1; have p0a2 := fun o => (P0.alloc o).c2; have p0a3 := fun o => (P0.alloc o).c3; have p0a4 := fun o => (P0.alloc o).f0; have p0a5 := fun o => (P0.alloc o).f1; have p0a6 := fun o => (P0.alloc o).f2; have p0a7 := fun o => (P0.alloc o).f3; have p0n1 := Nat.ne_of_lt p0l; have p0n2 := Nat.ne_of_gt p0l)); (try (have ⟨da0_0, da0_1, da0_2, da0_3, da0_4, da0_5, da0_6, da0_7, da0_l⟩ := D0a; have ⟨db0_0, db0_1, db0_2, db0_3, db0_4, db0_5, db0_6, db0_7, db0_l⟩ := D0b)); (try (have m01 : ¬ (w3.heap.size = u1.heap.size) := (by have := l0; have := l1; omega); have n01 : ¬ (u1.heap.size = w3.heap.size) := (by have := l0; have := l1; omega))); (try (have m02 : ¬ (w3.heap.size = u2.heap.size) := (by have := l0; have := l2; omega); have n02 : ¬ (u2.heap.size = w3.heap.size) := (by have := l0; have := l2; omega))); (try (have m03 : ¬ (w3.heap.size = u3.heap.size) := (by have := l0; have := l3; omega); have n03 : ¬ (u3.heap.size = w3.heap.size) := (by have := l0; have := l3; omega))); (try (have ⟨p10, p11, p12, p13, p14, p15, p16, p17, p1l⟩ := P1; have p1a0 := fun o => (P1.alloc o).c0; have p1a1 := fun o => (P1.alloc o).c1; have p1a2 := fun o => (P1.alloc o).c2; have p1a3 := fun o => (P1.alloc o).c3; have p1a4 := fun o => (P1.alloc o).f0; have p1a5 := fun o => (P1.alloc o).f1; have p1a6 := fun o => (P1.alloc o).f2; have p1a7 := fun o => (P1.alloc o).f3; have p1n1 := Nat.ne_of_lt p1l; have p1n2 := Nat.ne_of_gt p1l)); (try (have ⟨da1_0, da1_1, da1_2, da1_3, da1_4, da1_5, da1_6, da1_7, da1_l⟩ := D1a; have ⟨db1_0, db1_1, db1_2, db1_3, db1_4, db1_5, db1_6, db1_7, db1_l⟩ := D1b)); (try (have m12 : ¬ (u1.heap.size = u2.heap.size) := (by have := l1; have := l2; omega); have n12 : ¬ (u2.heap.size = u1.heap.size) := (by have := l1; have := l2; omega))); (try (have m13 : ¬ (u1.heap.size = u3.heap.size) := (by have := l1; have := l3; omega); have n13 : ¬ (u3.heap.size = u1.heap.size) := (by have := l1; have := l3; omega))); (try (have ⟨p20, p21, p22, p23, p24, p25, p26, p27, p2l⟩ := P2; have p2a0 := fun o => (P2.alloc o).c0; have p2a1 := fun o => (P2.alloc o).c1; have p2a2 := fun o => (P2.alloc o).c2; have p2a3 := fun o => (P2.alloc o).c3; have p2a4 := fun o => (P2.alloc o).f0; have p2a5 := fun o => (P2.alloc o).f1; have p2a6 := fun o => (P2.alloc o).f2; have p2a7 := fun o => (P2.alloc o).f3; have p2n1 := Nat.ne_of_lt p2l; have p2n2 := Nat.ne_of_gt p2l)); (try (have ⟨da2_0, da2_1, da2_2, da2_3, da2_4, da2_5, da2_6, da2_7, da2_l⟩ := D2a; have ⟨db2_0, db2_1, db2_2, db2_3, db2_4, db2_5, db2_6, db2_7, db2_l⟩ := D2b)); (try (have m23 : ¬ (u2.heap.size = u3.heap.size) := (by have := l2; have := l3; omega); have n23 : ¬ (u3.heap.size = u2.heap.size) := (by have := l2; have := l3; omega))); (try (have ⟨p30, p31, p32, p33, p34, p35, p36, p37, p3l⟩ := P3; have p3a0 := fun o => (P3.alloc o).c0; have p3a1 := fun o => (P3.alloc o).c1; have p3a2 := fun o => (P3.alloc o).c2; have p3a3 := fun o => (P3.alloc o).c3; have p3a4 := fun o => (P3.alloc o).f0; have p3a5 := fun o => (P3.alloc o).f1; have p3a6 := fun o => (P3.alloc o).f2; have p3a7 := fun o => (P3.alloc o).f3; have p3n1 := Nat.ne_of_lt p3l; have p3n2 := Nat.ne_of_gt p3l)); (try (have ⟨da3_0, da3_1, da3_2, da3_3, da3_4, da3_5, da3_6, da3_7, da3_l⟩ := D3a; have ⟨db3_0, db3_1, db3_2, db3_3, db3_4, db3_5, db3_6, db3_7, db3_l⟩ := D3b)))
       | (have _t := BB2; go_at_call 7; refine (Q2.out _).mono ?_; rintro e u3 ⟨rfl, hh⟩; have B3 : Below u2.heap.size u2 u3 := (by first | with_reducible exact hh | with_reducible exact b_two hh | with_reducible exact b_one hh); have BB3 := sbtr BB2 B3; have S3 := BB3.size; have T3 := B3.size; have X1 := X1.via B3; (try (have P0 := P0.via B3)); (try (have D0a := D0a.via B3; have D0b := D0b.via B3)); (try (have P1 := P1.via B3)); (try (have D1a := D1a.via B3; have D1b := D1b.via B3)); (try (have P2 : (Qd u3 (u2.heap.size) (.bool false) (.slice none 0 0) (.bool false) (.slice none 0 0)) := (by with_reducible exact (Qd.new u2 (u2.heap.size) rfl (.bool false) (.slice none 0 0) (.bool false) (.slice none 0 0) 31).via hh); have l2 := P2.lt)); (try (have D2a : (Qd u3 (u2.heap.size) (.bool false) (.slice none 0 0) (.bool false) (.slice none 0 0)) := (by with_reducible exact ((Qd.new u2 (u2.heap.size) rfl (.bool false) (.slice none 0 0) (.bool false) (.slice none 0 0) 31).alloc (.cells #[.bool false, .slice none 0 0, .bool false, .slice none 0 0] 31)).via hh); have D2b : (Qd u3 (u2.heap.size + 1) (.bool false) (.slice none 0 0) (.bool false) (.slice none 0 0)) := (by with_reducible exact (Qd.new (u2.alloc (.cells #[.bool false, .slice none 0 0, .bool false, .slice none 0 0] 31)) (u2.heap.size + 1) (by simp) (.bool false) (.slice none 0 0) (.bool false) (.slice none 0 0) 31).via hh); have l2 := D2a.lt)))
       | (have _t := BB1; go_at_call 6; refine (Q3.out _).mono ?_; rintro e u2 ⟨p1, q1, z1, A1, n1, c1, G1, m1, d1, hz1, hf1, rfl, hL1, hM1, hh⟩; have B2 : Below u1.heap.size u1 u2 := (by first | with_reducible exact hh | with_reducible exact b_two hh | with_reducible exact b_one hh); have BB2 := sbtr BB1 B2; have S2 := BB2.size; have T2 := B2.size; (try (have P0 := P0.via B2)); (try (have D0a := D0a.via B2; have D0b := D0b.via B2)); have X1 : Fd u2 2 tx 1099511627776 z1 A1 n1 c1 G1 m1 d1 := ⟨p1, q1, hz1, hf1, hL1, hM1⟩; (try (have P1 : (Qd u2 (u1.heap.size) (.bool false) (.slice none 0 0) (.bool false) (.slice none 0 0)) := (by with_reducible exact (Qd.new u1 (u1.heap.size) rfl (.bool false) (.slice none 0 0) (.bool false) (.slice none 0 0) 31).via hh); have l1 := P1.lt)); (try (have D1a : (Qd u2 (u1.heap.size) (.bool false) (.slice none 0 0) (.bool false) (.slice none 0 0)) := (by with_reducible exact ((Qd.new u1 (u1.heap.size) rfl (.bool false) (.slice none 0 0) (.bool false) (.slice none 0 0) 31).alloc (.cells #[.bool false, .slice none 0 0, .bool false, .slice none 0 0] 31)).via hh); have D1b : (Qd u2 (u1.heap.size + 1) (.bool false) (.slice none 0 0) (.bool false) (.slice none 0 0)) := (by with_reducible exact (Qd.new (u1.alloc (.cells #[.bool false, .slice none 0 0, .bool false, .slice none 0 0] 31)) (u1.heap.size + 1) (by simp) (.bool false) (.slice none 0 0) (.bool false) (.slice none 0 0) 31).via hh); have l1 := D1a.lt)))
       | (go_at_call 7; refine (Q1.out _).mono ?_; rintro e u1 ⟨rfl, hh⟩; have BB1 : Below w3.heap.size w3 u1 := (by first | with_reducible exact b_two_d hh | with_reducible exact b_one_d hh | exact (Below.refl _ _).drew.trans hh); have S1 := BB1.size; have T1 := BB1.size; (try (have P0 : (Qd u1 (w3.heap.size) (.bool false) (.slice none 0 0) (.bool false) (.slice none 0 0)) := (by with_reducible exact (Qd.new w3 (w3.heap.size) rfl (.bool false) (.slice none 0 0) (.bool false) (.slice none 0 0) 31).drew.via hh); have l0 := P0.lt)); (try (have D0a : (Qd u1 (w3.heap.size) (.bool false) (.slice none 0 0) (.bool false) (.slice none 0 0)) := (by with_reducible exact ((Qd.new w3 (w3.heap.size) rfl (.bool false) (.slice none 0 0) (.bool false) (.slice none 0 0) 31).alloc (.cells #[.bool false, .slice none 0 0, .bool false, .slice none 0 0] 31)).drew.via hh); have D0b : (Qd u1 (w3.heap.size + 1) (.bool false) (.slice none 0 0) (.bool false) (.slice none 0 0)) := (by with_reducible exact (Qd.new (w3.alloc (.cells #[.bool false, .slice none 0 0, .bool false, .slice none 0 0] 31)) (w3.heap.size + 1) (by simp) (.bool false) (.slice none 0 0) (.bool false) (.slice none 0 0) 31).drew.via hh); have l0 := D0a.lt)))
       | fail)
    all_goals
      as_aux_lemma =>
      go_wp2_with fail
      go_meet
      (try rw [put4_eq])
      (try rw [put4_eq])
      first
      | with_reducible exact xfin1 BB4 X1 X2
      | with_reducible exact xfin2 BB4 X1 X2
      | with_reducible exact xfin3 BB4 X1 X2 P0 (Nat.le_refl _)
      | with_reducible exact xfin4 BB4 X1 X2 P0 (Nat.le_refl _)
      | with_reducible exact xfin3 BB4 X1 X2 P1 S1
      | with_reducible exact xfin4 BB4 X1 X2 P1 S1
      | with_reducible exact xfin3 BB4 X1 X2 P2 S2
      | with_reducible exact xfin4 BB4 X1 X2 P2 S2
      | with_reducible exact xfin3 BB4 X1 X2 P3 S3
      | with_reducible exact xfin4 BB4 X1 X2 P3 S3
      | ((with_reducible refine xfin5 BB4 X1 X2 D0a D0b ?_ ?_ ?_) <;> omega)
      | ((with_reducible refine xfin5 BB4 X1 X2 D0b D0a ?_ ?_ ?_) <;> omega)
      | ((with_reducible refine xfin5 BB4 X1 X2 P0 P1 ?_ ?_ ?_) <;> omega)
      | ((with_reducible refine xfin5 BB4 X1 X2 P1 P0 ?_ ?_ ?_) <;> omega)
      | ((with_reducible refine xfin5 BB4 X1 X2 P0 P2 ?_ ?_ ?_) <;> omega)
      | ((with_reducible refine xfin5 BB4 X1 X2 P2 P0 ?_ ?_ ?_) <;> omega)
      | ((with_reducible refine xfin5 BB4 X1 X2 P0 P3 ?_ ?_ ?_) <;> omega)
      | ((with_reducible refine xfin5 BB4 X1 X2 P3 P0 ?_ ?_ ?_) <;> omega)
      | ((with_reducible refine xfin5 BB4 X1 X2 D1a D1b ?_ ?_ ?_) <;> omega)
      | ((with_reducible refine xfin5 BB4 X1 X2 D1b D1a ?_ ?_ ?_) <;> omega)
      | ((with_reducible refine xfin5 BB4 X1 X2 P1 P2 ?_ ?_ ?_) <;> omega)
      | ((with_reducible refine xfin5 BB4 X1 X2 P2 P1 ?_ ?_ ?_) <;> omega)
      | ((with_reducible refine xfin5 BB4 X1 X2 P1 P3 ?_ ?_ ?_) <;> omega)
      | ((with_reducible refine xfin5 BB4 X1 X2 P3 P1 ?_ ?_ ?_) <;> omega)
      | ((with_reducible refine xfin5 BB4 X1 X2 D2a D2b ?_ ?_ ?_) <;> omega)
      | ((with_reducible refine xfin5 BB4 X1 X2 D2b D2a ?_ ?_ ?_) <;> omega)
      | ((with_reducible refine xfin5 BB4 X1 X2 P2 P3 ?_ ?_ ?_) <;> omega)
      | ((with_reducible refine xfin5 BB4 X1 X2 P3 P2 ?_ ?_ ?_) <;> omega)
      | ((with_reducible refine xfin5 BB4 X1 X2 D3a D3b ?_ ?_ ?_) <;> omega)
      | ((with_reducible refine xfin5 BB4 X1 X2 D3b D3a ?_ ?_ ?_) <;> omega)
  case rest =>
    obtain ⟨gX, gY, rfl, rfl, hX, hY, hne, hgx, hgy, hb⟩ := hcut
    clear HKS Q1 Q2 Q3 Q4 HC1 HC2
    have ltA := QA.out.lt
    have ltB := QB.out.lt
    clear ltA ltB hgx hgy hne
    replace QA := Lib.hid (QA.out.via hb)
    replace QB := Lib.hid (QB.out.via hb)
    replace BX := Lib.hid (sbtr BX.out hb)
    clear hb
    have X := Lib.hid hX
    have Y := Lib.hid hY
    clear hX hY
    obtain ⟨x1, x2, x3, y1, y2, y3⟩ := HX.out
    obtain ⟨n1, n2, n3, n4⟩ := HN.out
    have vA : ivC al ah = 0 := ivC_ok x1 x2 x3
    have vAB : ivB2 al ah bl bh = 0 := by rw [ivB2_ok vA]; exact ivC_ok y1 y2 y3
    have cP := fun W => sadd_any W al ah bl bh
    rw [j2_ok vAB] at cP
    have hp : (mkI (al + bl) (ah + bh)).err = 0 → HK (mkI (al + bl) (ah + bh)).lo (mkI (al + bl) (ah + bh)).hi ((tx * 1099511627776 + ty * 1099511627776) * 1099511627776) (1099511627776 * 1099511627776) := fun he => hk_add rfl he (hold_add n1 n2 n3 n4 he)
    revert hp cP
    generalize mkI (al + bl) (ah + bh) = oP
    intro cP hp
    obtain ⟨pl0, ph0, pe0⟩ := oP
    have CP0 := Lib.hid cP
    have HP0 : Hid (pe0 = 0 → HK pl0 ph0 ((tx * 1099511627776 + ty * 1099511627776) * 1099511627776) (1099511627776 * 1099511627776)) := hp
    clear cP hp
    have cP := fun W => ssub_any W al ah bl bh
    rw [j2_ok vAB] at cP
    have hp : (mkI (al - bh) (ah - bl)).err = 0 → HK (mkI (al - bh) (ah - bl)).lo (mkI (al - bh) (ah - bl)).hi ((tx * 1099511627776 - ty * 1099511627776) * 1099511627776) (1099511627776 * 1099511627776) := fun he => hk_sub rfl he (hold_sub n1 n2 n3 n4 he)
    revert hp cP
    generalize mkI (al - bh) (ah - bl) = oP
    intro cP hp
    obtain ⟨pl1, ph1, pe1⟩ := oP
    have CP1 := Lib.hid cP
    have HP1 : Hid (pe1 = 0 → HK pl1 ph1 ((tx * 1099511627776 - ty * 1099511627776) * 1099511627776) (1099511627776 * 1099511627776)) := hp
    clear cP hp
    have cP := fun W => smulp_any W al ah bl bh
    rw [j2_ok vAB] at cP
    have hp : (mkI (mulLo al ah bl bh) (mulHi al ah bl bh)).err = 0 → HK (mkI (mulLo al ah bl bh) (mulHi al ah bl bh)).lo (mkI (mulLo al ah bl bh) (mulHi al ah bl bh)).hi ((tx * ty) * 1099511627776) (1099511627776 * 1099511627776) := fun he => hk_mul rfl he (hold_mul n1 n2 n3 n4 he)
    revert hp cP
    generalize mkI (mulLo al ah bl bh) (mulHi al ah bl bh) = oP
    intro cP hp
    obtain ⟨pl2, ph2, pe2⟩ := oP
    have CP2 := Lib.hid cP
    have HP2 : Hid (pe2 = 0 → HK pl2 ph2 ((tx * ty) * 1099511627776) (1099511627776 * 1099511627776)) := hp
    clear cP hp
    have cP := fun W => ssq_any W al ah
    rw [j1_ok vA] at cP
    have hp : (sqO al ah).err = 0 → HK (sqO al ah).lo (sqO al ah).hi ((tx * tx) * 1099511627776) (1099511627776 * 1099511627776) := fun he => hk_mul rfl he (hold_sq n1 n2 he)
    revert hp cP
    generalize sqO al ah = oP
    intro cP hp
    obtain ⟨pl3, ph3, pe3⟩ := oP
    have CP3 := Lib.hid cP
    have HP3 : Hid (pe3 = 0 → HK pl3 ph3 ((tx * tx) * 1099511627776) (1099511627776 * 1099511627776)) := hp
    clear cP hp
    have cP := fun W => sdiv_any W al ah bl bh
    rw [j2_ok vAB] at cP
    have hp : (divO al ah bl bh).err = 0 → (ty ≠ 0 → ∃ uz vz : Int, 0 < vz ∧ HK (divO al ah bl bh).lo (divO al ah bl bh).hi (uz * 1099511627776) vz ∧ ∀ p q, FrV 4 p q (tx * 1099511627776) (1099511627776 * ty) → FrV 4 p q uz vz) := fun he => hk_div n1 n2 n3 n4 he
    revert hp cP
    generalize divO al ah bl bh = oP
    intro cP hp
    obtain ⟨pl4, ph4, pe4⟩ := oP
    have CP4 := Lib.hid cP
    have HP4 : Hid (pe4 = 0 → (ty ≠ 0 → ∃ uz vz : Int, 0 < vz ∧ HK pl4 ph4 (uz * 1099511627776) vz ∧ ∀ p q, FrV 4 p q (tx * 1099511627776) (1099511627776 * ty) → FrV 4 p q uz vz)) := hp
    clear cP hp
    clear vA vAB x1 x2 x3 y1 y2 y3 n1 n2 n3 n4
    generalize wc = V0 at *
    have ⟨rQA0, rQA1, rQA2, rQA3, rQA4⟩ := QA.out
    have ⟨rQB0, rQB1, rQB2, rQB3, rQB4⟩ := QB.out
    go_wp2_with fail
    clear rQA0 rQA1 rQA2 rQA3 rQA4 rQB0 rQB1 rQB2 rQB3 rQB4
    refine (CP0.out _).mono ?_
    rintro e w4 ⟨rfl, hb⟩
    replace QA := Lib.hid (QA.out.via hb)
    replace QB := Lib.hid (QB.out.via hb)
    replace X := Lib.hid (X.out.via hb)
    replace Y := Lib.hid (Y.out.via hb)
    replace BX := Lib.hid (sbtr BX.out hb)
    clear hb
    go_upto_region 6 with (fail)
    replace QA := Lib.hid (QA.out.alloc (ivB pl0 ph0))
    replace QB := Lib.hid (QB.out.alloc (ivB pl0 ph0))
    replace X := Lib.hid (X.out.alloc (ivB pl0 ph0))
    replace Y := Lib.hid (Y.out.alloc (ivB pl0 ph0))
    have XS := Lib.hid (Pr.new w4 _ rfl (.int .i64 pl0) (.int .i64 ph0) 23)
    replace BX := Lib.hid (sbal BX.out (ivB pl0 ph0))
    generalize w4.heap.size = gXS at *
    generalize w4.alloc (ivB pl0 ph0) = V4 at *
    have ⟨pX, qX, zX, AaX, nX, cX, BbX, mX, dX, hzX, hfX, hqX, haX, hbX⟩ := X.out
    have ⟨rX0, rX1, rX2, rX3, rX4, rX5, rX6, rX7, rXl⟩ := hqX
    have ⟨pY, qY, zY, AaY, nY, cY, BbY, mY, dY, hzY, hfY, hqY, haY, hbY⟩ := Y.out
    have ⟨rY0, rY1, rY2, rY3, rY4, rY5, rY6, rY7, rYl⟩ := hqY
    go_wp2_with fail
    clear rX0 rX1 rX2 rX3 rX4 rX5 rX6 rX7 rXl hqX rY0 rY1 rY2 rY3 rY4 rY5 rY6 rY7 rYl hqY
    refine (rplus_f _ zX zY AaX BbX AaY BbY nX mX nY mY cX dX cY dY 2 pX qX pY qY (tx) (1099511627776) (ty) (1099511627776) hzX hzY haX hbX haY hbY hfX hfY (by omega)).mono ?_
    rintro e w5 ⟨pT, qT, zT, AaT, nT, cT, BbT, mT, dT, hzT, hfT, rfl, hL, hM, hb⟩
    clear hzX hfX haX hbX
    clear hzY hfY haY hbY
    replace QA := Lib.hid (QA.out.via hb)
    replace QB := Lib.hid (QB.out.via hb)
    replace X := Lib.hid (X.out.via hb)
    replace Y := Lib.hid (Y.out.via hb)
    replace XS := Lib.hid (XS.out.via hb)
    replace BX := Lib.hid (sbtr BX.out hb)
    clear hb
    go_upto_region 7 with (fail)
    replace QA := Lib.hid (QA.out.alloc (.cells #[.bool zT, .slice AaT nT cT, .bool false, .slice BbT mT dT] 31))
    replace QB := Lib.hid (QB.out.alloc (.cells #[.bool zT, .slice AaT nT cT, .bool false, .slice BbT mT dT] 31))
    replace X := Lib.hid (X.out.alloc (.cells #[.bool zT, .slice AaT nT cT, .bool false, .slice BbT mT dT] 31))
    replace Y := Lib.hid (Y.out.alloc (.cells #[.bool zT, .slice AaT nT cT, .bool false, .slice BbT mT dT] 31))
    replace XS := Lib.hid (XS.out.alloc (.cells #[.bool zT, .slice AaT nT cT, .bool false, .slice BbT mT dT] 31))
    have T := Lib.hid (Fx.new 31 hzT hfT hL hM)
    replace BX := Lib.hid (sbal BX.out (.cells #[.bool zT, .slice AaT nT cT, .bool false, .slice BbT mT dT] 31))
    generalize w5.heap.size = gT at *
    generalize w5.alloc (.cells #[.bool zT, .slice AaT nT cT, .bool false, .slice BbT mT dT] 31) = V5 at *
    clear hzT hfT hL hM
    have ⟨rQA0, rQA1, rQA2, rQA3, rQA4⟩ := QA.out
    have ⟨rQB0, rQB1, rQB2, rQB3, rQB4⟩ := QB.out
    go_wp2_with fail
    clear rQA0 rQA1 rQA2 rQA3 rQA4 rQB0 rQB1 rQB2 rQB3 rQB4
    refine (CP1.out _).mono ?_
    rintro e w6 ⟨rfl, hb⟩
    replace QA := Lib.hid (QA.out.via hb)
    replace QB := Lib.hid (QB.out.via hb)
    replace X := Lib.hid (X.out.via hb)
    replace Y := Lib.hid (Y.out.via hb)
    replace XS := Lib.hid (XS.out.via hb)
    replace T := Lib.hid (T.out.via hb)
    replace BX := Lib.hid (sbtr BX.out hb)
    clear hb
    go_upto_region 8 with (fail)
    replace QA := Lib.hid (QA.out.alloc (ivB pl1 ph1))
    replace QB := Lib.hid (QB.out.alloc (ivB pl1 ph1))
    replace X := Lib.hid (X.out.alloc (ivB pl1 ph1))
    replace Y := Lib.hid (Y.out.alloc (ivB pl1 ph1))
    replace XS := Lib.hid (XS.out.alloc (ivB pl1 ph1))
    replace T := Lib.hid (T.out.alloc (ivB pl1 ph1))
    have XD := Lib.hid (Pr.new w6 _ rfl (.int .i64 pl1) (.int .i64 ph1) 23)
    replace BX := Lib.hid (sbal BX.out (ivB pl1 ph1))
    generalize w6.heap.size = gXD at *
    generalize w6.alloc (ivB pl1 ph1) = V6 at *
    have ⟨pX, qX, zX, AaX, nX, cX, BbX, mX, dX, hzX, hfX, hqX, haX, hbX⟩ := X.out
    have ⟨rX0, rX1, rX2, rX3, rX4, rX5, rX6, rX7, rXl⟩ := hqX
    have ⟨pY, qY, zY, AaY, nY, cY, BbY, mY, dY, hzY, hfY, hqY, haY, hbY⟩ := Y.out
    have ⟨rY0, rY1, rY2, rY3, rY4, rY5, rY6, rY7, rYl⟩ := hqY
    go_wp2_with fail
    clear rX0 rX1 rX2 rX3 rX4 rX5 rX6 rX7 rXl hqX rY0 rY1 rY2 rY3 rY4 rY5 rY6 rY7 rYl hqY
    refine (rminus_f _ zX zY AaX BbX AaY BbY nX mX nY mY cX dX cY dY 2 pX qX pY qY (tx) (1099511627776) (ty) (1099511627776) hzX hzY haX hbX haY hbY hfX hfY (by omega)).mono ?_
    rintro e w7 ⟨pU, qU, zU, AaU, nU, cU, BbU, mU, dU, hzU, hfU, rfl, hL, hM, hb⟩
    clear hzX hfX haX hbX
    clear hzY hfY haY hbY
    replace QA := Lib.hid (QA.out.via hb)
    replace QB := Lib.hid (QB.out.via hb)
    replace X := Lib.hid (X.out.via hb)
    replace Y := Lib.hid (Y.out.via hb)
    replace XS := Lib.hid (XS.out.via hb)
    replace T := Lib.hid (T.out.via hb)
    replace XD := Lib.hid (XD.out.via hb)
    replace BX := Lib.hid (sbtr BX.out hb)
    clear hb
    go_upto_region 9 with (fail)
    replace QA := Lib.hid (QA.out.alloc (.cells #[.bool zU, .slice AaU nU cU, .bool false, .slice BbU mU dU] 31))
    replace QB := Lib.hid (QB.out.alloc (.cells #[.bool zU, .slice AaU nU cU, .bool false, .slice BbU mU dU] 31))
    replace X := Lib.hid (X.out.alloc (.cells #[.bool zU, .slice AaU nU cU, .bool false, .slice BbU mU dU] 31))
    replace Y := Lib.hid (Y.out.alloc (.cells #[.bool zU, .slice AaU nU cU, .bool false, .slice BbU mU dU] 31))
    replace XS := Lib.hid (XS.out.alloc (.cells #[.bool zU, .slice AaU nU cU, .bool false, .slice BbU mU dU] 31))
    replace T := Lib.hid (T.out.alloc (.cells #[.bool zU, .slice AaU nU cU, .bool false, .slice BbU mU dU] 31))
    replace XD := Lib.hid (XD.out.alloc (.cells #[.bool zU, .slice AaU nU cU, .bool false, .slice BbU mU dU] 31))
    have U := Lib.hid (Fx.new 31 hzU hfU hL hM)
    replace BX := Lib.hid (sbal BX.out (.cells #[.bool zU, .slice AaU nU cU, .bool false, .slice BbU mU dU] 31))
    generalize w7.heap.size = gU at *
    generalize w7.alloc (.cells #[.bool zU, .slice AaU nU cU, .bool false, .slice BbU mU dU] 31) = V7 at *
    clear hzU hfU hL hM
    have ⟨rQA0, rQA1, rQA2, rQA3, rQA4⟩ := QA.out
    have ⟨rQB0, rQB1, rQB2, rQB3, rQB4⟩ := QB.out
    go_wp2_with fail
    clear rQA0 rQA1 rQA2 rQA3 rQA4 rQB0 rQB1 rQB2 rQB3 rQB4
    refine (CP2.out _).mono ?_
    rintro e w8 ⟨rfl, hb⟩
    replace QA := Lib.hid (QA.out.via hb)
    replace QB := Lib.hid (QB.out.via hb)
    replace X := Lib.hid (X.out.via hb)
    replace Y := Lib.hid (Y.out.via hb)
    replace XS := Lib.hid (XS.out.via hb)
    replace T := Lib.hid (T.out.via hb)
    replace XD := Lib.hid (XD.out.via hb)
    replace U := Lib.hid (U.out.via hb)
    replace BX := Lib.hid (sbtr BX.out hb)
    clear hb
    go_upto_region 10 with (fail)
    replace QA := Lib.hid (QA.out.alloc (ivB pl2 ph2))
    replace QB := Lib.hid (QB.out.alloc (ivB pl2 ph2))
    replace X := Lib.hid (X.out.alloc (ivB pl2 ph2))
    replace Y := Lib.hid (Y.out.alloc (ivB pl2 ph2))
    replace XS := Lib.hid (XS.out.alloc (ivB pl2 ph2))
    replace T := Lib.hid (T.out.alloc (ivB pl2 ph2))
    replace XD := Lib.hid (XD.out.alloc (ivB pl2 ph2))
    replace U := Lib.hid (U.out.alloc (ivB pl2 ph2))
    have XP := Lib.hid (Pr.new w8 _ rfl (.int .i64 pl2) (.int .i64 ph2) 23)
    replace BX := Lib.hid (sbal BX.out (ivB pl2 ph2))
    generalize w8.heap.size = gXP at *
    generalize w8.alloc (ivB pl2 ph2) = V8 at *
    have ⟨pX, qX, zX, AaX, nX, cX, BbX, mX, dX, hzX, hfX, hqX, haX, hbX⟩ := X.out
    have ⟨rX0, rX1, rX2, rX3, rX4, rX5, rX6, rX7, rXl⟩ := hqX
    have ⟨pY, qY, zY, AaY, nY, cY, BbY, mY, dY, hzY, hfY, hqY, haY, hbY⟩ := Y.out
    have ⟨rY0, rY1, rY2, rY3, rY4, rY5, rY6, rY7, rYl⟩ := hqY
    go_wp2_with fail
    clear rX0 rX1 rX2 rX3 rX4 rX5 rX6 rX7 rXl hqX rY0 rY1 rY2 rY3 rY4 rY5 rY6 rY7 rYl hqY
    refine (rtimes_f _ zX zY AaX BbX AaY BbY nX mX nY mY cX dX cY dY 2 pX qX pY qY (tx) (1099511627776) (ty) (1099511627776) hzX hzY haX hbX haY hbY hfX hfY (by omega)).mono ?_
    rintro e w9 ⟨pV, qV, zV, AaV, nV, cV, BbV, mV, dV, hzV, hfV, rfl, hL, hM, hb⟩
    clear hzX hfX haX hbX
    clear hzY hfY haY hbY
    replace QA := Lib.hid (QA.out.via hb)
    replace QB := Lib.hid (QB.out.via hb)
    replace X := Lib.hid (X.out.via hb)
    replace Y := Lib.hid (Y.out.via hb)
    replace XS := Lib.hid (XS.out.via hb)
    replace T := Lib.hid (T.out.via hb)
    replace XD := Lib.hid (XD.out.via hb)
    replace U := Lib.hid (U.out.via hb)
    replace XP := Lib.hid (XP.out.via hb)
    replace BX := Lib.hid (sbtr BX.out hb)
    clear hb
    go_upto_region 11 with (fail)
    replace QA := Lib.hid (QA.out.alloc (.cells #[.bool zV, .slice AaV nV cV, .bool false, .slice BbV mV dV] 31))
    replace QB := Lib.hid (QB.out.alloc (.cells #[.bool zV, .slice AaV nV cV, .bool false, .slice BbV mV dV] 31))
    replace X := Lib.hid (X.out.alloc (.cells #[.bool zV, .slice AaV nV cV, .bool false, .slice BbV mV dV] 31))
    replace Y := Lib.hid (Y.out.alloc (.cells #[.bool zV, .slice AaV nV cV, .bool false, .slice BbV mV dV] 31))
    replace XS := Lib.hid (XS.out.alloc (.cells #[.bool zV, .slice AaV nV cV, .bool false, .slice BbV mV dV] 31))
    replace T := Lib.hid (T.out.alloc (.cells #[.bool zV, .slice AaV nV cV, .bool false, .slice BbV mV dV] 31))
    replace XD := Lib.hid (XD.out.alloc (.cells #[.bool zV, .slice AaV nV cV, .bool false, .slice BbV mV dV] 31))
    replace U := Lib.hid (U.out.alloc (.cells #[.bool zV, .slice AaV nV cV, .bool false, .slice BbV mV dV] 31))
    replace XP := Lib.hid (XP.out.alloc (.cells #[.bool zV, .slice AaV nV cV, .bool false, .slice BbV mV dV] 31))
    have V := Lib.hid (Fx.new 31 hzV hfV hL hM)
    replace BX := Lib.hid (sbal BX.out (.cells #[.bool zV, .slice AaV nV cV, .bool false, .slice BbV mV dV] 31))
    generalize w9.heap.size = gV at *
    generalize w9.alloc (.cells #[.bool zV, .slice AaV nV cV, .bool false, .slice BbV mV dV] 31) = V9 at *
    clear hzV hfV hL hM
    have ⟨rQA0, rQA1, rQA2, rQA3, rQA4⟩ := QA.out
    go_wp2_with fail
    clear rQA0 rQA1 rQA2 rQA3 rQA4
    refine (CP3.out _).mono ?_
    rintro e w10 ⟨rfl, hb⟩
    replace QA := Lib.hid (QA.out.via hb)
    replace QB := Lib.hid (QB.out.via hb)
    replace X := Lib.hid (X.out.via hb)
    replace Y := Lib.hid (Y.out.via hb)
    replace XS := Lib.hid (XS.out.via hb)
    replace T := Lib.hid (T.out.via hb)
    replace XD := Lib.hid (XD.out.via hb)
    replace U := Lib.hid (U.out.via hb)
    replace XP := Lib.hid (XP.out.via hb)
    replace V := Lib.hid (V.out.via hb)
    replace BX := Lib.hid (sbtr BX.out hb)
    clear hb
    go_upto_region 12 with (fail)
    replace QA := Lib.hid (QA.out.alloc (ivB pl3 ph3))
    replace QB := Lib.hid (QB.out.alloc (ivB pl3 ph3))
    replace X := Lib.hid (X.out.alloc (ivB pl3 ph3))
    replace Y := Lib.hid (Y.out.alloc (ivB pl3 ph3))
    replace XS := Lib.hid (XS.out.alloc (ivB pl3 ph3))
    replace T := Lib.hid (T.out.alloc (ivB pl3 ph3))
    replace XD := Lib.hid (XD.out.alloc (ivB pl3 ph3))
    replace U := Lib.hid (U.out.alloc (ivB pl3 ph3))
    replace XP := Lib.hid (XP.out.alloc (ivB pl3 ph3))
    replace V := Lib.hid (V.out.alloc (ivB pl3 ph3))
    have XQ := Lib.hid (Pr.new w10 _ rfl (.int .i64 pl3) (.int .i64 ph3) 23)
    replace BX := Lib.hid (sbal BX.out (ivB pl3 ph3))
    generalize w10.heap.size = gXQ at *
    generalize w10.alloc (ivB pl3 ph3) = V10 at *
    have ⟨pX, qX, zX, AaX, nX, cX, BbX, mX, dX, hzX, hfX, hqX, haX, hbX⟩ := X.out
    have ⟨rX0, rX1, rX2, rX3, rX4, rX5, rX6, rX7, rXl⟩ := hqX
    go_wp2_with fail
    clear rX0 rX1 rX2 rX3 rX4 rX5 rX6 rX7 rXl hqX
    refine (rtimes_f _ zX zX AaX BbX AaX BbX nX mX nX mX cX dX cX dX 2 pX qX pX qX (tx) (1099511627776) (tx) (1099511627776) hzX hzX haX hbX haX hbX hfX hfX (by omega)).mono ?_
    rintro e w11 ⟨pZ, qZ, zZ, AaZ, nZ, cZ, BbZ, mZ, dZ, hzZ, hfZ, rfl, hL, hM, hb⟩
    clear hzX hfX haX hbX
    replace QA := Lib.hid (QA.out.via hb)
    replace QB := Lib.hid (QB.out.via hb)
    replace X := Lib.hid (X.out.via hb)
    replace Y := Lib.hid (Y.out.via hb)
    replace XS := Lib.hid (XS.out.via hb)
    replace T := Lib.hid (T.out.via hb)
    replace XD := Lib.hid (XD.out.via hb)
    replace U := Lib.hid (U.out.via hb)
    replace XP := Lib.hid (XP.out.via hb)
    replace V := Lib.hid (V.out.via hb)
    replace XQ := Lib.hid (XQ.out.via hb)
    replace BX := Lib.hid (sbtr BX.out hb)
    clear hb
    go_upto_region 13 with (fail)
    replace QA := Lib.hid (QA.out.alloc (.cells #[.bool zZ, .slice AaZ nZ cZ, .bool false, .slice BbZ mZ dZ] 31))
    replace QB := Lib.hid (QB.out.alloc (.cells #[.bool zZ, .slice AaZ nZ cZ, .bool false, .slice BbZ mZ dZ] 31))
    replace X := Lib.hid (X.out.alloc (.cells #[.bool zZ, .slice AaZ nZ cZ, .bool false, .slice BbZ mZ dZ] 31))
    replace Y := Lib.hid (Y.out.alloc (.cells #[.bool zZ, .slice AaZ nZ cZ, .bool false, .slice BbZ mZ dZ] 31))
    replace XS := Lib.hid (XS.out.alloc (.cells #[.bool zZ, .slice AaZ nZ cZ, .bool false, .slice BbZ mZ dZ] 31))
    replace T := Lib.hid (T.out.alloc (.cells #[.bool zZ, .slice AaZ nZ cZ, .bool false, .slice BbZ mZ dZ] 31))
    replace XD := Lib.hid (XD.out.alloc (.cells #[.bool zZ, .slice AaZ nZ cZ, .bool false, .slice BbZ mZ dZ] 31))
    replace U := Lib.hid (U.out.alloc (.cells #[.bool zZ, .slice AaZ nZ cZ, .bool false, .slice BbZ mZ dZ] 31))
    replace XP := Lib.hid (XP.out.alloc (.cells #[.bool zZ, .slice AaZ nZ cZ, .bool false, .slice BbZ mZ dZ] 31))
    replace V := Lib.hid (V.out.alloc (.cells #[.bool zZ, .slice AaZ nZ cZ, .bool false, .slice BbZ mZ dZ] 31))
    replace XQ := Lib.hid (XQ.out.alloc (.cells #[.bool zZ, .slice AaZ nZ cZ, .bool false, .slice BbZ mZ dZ] 31))
    have Z := Lib.hid (Fx.new 31 hzZ hfZ hL hM)
    replace BX := Lib.hid (sbal BX.out (.cells #[.bool zZ, .slice AaZ nZ cZ, .bool false, .slice BbZ mZ dZ] 31))
    generalize w11.heap.size = gZ at *
    generalize w11.alloc (.cells #[.bool zZ, .slice AaZ nZ cZ, .bool false, .slice BbZ mZ dZ] 31) = V11 at *
    clear hzZ hfZ hL hM
    have EB : Hid (Below V11.heap.size V11 V11) := Below.refl _ _
    go_cut [150] (fun s wx => s = .bool false ∧ Below V11.heap.size V11 wx)
    case first =>
      as_aux_lemma =>
      by_cases h0 : pe0 = 0
      · as_aux_lemma =>
        subst h0
        have ⟨rXS0, rXS1, rXS2, rXS3, rXS4⟩ := XS.out
        have ⟨pT, qT, zT, AaT, nT, cT, BbT, mT, dT, hzT, hfT, hqT, haT, hbT⟩ := T.out
        have ⟨rT0, rT1, rT2, rT3, rT4, rT5, rT6, rT7, rTl⟩ := hqT
        go_wp2_with fail
        clear rXS0 rXS1 rXS2 rXS3 rXS4 rT0 rT1 rT2 rT3 rT4 rT5 rT6 rT7 rTl hqT
        refine (rhas_f _ pl0 ph0 zT AaT BbT nT mT cT dT 5 pT qT (tx * 1099511627776 + ty * 1099511627776) (1099511627776 * 1099511627776) hzT haT hbT hfT (by omega) (by omega) (HP0.out (by first | rfl | trivial)).rgA (HP0.out (by first | rfl | trivial)).rgB (HP0.out (by first | rfl | trivial)).rgC (HP0.out (by first | rfl | trivial)).rgD (by decide) (HP0.out (by first | rfl | trivial)).2.2.1 (HP0.out (by first | rfl | trivial)).2.2.2).mono ?_
        rintro e y100 ⟨rfl, hb⟩
        clear hzT hfT haT hbT
        replace XD := Lib.hid (XD.out.via hb)
        replace U := Lib.hid (U.out.via hb)
        replace XP := Lib.hid (XP.out.via hb)
        replace V := Lib.hid (V.out.via hb)
        replace XQ := Lib.hid (XQ.out.via hb)
        replace Z := Lib.hid (Z.out.via hb)
        replace EB := Lib.hid (sbtr EB.out hb)
        clear hb
        by_cases h1 : pe1 = 0
        · as_aux_lemma =>
          subst h1
          have ⟨rXD0, rXD1, rXD2, rXD3, rXD4⟩ := XD.out
          have ⟨pU, qU, zU, AaU, nU, cU, BbU, mU, dU, hzU, hfU, hqU, haU, hbU⟩ := U.out
          have ⟨rU0, rU1, rU2, rU3, rU4, rU5, rU6, rU7, rUl⟩ := hqU
          go_wp2_with fail
          clear rXD0 rXD1 rXD2 rXD3 rXD4 rU0 rU1 rU2 rU3 rU4 rU5 rU6 rU7 rUl hqU
          refine (rhas_f _ pl1 ph1 zU AaU BbU nU mU cU dU 5 pU qU (tx * 1099511627776 - ty * 1099511627776) (1099511627776 * 1099511627776) hzU haU hbU hfU (by omega) (by omega) (HP1.out (by first | rfl | trivial)).rgA (HP1.out (by first | rfl | trivial)).rgB (HP1.out (by first | rfl | trivial)).rgC (HP1.out (by first | rfl | trivial)).rgD (by decide) (HP1.out (by first | rfl | trivial)).2.2.1 (HP1.out (by first | rfl | trivial)).2.2.2).mono ?_
          rintro e y101 ⟨rfl, hb⟩
          clear hzU hfU haU hbU
          replace XP := Lib.hid (XP.out.via hb)
          replace V := Lib.hid (V.out.via hb)
          replace XQ := Lib.hid (XQ.out.via hb)
          replace Z := Lib.hid (Z.out.via hb)
          replace EB := Lib.hid (sbtr EB.out hb)
          clear hb
          by_cases h2 : pe2 = 0
          · as_aux_lemma =>
            subst h2
            have ⟨rXP0, rXP1, rXP2, rXP3, rXP4⟩ := XP.out
            have ⟨pV, qV, zV, AaV, nV, cV, BbV, mV, dV, hzV, hfV, hqV, haV, hbV⟩ := V.out
            have ⟨rV0, rV1, rV2, rV3, rV4, rV5, rV6, rV7, rVl⟩ := hqV
            go_wp2_with fail
            clear rXP0 rXP1 rXP2 rXP3 rXP4 rV0 rV1 rV2 rV3 rV4 rV5 rV6 rV7 rVl hqV
            refine (rhas_f _ pl2 ph2 zV AaV BbV nV mV cV dV 4 pV qV (tx * ty) (1099511627776 * 1099511627776) hzV haV hbV hfV (by omega) (by omega) (HP2.out (by first | rfl | trivial)).rgA (HP2.out (by first | rfl | trivial)).rgB (HP2.out (by first | rfl | trivial)).rgC (HP2.out (by first | rfl | trivial)).rgD (by decide) (HP2.out (by first | rfl | trivial)).2.2.1 (HP2.out (by first | rfl | trivial)).2.2.2).mono ?_
            rintro e y102 ⟨rfl, hb⟩
            clear hzV hfV haV hbV
            replace XQ := Lib.hid (XQ.out.via hb)
            replace Z := Lib.hid (Z.out.via hb)
            replace EB := Lib.hid (sbtr EB.out hb)
            clear hb
            by_cases h3 : pe3 = 0
            · as_aux_lemma =>
              subst h3
              have ⟨rXQ0, rXQ1, rXQ2, rXQ3, rXQ4⟩ := XQ.out
              have ⟨pZ, qZ, zZ, AaZ, nZ, cZ, BbZ, mZ, dZ, hzZ, hfZ, hqZ, haZ, hbZ⟩ := Z.out
              have ⟨rZ0, rZ1, rZ2, rZ3, rZ4, rZ5, rZ6, rZ7, rZl⟩ := hqZ
              go_wp2_with fail
              clear rXQ0 rXQ1 rXQ2 rXQ3 rXQ4 rZ0 rZ1 rZ2 rZ3 rZ4 rZ5 rZ6 rZ7 rZl hqZ
              refine (rhas_f _ pl3 ph3 zZ AaZ BbZ nZ mZ cZ dZ 4 pZ qZ (tx * tx) (1099511627776 * 1099511627776) hzZ haZ hbZ hfZ (by omega) (by omega) (HP3.out (by first | rfl | trivial)).rgA (HP3.out (by first | rfl | trivial)).rgB (HP3.out (by first | rfl | trivial)).rgC (HP3.out (by first | rfl | trivial)).rgD (by decide) (HP3.out (by first | rfl | trivial)).2.2.1 (HP3.out (by first | rfl | trivial)).2.2.2).mono ?_
              rintro e y103 ⟨rfl, hb⟩
              clear hzZ hfZ haZ hbZ
              replace EB := Lib.hid (sbtr EB.out hb)
              clear hb
              go_wp2_with fail
              go_meet
              exact ⟨rfl, EB.out⟩
            · as_aux_lemma =>
              have k3a : decide (pe3 = 0) = false := decide_eq_false h3
              have k3b : (pe3 == 0) = false := by simp [h3]
              go_wp2_with fail
              go_meet
              exact ⟨rfl, EB.out⟩
          · as_aux_lemma =>
            have k2a : decide (pe2 = 0) = false := decide_eq_false h2
            have k2b : (pe2 == 0) = false := by simp [h2]
            by_cases h3 : pe3 = 0
            · as_aux_lemma =>
              subst h3
              have ⟨rXQ0, rXQ1, rXQ2, rXQ3, rXQ4⟩ := XQ.out
              have ⟨pZ, qZ, zZ, AaZ, nZ, cZ, BbZ, mZ, dZ, hzZ, hfZ, hqZ, haZ, hbZ⟩ := Z.out
              have ⟨rZ0, rZ1, rZ2, rZ3, rZ4, rZ5, rZ6, rZ7, rZl⟩ := hqZ
              go_wp2_with fail
              clear rXQ0 rXQ1 rXQ2 rXQ3 rXQ4 rZ0 rZ1 rZ2 rZ3 rZ4 rZ5 rZ6 rZ7 rZl hqZ
              refine (rhas_f _ pl3 ph3 zZ AaZ BbZ nZ mZ cZ dZ 4 pZ qZ (tx * tx) (1099511627776 * 1099511627776) hzZ haZ hbZ hfZ (by omega) (by omega) (HP3.out (by first | rfl | trivial)).rgA (HP3.out (by first | rfl | trivial)).rgB (HP3.out (by first | rfl | trivial)).rgC (HP3.out (by first | rfl | trivial)).rgD (by decide) (HP3.out (by first | rfl | trivial)).2.2.1 (HP3.out (by first | rfl | trivial)).2.2.2).mono ?_
              rintro e y102 ⟨rfl, hb⟩
              clear hzZ hfZ haZ hbZ
              replace EB := Lib.hid (sbtr EB.out hb)
              clear hb
              go_wp2_with fail
              go_meet
              exact ⟨rfl, EB.out⟩
            · as_aux_lemma =>
              have k3a : decide (pe3 = 0) = false := decide_eq_false h3
              have k3b : (pe3 == 0) = false := by simp [h3]
              go_wp2_with fail
              go_meet
              exact ⟨rfl, EB.out⟩
        · as_aux_lemma =>
          have k1a : decide (pe1 = 0) = false := decide_eq_false h1
          have k1b : (pe1 == 0) = false := by simp [h1]
          by_cases h2 : pe2 = 0
          · as_aux_lemma =>
            subst h2
            have ⟨rXP0, rXP1, rXP2, rXP3, rXP4⟩ := XP.out
            have ⟨pV, qV, zV, AaV, nV, cV, BbV, mV, dV, hzV, hfV, hqV, haV, hbV⟩ := V.out
            have ⟨rV0, rV1, rV2, rV3, rV4, rV5, rV6, rV7, rVl⟩ := hqV
            go_wp2_with fail
            clear rXP0 rXP1 rXP2 rXP3 rXP4 rV0 rV1 rV2 rV3 rV4 rV5 rV6 rV7 rVl hqV
            refine (rhas_f _ pl2 ph2 zV AaV BbV nV mV cV dV 4 pV qV (tx * ty) (1099511627776 * 1099511627776) hzV haV hbV hfV (by omega) (by omega) (HP2.out (by first | rfl | trivial)).rgA (HP2.out (by first | rfl | trivial)).rgB (HP2.out (by first | rfl | trivial)).rgC (HP2.out (by first | rfl | trivial)).rgD (by decide) (HP2.out (by first | rfl | trivial)).2.2.1 (HP2.out (by first | rfl | trivial)).2.2.2).mono ?_
            rintro e y101 ⟨rfl, hb⟩
            clear hzV hfV haV hbV
            replace XQ := Lib.hid (XQ.out.via hb)
            replace Z := Lib.hid (Z.out.via hb)
            replace EB := Lib.hid (sbtr EB.out hb)
            clear hb
            by_cases h3 : pe3 = 0
            · as_aux_lemma =>
              subst h3
              have ⟨rXQ0, rXQ1, rXQ2, rXQ3, rXQ4⟩ := XQ.out
              have ⟨pZ, qZ, zZ, AaZ, nZ, cZ, BbZ, mZ, dZ, hzZ, hfZ, hqZ, haZ, hbZ⟩ := Z.out
              have ⟨rZ0, rZ1, rZ2, rZ3, rZ4, rZ5, rZ6, rZ7, rZl⟩ := hqZ
              go_wp2_with fail
              clear rXQ0 rXQ1 rXQ2 rXQ3 rXQ4 rZ0 rZ1 rZ2 rZ3 rZ4 rZ5 rZ6 rZ7 rZl hqZ
              refine (rhas_f _ pl3 ph3 zZ AaZ BbZ nZ mZ cZ dZ 4 pZ qZ (tx * tx) (1099511627776 * 1099511627776) hzZ haZ hbZ hfZ (by omega) (by omega) (HP3.out (by first | rfl | trivial)).rgA (HP3.out (by first | rfl | trivial)).rgB (HP3.out (by first | rfl | trivial)).rgC (HP3.out (by first | rfl | trivial)).rgD (by decide) (HP3.out (by first | rfl | trivial)).2.2.1 (HP3.out (by first | rfl | trivial)).2.2.2).mono ?_
              rintro e y102 ⟨rfl, hb⟩
              clear hzZ hfZ haZ hbZ
              replace EB := Lib.hid (sbtr EB.out hb)
              clear hb
              go_wp2_with fail
              go_meet
              exact ⟨rfl, EB.out⟩
            · as_aux_lemma =>
              have k3a : decide (pe3 = 0) = false := decide_eq_false h3
              have k3b : (pe3 == 0) = false := by simp [h3]
              go_wp2_with fail
              go_meet
              exact ⟨rfl, EB.out⟩
          · as_aux_lemma =>
            have k2a : decide (pe2 = 0) = false := decide_eq_false h2
            have k2b : (pe2 == 0) = false := by simp [h2]
            by_cases h3 : pe3 = 0
            · as_aux_lemma =>
              subst h3
              have ⟨rXQ0, rXQ1, rXQ2, rXQ3, rXQ4⟩ := XQ.out
              have ⟨pZ, qZ, zZ, AaZ, nZ, cZ, BbZ, mZ, dZ, hzZ, hfZ, hqZ, haZ, hbZ⟩ := Z.out
              have ⟨rZ0, rZ1, rZ2, rZ3, rZ4, rZ5, rZ6, rZ7, rZl⟩ := hqZ
              go_wp2_with fail
              clear rXQ0 rXQ1 rXQ2 rXQ3 rXQ4 rZ0 rZ1 rZ2 rZ3 rZ4 rZ5 rZ6 rZ7 rZl hqZ
              refine (rhas_f _ pl3 ph3 zZ AaZ BbZ nZ mZ cZ dZ 4 pZ qZ (tx * tx) (1099511627776 * 1099511627776) hzZ haZ hbZ hfZ (by omega) (by omega) (HP3.out (by first | rfl | trivial)).rgA (HP3.out (by first | rfl | trivial)).rgB (HP3.out (by first | rfl | trivial)).rgC (HP3.out (by first | rfl | trivial)).rgD (by decide) (HP3.out (by first | rfl | trivial)).2.2.1 (HP3.out (by first | rfl | trivial)).2.2.2).mono ?_
              rintro e y101 ⟨rfl, hb⟩
              clear hzZ hfZ haZ hbZ
              replace EB := Lib.hid (sbtr EB.out hb)
              clear hb
              go_wp2_with fail
              go_meet
              exact ⟨rfl, EB.out⟩
            · as_aux_lemma =>
              have k3a : decide (pe3 = 0) = false := decide_eq_false h3
              have k3b : (pe3 == 0) = false := by simp [h3]
              go_wp2_with fail
              go_meet
              exact ⟨rfl, EB.out⟩
      · as_aux_lemma =>
        have k0a : decide (pe0 = 0) = false := decide_eq_false h0
        have k0b : (pe0 == 0) = false := by simp [h0]
        by_cases h1 : pe1 = 0
        · as_aux_lemma =>
          subst h1
          have ⟨rXD0, rXD1, rXD2, rXD3, rXD4⟩ := XD.out
          have ⟨pU, qU, zU, AaU, nU, cU, BbU, mU, dU, hzU, hfU, hqU, haU, hbU⟩ := U.out
          have ⟨rU0, rU1, rU2, rU3, rU4, rU5, rU6, rU7, rUl⟩ := hqU
          go_wp2_with fail
          clear rXD0 rXD1 rXD2 rXD3 rXD4 rU0 rU1 rU2 rU3 rU4 rU5 rU6 rU7 rUl hqU
          refine (rhas_f _ pl1 ph1 zU AaU BbU nU mU cU dU 5 pU qU (tx * 1099511627776 - ty * 1099511627776) (1099511627776 * 1099511627776) hzU haU hbU hfU (by omega) (by omega) (HP1.out (by first | rfl | trivial)).rgA (HP1.out (by first | rfl | trivial)).rgB (HP1.out (by first | rfl | trivial)).rgC (HP1.out (by first | rfl | trivial)).rgD (by decide) (HP1.out (by first | rfl | trivial)).2.2.1 (HP1.out (by first | rfl | trivial)).2.2.2).mono ?_
          rintro e y100 ⟨rfl, hb⟩
          clear hzU hfU haU hbU
          replace XP := Lib.hid (XP.out.via hb)
          replace V := Lib.hid (V.out.via hb)
          replace XQ := Lib.hid (XQ.out.via hb)
          replace Z := Lib.hid (Z.out.via hb)
          replace EB := Lib.hid (sbtr EB.out hb)
          clear hb
          by_cases h2 : pe2 = 0
          · as_aux_lemma =>
            subst h2
            have ⟨rXP0, rXP1, rXP2, rXP3, rXP4⟩ := XP.out
            have ⟨pV, qV, zV, AaV, nV, cV, BbV, mV, dV, hzV, hfV, hqV, haV, hbV⟩ := V.out
            have ⟨rV0, rV1, rV2, rV3, rV4, rV5, rV6, rV7, rVl⟩ := hqV
            go_wp2_with fail
            clear rXP0 rXP1 rXP2 rXP3 rXP4 rV0 rV1 rV2 rV3 rV4 rV5 rV6 rV7 rVl hqV
            refine (rhas_f _ pl2 ph2 zV AaV BbV nV mV cV dV 4 pV qV (tx * ty) (1099511627776 * 1099511627776) hzV haV hbV hfV (by omega) (by omega) (HP2.out (by first | rfl | trivial)).rgA (HP2.out (by first | rfl | trivial)).rgB (HP2.out (by first | rfl | trivial)).rgC (HP2.out (by first | rfl | trivial)).rgD (by decide) (HP2.out (by first | rfl | trivial)).2.2.1 (HP2.out (by first | rfl | trivial)).2.2.2).mono ?_
            rintro e y101 ⟨rfl, hb⟩
            clear hzV hfV haV hbV
            replace XQ := Lib.hid (XQ.out.via hb)
            replace Z := Lib.hid (Z.out.via hb)
            replace EB := Lib.hid (sbtr EB.out hb)
            clear hb
            by_cases h3 : pe3 = 0
            · as_aux_lemma =>
              subst h3
              have ⟨rXQ0, rXQ1, rXQ2, rXQ3, rXQ4⟩ := XQ.out
              have ⟨pZ, qZ, zZ, AaZ, nZ, cZ, BbZ, mZ, dZ, hzZ, hfZ, hqZ, haZ, hbZ⟩ := Z.out
              have ⟨rZ0, rZ1, rZ2, rZ3, rZ4, rZ5, rZ6, rZ7, rZl⟩ := hqZ
              go_wp2_with fail
              clear rXQ0 rXQ1 rXQ2 rXQ3 rXQ4 rZ0 rZ1 rZ2 rZ3 rZ4 rZ5 rZ6 rZ7 rZl hqZ
              refine (rhas_f _ pl3 ph3 zZ AaZ BbZ nZ mZ cZ dZ 4 pZ qZ (tx * tx) (1099511627776 * 1099511627776) hzZ haZ hbZ hfZ (by omega) (by omega) (HP3.out (by first | rfl | trivial)).rgA (HP3.out (by first | rfl | trivial)).rgB (HP3.out (by first | rfl | trivial)).rgC (HP3.out (by first | rfl | trivial)).rgD (by decide) (HP3.out (by first | rfl | trivial)).2.2.1 (HP3.out (by first | rfl | trivial)).2.2.2).mono ?_
              rintro e y102 ⟨rfl, hb⟩
              clear hzZ hfZ haZ hbZ
              replace EB := Lib.hid (sbtr EB.out hb)
              clear hb
              go_wp2_with fail
              go_meet
              exact ⟨rfl, EB.out⟩
            · as_aux_lemma =>
              have k3a : decide (pe3 = 0) = false := decide_eq_false h3
              have k3b : (pe3 == 0) = false := by simp [h3]
              go_wp2_with fail
              go_meet
              exact ⟨rfl, EB.out⟩
          · as_aux_lemma =>
            have k2a : decide (pe2 = 0) = false := decide_eq_false h2
            have k2b : (pe2 == 0) = false := by simp [h2]
            by_cases h3 : pe3 = 0
            · as_aux_lemma =>
              subst h3
              have ⟨rXQ0, rXQ1, rXQ2, rXQ3, rXQ4⟩ := XQ.out
              have ⟨pZ, qZ, zZ, AaZ, nZ, cZ, BbZ, mZ, dZ, hzZ, hfZ, hqZ, haZ, hbZ⟩ := Z.out
              have ⟨rZ0, rZ1, rZ2, rZ3, rZ4, rZ5, rZ6, rZ7, rZl⟩ := hqZ
              go_wp2_with fail
              clear rXQ0 rXQ1 rXQ2 rXQ3 rXQ4 rZ0 rZ1 rZ2 rZ3 rZ4 rZ5 rZ6 rZ7 rZl hqZ
              refine (rhas_f _ pl3 ph3 zZ AaZ BbZ nZ mZ cZ dZ 4 pZ qZ (tx * tx) (1099511627776 * 1099511627776) hzZ haZ hbZ hfZ (by omega) (by omega) (HP3.out (by first | rfl | trivial)).rgA (HP3.out (by first | rfl | trivial)).rgB (HP3.out (by first | rfl | trivial)).rgC (HP3.out (by first | rfl | trivial)).rgD (by decide) (HP3.out (by first | rfl | trivial)).2.2.1 (HP3.out (by first | rfl | trivial)).2.2.2).mono ?_
              rintro e y101 ⟨rfl, hb⟩
              clear hzZ hfZ haZ hbZ
              replace EB := Lib.hid (sbtr EB.out hb)
              clear hb
              go_wp2_with fail
              go_meet
              exact ⟨rfl, EB.out⟩
            · as_aux_lemma =>
              have k3a : decide (pe3 = 0) = false := decide_eq_false h3
              have k3b : (pe3 == 0) = false := by simp [h3]
              go_wp2_with fail
              go_meet
              exact ⟨rfl, EB.out⟩
        · as_aux_lemma =>
          have k1a : decide (pe1 = 0) = false := decide_eq_false h1
          have k1b : (pe1 == 0) = false := by simp [h1]
          by_cases h2 : pe2 = 0
          · as_aux_lemma =>
            subst h2
            have ⟨rXP0, rXP1, rXP2, rXP3, rXP4⟩ := XP.out
            have ⟨pV, qV, zV, AaV, nV, cV, BbV, mV, dV, hzV, hfV, hqV, haV, hbV⟩ := V.out
            have ⟨rV0, rV1, rV2, rV3, rV4, rV5, rV6, rV7, rVl⟩ := hqV
            go_wp2_with fail
            clear rXP0 rXP1 rXP2 rXP3 rXP4 rV0 rV1 rV2 rV3 rV4 rV5 rV6 rV7 rVl hqV
            refine (rhas_f _ pl2 ph2 zV AaV BbV nV mV cV dV 4 pV qV (tx * ty) (1099511627776 * 1099511627776) hzV haV hbV hfV (by omega) (by omega) (HP2.out (by first | rfl | trivial)).rgA (HP2.out (by first | rfl | trivial)).rgB (HP2.out (by first | rfl | trivial)).rgC (HP2.out (by first | rfl | trivial)).rgD (by decide) (HP2.out (by first | rfl | trivial)).2.2.1 (HP2.out (by first | rfl | trivial)).2.2.2).mono ?_
            rintro e y100 ⟨rfl, hb⟩
            clear hzV hfV haV hbV
            replace XQ := Lib.hid (XQ.out.via hb)
            replace Z := Lib.hid (Z.out.via hb)
            replace EB := Lib.hid (sbtr EB.out hb)
            clear hb
            by_cases h3 : pe3 = 0
            · as_aux_lemma =>
              subst h3
              have ⟨rXQ0, rXQ1, rXQ2, rXQ3, rXQ4⟩ := XQ.out
              have ⟨pZ, qZ, zZ, AaZ, nZ, cZ, BbZ, mZ, dZ, hzZ, hfZ, hqZ, haZ, hbZ⟩ := Z.out
              have ⟨rZ0, rZ1, rZ2, rZ3, rZ4, rZ5, rZ6, rZ7, rZl⟩ := hqZ
              go_wp2_with fail
              clear rXQ0 rXQ1 rXQ2 rXQ3 rXQ4 rZ0 rZ1 rZ2 rZ3 rZ4 rZ5 rZ6 rZ7 rZl hqZ
              refine (rhas_f _ pl3 ph3 zZ AaZ BbZ nZ mZ cZ dZ 4 pZ qZ (tx * tx) (1099511627776 * 1099511627776) hzZ haZ hbZ hfZ (by omega) (by omega) (HP3.out (by first | rfl | trivial)).rgA (HP3.out (by first | rfl | trivial)).rgB (HP3.out (by first | rfl | trivial)).rgC (HP3.out (by first | rfl | trivial)).rgD (by decide) (HP3.out (by first | rfl | trivial)).2.2.1 (HP3.out (by first | rfl | trivial)).2.2.2).mono ?_
              rintro e y101 ⟨rfl, hb⟩
              clear hzZ hfZ haZ hbZ
              replace EB := Lib.hid (sbtr EB.out hb)
              clear hb
              go_wp2_with fail
              go_meet
              exact ⟨rfl, EB.out⟩
            · as_aux_lemma =>
              have k3a : decide (pe3 = 0) = false := decide_eq_false h3
              have k3b : (pe3 == 0) = false := by simp [h3]
              go_wp2_with fail
              go_meet
              exact ⟨rfl, EB.out⟩
          · as_aux_lemma =>
            have k2a : decide (pe2 = 0) = false := decide_eq_false h2
            have k2b : (pe2 == 0) = false := by simp [h2]
            by_cases h3 : pe3 = 0
            · as_aux_lemma =>
              subst h3
              have ⟨rXQ0, rXQ1, rXQ2, rXQ3, rXQ4⟩ := XQ.out
              have ⟨pZ, qZ, zZ, AaZ, nZ, cZ, BbZ, mZ, dZ, hzZ, hfZ, hqZ, haZ, hbZ⟩ := Z.out
              have ⟨rZ0, rZ1, rZ2, rZ3, rZ4, rZ5, rZ6, rZ7, rZl⟩ := hqZ
              go_wp2_with fail
              clear rXQ0 rXQ1 rXQ2 rXQ3 rXQ4 rZ0 rZ1 rZ2 rZ3 rZ4 rZ5 rZ6 rZ7 rZl hqZ
              refine (rhas_f _ pl3 ph3 zZ AaZ BbZ nZ mZ cZ dZ 4 pZ qZ (tx * tx) (1099511627776 * 1099511627776) hzZ haZ hbZ hfZ (by omega) (by omega) (HP3.out (by first | rfl | trivial)).rgA (HP3.out (by first | rfl | trivial)).rgB (HP3.out (by first | rfl | trivial)).rgC (HP3.out (by first | rfl | trivial)).rgD (by decide) (HP3.out (by first | rfl | trivial)).2.2.1 (HP3.out (by first | rfl | trivial)).2.2.2).mono ?_
              rintro e y100 ⟨rfl, hb⟩
              clear hzZ hfZ haZ hbZ
              replace EB := Lib.hid (sbtr EB.out hb)
              clear hb
              go_wp2_with fail
              go_meet
              exact ⟨rfl, EB.out⟩
            · as_aux_lemma =>
              have k3a : decide (pe3 = 0) = false := decide_eq_false h3
              have k3b : (pe3 == 0) = false := by simp [h3]
              go_wp2_with fail
              go_meet
              exact ⟨rfl, EB.out⟩
    case rest =>
      obtain ⟨rfl, hb⟩ := hcut
      clear EB XS T XD U XP V XQ Z CP0 CP1 CP2 CP3 HP0 HP1 HP2 HP3
      replace QA := Lib.hid (QA.out.via hb)
      replace QB := Lib.hid (QB.out.via hb)
      replace X := Lib.hid (X.out.via hb)
      replace Y := Lib.hid (Y.out.via hb)
      replace BX := Lib.hid (sbtr BX.out hb)
      clear hb
      have ⟨rQA0, rQA1, rQA2, rQA3, rQA4⟩ := QA.out
      have ⟨rQB0, rQB1, rQB2, rQB3, rQB4⟩ := QB.out
      go_wp2_with fail
      clear rQA0 rQA1 rQA2 rQA3 rQA4 rQB0 rQB1 rQB2 rQB3 rQB4
      refine (CP4.out _).mono ?_
      rintro e w12 ⟨rfl, hb⟩
      replace QA := Lib.hid (QA.out.via hb)
      replace QB := Lib.hid (QB.out.via hb)
      replace X := Lib.hid (X.out.via hb)
      replace Y := Lib.hid (Y.out.via hb)
      replace BX := Lib.hid (sbtr BX.out hb)
      clear hb
      go_upto_region 16 with (fail)
      replace QA := Lib.hid (QA.out.alloc (ivB pl4 ph4))
      replace QB := Lib.hid (QB.out.alloc (ivB pl4 ph4))
      replace X := Lib.hid (X.out.alloc (ivB pl4 ph4))
      replace Y := Lib.hid (Y.out.alloc (ivB pl4 ph4))
      have XR := Lib.hid (Pr.new w12 _ rfl (.int .i64 pl4) (.int .i64 ph4) 23)
      replace BX := Lib.hid (sbal BX.out (ivB pl4 ph4))
      generalize w12.heap.size = gXR at *
      generalize w12.alloc (ivB pl4 ph4) = V12 at *
      obtain ⟨cb, hcb⟩ : ∃ b : Bool, (b = true ↔ pe4 = 0 ∧ ty ≠ 0) := ⟨decide (pe4 = 0 ∧ ty ≠ 0), by simp⟩
      have HCB := Lib.hid hcb
      clear hcb
      go_cut [165] (fun s wx => s = .bool cb ∧ wx = V12)
      case first =>
        as_aux_lemma =>
        have hcb := HCB.out
        have ⟨pY, qY, zY, AaY, nY, cY, BbY, mY, dY, hzY, hfY, hqY, haY, hbY⟩ := Y.out
        have ⟨rY0, rY1, rY2, rY3, rY4, rY5, rY6, rY7, rYl⟩ := hqY
        have hln := haY.len
        have heq := hfY.eq
        have hqp := hfY.pos
        clear hqY haY hbY hfY hzY
        by_cases hpe : pe4 = 0
        · by_cases hty : ty = 0
          · obtain rfl : cb = false := by
              cases cb
              · rfl
              · exact absurd hty (hcb.1 rfl).2
            have hp0 : pY = 0 := by subst hty; omega
            have hn0 : nY = 0 := by rw [← hln, hp0]; rfl
            subst hn0
            subst hpe
            clear hln heq hqp hcb HCB
            go_wp2_with fail
            go_meet
            exact ⟨rfl, rfl⟩
          · obtain rfl : cb = true := hcb.2 ⟨hpe, hty⟩
            have hp0 : pY ≠ 0 := fun h => hty (by rw [h, Int.zero_mul] at heq; rcases Int.mul_eq_zero.1 heq.symm with h' | h'; exact h'; omega)
            have hn0 : 0 < nY := by
              rw [← hln]
              exact digs_pos.2 (by omega)
            have hn1 : (0 : Int) < (nY : Int) := by omega
            have hn2 : decide (0 < nY) = true := decide_eq_true hn0
            subst hpe
            clear hln heq hqp hcb HCB
            go_wp2_with fail
            go_meet
            exact ⟨rfl, rfl⟩
        · obtain rfl : cb = false := by
            cases cb
            · rfl
            · exact absurd (hcb.1 rfl).1 hpe
          have k1 : decide (pe4 = 0) = false := decide_eq_false hpe
          have k2 : (pe4 == 0) = false := by simp [hpe]
          clear hln heq hqp hcb HCB
          go_wp2_with fail
          go_meet
          exact ⟨rfl, rfl⟩
      case rest =>
        obtain ⟨rfl, rfl⟩ := hcut
        generalize wc = V12 at *
        go_upto_if 165 with (fail)
        go_cut [30, 31] from 166 to 175 (fun s30 s31 wx => Below V12.heap.size V12 wx)
        case first =>
          cases cb with
          | false =>
            go_wp2_with fail
            go_meet
            exact Below.refl _ _
          | true =>
            as_aux_lemma =>
            obtain ⟨hpe, hty⟩ := HCB.out.1 rfl
            subst hpe
            obtain ⟨uz, vz, hvz, hkz, hfz⟩ := HP4.out (by first | rfl | trivial) hty
            have HZ4 := Lib.hid (And.intro hvz (And.intro hkz hfz))
            have HTY := Lib.hid hty
            have EB : Hid (Below V12.heap.size V12 V12) := Below.refl _ _
            clear hvz hkz hfz hty BX
            have ⟨pX, qX, zX, AaX, nX, cX, BbX, mX, dX, hzX, hfX, hqX, haX, hbX⟩ := X.out
            have ⟨rX0, rX1, rX2, rX3, rX4, rX5, rX6, rX7, rXl⟩ := hqX
            have ⟨pY, qY, zY, AaY, nY, cY, BbY, mY, dY, hzY, hfY, hqY, haY, hbY⟩ := Y.out
            have ⟨rY0, rY1, rY2, rY3, rY4, rY5, rY6, rY7, rYl⟩ := hqY
            have hnp : pY ≠ 0 := fun h => HTY.out (by have h1 := hfY.eq; have h2 := hfY.pos; rw [h, Int.zero_mul] at h1; rcases Int.mul_eq_zero.1 h1.symm with h' | h'; exact h'; omega)
            go_wp2_with fail
            clear rX0 rX1 rX2 rX3 rX4 rX5 rX6 rX7 rXl hqX rY0 rY1 rY2 rY3 rY4 rY5 rY6 rY7 rYl hqY
            refine (rover_f _ zX zY AaX BbX AaY BbY nX mX nY mY cX dX cY dY 2 pX qX pY qY tx 1099511627776 ty 1099511627776 hzX hzY haX hbX haY hbY hfX hfY (by omega) hnp).mono ?_
            rintro e y1 ⟨pQ, qQ, zQ, AaQ, nQ, cQ, BbQ, mQ, dQ, hzQ, hfQ, rfl, hL, hM, hb⟩
            clear hzX hfX haX hbX hzY hfY haY hbY hnp
            replace XR := Lib.hid (XR.out.via hb)
            replace EB := Lib.hid (sbtr EB.out hb)
            have hfR := HZ4.out.2.2 pQ qQ hfQ
            clear hb hfQ X Y
            go_upto_region 18 with (fail)
            replace XR := Lib.hid (XR.out.alloc (.cells #[.bool zQ, .slice AaQ nQ cQ, .bool false, .slice BbQ mQ dQ] 31))
            replace EB := Lib.hid (sbal EB.out (.cells #[.bool zQ, .slice AaQ nQ cQ, .bool false, .slice BbQ mQ dQ] 31))
            have Q := Lib.hid (Fx.new 31 hzQ hfR hL hM)
            clear hzQ hfR hL hM
            generalize y1.heap.size = gQ at *
            generalize y1.alloc (.cells #[.bool zQ, .slice AaQ nQ cQ, .bool false, .slice BbQ mQ dQ] 31) = Y1 at *
            have ⟨rXR0, rXR1, rXR2, rXR3, rXR4⟩ := XR.out
            have ⟨pQ, qQ, zQ, AaQ, nQ, cQ, BbQ, mQ, dQ, hzQ, hfQ, hqQ, haQ, hbQ⟩ := Q.out
            have ⟨rQ0, rQ1, rQ2, rQ3, rQ4, rQ5, rQ6, rQ7, rQl⟩ := hqQ
            go_wp2_with fail
            clear rXR0 rXR1 rXR2 rXR3 rXR4 rQ0 rQ1 rQ2 rQ3 rQ4 rQ5 rQ6 rQ7 rQl hqQ
            refine (rhas_f _ pl4 ph4 zQ AaQ BbQ nQ mQ cQ dQ 4 pQ qQ uz vz hzQ haQ hbQ hfQ (by omega) (by omega) (HZ4.out.2.1.rg HZ4.out.1).1 (HZ4.out.2.1.rg HZ4.out.1).2.1 (HZ4.out.2.1.rg HZ4.out.1).2.2.1 (HZ4.out.2.1.rg HZ4.out.1).2.2.2 HZ4.out.1 HZ4.out.2.1.2.2.1 HZ4.out.2.1.2.2.2).mono ?_
            rintro e y2 ⟨rfl, hb⟩
            go_wp2_with fail
            go_meet
            exact sbtr EB.out hb
        case rest =>
        have hb := hcut
        clear XR HCB CP4 HP4 QB Y hcut
        replace QA := Lib.hid (QA.out.via hb)
        replace X := Lib.hid (X.out.via hb)
        replace BX := Lib.hid (sbtr BX.out hb)
        clear hb
        obtain ⟨x1, x2, x3, y1, y2, y3⟩ := HX.out
        obtain ⟨n1, n2, n3, n4⟩ := HN.out
        have vA : ivC al ah = 0 := ivC_ok x1 x2 x3
        obtain ⟨Rl, hl⟩ := isrt_ex (al.toNat * 1099511627776)
        obtain ⟨Rh, hh⟩ := isrt_ex (ah.toNat * 1099511627776)
        have cS := fun W => ssqrt_any W al ah Rl Rh hl hh
        rw [j1_ok vA] at cS
        by_cases hal : al < 0
        · have e1 : rtO al ah Rl Rh = ⟨0, 0, 2⟩ := by unfold rtO; rw [if_pos hal]
          rw [e1] at cS
          have CS := Lib.hid cS
          clear cS e1 hl hh x1 x2 x3 y1 y2 y3 n1 n2 n3 n4 vA HN HX
          have ⟨rQA0, rQA1, rQA2, rQA3, rQA4⟩ := QA.out
          go_wp2_with fail
          clear rQA0 rQA1 rQA2 rQA3 rQA4
          refine (CS.out _).mono ?_
          rintro e w401 ⟨rfl, hb⟩
          replace QA := Lib.hid (QA.out.via hb)
          replace BX := Lib.hid (sbtr BX.out hb)
          clear hb
          have ⟨a0, a1, _, _, _⟩ := QA.out
          have k1 : decide (al < 0) = true := decide_eq_true hal
          go_wp2
          go_ret
          exact ⟨rfl, sbal BX.out _⟩
        · obtain ⟨e1, e2, e3⟩ := rt_main hl hh hal x2 x3 n1 n2
          have e4 : rtO al ah Rl Rh = ⟨(Rl : Int), rtHi (ah.toNat * 1099511627776) Rh, 0⟩ := by unfold rtO; rw [if_neg hal]; exact mkI_in (by omega) e1
          rw [e4] at cS
          have CS := Lib.hid cS
          clear cS e4 hl hh x1 x2 x3 y1 y2 y3 n1 n2 n3 n4 vA HN HX
          have hr0 : (0 : Int) ≤ (Rl : Int) := by omega
          obtain ⟨rl, hrl⟩ : ∃ r : Int, (Rl : Int) = r := ⟨_, rfl⟩
          obtain ⟨rh, hrh⟩ : ∃ r : Int, rtHi (ah.toNat * 1099511627776) Rh = r := ⟨_, rfl⟩
          rw [hrl] at CS e2 e3 hr0
          rw [hrh] at CS e1 e2 e3
          have hr1 : rl ≤ 2305843009213693952 := by omega
          have HR := Lib.hid (And.intro hr0 (And.intro hr1 (And.intro e1 (And.intro e2 e3))))
          clear hrl hrh hr0 hr1 e1 e2 e3 hal
          have ⟨rQA0, rQA1, rQA2, rQA3, rQA4⟩ := QA.out
          go_wp2_with fail
          clear rQA0 rQA1 rQA2 rQA3 rQA4
          refine (CS.out _).mono ?_
          rintro e w501 ⟨rfl, hb⟩
          replace QA := Lib.hid (QA.out.via hb)
          replace X := Lib.hid (X.out.via hb)
          replace BX := Lib.hid (sbtr BX.out hb)
          clear hb
          go_upto_region 21 with (fail)
          clear QA
          replace X := Lib.hid (X.out.alloc (ivB rl rh))
          have XM := Lib.hid (Pr.new w501 _ rfl (.int .i64 rl) (.int .i64 rh) 23)
          replace BX := Lib.hid (sbal BX.out (ivB rl rh))
          generalize w501.heap.size = gXM at *
          generalize w501.alloc (ivB rl rh) = V501 at *
          go_wp2_with fail
          have HKS : Hid (∀ X : World, Below V501.heap.size V501 X → X.cell? ⟨gXM, 0, none⟩ = some (.int .i64 rl) ∧ X.cell? ⟨gXM, 1, none⟩ = some (.int .i64 rh)) := fun X h => ⟨(XM.out.via h).c0, (XM.out.via h).c1⟩
          have q5 := fun W => lnumber_any W rl (by have := HR.out.1; omega) (by have := HR.out.2.1; omega)
          have q6 := fun W => lnumber_any W rh (by have := HR.out.2.2.2.1; have := HR.out.1; omega) (by have := HR.out.2.2.1; omega)
          have Q5 := Lib.hid q5
          have Q6 := Lib.hid q6
          clear q5 q6
          go_cut [34, 35] (fun sx sy wx => FxT V501 2 rl 1099511627776 rh 1099511627776 sx sy wx)
          case first =>
            refine wp_region_noPanic ?_
            refine wp_region_held_drew (S := fun X => X.cell? ⟨gXM, 0, none⟩ = some (.int .i64 rl) ∧ X.cell? ⟨gXM, 1, none⟩ = some (.int .i64 rh)) (by decide +kernel) ?_ (fun hHeld => ?_)
            · exact HKS.out _ (Below.refl _ _).drew
            refine wpAnyH_take (i := 0) (v := ?_) rfl (by decide +kernel) (by decide +kernel) (by decide +kernel) (fun _ _ _ h => h) (Or.inl ⟨by rfl, ?_⟩) (by assumption) ?_
            rotate_left
            · (intro w hSw; (try dsimp only at hSw); go_simp; try with_reducible rfl)
            try simp only [Act.put, List.setIfInBounds_toArray]
            refine wpAnyH_take (i := 1) (v := ?_) rfl (by decide +kernel) (by decide +kernel) (by decide +kernel) (fun _ _ _ h => h) (Or.inl ⟨by rfl, ?_⟩) (by assumption) ?_
            rotate_left
            · (intro w hSw; (try dsimp only at hSw); go_simp; try with_reducible rfl)
            try simp only [Act.put]
            refine wpAnyH_take (i := 3) (v := ?_) rfl (by decide +kernel) (by decide +kernel) (by decide +kernel) (fun _ _ _ h => h) (Or.inl ⟨by rfl, ?_⟩) (by assumption) ?_
            rotate_left
            · (intro w hSw; (try dsimp only at hSw); go_simp; try with_reducible rfl)
            try simp only [Act.put]
            refine wpAnyH_take (i := 4) (v := ?_) rfl (by decide +kernel) (by decide +kernel) (by decide +kernel) (fun _ _ _ h => h) (Or.inl ⟨by rfl, ?_⟩) (by assumption) ?_
            rotate_left
            · (intro w hSw; (try dsimp only at hSw); go_simp; try with_reducible rfl)
            try simp only [Act.put]
            have BB : Hid (Below V501.heap.size V501 V501.drew) := (Below.refl _ _).drew
            generalize hy0 : V501.drew = y0 at *
            clear hy0
            refine wpAnyH_ready (rs := [2, 6, 7]) (by decide +kernel) (by simp) ?_
            refine AllReadyH.cons rfl (fun K hK => ?_) (AllReadyH.cons rfl (fun K hK => ?_) (AllReadyH.cons rfl (fun K hK => ?_) (AllReadyH.nil)))
            · clear hHeld
              go_simp
              refine (Q5.out _).mono ?_
              rintro e y1 ⟨p1, q1, z1, A1, n1, c1, G1, m1, d1, hz1, hf1, rfl, hL1, hM1, hh⟩
              go_wp2_with fail
              have BB2 := sbtr BB.out hh
              refine hK.out _ _ (HKS.out _ BB2) (fun hHeld => ?_)
              clear hK K
              try simp only [Act.put, List.setIfInBounds_toArray, List.set_cons_zero, List.set_cons_succ]
              have X1 : Fd y1 2 rl 1099511627776 z1 A1 n1 c1 G1 m1 d1 := ⟨p1, q1, hz1, hf1, hL1, hM1⟩
              replace BB := Lib.hid BB2
              clear BB2 hh
              refine wpAnyH_ready (rs := [5, 6, 7]) (by decide +kernel) (by simp) ?_
              refine AllReadyH.cons rfl (fun K hK => ?_) (AllReadyH.cons rfl (fun K hK => ?_) (AllReadyH.cons rfl (fun K hK => ?_) (AllReadyH.nil)))
              · clear hHeld
                go_simp
                refine (Q6.out _).mono ?_
                rintro e y2 ⟨p2, q2, z2, A2, n2, c2, G2, m2, d2, hz2, hf2, rfl, hL2, hM2, hh⟩
                go_wp2_with fail
                have BB2 := sbtr BB.out hh
                refine hK.out _ _ (HKS.out _ BB2) (fun hHeld => ?_)
                clear hK K
                try simp only [Act.put, List.setIfInBounds_toArray, List.set_cons_zero, List.set_cons_succ]
                replace X1 := X1.via hh
                have X2 : Fd y2 2 rh 1099511627776 z2 A2 n2 c2 G2 m2 d2 := ⟨p2, q2, hz2, hf2, hL2, hM2⟩
                replace BB := Lib.hid BB2
                clear BB2 hh
                refine wpAnyH_ready (rs := [6, 7]) (by decide +kernel) (by simp) ?_
                refine AllReadyH.cons rfl (fun K hK => ?_) (AllReadyH.cons rfl (fun K hK => ?_) (AllReadyH.nil))
                · clear hHeld
                  go_simp
                  have BB2 := sbal BB.out (.cells #[.bool false, .slice none 0 0, .bool false, .slice none 0 0] 31)
                  refine hK.out _ _ (HKS.out _ BB2) (fun hHeld => ?_)
                  clear hK K
                  try simp only [Act.put, List.setIfInBounds_toArray, List.set_cons_zero, List.set_cons_succ]
                  replace X1 := X1.alloc (.cells #[.bool false, .slice none 0 0, .bool false, .slice none 0 0] 31)
                  replace X2 := X2.alloc (.cells #[.bool false, .slice none 0 0, .bool false, .slice none 0 0] 31)
                  have P0 := Qd.new y2 _ rfl (.bool false) (.slice none 0 0) (.bool false) (.slice none 0 0) 31
                  have hg0 : V501.heap.size ≤ y2.heap.size := BB.out.size
                  replace BB := Lib.hid BB2
                  clear BB2
                  generalize y2.heap.size = g0 at *
                  generalize hy : y2.alloc (.cells #[.bool false, .slice none 0 0, .bool false, .slice none 0 0] 31) = y3 at *
                  clear hy
                  refine wpAnyH_ready (rs := [7]) (by decide +kernel) (by simp) ?_
                  refine AllReadyH.cons rfl (fun K hK => ?_) (AllReadyH.nil)
                  · clear hHeld
                    go_simp
                    have BB2 := sbal BB.out (.cells #[.bool false, .slice none 0 0, .bool false, .slice none 0 0] 31)
                    refine hK.out _ _ (HKS.out _ BB2) (fun hHeld => ?_)
                    clear hK K
                    try simp only [Act.put, List.setIfInBounds_toArray, List.set_cons_zero, List.set_cons_succ]
                    replace X1 := X1.alloc (.cells #[.bool false, .slice none 0 0, .bool false, .slice none 0 0] 31)
                    replace X2 := X2.alloc (.cells #[.bool false, .slice none 0 0, .bool false, .slice none 0 0] 31)
                    have hne01 := Nat.ne_of_lt P0.lt
                    replace P0 := P0.alloc (.cells #[.bool false, .slice none 0 0, .bool false, .slice none 0 0] 31)
                    have P1 := Qd.new y3 _ rfl (.bool false) (.slice none 0 0) (.bool false) (.slice none 0 0) 31
                    have hg1 : V501.heap.size ≤ y3.heap.size := BB.out.size
                    replace BB := Lib.hid BB2
                    clear BB2
                    generalize y3.heap.size = g1 at *
                    generalize hy : y3.alloc (.cells #[.bool false, .slice none 0 0, .bool false, .slice none 0 0] 31) = y4 at *
                    clear hy
                    refine wpAnyH_ready (rs := [8]) (by decide +kernel) (by simp) ?_
                    refine AllReadyH.cons rfl (fun K hK => ?_) AllReadyH.nil
                    clear hHeld
                    rw [if_pos (by rfl)]
                    refine wp_store_qd P0 _ _ rfl z1 false A1 G1 n1 c1 m1 d1 rfl rfl ?_
                    have BB2 := below_put4 BB.out hg0 (.bool z1) (.slice A1 n1 c1) (.bool false) (.slice G1 m1 d1)
                    refine hK.out _ _ (HKS.out _ BB2) (fun hHeld => ?_)
                    clear hK K
                    try simp only [Act.put, List.setIfInBounds_toArray]
                    refine wpAnyH_ready (rs := [9]) (by decide +kernel) (by simp) ?_
                    refine AllReadyH.cons rfl (fun K hK => ?_) AllReadyH.nil
                    clear hHeld
                    rw [if_pos (by rfl)]
                    clear BB2
                    have PQ := P1.far (h := g0) (by first | exact hne10 | exact hne01.symm) (.bool z1) (.slice A1 n1 c1) (.bool false) (.slice G1 m1 d1)
                    refine wp_store_qd PQ _ _ rfl z2 false A2 G2 n2 c2 m2 d2 rfl rfl ?_
                    have BB2 := below_put4 (below_put4 BB.out hg0 (.bool z1) (.slice A1 n1 c1) (.bool false) (.slice G1 m1 d1)) hg1 (.bool z2) (.slice A2 n2 c2) (.bool false) (.slice G2 m2 d2)
                    refine hK.out _ _ (HKS.out _ BB2) (fun hHeld => ?_)
                    clear hK K
                    try simp only [Act.put]
                    refine wpAnyH_done (by decide +kernel) ?_ _
                    refine NoPanic.normal ?_
                    as_aux_lemma =>
                    go_wp2_with fail
                    go_meet
                    with_reducible exact xfin5 BB.out X1 X2 P0 P1 hg0 hg1 (by first | exact hne01 | exact hne10.symm)
                · clear hHeld
                  go_simp
                  have BB2 := sbal BB.out (.cells #[.bool false, .slice none 0 0, .bool false, .slice none 0 0] 31)
                  refine hK.out _ _ (HKS.out _ BB2) (fun hHeld => ?_)
                  clear hK K
                  try simp only [Act.put, List.setIfInBounds_toArray, List.set_cons_zero, List.set_cons_succ]
                  replace X1 := X1.alloc (.cells #[.bool false, .slice none 0 0, .bool false, .slice none 0 0] 31)
                  replace X2 := X2.alloc (.cells #[.bool false, .slice none 0 0, .bool false, .slice none 0 0] 31)
                  have P1 := Qd.new y2 _ rfl (.bool false) (.slice none 0 0) (.bool false) (.slice none 0 0) 31
                  have hg1 : V501.heap.size ≤ y2.heap.size := BB.out.size
                  replace BB := Lib.hid BB2
                  clear BB2
                  generalize y2.heap.size = g1 at *
                  generalize hy : y2.alloc (.cells #[.bool false, .slice none 0 0, .bool false, .slice none 0 0] 31) = y5 at *
                  clear hy
                  refine wpAnyH_ready (rs := [6]) (by decide +kernel) (by simp) ?_
                  refine AllReadyH.cons rfl (fun K hK => ?_) (AllReadyH.nil)
                  · clear hHeld
                    go_simp
                    have BB2 := sbal BB.out (.cells #[.bool false, .slice none 0 0, .bool false, .slice none 0 0] 31)
                    refine hK.out _ _ (HKS.out _ BB2) (fun hHeld => ?_)
                    clear hK K
                    try simp only [Act.put, List.setIfInBounds_toArray, List.set_cons_zero, List.set_cons_succ]
                    replace X1 := X1.alloc (.cells #[.bool false, .slice none 0 0, .bool false, .slice none 0 0] 31)
                    replace X2 := X2.alloc (.cells #[.bool false, .slice none 0 0, .bool false, .slice none 0 0] 31)
                    have hne10 := Nat.ne_of_lt P1.lt
                    replace P1 := P1.alloc (.cells #[.bool false, .slice none 0 0, .bool false, .slice none 0 0] 31)
                    have P0 := Qd.new y5 _ rfl (.bool false) (.slice none 0 0) (.bool false) (.slice none 0 0) 31
                    have hg0 : V501.heap.size ≤ y5.heap.size := BB.out.size
                    replace BB := Lib.hid BB2
                    clear BB2
                    generalize y5.heap.size = g0 at *
                    generalize hy : y5.alloc (.cells #[.bool false, .slice none 0 0, .bool false, .slice none 0 0] 31) = y6 at *
                    clear hy
                    refine wpAnyH_ready (rs := [8]) (by decide +kernel) (by simp) ?_
                    refine AllReadyH.cons rfl (fun K hK => ?_) AllReadyH.nil
                    clear hHeld
                    rw [if_pos (by rfl)]
                    refine wp_store_qd P0 _ _ rfl z1 false A1 G1 n1 c1 m1 d1 rfl rfl ?_
                    have BB2 := below_put4 BB.out hg0 (.bool z1) (.slice A1 n1 c1) (.bool false) (.slice G1 m1 d1)
                    refine hK.out _ _ (HKS.out _ BB2) (fun hHeld => ?_)
                    clear hK K
                    try simp only [Act.put, List.setIfInBounds_toArray]
                    refine wpAnyH_ready (rs := [9]) (by decide +kernel) (by simp) ?_
                    refine AllReadyH.cons rfl (fun K hK => ?_) AllReadyH.nil
                    clear hHeld
                    rw [if_pos (by rfl)]
                    clear BB2
                    have PQ := P1.far (h := g0) (by first | exact hne10 | exact hne01.symm) (.bool z1) (.slice A1 n1 c1) (.bool false) (.slice G1 m1 d1)
                    refine wp_store_qd PQ _ _ rfl z2 false A2 G2 n2 c2 m2 d2 rfl rfl ?_
                    have BB2 := below_put4 (below_put4 BB.out hg0 (.bool z1) (.slice A1 n1 c1) (.bool false) (.slice G1 m1 d1)) hg1 (.bool z2) (.slice A2 n2 c2) (.bool false) (.slice G2 m2 d2)
                    refine hK.out _ _ (HKS.out _ BB2) (fun hHeld => ?_)
                    clear hK K
                    try simp only [Act.put]
                    refine wpAnyH_done (by decide +kernel) ?_ _
                    refine NoPanic.normal ?_
                    as_aux_lemma =>
                    go_wp2_with fail
                    go_meet
                    with_reducible exact xfin5 BB.out X1 X2 P0 P1 hg0 hg1 (by first | exact hne01 | exact hne10.symm)
              · clear hHeld
                go_simp
                have BB2 := sbal BB.out (.cells #[.bool false, .slice none 0 0, .bool false, .slice none 0 0] 31)
                refine hK.out _ _ (HKS.out _ BB2) (fun hHeld => ?_)
                clear hK K
                try simp only [Act.put, List.setIfInBounds_toArray, List.set_cons_zero, List.set_cons_succ]
                replace X1 := X1.alloc (.cells #[.bool false, .slice none 0 0, .bool false, .slice none 0 0] 31)
                have P0 := Qd.new y1 _ rfl (.bool false) (.slice none 0 0) (.bool false) (.slice none 0 0) 31
                have hg0 : V501.heap.size ≤ y1.heap.size := BB.out.size
                replace BB := Lib.hid BB2
                clear BB2
                generalize y1.heap.size = g0 at *
                generalize hy : y1.alloc (.cells #[.bool false, .slice none 0 0, .bool false, .slice none 0 0] 31) = y7 at *
                clear hy
                refine wpAnyH_ready (rs := [5, 7]) (by decide +kernel) (by simp) ?_
                refine AllReadyH.cons rfl (fun K hK => ?_) (AllReadyH.cons rfl (fun K hK => ?_) (AllReadyH.nil))
                · clear hHeld
                  go_simp
                  refine (Q6.out _).mono ?_
                  rintro e y8 ⟨p2, q2, z2, A2, n2, c2, G2, m2, d2, hz2, hf2, rfl, hL2, hM2, hh⟩
                  go_wp2_with fail
                  have BB2 := sbtr BB.out hh
                  refine hK.out _ _ (HKS.out _ BB2) (fun hHeld => ?_)
                  clear hK K
                  try simp only [Act.put, List.setIfInBounds_toArray, List.set_cons_zero, List.set_cons_succ]
                  replace X1 := X1.via hh
                  replace P0 := P0.via hh
                  have X2 : Fd y8 2 rh 1099511627776 z2 A2 n2 c2 G2 m2 d2 := ⟨p2, q2, hz2, hf2, hL2, hM2⟩
                  replace BB := Lib.hid BB2
                  clear BB2 hh
                  refine wpAnyH_ready (rs := [7]) (by decide +kernel) (by simp) ?_
                  refine AllReadyH.cons rfl (fun K hK => ?_) (AllReadyH.nil)
                  · clear hHeld
                    go_simp
                    have BB2 := sbal BB.out (.cells #[.bool false, .slice none 0 0, .bool false, .slice none 0 0] 31)
                    refine hK.out _ _ (HKS.out _ BB2) (fun hHeld => ?_)
                    clear hK K
                    try simp only [Act.put, List.setIfInBounds_toArray, List.set_cons_zero, List.set_cons_succ]
                    replace X1 := X1.alloc (.cells #[.bool false, .slice none 0 0, .bool false, .slice none 0 0] 31)
                    replace X2 := X2.alloc (.cells #[.bool false, .slice none 0 0, .bool false, .slice none 0 0] 31)
                    have hne01 := Nat.ne_of_lt P0.lt
                    replace P0 := P0.alloc (.cells #[.bool false, .slice none 0 0, .bool false, .slice none 0 0] 31)
                    have P1 := Qd.new y8 _ rfl (.bool false) (.slice none 0 0) (.bool false) (.slice none 0 0) 31
                    have hg1 : V501.heap.size ≤ y8.heap.size := BB.out.size
                    replace BB := Lib.hid BB2
                    clear BB2
                    generalize y8.heap.size = g1 at *
                    generalize hy : y8.alloc (.cells #[.bool false, .slice none 0 0, .bool false, .slice none 0 0] 31) = y9 at *
                    clear hy
                    refine wpAnyH_ready (rs := [8]) (by decide +kernel) (by simp) ?_
                    refine AllReadyH.cons rfl (fun K hK => ?_) AllReadyH.nil
                    clear hHeld
                    rw [if_pos (by rfl)]
                    refine wp_store_qd P0 _ _ rfl z1 false A1 G1 n1 c1 m1 d1 rfl rfl ?_
                    have BB2 := below_put4 BB.out hg0 (.bool z1) (.slice A1 n1 c1) (.bool false) (.slice G1 m1 d1)
                    refine hK.out _ _ (HKS.out _ BB2) (fun hHeld => ?_)
                    clear hK K
                    try simp only [Act.put, List.setIfInBounds_toArray]
                    refine wpAnyH_ready (rs := [9]) (by decide +kernel) (by simp) ?_
                    refine AllReadyH.cons rfl (fun K hK => ?_) AllReadyH.nil
                    clear hHeld
                    rw [if_pos (by rfl)]
                    clear BB2
                    have PQ := P1.far (h := g0) (by first | exact hne10 | exact hne01.symm) (.bool z1) (.slice A1 n1 c1) (.bool false) (.slice G1 m1 d1)
                    refine wp_store_qd PQ _ _ rfl z2 false A2 G2 n2 c2 m2 d2 rfl rfl ?_
                    have BB2 := below_put4 (below_put4 BB.out hg0 (.bool z1) (.slice A1 n1 c1) (.bool false) (.slice G1 m1 d1)) hg1 (.bool z2) (.slice A2 n2 c2) (.bool false) (.slice G2 m2 d2)
                    refine hK.out _ _ (HKS.out _ BB2) (fun hHeld => ?_)
                    clear hK K
                    try simp only [Act.put]
                    refine wpAnyH_done (by decide +kernel) ?_ _
                    refine NoPanic.normal ?_
                    as_aux_lemma =>
                    go_wp2_with fail
                    go_meet
                    with_reducible exact xfin5 BB.out X1 X2 P0 P1 hg0 hg1 (by first | exact hne01 | exact hne10.symm)
                · clear hHeld
                  go_simp
                  have BB2 := sbal BB.out (.cells #[.bool false, .slice none 0 0, .bool false, .slice none 0 0] 31)
                  refine hK.out _ _ (HKS.out _ BB2) (fun hHeld => ?_)
                  clear hK K
                  try simp only [Act.put, List.setIfInBounds_toArray, List.set_cons_zero, List.set_cons_succ]
                  replace X1 := X1.alloc (.cells #[.bool false, .slice none 0 0, .bool false, .slice none 0 0] 31)
                  have hne01 := Nat.ne_of_lt P0.lt
                  replace P0 := P0.alloc (.cells #[.bool false, .slice none 0 0, .bool false, .slice none 0 0] 31)
                  have P1 := Qd.new y7 _ rfl (.bool false) (.slice none 0 0) (.bool false) (.slice none 0 0) 31
                  have hg1 : V501.heap.size ≤ y7.heap.size := BB.out.size
                  replace BB := Lib.hid BB2
                  clear BB2
                  generalize y7.heap.size = g1 at *
                  generalize hy : y7.alloc (.cells #[.bool false, .slice none 0 0, .bool false, .slice none 0 0] 31) = y10 at *
                  clear hy
                  refine wpAnyH_ready (rs := [5]) (by decide +kernel) (by simp) ?_
                  refine AllReadyH.cons rfl (fun K hK => ?_) (AllReadyH.nil)
                  · clear hHeld
                    go_simp
                    refine (Q6.out _).mono ?_
                    rintro e y11 ⟨p2, q2, z2, A2, n2, c2, G2, m2, d2, hz2, hf2, rfl, hL2, hM2, hh⟩
                    go_wp2_with fail
                    have BB2 := sbtr BB.out hh
                    refine hK.out _ _ (HKS.out _ BB2) (fun hHeld => ?_)
                    clear hK K
                    try simp only [Act.put, List.setIfInBounds_toArray, List.set_cons_zero, List.set_cons_succ]
                    replace X1 := X1.via hh
                    replace P0 := P0.via hh
                    replace P1 := P1.via hh
                    have X2 : Fd y11 2 rh 1099511627776 z2 A2 n2 c2 G2 m2 d2 := ⟨p2, q2, hz2, hf2, hL2, hM2⟩
                    replace BB := Lib.hid BB2
                    clear BB2 hh
                    refine wpAnyH_ready (rs := [8]) (by decide +kernel) (by simp) ?_
                    refine AllReadyH.cons rfl (fun K hK => ?_) AllReadyH.nil
                    clear hHeld
                    rw [if_pos (by rfl)]
                    refine wp_store_qd P0 _ _ rfl z1 false A1 G1 n1 c1 m1 d1 rfl rfl ?_
                    have BB2 := below_put4 BB.out hg0 (.bool z1) (.slice A1 n1 c1) (.bool false) (.slice G1 m1 d1)
                    refine hK.out _ _ (HKS.out _ BB2) (fun hHeld => ?_)
                    clear hK K
                    try simp only [Act.put, List.setIfInBounds_toArray]
                    refine wpAnyH_ready (rs := [9]) (by decide +kernel) (by simp) ?_
                    refine AllReadyH.cons rfl (fun K hK => ?_) AllReadyH.nil
                    clear hHeld
                    rw [if_pos (by rfl)]
                    clear BB2
                    have PQ := P1.far (h := g0) (by first | exact hne10 | exact hne01.symm) (.bool z1) (.slice A1 n1 c1) (.bool false) (.slice G1 m1 d1)
                    refine wp_store_qd PQ _ _ rfl z2 false A2 G2 n2 c2 m2 d2 rfl rfl ?_
                    have BB2 := below_put4 (below_put4 BB.out hg0 (.bool z1) (.slice A1 n1 c1) (.bool false) (.slice G1 m1 d1)) hg1 (.bool z2) (.slice A2 n2 c2) (.bool false) (.slice G2 m2 d2)
                    refine hK.out _ _ (HKS.out _ BB2) (fun hHeld => ?_)
                    clear hK K
                    try simp only [Act.put]
                    refine wpAnyH_done (by decide +kernel) ?_ _
                    refine NoPanic.normal ?_
                    as_aux_lemma =>
                    go_wp2_with fail
                    go_meet
                    with_reducible exact xfin5 BB.out X1 X2 P0 P1 hg0 hg1 (by first | exact hne01 | exact hne10.symm)
              · clear hHeld
                go_simp
                have BB2 := sbal BB.out (.cells #[.bool false, .slice none 0 0, .bool false, .slice none 0 0] 31)
                refine hK.out _ _ (HKS.out _ BB2) (fun hHeld => ?_)
                clear hK K
                try simp only [Act.put, List.setIfInBounds_toArray, List.set_cons_zero, List.set_cons_succ]
                replace X1 := X1.alloc (.cells #[.bool false, .slice none 0 0, .bool false, .slice none 0 0] 31)
                have P1 := Qd.new y1 _ rfl (.bool false) (.slice none 0 0) (.bool false) (.slice none 0 0) 31
                have hg1 : V501.heap.size ≤ y1.heap.size := BB.out.size
                replace BB := Lib.hid BB2
                clear BB2
                generalize y1.heap.size = g1 at *
                generalize hy : y1.alloc (.cells #[.bool false, .slice none 0 0, .bool false, .slice none 0 0] 31) = y12 at *
                clear hy
                refine wpAnyH_ready (rs := [5, 6]) (by decide +kernel) (by simp) ?_
                refine AllReadyH.cons rfl (fun K hK => ?_) (AllReadyH.cons rfl (fun K hK => ?_) (AllReadyH.nil))
                · clear hHeld
                  go_simp
                  refine (Q6.out _).mono ?_
                  rintro e y13 ⟨p2, q2, z2, A2, n2, c2, G2, m2, d2, hz2, hf2, rfl, hL2, hM2, hh⟩
                  go_wp2_with fail
                  have BB2 := sbtr BB.out hh
                  refine hK.out _ _ (HKS.out _ BB2) (fun hHeld => ?_)
                  clear hK K
                  try simp only [Act.put, List.setIfInBounds_toArray, List.set_cons_zero, List.set_cons_succ]
                  replace X1 := X1.via hh
                  replace P1 := P1.via hh
                  have X2 : Fd y13 2 rh 1099511627776 z2 A2 n2 c2 G2 m2 d2 := ⟨p2, q2, hz2, hf2, hL2, hM2⟩
                  replace BB := Lib.hid BB2
                  clear BB2 hh
                  refine wpAnyH_ready (rs := [6]) (by decide +kernel) (by simp) ?_
                  refine AllReadyH.cons rfl (fun K hK => ?_) (AllReadyH.nil)
                  · clear hHeld
                    go_simp
                    have BB2 := sbal BB.out (.cells #[.bool false, .slice none 0 0, .bool false, .slice none 0 0] 31)
                    refine hK.out _ _ (HKS.out _ BB2) (fun hHeld => ?_)
                    clear hK K
                    try simp only [Act.put, List.setIfInBounds_toArray, List.set_cons_zero, List.set_cons_succ]
                    replace X1 := X1.alloc (.cells #[.bool false, .slice none 0 0, .bool false, .slice none 0 0] 31)
                    replace X2 := X2.alloc (.cells #[.bool false, .slice none 0 0, .bool false, .slice none 0 0] 31)
                    have hne10 := Nat.ne_of_lt P1.lt
                    replace P1 := P1.alloc (.cells #[.bool false, .slice none 0 0, .bool false, .slice none 0 0] 31)
                    have P0 := Qd.new y13 _ rfl (.bool false) (.slice none 0 0) (.bool false) (.slice none 0 0) 31
                    have hg0 : V501.heap.size ≤ y13.heap.size := BB.out.size
                    replace BB := Lib.hid BB2
                    clear BB2
                    generalize y13.heap.size = g0 at *
                    generalize hy : y13.alloc (.cells #[.bool false, .slice none 0 0, .bool false, .slice none 0 0] 31) = y14 at *
                    clear hy
                    refine wpAnyH_ready (rs := [8]) (by decide +kernel) (by simp) ?_
                    refine AllReadyH.cons rfl (fun K hK => ?_) AllReadyH.nil
                    clear hHeld
                    rw [if_pos (by rfl)]
                    refine wp_store_qd P0 _ _ rfl z1 false A1 G1 n1 c1 m1 d1 rfl rfl ?_
                    have BB2 := below_put4 BB.out hg0 (.bool z1) (.slice A1 n1 c1) (.bool false) (.slice G1 m1 d1)
                    refine hK.out _ _ (HKS.out _ BB2) (fun hHeld => ?_)
                    clear hK K
                    try simp only [Act.put, List.setIfInBounds_toArray]
                    refine wpAnyH_ready (rs := [9]) (by decide +kernel) (by simp) ?_
                    refine AllReadyH.cons rfl (fun K hK => ?_) AllReadyH.nil
                    clear hHeld
                    rw [if_pos (by rfl)]
                    clear BB2
                    have PQ := P1.far (h := g0) (by first | exact hne10 | exact hne01.symm) (.bool z1) (.slice A1 n1 c1) (.bool false) (.slice G1 m1 d1)
                    refine wp_store_qd PQ _ _ rfl z2 false A2 G2 n2 c2 m2 d2 rfl rfl ?_
                    have BB2 := below_put4 (below_put4 BB.out hg0 (.bool z1) (.slice A1 n1 c1) (.bool false) (.slice G1 m1 d1)) hg1 (.bool z2) (.slice A2 n2 c2) (.bool false) (.slice G2 m2 d2)
                    refine hK.out _ _ (HKS.out _ BB2) (fun hHeld => ?_)
                    clear hK K
                    try simp only [Act.put]
                    refine wpAnyH_done (by decide +kernel) ?_ _
                    refine NoPanic.normal ?_
                    as_aux_lemma =>
                    go_wp2_with fail
                    go_meet
                    with_reducible exact xfin5 BB.out X1 X2 P0 P1 hg0 hg1 (by first | exact hne01 | exact hne10.symm)
                · clear hHeld
                  go_simp
                  have BB2 := sbal BB.out (.cells #[.bool false, .slice none 0 0, .bool false, .slice none 0 0] 31)
                  refine hK.out _ _ (HKS.out _ BB2) (fun hHeld => ?_)
                  clear hK K
                  try simp only [Act.put, List.setIfInBounds_toArray, List.set_cons_zero, List.set_cons_succ]
                  replace X1 := X1.alloc (.cells #[.bool false, .slice none 0 0, .bool false, .slice none 0 0] 31)
                  have hne10 := Nat.ne_of_lt P1.lt
                  replace P1 := P1.alloc (.cells #[.bool false, .slice none 0 0, .bool false, .slice none 0 0] 31)
                  have P0 := Qd.new y12 _ rfl (.bool false) (.slice none 0 0) (.bool false) (.slice none 0 0) 31
                  have hg0 : V501.heap.size ≤ y12.heap.size := BB.out.size
                  replace BB := Lib.hid BB2
                  clear BB2
                  generalize y12.heap.size = g0 at *
                  generalize hy : y12.alloc (.cells #[.bool false, .slice none 0 0, .bool false, .slice none 0 0] 31) = y15 at *
                  clear hy
                  refine wpAnyH_ready (rs := [5]) (by decide +kernel) (by simp) ?_
                  refine AllReadyH.cons rfl (fun K hK => ?_) (AllReadyH.nil)
                  · clear hHeld
                    go_simp
                    refine (Q6.out _).mono ?_
                    rintro e y16 ⟨p2, q2, z2, A2, n2, c2, G2, m2, d2, hz2, hf2, rfl, hL2, hM2, hh⟩
                    go_wp2_with fail
                    have BB2 := sbtr BB.out hh
                    refine hK.out _ _ (HKS.out _ BB2) (fun hHeld => ?_)
                    clear hK K
                    try simp only [Act.put, List.setIfInBounds_toArray, List.set_cons_zero, List.set_cons_succ]
                    replace X1 := X1.via hh
                    replace P1 := P1.via hh
                    replace P0 := P0.via hh
                    have X2 : Fd y16 2 rh 1099511627776 z2 A2 n2 c2 G2 m2 d2 := ⟨p2, q2, hz2, hf2, hL2, hM2⟩
                    replace BB := Lib.hid BB2
                    clear BB2 hh
                    refine wpAnyH_ready (rs := [8]) (by decide +kernel) (by simp) ?_
                    refine AllReadyH.cons rfl (fun K hK => ?_) AllReadyH.nil
                    clear hHeld
                    rw [if_pos (by rfl)]
                    refine wp_store_qd P0 _ _ rfl z1 false A1 G1 n1 c1 m1 d1 rfl rfl ?_
                    have BB2 := below_put4 BB.out hg0 (.bool z1) (.slice A1 n1 c1) (.bool false) (.slice G1 m1 d1)
                    refine hK.out _ _ (HKS.out _ BB2) (fun hHeld => ?_)
                    clear hK K
                    try simp only [Act.put, List.setIfInBounds_toArray]
                    refine wpAnyH_ready (rs := [9]) (by decide +kernel) (by simp) ?_
                    refine AllReadyH.cons rfl (fun K hK => ?_) AllReadyH.nil
                    clear hHeld
                    rw [if_pos (by rfl)]
                    clear BB2
                    have PQ := P1.far (h := g0) (by first | exact hne10 | exact hne01.symm) (.bool z1) (.slice A1 n1 c1) (.bool false) (.slice G1 m1 d1)
                    refine wp_store_qd PQ _ _ rfl z2 false A2 G2 n2 c2 m2 d2 rfl rfl ?_
                    have BB2 := below_put4 (below_put4 BB.out hg0 (.bool z1) (.slice A1 n1 c1) (.bool false) (.slice G1 m1 d1)) hg1 (.bool z2) (.slice A2 n2 c2) (.bool false) (.slice G2 m2 d2)
                    refine hK.out _ _ (HKS.out _ BB2) (fun hHeld => ?_)
                    clear hK K
                    try simp only [Act.put]
                    refine wpAnyH_done (by decide +kernel) ?_ _
                    refine NoPanic.normal ?_
                    as_aux_lemma =>
                    go_wp2_with fail
                    go_meet
                    with_reducible exact xfin5 BB.out X1 X2 P0 P1 hg0 hg1 (by first | exact hne01 | exact hne10.symm)
            · clear hHeld
              go_simp
              have BB2 := sbal BB.out (.cells #[.bool false, .slice none 0 0, .bool false, .slice none 0 0] 31)
              refine hK.out _ _ (HKS.out _ BB2) (fun hHeld => ?_)
              clear hK K
              try simp only [Act.put, List.setIfInBounds_toArray, List.set_cons_zero, List.set_cons_succ]
              have P0 := Qd.new y0 _ rfl (.bool false) (.slice none 0 0) (.bool false) (.slice none 0 0) 31
              have hg0 : V501.heap.size ≤ y0.heap.size := BB.out.size
              replace BB := Lib.hid BB2
              clear BB2
              generalize y0.heap.size = g0 at *
              generalize hy : y0.alloc (.cells #[.bool false, .slice none 0 0, .bool false, .slice none 0 0] 31) = y17 at *
              clear hy
              refine wpAnyH_ready (rs := [2, 7]) (by decide +kernel) (by simp) ?_
              refine AllReadyH.cons rfl (fun K hK => ?_) (AllReadyH.cons rfl (fun K hK => ?_) (AllReadyH.nil))
              · clear hHeld
                go_simp
                refine (Q5.out _).mono ?_
                rintro e y18 ⟨p1, q1, z1, A1, n1, c1, G1, m1, d1, hz1, hf1, rfl, hL1, hM1, hh⟩
                go_wp2_with fail
                have BB2 := sbtr BB.out hh
                refine hK.out _ _ (HKS.out _ BB2) (fun hHeld => ?_)
                clear hK K
                try simp only [Act.put, List.setIfInBounds_toArray, List.set_cons_zero, List.set_cons_succ]
                replace P0 := P0.via hh
                have X1 : Fd y18 2 rl 1099511627776 z1 A1 n1 c1 G1 m1 d1 := ⟨p1, q1, hz1, hf1, hL1, hM1⟩
                replace BB := Lib.hid BB2
                clear BB2 hh
                refine wpAnyH_ready (rs := [5, 7]) (by decide +kernel) (by simp) ?_
                refine AllReadyH.cons rfl (fun K hK => ?_) (AllReadyH.cons rfl (fun K hK => ?_) (AllReadyH.nil))
                · clear hHeld
                  go_simp
                  refine (Q6.out _).mono ?_
                  rintro e y19 ⟨p2, q2, z2, A2, n2, c2, G2, m2, d2, hz2, hf2, rfl, hL2, hM2, hh⟩
                  go_wp2_with fail
                  have BB2 := sbtr BB.out hh
                  refine hK.out _ _ (HKS.out _ BB2) (fun hHeld => ?_)
                  clear hK K
                  try simp only [Act.put, List.setIfInBounds_toArray, List.set_cons_zero, List.set_cons_succ]
                  replace X1 := X1.via hh
                  replace P0 := P0.via hh
                  have X2 : Fd y19 2 rh 1099511627776 z2 A2 n2 c2 G2 m2 d2 := ⟨p2, q2, hz2, hf2, hL2, hM2⟩
                  replace BB := Lib.hid BB2
                  clear BB2 hh
                  refine wpAnyH_ready (rs := [7]) (by decide +kernel) (by simp) ?_
                  refine AllReadyH.cons rfl (fun K hK => ?_) (AllReadyH.nil)
                  · clear hHeld
                    go_simp
                    have BB2 := sbal BB.out (.cells #[.bool false, .slice none 0 0, .bool false, .slice none 0 0] 31)
                    refine hK.out _ _ (HKS.out _ BB2) (fun hHeld => ?_)
                    clear hK K
                    try simp only [Act.put, List.setIfInBounds_toArray, List.set_cons_zero, List.set_cons_succ]
                    replace X1 := X1.alloc (.cells #[.bool false, .slice none 0 0, .bool false, .slice none 0 0] 31)
                    replace X2 := X2.alloc (.cells #[.bool false, .slice none 0 0, .bool false, .slice none 0 0] 31)
                    have hne01 := Nat.ne_of_lt P0.lt
                    replace P0 := P0.alloc (.cells #[.bool false, .slice none 0 0, .bool false, .slice none 0 0] 31)
                    have P1 := Qd.new y19 _ rfl (.bool false) (.slice none 0 0) (.bool false) (.slice none 0 0) 31
                    have hg1 : V501.heap.size ≤ y19.heap.size := BB.out.size
                    replace BB := Lib.hid BB2
                    clear BB2
                    generalize y19.heap.size = g1 at *
                    generalize hy : y19.alloc (.cells #[.bool false, .slice none 0 0, .bool false, .slice none 0 0] 31) = y20 at *
                    clear hy
                    refine wpAnyH_ready (rs := [8]) (by decide +kernel) (by simp) ?_
                    refine AllReadyH.cons rfl (fun K hK => ?_) AllReadyH.nil
                    clear hHeld
                    rw [if_pos (by rfl)]
                    refine wp_store_qd P0 _ _ rfl z1 false A1 G1 n1 c1 m1 d1 rfl rfl ?_
                    have BB2 := below_put4 BB.out hg0 (.bool z1) (.slice A1 n1 c1) (.bool false) (.slice G1 m1 d1)
                    refine hK.out _ _ (HKS.out _ BB2) (fun hHeld => ?_)
                    clear hK K
                    try simp only [Act.put, List.setIfInBounds_toArray]
                    refine wpAnyH_ready (rs := [9]) (by decide +kernel) (by simp) ?_
                    refine AllReadyH.cons rfl (fun K hK => ?_) AllReadyH.nil
                    clear hHeld
                    rw [if_pos (by rfl)]
                    clear BB2
                    have PQ := P1.far (h := g0) (by first | exact hne10 | exact hne01.symm) (.bool z1) (.slice A1 n1 c1) (.bool false) (.slice G1 m1 d1)
                    refine wp_store_qd PQ _ _ rfl z2 false A2 G2 n2 c2 m2 d2 rfl rfl ?_
                    have BB2 := below_put4 (below_put4 BB.out hg0 (.bool z1) (.slice A1 n1 c1) (.bool false) (.slice G1 m1 d1)) hg1 (.bool z2) (.slice A2 n2 c2) (.bool false) (.slice G2 m2 d2)
                    refine hK.out _ _ (HKS.out _ BB2) (fun hHeld => ?_)
                    clear hK K
                    try simp only [Act.put]
                    refine wpAnyH_done (by decide +kernel) ?_ _
                    refine NoPanic.normal ?_
                    as_aux_lemma =>
                    go_wp2_with fail
                    go_meet
                    with_reducible exact xfin5 BB.out X1 X2 P0 P1 hg0 hg1 (by first | exact hne01 | exact hne10.symm)
                · clear hHeld
                  go_simp
                  have BB2 := sbal BB.out (.cells #[.bool false, .slice none 0 0, .bool false, .slice none 0 0] 31)
                  refine hK.out _ _ (HKS.out _ BB2) (fun hHeld => ?_)
                  clear hK K
                  try simp only [Act.put, List.setIfInBounds_toArray, List.set_cons_zero, List.set_cons_succ]
                  replace X1 := X1.alloc (.cells #[.bool false, .slice none 0 0, .bool false, .slice none 0 0] 31)
                  have hne01 := Nat.ne_of_lt P0.lt
                  replace P0 := P0.alloc (.cells #[.bool false, .slice none 0 0, .bool false, .slice none 0 0] 31)
                  have P1 := Qd.new y18 _ rfl (.bool false) (.slice none 0 0) (.bool false) (.slice none 0 0) 31
                  have hg1 : V501.heap.size ≤ y18.heap.size := BB.out.size
                  replace BB := Lib.hid BB2
                  clear BB2
                  generalize y18.heap.size = g1 at *
                  generalize hy : y18.alloc (.cells #[.bool false, .slice none 0 0, .bool false, .slice none 0 0] 31) = y21 at *
                  clear hy
                  refine wpAnyH_ready (rs := [5]) (by decide +kernel) (by simp) ?_
                  refine AllReadyH.cons rfl (fun K hK => ?_) (AllReadyH.nil)
                  · clear hHeld
                    go_simp
                    refine (Q6.out _).mono ?_
                    rintro e y22 ⟨p2, q2, z2, A2, n2, c2, G2, m2, d2, hz2, hf2, rfl, hL2, hM2, hh⟩
                    go_wp2_with fail
                    have BB2 := sbtr BB.out hh
                    refine hK.out _ _ (HKS.out _ BB2) (fun hHeld => ?_)
                    clear hK K
                    try simp only [Act.put, List.setIfInBounds_toArray, List.set_cons_zero, List.set_cons_succ]
                    replace X1 := X1.via hh
                    replace P0 := P0.via hh
                    replace P1 := P1.via hh
                    have X2 : Fd y22 2 rh 1099511627776 z2 A2 n2 c2 G2 m2 d2 := ⟨p2, q2, hz2, hf2, hL2, hM2⟩
                    replace BB := Lib.hid BB2
                    clear BB2 hh
                    refine wpAnyH_ready (rs := [8]) (by decide +kernel) (by simp) ?_
                    refine AllReadyH.cons rfl (fun K hK => ?_) AllReadyH.nil
                    clear hHeld
                    rw [if_pos (by rfl)]
                    refine wp_store_qd P0 _ _ rfl z1 false A1 G1 n1 c1 m1 d1 rfl rfl ?_
                    have BB2 := below_put4 BB.out hg0 (.bool z1) (.slice A1 n1 c1) (.bool false) (.slice G1 m1 d1)
                    refine hK.out _ _ (HKS.out _ BB2) (fun hHeld => ?_)
                    clear hK K
                    try simp only [Act.put, List.setIfInBounds_toArray]
                    refine wpAnyH_ready (rs := [9]) (by decide +kernel) (by simp) ?_
                    refine AllReadyH.cons rfl (fun K hK => ?_) AllReadyH.nil
                    clear hHeld
                    rw [if_pos (by rfl)]
                    clear BB2
                    have PQ := P1.far (h := g0) (by first | exact hne10 | exact hne01.symm) (.bool z1) (.slice A1 n1 c1) (.bool false) (.slice G1 m1 d1)
                    refine wp_store_qd PQ _ _ rfl z2 false A2 G2 n2 c2 m2 d2 rfl rfl ?_
                    have BB2 := below_put4 (below_put4 BB.out hg0 (.bool z1) (.slice A1 n1 c1) (.bool false) (.slice G1 m1 d1)) hg1 (.bool z2) (.slice A2 n2 c2) (.bool false) (.slice G2 m2 d2)
                    refine hK.out _ _ (HKS.out _ BB2) (fun hHeld => ?_)
                    clear hK K
                    try simp only [Act.put]
                    refine wpAnyH_done (by decide +kernel) ?_ _
                    refine NoPanic.normal ?_
                    as_aux_lemma =>
                    go_wp2_with fail
                    go_meet
                    with_reducible exact xfin5 BB.out X1 X2 P0 P1 hg0 hg1 (by first | exact hne01 | exact hne10.symm)
              · clear hHeld
                go_simp
                have BB2 := sbal BB.out (.cells #[.bool false, .slice none 0 0, .bool false, .slice none 0 0] 31)
                refine hK.out _ _ (HKS.out _ BB2) (fun hHeld => ?_)
                clear hK K
                try simp only [Act.put, List.setIfInBounds_toArray, List.set_cons_zero, List.set_cons_succ]
                have hne01 := Nat.ne_of_lt P0.lt
                replace P0 := P0.alloc (.cells #[.bool false, .slice none 0 0, .bool false, .slice none 0 0] 31)
                have P1 := Qd.new y17 _ rfl (.bool false) (.slice none 0 0) (.bool false) (.slice none 0 0) 31
                have hg1 : V501.heap.size ≤ y17.heap.size := BB.out.size
                replace BB := Lib.hid BB2
                clear BB2
                generalize y17.heap.size = g1 at *
                generalize hy : y17.alloc (.cells #[.bool false, .slice none 0 0, .bool false, .slice none 0 0] 31) = y23 at *
                clear hy
                refine wpAnyH_ready (rs := [2]) (by decide +kernel) (by simp) ?_
                refine AllReadyH.cons rfl (fun K hK => ?_) (AllReadyH.nil)
                · clear hHeld
                  go_simp
                  refine (Q5.out _).mono ?_
                  rintro e y24 ⟨p1, q1, z1, A1, n1, c1, G1, m1, d1, hz1, hf1, rfl, hL1, hM1, hh⟩
                  go_wp2_with fail
                  have BB2 := sbtr BB.out hh
                  refine hK.out _ _ (HKS.out _ BB2) (fun hHeld => ?_)
                  clear hK K
                  try simp only [Act.put, List.setIfInBounds_toArray, List.set_cons_zero, List.set_cons_succ]
                  replace P0 := P0.via hh
                  replace P1 := P1.via hh
                  have X1 : Fd y24 2 rl 1099511627776 z1 A1 n1 c1 G1 m1 d1 := ⟨p1, q1, hz1, hf1, hL1, hM1⟩
                  replace BB := Lib.hid BB2
                  clear BB2 hh
                  refine wpAnyH_ready (rs := [5]) (by decide +kernel) (by simp) ?_
                  refine AllReadyH.cons rfl (fun K hK => ?_) (AllReadyH.nil)
                  · clear hHeld
                    go_simp
                    refine (Q6.out _).mono ?_
                    rintro e y25 ⟨p2, q2, z2, A2, n2, c2, G2, m2, d2, hz2, hf2, rfl, hL2, hM2, hh⟩
                    go_wp2_with fail
                    have BB2 := sbtr BB.out hh
                    refine hK.out _ _ (HKS.out _ BB2) (fun hHeld => ?_)
                    clear hK K
                    try simp only [Act.put, List.setIfInBounds_toArray, List.set_cons_zero, List.set_cons_succ]
                    replace X1 := X1.via hh
                    replace P0 := P0.via hh
                    replace P1 := P1.via hh
                    have X2 : Fd y25 2 rh 1099511627776 z2 A2 n2 c2 G2 m2 d2 := ⟨p2, q2, hz2, hf2, hL2, hM2⟩
                    replace BB := Lib.hid BB2
                    clear BB2 hh
                    refine wpAnyH_ready (rs := [8]) (by decide +kernel) (by simp) ?_
                    refine AllReadyH.cons rfl (fun K hK => ?_) AllReadyH.nil
                    clear hHeld
                    rw [if_pos (by rfl)]
                    refine wp_store_qd P0 _ _ rfl z1 false A1 G1 n1 c1 m1 d1 rfl rfl ?_
                    have BB2 := below_put4 BB.out hg0 (.bool z1) (.slice A1 n1 c1) (.bool false) (.slice G1 m1 d1)
                    refine hK.out _ _ (HKS.out _ BB2) (fun hHeld => ?_)
                    clear hK K
                    try simp only [Act.put, List.setIfInBounds_toArray]
                    refine wpAnyH_ready (rs := [9]) (by decide +kernel) (by simp) ?_
                    refine AllReadyH.cons rfl (fun K hK => ?_) AllReadyH.nil
                    clear hHeld
                    rw [if_pos (by rfl)]
                    clear BB2
                    have PQ := P1.far (h := g0) (by first | exact hne10 | exact hne01.symm) (.bool z1) (.slice A1 n1 c1) (.bool false) (.slice G1 m1 d1)
                    refine wp_store_qd PQ _ _ rfl z2 false A2 G2 n2 c2 m2 d2 rfl rfl ?_
                    have BB2 := below_put4 (below_put4 BB.out hg0 (.bool z1) (.slice A1 n1 c1) (.bool false) (.slice G1 m1 d1)) hg1 (.bool z2) (.slice A2 n2 c2) (.bool false) (.slice G2 m2 d2)
                    refine hK.out _ _ (HKS.out _ BB2) (fun hHeld => ?_)
                    clear hK K
                    try simp only [Act.put]
                    refine wpAnyH_done (by decide +kernel) ?_ _
                    refine NoPanic.normal ?_
                    as_aux_lemma =>
                    go_wp2_with fail
                    go_meet
                    with_reducible exact xfin5 BB.out X1 X2 P0 P1 hg0 hg1 (by first | exact hne01 | exact hne10.symm)
            · clear hHeld
              go_simp
              have BB2 := sbal BB.out (.cells #[.bool false, .slice none 0 0, .bool false, .slice none 0 0] 31)
              refine hK.out _ _ (HKS.out _ BB2) (fun hHeld => ?_)
              clear hK K
              try simp only [Act.put, List.setIfInBounds_toArray, List.set_cons_zero, List.set_cons_succ]
              have P1 := Qd.new y0 _ rfl (.bool false) (.slice none 0 0) (.bool false) (.slice none 0 0) 31
              have hg1 : V501.heap.size ≤ y0.heap.size := BB.out.size
              replace BB := Lib.hid BB2
              clear BB2
              generalize y0.heap.size = g1 at *
              generalize hy : y0.alloc (.cells #[.bool false, .slice none 0 0, .bool false, .slice none 0 0] 31) = y26 at *
              clear hy
              refine wpAnyH_ready (rs := [2, 6]) (by decide +kernel) (by simp) ?_
              refine AllReadyH.cons rfl (fun K hK => ?_) (AllReadyH.cons rfl (fun K hK => ?_) (AllReadyH.nil))
              · clear hHeld
                go_simp
                refine (Q5.out _).mono ?_
                rintro e y27 ⟨p1, q1, z1, A1, n1, c1, G1, m1, d1, hz1, hf1, rfl, hL1, hM1, hh⟩
                go_wp2_with fail
                have BB2 := sbtr BB.out hh
                refine hK.out _ _ (HKS.out _ BB2) (fun hHeld => ?_)
                clear hK K
                try simp only [Act.put, List.setIfInBounds_toArray, List.set_cons_zero, List.set_cons_succ]
                replace P1 := P1.via hh
                have X1 : Fd y27 2 rl 1099511627776 z1 A1 n1 c1 G1 m1 d1 := ⟨p1, q1, hz1, hf1, hL1, hM1⟩
                replace BB := Lib.hid BB2
                clear BB2 hh
                refine wpAnyH_ready (rs := [5, 6]) (by decide +kernel) (by simp) ?_
                refine AllReadyH.cons rfl (fun K hK => ?_) (AllReadyH.cons rfl (fun K hK => ?_) (AllReadyH.nil))
                · clear hHeld
                  go_simp
                  refine (Q6.out _).mono ?_
                  rintro e y28 ⟨p2, q2, z2, A2, n2, c2, G2, m2, d2, hz2, hf2, rfl, hL2, hM2, hh⟩
                  go_wp2_with fail
                  have BB2 := sbtr BB.out hh
                  refine hK.out _ _ (HKS.out _ BB2) (fun hHeld => ?_)
                  clear hK K
                  try simp only [Act.put, List.setIfInBounds_toArray, List.set_cons_zero, List.set_cons_succ]
                  replace X1 := X1.via hh
                  replace P1 := P1.via hh
                  have X2 : Fd y28 2 rh 1099511627776 z2 A2 n2 c2 G2 m2 d2 := ⟨p2, q2, hz2, hf2, hL2, hM2⟩
                  replace BB := Lib.hid BB2
                  clear BB2 hh
                  refine wpAnyH_ready (rs := [6]) (by decide +kernel) (by simp) ?_
                  refine AllReadyH.cons rfl (fun K hK => ?_) (AllReadyH.nil)
                  · clear hHeld
                    go_simp
                    have BB2 := sbal BB.out (.cells #[.bool false, .slice none 0 0, .bool false, .slice none 0 0] 31)
                    refine hK.out _ _ (HKS.out _ BB2) (fun hHeld => ?_)
                    clear hK K
                    try simp only [Act.put, List.setIfInBounds_toArray, List.set_cons_zero, List.set_cons_succ]
                    replace X1 := X1.alloc (.cells #[.bool false, .slice none 0 0, .bool false, .slice none 0 0] 31)
                    replace X2 := X2.alloc (.cells #[.bool false, .slice none 0 0, .bool false, .slice none 0 0] 31)
                    have hne10 := Nat.ne_of_lt P1.lt
                    replace P1 := P1.alloc (.cells #[.bool false, .slice none 0 0, .bool false, .slice none 0 0] 31)
                    have P0 := Qd.new y28 _ rfl (.bool false) (.slice none 0 0) (.bool false) (.slice none 0 0) 31
                    have hg0 : V501.heap.size ≤ y28.heap.size := BB.out.size
                    replace BB := Lib.hid BB2
                    clear BB2
                    generalize y28.heap.size = g0 at *
                    generalize hy : y28.alloc (.cells #[.bool false, .slice none 0 0, .bool false, .slice none 0 0] 31) = y29 at *
                    clear hy
                    refine wpAnyH_ready (rs := [8]) (by decide +kernel) (by simp) ?_
                    refine AllReadyH.cons rfl (fun K hK => ?_) AllReadyH.nil
                    clear hHeld
                    rw [if_pos (by rfl)]
                    refine wp_store_qd P0 _ _ rfl z1 false A1 G1 n1 c1 m1 d1 rfl rfl ?_
                    have BB2 := below_put4 BB.out hg0 (.bool z1) (.slice A1 n1 c1) (.bool false) (.slice G1 m1 d1)
                    refine hK.out _ _ (HKS.out _ BB2) (fun hHeld => ?_)
                    clear hK K
                    try simp only [Act.put, List.setIfInBounds_toArray]
                    refine wpAnyH_ready (rs := [9]) (by decide +kernel) (by simp) ?_
                    refine AllReadyH.cons rfl (fun K hK => ?_) AllReadyH.nil
                    clear hHeld
                    rw [if_pos (by rfl)]
                    clear BB2
                    have PQ := P1.far (h := g0) (by first | exact hne10 | exact hne01.symm) (.bool z1) (.slice A1 n1 c1) (.bool false) (.slice G1 m1 d1)
                    refine wp_store_qd PQ _ _ rfl z2 false A2 G2 n2 c2 m2 d2 rfl rfl ?_
                    have BB2 := below_put4 (below_put4 BB.out hg0 (.bool z1) (.slice A1 n1 c1) (.bool false) (.slice G1 m1 d1)) hg1 (.bool z2) (.slice A2 n2 c2) (.bool false) (.slice G2 m2 d2)
                    refine hK.out _ _ (HKS.out _ BB2) (fun hHeld => ?_)
                    clear hK K
                    try simp only [Act.put]
                    refine wpAnyH_done (by decide +kernel) ?_ _
                    refine NoPanic.normal ?_
                    as_aux_lemma =>
                    go_wp2_with fail
                    go_meet
                    with_reducible exact xfin5 BB.out X1 X2 P0 P1 hg0 hg1 (by first | exact hne01 | exact hne10.symm)
                · clear hHeld
                  go_simp
                  have BB2 := sbal BB.out (.cells #[.bool false, .slice none 0 0, .bool false, .slice none 0 0] 31)
                  refine hK.out _ _ (HKS.out _ BB2) (fun hHeld => ?_)
                  clear hK K
                  try simp only [Act.put, List.setIfInBounds_toArray, List.set_cons_zero, List.set_cons_succ]
                  replace X1 := X1.alloc (.cells #[.bool false, .slice none 0 0, .bool false, .slice none 0 0] 31)
                  have hne10 := Nat.ne_of_lt P1.lt
                  replace P1 := P1.alloc (.cells #[.bool false, .slice none 0 0, .bool false, .slice none 0 0] 31)
                  have P0 := Qd.new y27 _ rfl (.bool false) (.slice none 0 0) (.bool false) (.slice none 0 0) 31
                  have hg0 : V501.heap.size ≤ y27.heap.size := BB.out.size
                  replace BB := Lib.hid BB2
                  clear BB2
                  generalize y27.heap.size = g0 at *
                  generalize hy : y27.alloc (.cells #[.bool false, .slice none 0 0, .bool false, .slice none 0 0] 31) = y30 at *
                  clear hy
                  refine wpAnyH_ready (rs := [5]) (by decide +kernel) (by simp) ?_
                  refine AllReadyH.cons rfl (fun K hK => ?_) (AllReadyH.nil)
                  · clear hHeld
                    go_simp
                    refine (Q6.out _).mono ?_
                    rintro e y31 ⟨p2, q2, z2, A2, n2, c2, G2, m2, d2, hz2, hf2, rfl, hL2, hM2, hh⟩
                    go_wp2_with fail
                    have BB2 := sbtr BB.out hh
                    refine hK.out _ _ (HKS.out _ BB2) (fun hHeld => ?_)
                    clear hK K
                    try simp only [Act.put, List.setIfInBounds_toArray, List.set_cons_zero, List.set_cons_succ]
                    replace X1 := X1.via hh
                    replace P1 := P1.via hh
                    replace P0 := P0.via hh
                    have X2 : Fd y31 2 rh 1099511627776 z2 A2 n2 c2 G2 m2 d2 := ⟨p2, q2, hz2, hf2, hL2, hM2⟩
                    replace BB := Lib.hid BB2
                    clear BB2 hh
                    refine wpAnyH_ready (rs := [8]) (by decide +kernel) (by simp) ?_
                    refine AllReadyH.cons rfl (fun K hK => ?_) AllReadyH.nil
                    clear hHeld
                    rw [if_pos (by rfl)]
                    refine wp_store_qd P0 _ _ rfl z1 false A1 G1 n1 c1 m1 d1 rfl rfl ?_
                    have BB2 := below_put4 BB.out hg0 (.bool z1) (.slice A1 n1 c1) (.bool false) (.slice G1 m1 d1)
                    refine hK.out _ _ (HKS.out _ BB2) (fun hHeld => ?_)
                    clear hK K
                    try simp only [Act.put, List.setIfInBounds_toArray]
                    refine wpAnyH_ready (rs := [9]) (by decide +kernel) (by simp) ?_
                    refine AllReadyH.cons rfl (fun K hK => ?_) AllReadyH.nil
                    clear hHeld
                    rw [if_pos (by rfl)]
                    clear BB2
                    have PQ := P1.far (h := g0) (by first | exact hne10 | exact hne01.symm) (.bool z1) (.slice A1 n1 c1) (.bool false) (.slice G1 m1 d1)
                    refine wp_store_qd PQ _ _ rfl z2 false A2 G2 n2 c2 m2 d2 rfl rfl ?_
                    have BB2 := below_put4 (below_put4 BB.out hg0 (.bool z1) (.slice A1 n1 c1) (.bool false) (.slice G1 m1 d1)) hg1 (.bool z2) (.slice A2 n2 c2) (.bool false) (.slice G2 m2 d2)
                    refine hK.out _ _ (HKS.out _ BB2) (fun hHeld => ?_)
                    clear hK K
                    try simp only [Act.put]
                    refine wpAnyH_done (by decide +kernel) ?_ _
                    refine NoPanic.normal ?_
                    as_aux_lemma =>
                    go_wp2_with fail
                    go_meet
                    with_reducible exact xfin5 BB.out X1 X2 P0 P1 hg0 hg1 (by first | exact hne01 | exact hne10.symm)
              · clear hHeld
                go_simp
                have BB2 := sbal BB.out (.cells #[.bool false, .slice none 0 0, .bool false, .slice none 0 0] 31)
                refine hK.out _ _ (HKS.out _ BB2) (fun hHeld => ?_)
                clear hK K
                try simp only [Act.put, List.setIfInBounds_toArray, List.set_cons_zero, List.set_cons_succ]
                have hne10 := Nat.ne_of_lt P1.lt
                replace P1 := P1.alloc (.cells #[.bool false, .slice none 0 0, .bool false, .slice none 0 0] 31)
                have P0 := Qd.new y26 _ rfl (.bool false) (.slice none 0 0) (.bool false) (.slice none 0 0) 31
                have hg0 : V501.heap.size ≤ y26.heap.size := BB.out.size
                replace BB := Lib.hid BB2
                clear BB2
                generalize y26.heap.size = g0 at *
                generalize hy : y26.alloc (.cells #[.bool false, .slice none 0 0, .bool false, .slice none 0 0] 31) = y32 at *
                clear hy
                refine wpAnyH_ready (rs := [2]) (by decide +kernel) (by simp) ?_
                refine AllReadyH.cons rfl (fun K hK => ?_) (AllReadyH.nil)
                · clear hHeld
                  go_simp
                  refine (Q5.out _).mono ?_
                  rintro e y33 ⟨p1, q1, z1, A1, n1, c1, G1, m1, d1, hz1, hf1, rfl, hL1, hM1, hh⟩
                  go_wp2_with fail
                  have BB2 := sbtr BB.out hh
                  refine hK.out _ _ (HKS.out _ BB2) (fun hHeld => ?_)
                  clear hK K
                  try simp only [Act.put, List.setIfInBounds_toArray, List.set_cons_zero, List.set_cons_succ]
                  replace P1 := P1.via hh
                  replace P0 := P0.via hh
                  have X1 : Fd y33 2 rl 1099511627776 z1 A1 n1 c1 G1 m1 d1 := ⟨p1, q1, hz1, hf1, hL1, hM1⟩
                  replace BB := Lib.hid BB2
                  clear BB2 hh
                  refine wpAnyH_ready (rs := [5]) (by decide +kernel) (by simp) ?_
                  refine AllReadyH.cons rfl (fun K hK => ?_) (AllReadyH.nil)
                  · clear hHeld
                    go_simp
                    refine (Q6.out _).mono ?_
                    rintro e y34 ⟨p2, q2, z2, A2, n2, c2, G2, m2, d2, hz2, hf2, rfl, hL2, hM2, hh⟩
                    go_wp2_with fail
                    have BB2 := sbtr BB.out hh
                    refine hK.out _ _ (HKS.out _ BB2) (fun hHeld => ?_)
                    clear hK K
                    try simp only [Act.put, List.setIfInBounds_toArray, List.set_cons_zero, List.set_cons_succ]
                    replace X1 := X1.via hh
                    replace P1 := P1.via hh
                    replace P0 := P0.via hh
                    have X2 : Fd y34 2 rh 1099511627776 z2 A2 n2 c2 G2 m2 d2 := ⟨p2, q2, hz2, hf2, hL2, hM2⟩
                    replace BB := Lib.hid BB2
                    clear BB2 hh
                    refine wpAnyH_ready (rs := [8]) (by decide +kernel) (by simp) ?_
                    refine AllReadyH.cons rfl (fun K hK => ?_) AllReadyH.nil
                    clear hHeld
                    rw [if_pos (by rfl)]
                    refine wp_store_qd P0 _ _ rfl z1 false A1 G1 n1 c1 m1 d1 rfl rfl ?_
                    have BB2 := below_put4 BB.out hg0 (.bool z1) (.slice A1 n1 c1) (.bool false) (.slice G1 m1 d1)
                    refine hK.out _ _ (HKS.out _ BB2) (fun hHeld => ?_)
                    clear hK K
                    try simp only [Act.put, List.setIfInBounds_toArray]
                    refine wpAnyH_ready (rs := [9]) (by decide +kernel) (by simp) ?_
                    refine AllReadyH.cons rfl (fun K hK => ?_) AllReadyH.nil
                    clear hHeld
                    rw [if_pos (by rfl)]
                    clear BB2
                    have PQ := P1.far (h := g0) (by first | exact hne10 | exact hne01.symm) (.bool z1) (.slice A1 n1 c1) (.bool false) (.slice G1 m1 d1)
                    refine wp_store_qd PQ _ _ rfl z2 false A2 G2 n2 c2 m2 d2 rfl rfl ?_
                    have BB2 := below_put4 (below_put4 BB.out hg0 (.bool z1) (.slice A1 n1 c1) (.bool false) (.slice G1 m1 d1)) hg1 (.bool z2) (.slice A2 n2 c2) (.bool false) (.slice G2 m2 d2)
                    refine hK.out _ _ (HKS.out _ BB2) (fun hHeld => ?_)
                    clear hK K
                    try simp only [Act.put]
                    refine wpAnyH_done (by decide +kernel) ?_ _
                    refine NoPanic.normal ?_
                    as_aux_lemma =>
                    go_wp2_with fail
                    go_meet
                    with_reducible exact xfin5 BB.out X1 X2 P0 P1 hg0 hg1 (by first | exact hne01 | exact hne10.symm)
          case rest =>
            as_aux_lemma =>
            obtain ⟨gL, gH, rfl, rfl, hX, hY, hne, hgx, hgy, hb⟩ := hcut
            clear HKS Q5 Q6 CS hne hgx hgy
            replace XM := Lib.hid (XM.out.via hb)
            replace X := Lib.hid (X.out.via hb)
            replace BX := Lib.hid (sbtr BX.out hb)
            clear hb
            have L := Lib.hid hX
            have H := Lib.hid hY
            clear hX hY
            generalize wc = V9 at *
            have ⟨pL, qL, zL, AaL, nL, cL, BbL, mL, dL, hzL, hfL, hqL, haL, hbL⟩ := L.out
            have ⟨rL0, rL1, rL2, rL3, rL4, rL5, rL6, rL7, rLl⟩ := hqL
            go_wp2_with fail
            clear rL0 rL1 rL2 rL3 rL4 rL5 rL6 rL7 rLl hqL
            refine (rtimes_f _ zL zL AaL BbL AaL BbL nL mL nL mL cL dL cL dL 2 pL qL pL qL (rl) (1099511627776) (rl) (1099511627776) hzL hzL haL hbL haL hbL hfL hfL (by omega)).mono ?_
            rintro e w601 ⟨pC, qC, zC, AaC, nC, cC, BbC, mC, dC, hzC, hfC, rfl, hL, hM, hb⟩
            clear hzL hfL haL hbL
            replace XM := Lib.hid (XM.out.via hb)
            replace X := Lib.hid (X.out.via hb)
            replace L := Lib.hid (L.out.via hb)
            replace H := Lib.hid (H.out.via hb)
            replace BX := Lib.hid (sbtr BX.out hb)
            clear hb
            go_upto_region 25 with (fail)
            replace XM := Lib.hid (XM.out.alloc (.cells #[.bool zC, .slice AaC nC cC, .bool false, .slice BbC mC dC] 31))
            replace X := Lib.hid (X.out.alloc (.cells #[.bool zC, .slice AaC nC cC, .bool false, .slice BbC mC dC] 31))
            replace L := Lib.hid (L.out.alloc (.cells #[.bool zC, .slice AaC nC cC, .bool false, .slice BbC mC dC] 31))
            replace H := Lib.hid (H.out.alloc (.cells #[.bool zC, .slice AaC nC cC, .bool false, .slice BbC mC dC] 31))
            have C := Lib.hid (Fx.new 31 hzC hfC hL hM)
            replace BX := Lib.hid (sbal BX.out (.cells #[.bool zC, .slice AaC nC cC, .bool false, .slice BbC mC dC] 31))
            generalize w601.heap.size = gC at *
            generalize w601.alloc (.cells #[.bool zC, .slice AaC nC cC, .bool false, .slice BbC mC dC] 31) = V601 at *
            clear hzC hfC hL hM
            clear L
            have ⟨pH, qH, zH, AaH, nH, cH, BbH, mH, dH, hzH, hfH, hqH, haH, hbH⟩ := H.out
            have ⟨rH0, rH1, rH2, rH3, rH4, rH5, rH6, rH7, rHl⟩ := hqH
            go_wp2_with fail
            clear rH0 rH1 rH2 rH3 rH4 rH5 rH6 rH7 rHl hqH
            refine (rtimes_f _ zH zH AaH BbH AaH BbH nH mH nH mH cH dH cH dH 2 pH qH pH qH (rh) (1099511627776) (rh) (1099511627776) hzH hzH haH hbH haH hbH hfH hfH (by omega)).mono ?_
            rintro e w602 ⟨pO, qO, zO, AaO, nO, cO, BbO, mO, dO, hzO, hfO, rfl, hL, hM, hb⟩
            clear hzH hfH haH hbH
            replace XM := Lib.hid (XM.out.via hb)
            replace X := Lib.hid (X.out.via hb)
            replace H := Lib.hid (H.out.via hb)
            replace C := Lib.hid (C.out.via hb)
            replace BX := Lib.hid (sbtr BX.out hb)
            clear hb
            go_upto_region 26 with (fail)
            replace XM := Lib.hid (XM.out.alloc (.cells #[.bool zO, .slice AaO nO cO, .bool false, .slice BbO mO dO] 31))
            replace X := Lib.hid (X.out.alloc (.cells #[.bool zO, .slice AaO nO cO, .bool false, .slice BbO mO dO] 31))
            replace H := Lib.hid (H.out.alloc (.cells #[.bool zO, .slice AaO nO cO, .bool false, .slice BbO mO dO] 31))
            replace C := Lib.hid (C.out.alloc (.cells #[.bool zO, .slice AaO nO cO, .bool false, .slice BbO mO dO] 31))
            have O := Lib.hid (Fx.new 31 hzO hfO hL hM)
            replace BX := Lib.hid (sbal BX.out (.cells #[.bool zO, .slice AaO nO cO, .bool false, .slice BbO mO dO] 31))
            generalize w602.heap.size = gO at *
            generalize w602.alloc (.cells #[.bool zO, .slice AaO nO cO, .bool false, .slice BbO mO dO] 31) = V602 at *
            clear hzO hfO hL hM
            clear H
            have ⟨pC, qC, zC, AaC, nC, cC, BbC, mC, dC, hzC, hfC, hqC, haC, hbC⟩ := C.out
            have ⟨rC0, rC1, rC2, rC3, rC4, rC5, rC6, rC7, rCl⟩ := hqC
            have ⟨pX, qX, zX, AaX, nX, cX, BbX, mX, dX, hzX, hfX, hqX, haX, hbX⟩ := X.out
            have ⟨rX0, rX1, rX2, rX3, rX4, rX5, rX6, rX7, rXl⟩ := hqX
            go_wp2_with fail
            clear rC0 rC1 rC2 rC3 rC4 rC5 rC6 rC7 rCl hqC rX0 rX1 rX2 rX3 rX4 rX5 rX6 rX7 rXl hqX
            refine (rcmp_f _ zC zX AaC BbC AaX BbX nC mC nX mX cC dC cX dX 4 pC qC pX qX (rl * rl) (1099511627776 * 1099511627776) (tx) (1099511627776) hzC hzX haC hbC haX hbX (hfC.mono (by omega)) (hfX.mono (by omega)) (by omega) (by decide) (by decide)).mono ?_
            rintro e w603 ⟨j1, rfl, hj1, _, hb⟩
            clear hzC hfC haC hbC
            clear hzX hfX haX hbX
            replace XM := Lib.hid (XM.out.via hb)
            replace X := Lib.hid (X.out.via hb)
            replace C := Lib.hid (C.out.via hb)
            replace O := Lib.hid (O.out.via hb)
            replace BX := Lib.hid (sbtr BX.out hb)
            clear hb
            have Hj1 := Lib.hid hj1
            clear hj1
            as_aux_lemma =>
            have ⟨pX, qX, zX, AaX, nX, cX, BbX, mX, dX, hzX, hfX, hqX, haX, hbX⟩ := X.out
            have ⟨rX0, rX1, rX2, rX3, rX4, rX5, rX6, rX7, rXl⟩ := hqX
            have ⟨pO, qO, zO, AaO, nO, cO, BbO, mO, dO, hzO, hfO, hqO, haO, hbO⟩ := O.out
            have ⟨rO0, rO1, rO2, rO3, rO4, rO5, rO6, rO7, rOl⟩ := hqO
            go_wp2_with fail
            clear rX0 rX1 rX2 rX3 rX4 rX5 rX6 rX7 rXl hqX rO0 rO1 rO2 rO3 rO4 rO5 rO6 rO7 rOl hqO
            refine (rcmp_f _ zX zO AaX BbX AaO BbO nX mX nO mO cX dX cO dO 4 pX qX pO qO (tx) (1099511627776) (rh * rh) (1099511627776 * 1099511627776) hzX hzO haX hbX haO hbO (hfX.mono (by omega)) (hfO.mono (by omega)) (by omega) (by decide) (by decide)).mono ?_
            rintro e w604 ⟨j2, rfl, hj2, _, hb⟩
            clear hzX hfX haX hbX
            clear hzO hfO haO hbO
            replace XM := Lib.hid (XM.out.via hb)
            replace X := Lib.hid (X.out.via hb)
            replace C := Lib.hid (C.out.via hb)
            replace O := Lib.hid (O.out.via hb)
            replace BX := Lib.hid (sbtr BX.out hb)
            clear hb
            have Hj2 := Lib.hid hj2
            clear hj2
            obtain ⟨e0, e1, e2, e3, e4, e5⟩ := HR.out
            have hj1 : j1 ≤ 0 := Hj1.out.2 (by omega)
            have hj2 : j2 ≤ 0 := Hj2.out.2 (by omega)
            have ⟨m0, m1, _, _, _⟩ := XM.out
            clear Hj1 Hj2 HR e1 e2 e3 e4 e5
            go_wp2
            go_ret
            exact ⟨rfl, BX.out⟩
theorem holds_any (w : World) (al ah bl bh k n : Int) (hk0 : 0 ≤ k) (hk1 : k ≤ 18446744073709551615) (hn0 : 0 ≤ n) (hn1 : n ≤ 18446744073709551615) : Calls Tryz.prog 3 #[iv al ah, iv bl bh, .int .u64 k, .int .u64 n] w (RB1 w true) := by
  rcases ivC_cases al ah with ⟨h1, x1, x2, x3⟩ | ⟨h1, _⟩
  · rcases ivC_cases bl bh with ⟨h2, y1, y2, y3⟩ | ⟨h2, _⟩
    · exact holds_main w al ah bl bh k n hk0 hk1 hn0 hn1 h1 h2 x1 x2 x3 y1 y2 y3
    · exact holds_bad2 w al ah bl bh k n h1 h2
  · exact holds_bad1 w al ah bl bh k n h1
end Go.Proofs.YtglgfjknhplajaaGreatDoor

namespace Go.Proofs.YtglgfjknhplajaaGreatDoor
open Go.ChangeShapes Go.WideShapes Go.ChangeAt Go.RowKit

theorem own : ownKnob Tryz.prog.godebug = none := by kernel_rfl
section
variable {H : Type} {enc : TypeId × Value → H} {P : Program} {w : World} {base : Nat} {spare : TypeId → Bool} {held : Bool}
theorem trodAll_four {t t' t'' t3 : TypeId} {args : Array Value} {ds : List (DataW H)} {ps : List MemPlace} (h : DataW.TrodAll enc P w base spare held [t, t', t'', t3] args.toList ds ps) :
    ∃ v v' v'' v3 d d' d'' d3 p p' p'' p3, args = #[v, v', v'', v3] ∧ ds = [d, d', d'', d3] ∧ ps = p ++ p' ++ p'' ++ p3 ∧ DataW.Trod enc P w base spare held t v d p ∧ DataW.Trod enc P w base spare held t' v' d' p' ∧ DataW.Trod enc P w base spare held t'' v'' d'' p'' ∧ DataW.Trod enc P w base spare held t3 v3 d3 p3 := by
  obtain ⟨v, vs, d, ds', p, q, hargs, rfl, rfl, hd, hrest⟩ := trodAll_cons h
  obtain ⟨v', vs', d', ds'', p', q', rfl, rfl, rfl, hd', hrest'⟩ := trodAll_cons hrest
  obtain ⟨v'', vs'', d'', dsc, p'', q'', rfl, rfl, rfl, hd'', hrest''⟩ := trodAll_cons hrest'
  obtain ⟨v3, vs3, d3, ds3, p3, q3, rfl, rfl, rfl, hd3, hrest3⟩ := trodAll_cons hrest''
  obtain ⟨rfl, rfl, rfl⟩ := trodAll_nil hrest3
  exact ⟨v, v', v'', v3, d, d', d'', d3, p, p', p'', p3, by cases args; simp_all, rfl, by simp, hd, hd', hd'', hd3⟩
end
/-- The one table that this law reads. -/
def laid1 : List (String × DataW Unit) := [("math/bits.deBruijn32tab", Rows.laid_math_bits_deBruijn32tab)]
theorem door_met1 (os : Os) (args : Array Value) : laidMetH Tryz.prog laid1 ((World.doorLaid Tryz.prog 24 os).forCall (fun _ _ => 0) ⟨#[], args, []⟩).memory :=
  laidMetH_of_parts3 (fuel := 8) (laidMet_of_run' 8 (by kernel_rfl) (by kernel_rfl)) (by kernel_rfl) (by kernel_rfl)

set_option maxRecDepth 100000 in
theorem spanHolds_lifted (os : Os) (started : os.Started) (H : Type) (enc : TypeId × Value → H) :
    ReturnsInHanded {} Tryz.checked os 3 .any (fun w args => (Rows.spanHoldsSpec.pre enc Tryz.prog Tryz.f3 [] false w args ∧ laidMetH Tryz.prog laid1 w) ∧ sizedMet enc Tryz.prog Tryz.f3 (OpenSpec.ofChange Rows.spanHoldsSpec) false w args)
      (Rows.spanHoldsSpec.post enc Tryz.prog Tryz.f3 false true false false) := by
  refine returnsInHanded_of_change_and (C := Tryz.checked) (X := fun w _ => laidMetH Tryz.prog laid1 w) (fun _ _ _ hh h => h.of_heap hh) own started (by kernel_rfl) Tryz.func3
    (ChangeSpec.witness_shaped (enc := enc) (C := Tryz.checked) (os := os) (X := fun w _ => laidMetH Tryz.prog laid1 w) false (World.doorLaid Tryz.prog 24 os) #[.agg #[.int .i64 0, .int .i64 0], .agg #[.int .i64 0, .int .i64 0], .int .u64 0, .int .u64 0] 8 rfl (World.shaped_of_RefB (by kernel_rfl) (by kernel_rfl)) (by kernel_rfl) (by kernel_rfl) (by kernel_rfl) (door_met1 os _)) ?_
  intro W base args ds gs before hval0 hW _ _ hL _
  have hval : ∀ (j : Nat) t v, Tryz.f3.params[j]? = some t → args[j]? = some v → Value.okWide Tryz.prog W .any base t v := hval0
  have hW' := hW
  obtain ⟨p, q, hA0, hV, rfl, hfz, hnd⟩ := hW
  have hA : DataW.TrodAll enc Tryz.prog W 0 (fun _ => true) true Tryz.f3.params.toList args.toList ds p := hA0
  rw [Tryz.params3] at hA hval
  obtain ⟨v0, v1, v2, v3, d0, d1, d2, d3, p0, p1, p2, p3, rfl, rfl, rfl, h0, h1, h2, h3⟩ := trodAll_four hA
  obtain ⟨rfl, rfl⟩ := trodVars_none hV
  obtain ⟨i2, rfl, rfl, rfl, wi2⟩ := open_int Tryz.underlying24 (hval 2 24 v2 rfl rfl) h2
  obtain ⟨i3, rfl, rfl, rfl, wi3⟩ := open_int Tryz.underlying24 (hval 3 24 v3 rfl rfl) h3
  clear hA0 hval0
  try (simp only [List.append_nil] at hW')
  have hlt : ∀ x ∈ p0 ++ p1, x.block < W.heap.size := fun x hx => by simpa using hW'.lt x hx
  have hlt0 : ∀ x ∈ p0, x.block < W.heap.size := fun x hx => hlt x (List.mem_append_left _ hx)
  have hlt1 : ∀ x ∈ p1, x.block < W.heap.size := fun x hx => hlt x (List.mem_append_right _ hx)
  obtain ⟨al, ah, rfl, _, _, _, _⟩ := open_iv (hval 0 23 v0 rfl rfl) h0
  obtain ⟨bl, bh, rfl, _, _, _, _⟩ := open_iv (hval 1 23 v1 rfl rfl) h1
  have hk : ∀ z : Int, (Lit.int .u64 z).wf = true → 0 ≤ z ∧ z ≤ 18446744073709551615 := by
    intro z wz
    have e1 : IntKind.u64.min = 0 := rfl
    have e2 : IntKind.u64.max = 18446744073709551615 := rfl
    simp only [Lit.wf, Bool.and_eq_true, decide_eq_true_eq] at wz
    omega
  refine (holds_any W al ah bl bh i2 i3 (hk _ wi2).1 (hk _ wi2).2 (hk _ wi3).1 (hk _ wi3).2).mono fun e W' ⟨he, hb⟩ => ?_
  subst he
  exact ⟨_, rfl, _, _, _, [], p0 ++ p1, [], hW', trodAll_mk1 (shut_bool Tryz.underlying4 _),
    (by have e := trodAll_mk4 (Below.trod laidOutS (by kernel_rfl) (of_decide_eq_true (by kernel_rfl)) h0 hb hlt0) (Below.trod laidOutS (by kernel_rfl) (of_decide_eq_true (by kernel_rfl)) h1 hb hlt1) (shut_int Tryz.underlying24 wi2) (shut_int Tryz.underlying24 wi3); (try (simp only [List.append_nil] at e)); (try (simp only [List.nil_append] at e)); exact e), rfl, hb.frame _, fun h => by cases h⟩

theorem spanHolds_row : Rows.SpanHoldsSaid :=
  OpenClaim.holds_of_wide 3 Tryz.f3 rfl rfl rfl rfl rfl rfl rfl ⟨rfl, rfl, rfl, rfl, rfl⟩ rfl rfl rfl rfl rfl (by kernel_rfl) Tryz.func3 (by kernel_rfl)
    (of_decide_eq_true (by kernel_rfl)) (by unfold Func.isWrapper; first | (rw [if_pos (by decide +kernel)]; kernel_rfl) | (rw [if_neg (by decide +kernel)]; exact ⟨rfl, rfl⟩))
    (fun os started H enc _ => spanHolds_lifted os started H enc)

theorem spanHolds_holds : Rows.SpanHoldsCardSaid :=
  Claim7.holds_tied_plain_at .later [] [.data] true (Rows.spanHoldsCard.stood.harness) false
    spanHolds_row (fun _ h => by cases h) (by kernel_rfl) (fun _ h => by cases h) spanHolds_row_tie rfl ⟨rfl, rfl⟩ (by kernel_rfl) rfl
    (fun f fn hf hfn => by
      obtain rfl : f = 3 := Option.some.inj ((show Tryz.prog.funcNamed "planisphere/planispherelaw03.SpanHolds" = some 3 by kernel_rfl).symm.trans hf) |>.symm
      obtain rfl : fn = Tryz.f3 := (Option.some.inj (Tryz.func3.symm.trans hfn)).symm
      exact ⟨by kernel_rfl, fun j t ht => by
        rw [Tryz.params3] at ht
        have hm : t ∈ [23, 23, 24, 24] := by simpa using Array.mem_of_getElem? ht
        have hall : ([23, 23, 24, 24].all fun u => !Tryz.prog.wantsStandIn u) = true := by kernel_rfl
        exact (show Tryz.prog.wantsStandIn t = false by simpa using List.all_eq_true.1 hall t hm)⟩)
    (by kernel_rfl)
end Go.Proofs.YtglgfjknhplajaaGreatDoor

