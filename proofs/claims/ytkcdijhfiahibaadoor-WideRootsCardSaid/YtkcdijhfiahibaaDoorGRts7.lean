
/-
  For any two numbers a and b and any shift k the law WideRoots returns true: where both are valid and of at most 60 limbs, the square of Sqrt of a's absolute value is not greater than it and that of the next number is, Shift is multiplication or floored division by a power of 2, and Gcd is a common divisor that stays where a is replaced by a + b; where not, the chapter's examples hold. Conditions: the library's tables of de Bruijn and of powers of ten hold what their initialisers lay (the card ties them to the program's text); no other condition.
-/
import Derived.Deep.RegionHeld3
import Derived.Test.YtkcdijhfiahibaaDoorTie
import Derived.Test.YtkcdijhfiahibaaDoorCards
import Derived.Test.YtkcdijhfiahibaaDoorGRts6
/- The law WideRoots at any two numbers and any shift: the walk. -/
namespace Go.Proofs.YtkcdijhfiahibaaDoor
open Go.RowKit

theorem gcd_shift (x y : Int) : Nat.gcd x.natAbs y.natAbs = Nat.gcd (x + y).natAbs y.natAbs := (Int.gcd_add_self_left y x).symm
theorem rt_sz {v r : Nat} (h : IsRt v r) : r ≤ v := by
  have := h.1
  rcases Nat.eq_zero_or_pos r with h0 | h0
  · omega
  · exact Nat.le_trans (Nat.le_mul_of_pos_right r h0) this
theorem cmpZ_le {x y : Int} (h : x ≤ y) : cmpZ x y ≤ 0 := by unfold cmpZ; split <;> (try split) <;> omega
theorem cmpZ_gt {x y : Int} (h : y < x) : cmpZ x y = 1 := by unfold cmpZ; rw [if_neg (by omega), if_neg (by omega)]

/-- A slot points to a box with a number. -/
def OneAt (w2 : World) (ng : Bool) (xs : List Nat) (s : Value) (wc : World) : Prop :=
  ∃ g A n c, s = .pointer (some ⟨g, 0, none⟩) ∧ Pr wc g (.bool ng) (.slice A n c) ∧ Lm wc wc.heap.size A n c xs ∧ Below w2.heap.size w2 wc
section
variable {w2 w4 : World} {ng : Bool} {n c : Nat} {xs : List Nat} {A : Option Addr} {t : TypeId}
theorem one_new (hB : Below w2.heap.size w2 w4) (L : Lm w4 w4.heap.size A n c xs) : OneAt w2 ng xs (.pointer (some ⟨w4.heap.size, 0, none⟩)) (w4.alloc (.cells #[.bool ng, .slice A n c] t)) :=
  ⟨_, A, n, c, rfl, Pr.new w4 _ rfl _ _ t, L.box _, hB.alloc hB.size _⟩
theorem one_set {g : Nat} (hB : Below w2.heap.size w2 w4) (L : Lm w4 w4.heap.size A n c xs) (P : Pr w4 g (.bool false) (.slice none 0 0)) (hg : w2.heap.size ≤ g) :
    OneAt w2 ng xs (.pointer (some ⟨g, 0, none⟩)) ((w4.setCell ⟨g, 0, none⟩ (.bool ng)).setCell ⟨g, 1, none⟩ (.slice A n c)) :=
  ⟨_, A, n, c, rfl, P.set _ _, L.setP P _ _, below_set2 hB hg _ _⟩
end
theorem SzOne {k : Nat} : Sz (k + 1) 1 := by show _ < _; exact Nat.one_lt_pow (by omega) (by omega)

set_option maxRecDepth 100000 in
set_option maxHeartbeats 1000000 in
theorem roots_long (w : World) (na nb : Bool) (A B : Option Addr) (n m ca cb : Nat) (xs ys : List Nat) (k : Int) (hA : Lm w w.heap.size A n ca xs) (hB : Lm w w.heap.size B m cb ys) (hD : TabD w) (hU : TabU w)
    (hl : ∀ W : World, Lm W W.heap.size A n ca xs → Lm W W.heap.size B m cb ys → Calls Tryd.prog 7 #[.int .i64 60, .agg #[.bool na, .slice A n ca], .agg #[.bool nb, .slice B m cb], .agg #[.bool nb, .slice B m cb]] W fun e w' => e = .returned (.bool true) ∧ Below W.heap.size W w') :
    Calls Tryd.prog 4 #[.agg #[.bool na, .slice A n ca], .agg #[.bool nb, .slice B m cb], .int .u8 k] w fun e w' => e = .returned (.bool true) ∧ Below w.heap.size w w' := by
  have LA := Lib.hid hA
  have LB := Lib.hid hB
  have TD := Lib.hid hD
  have TU := Lib.hid hU
  have HL := Lib.hid hl
  have HB : Hid (Below w.heap.size w w) := Below.refl _ _
  clear hA hB hD hU hl
  go_enter Tryd.func4, Tryd.ntmps4
  go_wp2_with fail
  refine (alive_any _ ((TD.out.box _).box _) ((TU.out.box _).box _)).mono ?_
  rintro e w1 ⟨rfl, hb1⟩
  have QLA := Lib.hid (((LA.out.box _).box _).via hb1)
  have QLB := Lib.hid (((LB.out.box _).box _).via hb1)
  have QTD := Lib.hid (((TD.out.box _).box _).via hb1)
  have QTU := Lib.hid (((TU.out.box _).box _).via hb1)
  have QHB := Lib.hid (HB.out.trans ((bbox (bbox hb1)).mono HB.out.size))
  have ⟨N0, N1⟩ := boxes2 hb1
  have PA := Lib.hid N0
  have PB := Lib.hid N1
  clear N0 N1
  clear LA LB TD TU HB
  have LA := QLA
  clear QLA
  have LB := QLB
  clear QLB
  have TD := QTD
  clear QTD
  have TU := QTU
  clear QTU
  have HB := QHB
  clear QHB
  clear hb1
  have ⟨c0, c1, _, _, _⟩ := PA.out
  have ⟨c2, c3, _, _, _⟩ := PB.out
  go_wp2_with fail
  refine (HL.out _ LA.out LB.out).mono ?_
  rintro e w2 ⟨rfl, hb2⟩
  have QLA := Lib.hid (LA.out.via hb2)
  have QLB := Lib.hid (LB.out.via hb2)
  have QPA := Lib.hid (PA.out.via hb2)
  have QPB := Lib.hid (PB.out.via hb2)
  have QTD := Lib.hid (TD.out.via hb2)
  have QTU := Lib.hid (TU.out.via hb2)
  have QHB := Lib.hid (HB.out.trans (hb2.mono HB.out.size))
  clear LA LB PA PB TD TU HB
  have LA := QLA
  clear QLA
  have LB := QLB
  clear QLB
  have PA := QPA
  clear QPA
  have PB := QPB
  clear QPB
  have TD := QTD
  clear QTD
  have TU := QTU
  clear QTU
  have HB := QHB
  clear QHB
  clear c0 c1 c2 c3
  clear hb2
  go_wp2
  go_ret
  exact ⟨rfl, HB.out⟩

theorem sz_gcd' {k : Nat} {x y : Int} (hx : Sz k x) (hy : Sz k y) : Sz k (Nat.gcd x.natAbs y.natAbs : Int) := by
  unfold Sz at *
  rw [Int.natAbs_natCast]
  rcases Nat.eq_zero_or_pos x.natAbs with h0 | h0
  · rw [h0, Nat.gcd_zero_left]; exact hy
  · exact Nat.lt_of_le_of_lt (Nat.gcd_le_left _ h0) hx
theorem sz_floor {k : Nat} {x p : Int} (hx : Sz k x) : Sz k (x / p) := by
  unfold Sz at *
  exact Nat.lt_of_le_of_lt (Int.natAbs_ediv_le_natAbs _ _) hx

set_option maxRecDepth 100000 in
set_option maxHeartbeats 4000000 in
theorem roots_main (w : World) (A B : Option Addr) (n m ca cb k : Nat) (x y : Int) (hA : Lm w w.heap.size A n ca (digs x.natAbs)) (hB : Lm w w.heap.size B m cb (digs y.natAbs)) (hD : TabD w) (hU : TabU w)
    (hx : Sz 60 x) (hy : Sz 60 y) (hk : k ≤ 255) :
    Calls Tryd.prog 4 #[.agg #[.bool (decide (x < 0)), .slice A n ca], .agg #[.bool (decide (y < 0)), .slice B m cb], .int .u8 (k : Int)] w fun e w' => e = .returned (.bool true) ∧ Below w.heap.size w w' := by
  have LA := Lib.hid hA
  have LB := Lib.hid hB
  have TD := Lib.hid hD
  have TU := Lib.hid hU
  have SX := Lib.hid hx
  have SY := Lib.hid hy
  have hn : n ≤ 60 := by rw [← hA.len]; exact hx.len
  have hm : m ≤ 60 := by rw [← hB.len]; exact hy.len
  have hac := hA.cap
  have hax := hA.max
  have hbc := hB.cap
  have hbx := hB.max
  have hk0 : (0 : Int) ≤ k := by omega
  have hk1 : (k : Int) ≤ 255 := by omega
  have HB : Hid (Below w.heap.size w w) := Below.refl _ _
  clear hA hB hD hU hx hy
  obtain ⟨nx, hnx⟩ : ∃ b, decide (x < 0) = b := ⟨_, rfl⟩
  obtain ⟨ny, hny⟩ : ∃ b, decide (y < 0) = b := ⟨_, rfl⟩
  have HX := Lib.hid hnx
  have HY := Lib.hid hny
  rw [hnx, hny]
  clear hnx hny
  go_enter Tryd.func4, Tryd.ntmps4
  go_wp2_with fail
  refine (alive_any _ ((TD.out.box _).box _) ((TU.out.box _).box _)).mono ?_
  rintro e w1 ⟨rfl, hb1⟩
  have QLA := Lib.hid (((LA.out.box _).box _).via hb1)
  have QLB := Lib.hid (((LB.out.box _).box _).via hb1)
  have QTD := Lib.hid (((TD.out.box _).box _).via hb1)
  have QTU := Lib.hid (((TU.out.box _).box _).via hb1)
  have QHB := Lib.hid (HB.out.trans ((bbox (bbox hb1)).mono HB.out.size))
  have ⟨N0, N1⟩ := boxes2 hb1
  have PA := Lib.hid N0
  have PB := Lib.hid N1
  clear N0 N1
  clear LA LB TD TU HB
  have LA := QLA
  clear QLA
  have LB := QLB
  clear QLB
  have TD := QTD
  clear QTD
  have TU := QTU
  clear QTU
  have HB := QHB
  clear QHB
  clear hb1
  have ⟨c0, c1, _, _, _⟩ := PA.out
  have ⟨c2, c3, _, _, _⟩ := PB.out
  go_wp2_with fail
  refine (long_no _ _ _ _ _ _ _ n m m _ _ _ _ _ _ 60 LA.out LB.out LB.out (by rw [← HX.out]; exact chk_z SX.out (by omega)) (by rw [← HY.out]; exact chk_z SY.out (by omega)) (by rw [← HY.out]; exact chk_z SY.out (by omega)) (by omega) (by omega) (by omega)).mono ?_
  rintro e w2 ⟨rfl, hb2⟩
  have QLA := Lib.hid (LA.out.via hb2)
  have QLB := Lib.hid (LB.out.via hb2)
  have QPA := Lib.hid (PA.out.via hb2)
  have QPB := Lib.hid (PB.out.via hb2)
  have QTD := Lib.hid (TD.out.via hb2)
  have QTU := Lib.hid (TU.out.via hb2)
  have QHB := Lib.hid (HB.out.trans (hb2.mono HB.out.size))
  clear LA LB PA PB TD TU HB
  have LA := QLA
  clear QLA
  have LB := QLB
  clear QLB
  have PA := QPA
  clear QPA
  have PB := QPB
  clear QPB
  have TD := QTD
  clear QTD
  have TU := QTU
  clear QTU
  have HB := QHB
  clear QHB
  clear c0 c1 c2 c3
  clear hb2
  have ⟨c0, c1, _, _, _⟩ := PA.out
  go_wp2_with fail
  refine (rabs_n _ _ _ _ 1500 (x) LA.out (SX.out.mono (by omega)) (by omega) HX.out).mono ?_
  rintro e w3 ⟨Au, nu, cu, rfl, hu, hb3⟩
  have QLA := Lib.hid (LA.out.via hb3)
  have QLB := Lib.hid (LB.out.via hb3)
  have QPA := Lib.hid (PA.out.via hb3)
  have QPB := Lib.hid (PB.out.via hb3)
  have QTD := Lib.hid (TD.out.via hb3)
  have QTU := Lib.hid (TU.out.via hb3)
  have QHB := Lib.hid (HB.out.trans (hb3.mono HB.out.size))
  clear LA LB PA PB TD TU HB
  have LA := QLA
  clear QLA
  have LB := QLB
  clear QLB
  have PA := QPA
  clear QPA
  have PB := QPB
  clear QPB
  have TD := QTD
  clear QTD
  have TU := QTU
  clear QTU
  have HB := QHB
  clear QHB
  have Lu := Lib.hid hu
  have Su : Hid (Sz 60 ((x.natAbs : Int))) := SX.out.abs
  clear hu
  obtain ⟨gu, hgu⟩ : ∃ b, decide ((x.natAbs : Int) < 0) = b := ⟨_, rfl⟩
  have Hu := Lib.hid hgu
  rw [hgu]
  clear hgu
  clear c0 c1
  clear hb3
  obtain rfl : gu = false := by rw [← Hu.out]; exact decide_eq_false (by omega)
  go_wp2_with fail
  refine (sqrt_n _ _ _ _ 1500 ((x.natAbs : Int)) (Lu.out.box _) (Su.out.mono (by omega)) (by omega) (by omega) Hu.out).mono ?_
  rintro e w4 ⟨r, hr, Ar, nr, cr, rfl, hLr, hb4⟩
  have QLA := Lib.hid ((LA.out.box _).via hb4)
  have QLB := Lib.hid ((LB.out.box _).via hb4)
  have QLu := Lib.hid ((Lu.out.box _).via hb4)
  have QPA := Lib.hid ((PA.out.alloc _).via hb4)
  have QPB := Lib.hid ((PB.out.alloc _).via hb4)
  have QTD := Lib.hid ((TD.out.box _).via hb4)
  have QTU := Lib.hid ((TU.out.box _).via hb4)
  have QHB := Lib.hid (HB.out.trans ((bbox hb4).mono HB.out.size))
  have Pu := Lib.hid ((Pr.new _ _ rfl _ _ _).via hb4)
  clear LA LB Lu PA PB TD TU HB
  have LA := QLA
  clear QLA
  have LB := QLB
  clear QLB
  have Lu := QLu
  clear QLu
  have PA := QPA
  clear QPA
  have PB := QPB
  clear QPB
  have TD := QTD
  clear QTD
  have TU := QTU
  clear QTU
  have HB := QHB
  clear QHB
  have Lr := Lib.hid hLr
  have Rt : Hid (IsRt x.natAbs r) := by have := hr; rwa [Int.natAbs_natCast] at this
  have Sr : Hid (Sz 60 (r : Int)) := Nat.lt_of_le_of_lt (rt_sz Rt.out) SX.out
  clear hLr hr
  have Hr : Hid (decide ((r : Int) < 0) = false) := decide_eq_false (by omega)
  rw [Hr.out]
  clear hb4
  go_wp2_with fail
  refine (rcheck_n _ _ _ _ 1500 ((r : Int)) (Lr.out.box _) (Sr.out.mono (by omega)) (by omega) Hr.out).mono ?_
  rintro e w5 ⟨rfl, hb5⟩
  have QLA := Lib.hid ((LA.out.box _).via hb5)
  have QLB := Lib.hid ((LB.out.box _).via hb5)
  have QLu := Lib.hid ((Lu.out.box _).via hb5)
  have QLr := Lib.hid ((Lr.out.box _).via hb5)
  have QPA := Lib.hid ((PA.out.alloc _).via hb5)
  have QPB := Lib.hid ((PB.out.alloc _).via hb5)
  have QPu := Lib.hid ((Pu.out.alloc _).via hb5)
  have QTD := Lib.hid ((TD.out.box _).via hb5)
  have QTU := Lib.hid ((TU.out.box _).via hb5)
  have QHB := Lib.hid (HB.out.trans ((bbox hb5).mono HB.out.size))
  have Pr_ := Lib.hid ((Pr.new _ _ rfl _ _ _).via hb5)
  clear LA LB Lu Lr PA PB Pu TD TU HB
  have LA := QLA
  clear QLA
  have LB := QLB
  clear QLB
  have Lu := QLu
  clear QLu
  have Lr := QLr
  clear QLr
  have PA := QPA
  clear QPA
  have PB := QPB
  clear QPB
  have Pu := QPu
  clear QPu
  have TD := QTD
  clear QTD
  have TU := QTU
  clear QTU
  have HB := QHB
  clear QHB
  clear hb5
  have ⟨c0, c1, _, _, _⟩ := Pr_.out
  go_wp2_with fail
  refine (rmul_n _ _ _ _ _ _ _ 1500 ((r : Int)) ((r : Int)) Lr.out Lr.out (Sr.out.mono (by omega)) (Sr.out.mono (by omega)) (by omega) Hr.out Hr.out).mono ?_
  rintro e w6 ⟨As, ns, cs, rfl, hs, hb6⟩
  have QLA := Lib.hid (LA.out.via hb6)
  have QLB := Lib.hid (LB.out.via hb6)
  have QLu := Lib.hid (Lu.out.via hb6)
  have QLr := Lib.hid (Lr.out.via hb6)
  have QPA := Lib.hid (PA.out.via hb6)
  have QPB := Lib.hid (PB.out.via hb6)
  have QPu := Lib.hid (Pu.out.via hb6)
  have QPr_ := Lib.hid (Pr_.out.via hb6)
  have QTD := Lib.hid (TD.out.via hb6)
  have QTU := Lib.hid (TU.out.via hb6)
  have QHB := Lib.hid (HB.out.trans (hb6.mono HB.out.size))
  clear LA LB Lu Lr PA PB Pu Pr_ TD TU HB
  have LA := QLA
  clear QLA
  have LB := QLB
  clear QLB
  have Lu := QLu
  clear QLu
  have Lr := QLr
  clear QLr
  have PA := QPA
  clear QPA
  have PB := QPB
  clear QPB
  have Pu := QPu
  clear QPu
  have Pr_ := QPr_
  clear QPr_
  have TD := QTD
  clear QTD
  have TU := QTU
  clear QTU
  have HB := QHB
  clear QHB
  have Ls := Lib.hid hs
  have Ss : Hid (Sz 120 ((r : Int) * r)) := Sr.out.mul Sr.out
  clear hs
  obtain ⟨gs, hgs⟩ : ∃ b, decide ((r : Int) * r < 0) = b := ⟨_, rfl⟩
  have Hs := Lib.hid hgs
  rw [hgs]
  clear hgs
  clear c0 c1
  clear hb6
  have PR6 := Lib.hid (Pr_.out.alloc (.cells #[.bool gs, .slice As ns cs] 24))
  have Ps := Lib.hid (Pr.new w6 w6.heap.size rfl (.bool gs) (.slice As ns cs) 24)
  have QLA := Lib.hid (LA.out.box (.cells #[.bool gs, .slice As ns cs] 24))
  have QLB := Lib.hid (LB.out.box (.cells #[.bool gs, .slice As ns cs] 24))
  have QLu := Lib.hid (Lu.out.box (.cells #[.bool gs, .slice As ns cs] 24))
  have QLr := Lib.hid (Lr.out.box (.cells #[.bool gs, .slice As ns cs] 24))
  have QLs := Lib.hid (Ls.out.box (.cells #[.bool gs, .slice As ns cs] 24))
  have QTD := Lib.hid (TD.out.box (.cells #[.bool gs, .slice As ns cs] 24))
  have QTU := Lib.hid (TU.out.box (.cells #[.bool gs, .slice As ns cs] 24))
  have QPA := Lib.hid (PA.out.alloc (.cells #[.bool gs, .slice As ns cs] 24))
  have QPB := Lib.hid (PB.out.alloc (.cells #[.bool gs, .slice As ns cs] 24))
  have QPu := Lib.hid (Pu.out.alloc (.cells #[.bool gs, .slice As ns cs] 24))
  have QHB := Lib.hid (HB.out.alloc HB.out.size (.cells #[.bool gs, .slice As ns cs] 24))
  clear Pr_ LA LB Lu Lr Ls TD TU PA PB Pu HB
  have LA := QLA
  clear QLA
  have LB := QLB
  clear QLB
  have Lu := QLu
  clear QLu
  have Lr := QLr
  clear QLr
  have Ls := QLs
  clear QLs
  have TD := QTD
  clear QTD
  have TU := QTU
  clear QTU
  have PA := QPA
  clear QPA
  have PB := QPB
  clear QPB
  have Pu := QPu
  clear QPu
  have HB := QHB
  clear QHB
  have Pr_ := PR6
  clear PR6
  have ⟨c0, c1, _, _, cl⟩ := Pr_.out
  go_wp2_with fail
  generalize w6.alloc (.cells #[.bool gs, .slice As ns cs] 24) = W at *
  have HKS : Hid (∀ V : World, Below W.heap.size W V → V.cell? ⟨w4.heap.size, 0, none⟩ = some (.bool false) ∧ V.cell? ⟨w4.heap.size, 1, none⟩ = some (.slice Ar nr cr)) := fun V h => ⟨(Pr_.out.below h cl).c0, (Pr_.out.below h cl).c1⟩
  go_cut [14, 15] (fun s14 s15 wx => OneAt W (decide ((r : Int) + 1 < 0)) (digs ((r : Int) + 1).natAbs) s14 wx ∧ s15 = .int .i64 0)
  case first =>
    go_region_held3 (fun w' => w'.cell? ⟨w4.heap.size, 0, none⟩ = some (.bool false) ∧ w'.cell? ⟨w4.heap.size, 1, none⟩ = some (.slice Ar nr cr))
      (first | exact ⟨c0, c1⟩ | exact ⟨d0, d1⟩ | exact ⟨e0, e1⟩ | (refine HKS.out _ ?_; (repeat' (first | exact B8 | exact B7 | exact (Below.refl _ _).drew | exact Below.refl _ _ | refine Below.drew ?_ | refine Below.setCell ?_ ?_ _ | refine Below.alloc ?_ ?_ _)); all_goals (first | omega | (simp; done) | (simp; omega))))
      (first
       | (go_at_call 16; refine (rfrom_any _ 1 (by omega) (by omega)).mono ?_; rintro e w7 ⟨Ai, ni, ci, rfl, hLi, hb7⟩; have B7 : Below W.heap.size W w7 := (by first | exact hb7 | exact (Below.refl _ _).drew.trans hb7 | exact b_one hb7 | exact b_one_d hb7); have B7s := B7.size; have PR7 := Pr_.out.via B7; have ⟨d0, d1, _, _, _⟩ := PR7; have LR7 := Lr.out.via B7; (try (have PZ := (by first | exact (Pr.new W W.heap.size rfl (.bool false) (.slice none 0 0) 24).via hb7 | exact (Pr.new W W.heap.size rfl (.bool false) (.slice none 0 0) 24).drew.via hb7 : Pr w7 W.heap.size (.bool false) (.slice none 0 0)); have ⟨z0, z1, zf0, zf1, zl⟩ := PZ)))
       | (go_at_call 11; refine (radd_n _ _ _ _ _ _ _ 1500 (r : Int) 1 (by first | exact LR7 | exact LR7.box _) (by first | exact hLi | exact hLi.box _) (Sr.out.mono (by omega)) SzOne (by omega) Hr.out rfl).mono ?_; rintro e w8 ⟨An, nn, cn, rfl, hLn, hb8⟩; have B78 : Below w7.heap.size w7 w8 := (by first | exact hb8 | exact b_one hb8); have PR8 := PR7.via B78; have ⟨e0, e1, _, _, _⟩ := PR8; have B8 := B7.trans (B78.mono B7.size); have B8s := B8.size; (try (have PY := (Pr.new w7 w7.heap.size rfl (.bool false) (.slice none 0 0) 24).via hb8; have ⟨y0, y1, yf0, yf1, yl⟩ := PY)); (try (have PW := PZ.via B78; have ⟨v0, v1, vf0, vf1, vl⟩ := PW))))
    all_goals
      go_wp2_with fail
      go_meet
      first
      | exact ⟨one_new B8 hLn, rfl⟩
      | exact ⟨one_set B8 hLn PY B7s, rfl⟩
      | exact ⟨one_set B8 hLn PW (Nat.le_refl _), rfl⟩
  case rest =>
  obtain ⟨⟨gn_, An, nn, cn, rfl, hPn, hLn, hBn⟩, rfl⟩ := hcut
  clear HKS c0 c1 cl
  have QLA := Lib.hid (LA.out.via hBn)
  have QLB := Lib.hid (LB.out.via hBn)
  have QLu := Lib.hid (Lu.out.via hBn)
  have QLr := Lib.hid (Lr.out.via hBn)
  have QLs := Lib.hid (Ls.out.via hBn)
  have QTD := Lib.hid (TD.out.via hBn)
  have QTU := Lib.hid (TU.out.via hBn)
  have QPA := Lib.hid (PA.out.via hBn)
  have QPB := Lib.hid (PB.out.via hBn)
  have QPu := Lib.hid (Pu.out.via hBn)
  have QPr_ := Lib.hid (Pr_.out.via hBn)
  have QPs := Lib.hid (Ps.out.via hBn)
  have QHB := Lib.hid (HB.out.trans (hBn.mono HB.out.size))
  clear LA LB Lu Lr Ls TD TU PA PB Pu Pr_ Ps HB
  have LA := QLA
  clear QLA
  have LB := QLB
  clear QLB
  have Lu := QLu
  clear QLu
  have Lr := QLr
  clear QLr
  have Ls := QLs
  clear QLs
  have TD := QTD
  clear QTD
  have TU := QTU
  clear QTU
  have PA := QPA
  clear QPA
  have PB := QPB
  clear QPB
  have Pu := QPu
  clear QPu
  have Pr_ := QPr_
  clear QPr_
  have Ps := QPs
  clear QPs
  have HB := QHB
  clear QHB
  have Ln := Lib.hid hLn
  have Pn := Lib.hid hPn
  have Sn : Hid (Sz 61 ((r : Int) + 1)) := Sr.out.add (SzOne (k := 59))
  clear hLn hPn hBn
  obtain ⟨gn, hgn⟩ : ∃ b, decide ((r : Int) + 1 < 0) = b := ⟨_, rfl⟩
  have Hn := Lib.hid hgn
  rw [hgn] at Pn
  clear hgn
  have ⟨c0, c1, _, _, _⟩ := Pn.out
  go_wp2_with fail
  refine (rmul_n _ _ _ _ _ _ _ 1500 ((r : Int) + 1) ((r : Int) + 1) Ln.out Ln.out (Sn.out.mono (by omega)) (Sn.out.mono (by omega)) (by omega) Hn.out Hn.out).mono ?_
  rintro e w7 ⟨At, nt, ct, rfl, ht, hb7⟩
  have QLA := Lib.hid (LA.out.via hb7)
  have QLB := Lib.hid (LB.out.via hb7)
  have QLu := Lib.hid (Lu.out.via hb7)
  have QLr := Lib.hid (Lr.out.via hb7)
  have QLs := Lib.hid (Ls.out.via hb7)
  have QLn := Lib.hid (Ln.out.via hb7)
  have QPA := Lib.hid (PA.out.via hb7)
  have QPB := Lib.hid (PB.out.via hb7)
  have QPu := Lib.hid (Pu.out.via hb7)
  have QPr_ := Lib.hid (Pr_.out.via hb7)
  have QPs := Lib.hid (Ps.out.via hb7)
  have QPn := Lib.hid (Pn.out.via hb7)
  have QTD := Lib.hid (TD.out.via hb7)
  have QTU := Lib.hid (TU.out.via hb7)
  have QHB := Lib.hid (HB.out.trans (hb7.mono HB.out.size))
  clear LA LB Lu Lr Ls Ln PA PB Pu Pr_ Ps Pn TD TU HB
  have LA := QLA
  clear QLA
  have LB := QLB
  clear QLB
  have Lu := QLu
  clear QLu
  have Lr := QLr
  clear QLr
  have Ls := QLs
  clear QLs
  have Ln := QLn
  clear QLn
  have PA := QPA
  clear QPA
  have PB := QPB
  clear QPB
  have Pu := QPu
  clear QPu
  have Pr_ := QPr_
  clear QPr_
  have Ps := QPs
  clear QPs
  have Pn := QPn
  clear QPn
  have TD := QTD
  clear QTD
  have TU := QTU
  clear QTU
  have HB := QHB
  clear QHB
  have Lt := Lib.hid ht
  have St : Hid (Sz 122 (((r : Int) + 1) * (r + 1))) := Sn.out.mul Sn.out
  clear ht
  obtain ⟨gt, hgt⟩ : ∃ b, decide (((r : Int) + 1) * (r + 1) < 0) = b := ⟨_, rfl⟩
  have Ht := Lib.hid hgt
  rw [hgt]
  clear hgt
  clear c0 c1
  clear hb7
  have ⟨c0, c1, _, _, _⟩ := Ps.out
  have ⟨c2, c3, _, _, _⟩ := Pu.out
  go_wp2_with fail
  refine (rcompared_n _ _ _ _ _ _ _ 1500 _ _ (Ls.out.box _) (Lu.out.box _) (Ss.out.mono (by omega)) (Su.out.mono (by omega)) (by omega) Hs.out Hu.out).mono ?_
  rintro e w8 ⟨rfl, hb8⟩
  have QLA := Lib.hid ((LA.out.box _).via hb8)
  have QLB := Lib.hid ((LB.out.box _).via hb8)
  have QLu := Lib.hid ((Lu.out.box _).via hb8)
  have QLr := Lib.hid ((Lr.out.box _).via hb8)
  have QLs := Lib.hid ((Ls.out.box _).via hb8)
  have QLn := Lib.hid ((Ln.out.box _).via hb8)
  have QLt := Lib.hid ((Lt.out.box _).via hb8)
  have QPA := Lib.hid ((PA.out.alloc _).via hb8)
  have QPB := Lib.hid ((PB.out.alloc _).via hb8)
  have QPu := Lib.hid ((Pu.out.alloc _).via hb8)
  have QPr_ := Lib.hid ((Pr_.out.alloc _).via hb8)
  have QPs := Lib.hid ((Ps.out.alloc _).via hb8)
  have QPn := Lib.hid ((Pn.out.alloc _).via hb8)
  have QTD := Lib.hid ((TD.out.box _).via hb8)
  have QTU := Lib.hid ((TU.out.box _).via hb8)
  have QHB := Lib.hid (HB.out.trans ((bbox hb8).mono HB.out.size))
  have Pt := Lib.hid ((Pr.new _ _ rfl _ _ _).via hb8)
  clear LA LB Lu Lr Ls Ln Lt PA PB Pu Pr_ Ps Pn TD TU HB
  have LA := QLA
  clear QLA
  have LB := QLB
  clear QLB
  have Lu := QLu
  clear QLu
  have Lr := QLr
  clear QLr
  have Ls := QLs
  clear QLs
  have Ln := QLn
  clear QLn
  have Lt := QLt
  clear QLt
  have PA := QPA
  clear QPA
  have PB := QPB
  clear QPB
  have Pu := QPu
  clear QPu
  have Pr_ := QPr_
  clear QPr_
  have Ps := QPs
  clear QPs
  have Pn := QPn
  clear QPn
  have TD := QTD
  clear QTD
  have TU := QTU
  clear QTU
  have HB := QHB
  clear QHB
  have hc1 : cmpZ ((r : Int) * r) (x.natAbs : Int) ≤ 0 := cmpZ_le (by have := Rt.out.1; exact_mod_cast this)
  generalize cmpZ ((r : Int) * r) (x.natAbs : Int) = cz at hc1
  have hc1' : decide (0 < cz) = false := decide_eq_false (by omega)
  clear c0 c1 c2 c3
  clear hb8
  have ⟨c0, c1, _, _, _⟩ := Pt.out
  have ⟨c2, c3, _, _, _⟩ := Pu.out
  go_wp2_with fail
  refine (rcompared_n _ _ _ _ _ _ _ 1500 _ _ Lt.out Lu.out (St.out.mono (by omega)) (Su.out.mono (by omega)) (by omega) Ht.out Hu.out).mono ?_
  rintro e w9 ⟨rfl, hb9⟩
  have QLA := Lib.hid (LA.out.via hb9)
  have QLB := Lib.hid (LB.out.via hb9)
  have QLu := Lib.hid (Lu.out.via hb9)
  have QLr := Lib.hid (Lr.out.via hb9)
  have QLs := Lib.hid (Ls.out.via hb9)
  have QLn := Lib.hid (Ln.out.via hb9)
  have QLt := Lib.hid (Lt.out.via hb9)
  have QPA := Lib.hid (PA.out.via hb9)
  have QPB := Lib.hid (PB.out.via hb9)
  have QPu := Lib.hid (Pu.out.via hb9)
  have QPr_ := Lib.hid (Pr_.out.via hb9)
  have QPs := Lib.hid (Ps.out.via hb9)
  have QPn := Lib.hid (Pn.out.via hb9)
  have QPt := Lib.hid (Pt.out.via hb9)
  have QTD := Lib.hid (TD.out.via hb9)
  have QTU := Lib.hid (TU.out.via hb9)
  have QHB := Lib.hid (HB.out.trans (hb9.mono HB.out.size))
  clear LA LB Lu Lr Ls Ln Lt PA PB Pu Pr_ Ps Pn Pt TD TU HB
  have LA := QLA
  clear QLA
  have LB := QLB
  clear QLB
  have Lu := QLu
  clear QLu
  have Lr := QLr
  clear QLr
  have Ls := QLs
  clear QLs
  have Ln := QLn
  clear QLn
  have Lt := QLt
  clear QLt
  have PA := QPA
  clear QPA
  have PB := QPB
  clear QPB
  have Pu := QPu
  clear QPu
  have Pr_ := QPr_
  clear QPr_
  have Ps := QPs
  clear QPs
  have Pn := QPn
  clear QPn
  have Pt := QPt
  clear QPt
  have TD := QTD
  clear QTD
  have TU := QTU
  clear QTU
  have HB := QHB
  clear QHB
  rw [cmpZ_gt (show (x.natAbs : Int) < ((r : Int) + 1) * (r + 1) by have := Rt.out.2; exact_mod_cast this)]
  clear c0 c1 c2 c3
  clear hb9
  clear Ls Lt Ln Lu Ps Pt Pn Pu Lr
  have ⟨c0, c1, _, _, _⟩ := Pr_.out
  go_wp2_with fail
  refine (from_any _ 2 (by omega) (by omega)).mono ?_
  rintro e w10 ⟨Aj, nj, cj, rfl, hLj, hb10⟩
  have QLA := Lib.hid (LA.out.via hb10)
  have QLB := Lib.hid (LB.out.via hb10)
  have QPA := Lib.hid (PA.out.via hb10)
  have QPB := Lib.hid (PB.out.via hb10)
  have QPr_ := Lib.hid (Pr_.out.via hb10)
  have QTD := Lib.hid (TD.out.via hb10)
  have QTU := Lib.hid (TU.out.via hb10)
  have QHB := Lib.hid (HB.out.trans (hb10.mono HB.out.size))
  clear LA LB PA PB Pr_ TD TU HB
  have LA := QLA
  clear QLA
  have LB := QLB
  clear QLB
  have PA := QPA
  clear QPA
  have PB := QPB
  clear QPB
  have Pr_ := QPr_
  clear QPr_
  have TD := QTD
  clear QTD
  have TU := QTU
  clear QTU
  have HB := QHB
  clear QHB
  have Lj := Lib.hid hLj
  clear hLj hc1 hc1'
  clear c0 c1
  clear hb10
  go_wp2_with fail
  refine (pow2_n _ _ _ _ k 2 Lj.out rfl (by omega)).mono ?_
  rintro e w11 ⟨Ap, np, cp, rfl, hLp, hb11⟩
  have QLA := Lib.hid (LA.out.via hb11)
  have QLB := Lib.hid (LB.out.via hb11)
  have QLj := Lib.hid (Lj.out.via hb11)
  have QPA := Lib.hid (PA.out.via hb11)
  have QPB := Lib.hid (PB.out.via hb11)
  have QPr_ := Lib.hid (Pr_.out.via hb11)
  have QTD := Lib.hid (TD.out.via hb11)
  have QTU := Lib.hid (TU.out.via hb11)
  have QHB := Lib.hid (HB.out.trans (hb11.mono HB.out.size))
  clear LA LB Lj PA PB Pr_ TD TU HB
  have LA := QLA
  clear QLA
  have LB := QLB
  clear QLB
  have Lj := QLj
  clear QLj
  have PA := QPA
  clear QPA
  have PB := QPB
  clear QPB
  have Pr_ := QPr_
  clear QPr_
  have TD := QTD
  clear QTD
  have TU := QTU
  clear QTU
  have HB := QHB
  clear QHB
  have Lp := Lib.hid hLp
  have Sp : Hid (Sz 8 ((2 : Int) ^ k)) := sz_two k hk
  have Pp0 : Hid (0 < (2 : Int) ^ k) := Int.pow_pos (by omega)
  clear hLp
  have Hp : Hid (decide ((2 : Int) ^ k < 0) = false) := decide_eq_false (by have := Pp0.out; omega)
  rw [Hp.out]
  clear hb11
  clear Lj
  clear Pr_
  have ⟨c0, c1, _, _, _⟩ := PA.out
  go_wp2_with fail
  refine (shup_n _ _ _ _ k x (LA.out.box _) 1500 (SX.out.mono (by omega)) (by omega) (by omega) HX.out).mono ?_
  rintro e w12 ⟨Au, nu, cu, rfl, hu, hb12⟩
  have QLA := Lib.hid ((LA.out.box _).via hb12)
  have QLB := Lib.hid ((LB.out.box _).via hb12)
  have QLp := Lib.hid ((Lp.out.box _).via hb12)
  have QPA := Lib.hid ((PA.out.alloc _).via hb12)
  have QPB := Lib.hid ((PB.out.alloc _).via hb12)
  have QTD := Lib.hid ((TD.out.box _).via hb12)
  have QTU := Lib.hid ((TU.out.box _).via hb12)
  have QHB := Lib.hid (HB.out.trans ((bbox hb12).mono HB.out.size))
  have Pp := Lib.hid ((Pr.new _ _ rfl _ _ _).via hb12)
  clear LA LB Lp PA PB TD TU HB
  have LA := QLA
  clear QLA
  have LB := QLB
  clear QLB
  have Lp := QLp
  clear QLp
  have PA := QPA
  clear QPA
  have PB := QPB
  clear QPB
  have TD := QTD
  clear QTD
  have TU := QTU
  clear QTU
  have HB := QHB
  clear QHB
  have Lu := Lib.hid hu
  have Su : Hid (Sz 68 (x * (2 : Int) ^ k)) := SX.out.mul Sp.out
  clear hu
  obtain ⟨gu, hgu⟩ : ∃ b, decide (x * (2 : Int) ^ k < 0) = b := ⟨_, rfl⟩
  have Hu := Lib.hid hgu
  rw [hgu]
  clear hgu
  clear c0 c1
  clear hb12
  have ⟨c0, c1, _, _, _⟩ := PA.out
  have ⟨c2, c3, _, _, _⟩ := Pp.out
  go_wp2_with fail
  refine (mul_n _ _ _ _ _ _ _ 1500 (x) ((2 : Int) ^ k) (LA.out.box _) (Lp.out.box _) (SX.out.mono (by omega)) (Sp.out.mono (by omega)) (by omega) HX.out Hp.out).mono ?_
  rintro e w13 ⟨Av, nv, cv, rfl, hv, hb13⟩
  have QLA := Lib.hid ((LA.out.box _).via hb13)
  have QLB := Lib.hid ((LB.out.box _).via hb13)
  have QLp := Lib.hid ((Lp.out.box _).via hb13)
  have QLu := Lib.hid ((Lu.out.box _).via hb13)
  have QPA := Lib.hid ((PA.out.alloc _).via hb13)
  have QPB := Lib.hid ((PB.out.alloc _).via hb13)
  have QPp := Lib.hid ((Pp.out.alloc _).via hb13)
  have QTD := Lib.hid ((TD.out.box _).via hb13)
  have QTU := Lib.hid ((TU.out.box _).via hb13)
  have QHB := Lib.hid (HB.out.trans ((bbox hb13).mono HB.out.size))
  have Pu := Lib.hid ((Pr.new _ _ rfl _ _ _).via hb13)
  clear LA LB Lp Lu PA PB Pp TD TU HB
  have LA := QLA
  clear QLA
  have LB := QLB
  clear QLB
  have Lp := QLp
  clear QLp
  have Lu := QLu
  clear QLu
  have PA := QPA
  clear QPA
  have PB := QPB
  clear QPB
  have Pp := QPp
  clear QPp
  have TD := QTD
  clear QTD
  have TU := QTU
  clear QTU
  have HB := QHB
  clear QHB
  have Lv := Lib.hid hv
  have Sv : Hid (Sz 68 (x * (2 : Int) ^ k)) := SX.out.mul Sp.out
  clear hv
  obtain ⟨gv, hgv⟩ : ∃ b, decide (x * (2 : Int) ^ k < 0) = b := ⟨_, rfl⟩
  have Hv := Lib.hid hgv
  rw [hgv]
  clear hgv
  clear c0 c1 c2 c3
  clear hb13
  have ⟨c0, c1, _, _, _⟩ := PA.out
  go_wp2_with fail
  refine (shdn_n _ _ _ _ k x (LA.out.box _) 1500 _ (SX.out.mono (by omega)) (by omega) rfl (by omega) (TD.out.box _) HX.out).mono ?_
  rintro e w14 ⟨Ad, nd, cd, rfl, hd, hb14⟩
  have QLA := Lib.hid ((LA.out.box _).via hb14)
  have QLB := Lib.hid ((LB.out.box _).via hb14)
  have QLp := Lib.hid ((Lp.out.box _).via hb14)
  have QLu := Lib.hid ((Lu.out.box _).via hb14)
  have QLv := Lib.hid ((Lv.out.box _).via hb14)
  have QPA := Lib.hid ((PA.out.alloc _).via hb14)
  have QPB := Lib.hid ((PB.out.alloc _).via hb14)
  have QPp := Lib.hid ((Pp.out.alloc _).via hb14)
  have QPu := Lib.hid ((Pu.out.alloc _).via hb14)
  have QTD := Lib.hid ((TD.out.box _).via hb14)
  have QTU := Lib.hid ((TU.out.box _).via hb14)
  have QHB := Lib.hid (HB.out.trans ((bbox hb14).mono HB.out.size))
  have Pv := Lib.hid ((Pr.new _ _ rfl _ _ _).via hb14)
  clear LA LB Lp Lu Lv PA PB Pp Pu TD TU HB
  have LA := QLA
  clear QLA
  have LB := QLB
  clear QLB
  have Lp := QLp
  clear QLp
  have Lu := QLu
  clear QLu
  have Lv := QLv
  clear QLv
  have PA := QPA
  clear QPA
  have PB := QPB
  clear QPB
  have Pp := QPp
  clear QPp
  have Pu := QPu
  clear QPu
  have TD := QTD
  clear QTD
  have TU := QTU
  clear QTU
  have HB := QHB
  clear QHB
  have Ld := Lib.hid hd
  have Sd : Hid (Sz 60 (x / (2 : Int) ^ k)) := sz_floor SX.out
  clear hd
  obtain ⟨gd, hgd⟩ : ∃ b, decide (x / (2 : Int) ^ k < 0) = b := ⟨_, rfl⟩
  have Hd := Lib.hid hgd
  rw [hgd]
  clear hgd
  clear c0 c1
  clear hb14
  have ⟨c0, c1, _, _, _⟩ := PA.out
  have ⟨c2, c3, _, _, _⟩ := Pp.out
  go_wp2_with fail
  refine (divmod_n _ _ _ _ _ _ _ 1500 x ((2 : Int) ^ k) (LA.out.box _) (Lp.out.box _) (SX.out.mono (by omega)) (Sp.out.mono (by omega)) (by omega) (by have := Pp0.out; omega) HX.out Hp.out).mono ?_
  rintro e w15 ⟨q, z, hq1, hq2, hq3, hq4, Aq, nq, cq, Az, nz, cz, rfl, hLq, hLz, hb15⟩
  have QLA := Lib.hid ((LA.out.box _).via hb15)
  have QLB := Lib.hid ((LB.out.box _).via hb15)
  have QLp := Lib.hid ((Lp.out.box _).via hb15)
  have QLu := Lib.hid ((Lu.out.box _).via hb15)
  have QLv := Lib.hid ((Lv.out.box _).via hb15)
  have QLd := Lib.hid ((Ld.out.box _).via hb15)
  have QPA := Lib.hid ((PA.out.alloc _).via hb15)
  have QPB := Lib.hid ((PB.out.alloc _).via hb15)
  have QPp := Lib.hid ((Pp.out.alloc _).via hb15)
  have QPu := Lib.hid ((Pu.out.alloc _).via hb15)
  have QPv := Lib.hid ((Pv.out.alloc _).via hb15)
  have QTD := Lib.hid ((TD.out.box _).via hb15)
  have QTU := Lib.hid ((TU.out.box _).via hb15)
  have QHB := Lib.hid (HB.out.trans ((bbox hb15).mono HB.out.size))
  have Pd := Lib.hid ((Pr.new _ _ rfl _ _ _).via hb15)
  clear LA LB Lp Lu Lv Ld PA PB Pp Pu Pv TD TU HB
  have LA := QLA
  clear QLA
  have LB := QLB
  clear QLB
  have Lp := QLp
  clear QLp
  have Lu := QLu
  clear QLu
  have Lv := QLv
  clear QLv
  have Ld := QLd
  clear QLd
  have PA := QPA
  clear QPA
  have PB := QPB
  clear QPB
  have Pp := QPp
  clear QPp
  have Pu := QPu
  clear QPu
  have Pv := QPv
  clear QPv
  have TD := QTD
  clear QTD
  have TU := QTU
  clear QTU
  have HB := QHB
  clear QHB
  have Lq := Lib.hid hLq
  have E1 : Hid (x / (2 : Int) ^ k = q) := (rd2_floor hq1 hq2 hq3 Pp0.out).symm
  have Sq : Hid (Sz 60 q) := Nat.lt_of_le_of_lt hq4 SX.out
  clear hLq hLz hq1 hq2 hq3 hq4
  obtain ⟨gq, hgq⟩ : ∃ b, decide (q < 0) = b := ⟨_, rfl⟩
  have Hq := Lib.hid hgq
  rw [hgq]
  clear hgq
  generalize decide (z < 0) = gz
  clear c0 c1 c2 c3
  clear hb15
  have ⟨c0, c1, _, _, _⟩ := Pu.out
  have ⟨c2, c3, _, _, _⟩ := Pv.out
  go_wp2_with fail
  refine (rsame_n _ _ _ _ _ _ _ (x * (2 : Int) ^ k) (x * (2 : Int) ^ k) ((Lu.out.box _).box _) ((Lv.out.box _).box _) Hu.out Hv.out (rfl)).mono ?_
  rintro e w16 ⟨rfl, hb16⟩
  have QLA := Lib.hid (((LA.out.box _).box _).via hb16)
  have QLB := Lib.hid (((LB.out.box _).box _).via hb16)
  have QLp := Lib.hid (((Lp.out.box _).box _).via hb16)
  have QLu := Lib.hid (((Lu.out.box _).box _).via hb16)
  have QLv := Lib.hid (((Lv.out.box _).box _).via hb16)
  have QLd := Lib.hid (((Ld.out.box _).box _).via hb16)
  have QLq := Lib.hid (((Lq.out.box _).box _).via hb16)
  have QPA := Lib.hid (((PA.out.alloc _).alloc _).via hb16)
  have QPB := Lib.hid (((PB.out.alloc _).alloc _).via hb16)
  have QPp := Lib.hid (((Pp.out.alloc _).alloc _).via hb16)
  have QPu := Lib.hid (((Pu.out.alloc _).alloc _).via hb16)
  have QPv := Lib.hid (((Pv.out.alloc _).alloc _).via hb16)
  have QPd := Lib.hid (((Pd.out.alloc _).alloc _).via hb16)
  have QTD := Lib.hid (((TD.out.box _).box _).via hb16)
  have QTU := Lib.hid (((TU.out.box _).box _).via hb16)
  have QHB := Lib.hid (HB.out.trans ((bbox (bbox hb16)).mono HB.out.size))
  have ⟨N0, N1⟩ := boxes2 hb16
  have Pq := Lib.hid N0
  have Pz := Lib.hid N1
  clear N0 N1
  clear LA LB Lp Lu Lv Ld Lq PA PB Pp Pu Pv Pd TD TU HB
  have LA := QLA
  clear QLA
  have LB := QLB
  clear QLB
  have Lp := QLp
  clear QLp
  have Lu := QLu
  clear QLu
  have Lv := QLv
  clear QLv
  have Ld := QLd
  clear QLd
  have Lq := QLq
  clear QLq
  have PA := QPA
  clear QPA
  have PB := QPB
  clear QPB
  have Pp := QPp
  clear QPp
  have Pu := QPu
  clear QPu
  have Pv := QPv
  clear QPv
  have Pd := QPd
  clear QPd
  have TD := QTD
  clear QTD
  have TU := QTU
  clear QTU
  have HB := QHB
  clear QHB
  clear c0 c1 c2 c3
  clear hb16
  have ⟨c0, c1, _, _, _⟩ := Pd.out
  have ⟨c2, c3, _, _, _⟩ := Pq.out
  go_wp2_with fail
  refine (rsame_n _ _ _ _ _ _ _ (x / (2 : Int) ^ k) (q) Ld.out Lq.out Hd.out Hq.out (E1.out)).mono ?_
  rintro e w17 ⟨rfl, hb17⟩
  have QLA := Lib.hid (LA.out.via hb17)
  have QLB := Lib.hid (LB.out.via hb17)
  have QLp := Lib.hid (Lp.out.via hb17)
  have QLu := Lib.hid (Lu.out.via hb17)
  have QLv := Lib.hid (Lv.out.via hb17)
  have QLd := Lib.hid (Ld.out.via hb17)
  have QLq := Lib.hid (Lq.out.via hb17)
  have QPA := Lib.hid (PA.out.via hb17)
  have QPB := Lib.hid (PB.out.via hb17)
  have QPp := Lib.hid (Pp.out.via hb17)
  have QPu := Lib.hid (Pu.out.via hb17)
  have QPv := Lib.hid (Pv.out.via hb17)
  have QPd := Lib.hid (Pd.out.via hb17)
  have QPq := Lib.hid (Pq.out.via hb17)
  have QPz := Lib.hid (Pz.out.via hb17)
  have QTD := Lib.hid (TD.out.via hb17)
  have QTU := Lib.hid (TU.out.via hb17)
  have QHB := Lib.hid (HB.out.trans (hb17.mono HB.out.size))
  clear LA LB Lp Lu Lv Ld Lq PA PB Pp Pu Pv Pd Pq Pz TD TU HB
  have LA := QLA
  clear QLA
  have LB := QLB
  clear QLB
  have Lp := QLp
  clear QLp
  have Lu := QLu
  clear QLu
  have Lv := QLv
  clear QLv
  have Ld := QLd
  clear QLd
  have Lq := QLq
  clear QLq
  have PA := QPA
  clear QPA
  have PB := QPB
  clear QPB
  have Pp := QPp
  clear QPp
  have Pu := QPu
  clear QPu
  have Pv := QPv
  clear QPv
  have Pd := QPd
  clear QPd
  have Pq := QPq
  clear QPq
  have Pz := QPz
  clear QPz
  have TD := QTD
  clear QTD
  have TU := QTU
  clear QTU
  have HB := QHB
  clear QHB
  clear c0 c1 c2 c3
  clear hb17
  clear Lp Lu Lv Ld Lq Pp Pu Pv Pd Pq Pz
  have ⟨c0, c1, _, _, _⟩ := PA.out
  have ⟨c2, c3, _, _, _⟩ := PB.out
  go_wp2_with fail
  refine (gcd_n _ _ _ _ _ _ _ 1500 (x) (y) LA.out LB.out (SX.out.mono (by omega)) (SY.out.mono (by omega)) (by omega) HX.out HY.out).mono ?_
  rintro e w18 ⟨Ac, nc, cc, rfl, hc, hb18⟩
  have QLA := Lib.hid (LA.out.via hb18)
  have QLB := Lib.hid (LB.out.via hb18)
  have QPA := Lib.hid (PA.out.via hb18)
  have QPB := Lib.hid (PB.out.via hb18)
  have QTD := Lib.hid (TD.out.via hb18)
  have QTU := Lib.hid (TU.out.via hb18)
  have QHB := Lib.hid (HB.out.trans (hb18.mono HB.out.size))
  clear LA LB PA PB TD TU HB
  have LA := QLA
  clear QLA
  have LB := QLB
  clear QLB
  have PA := QPA
  clear QPA
  have PB := QPB
  clear QPB
  have TD := QTD
  clear QTD
  have TU := QTU
  clear QTU
  have HB := QHB
  clear QHB
  have Lc := Lib.hid hc
  have Sc : Hid (Sz 60 ((Nat.gcd x.natAbs y.natAbs : Int))) := sz_gcd' SX.out SY.out
  clear hc
  obtain ⟨gc, hgc⟩ : ∃ b, decide ((Nat.gcd x.natAbs y.natAbs : Int) < 0) = b := ⟨_, rfl⟩
  have Hc := Lib.hid hgc
  rw [hgc]
  clear hgc
  clear c0 c1 c2 c3
  clear hb18
  have ⟨c0, c1, _, _, _⟩ := PA.out
  have ⟨c2, c3, _, _, _⟩ := PB.out
  go_wp2_with fail
  refine (add_n _ _ _ _ _ _ _ 1500 (x) (y) (LA.out.box _) (LB.out.box _) (SX.out.mono (by omega)) (SY.out.mono (by omega)) (by omega) HX.out HY.out).mono ?_
  rintro e w19 ⟨Ae, ne, ce, rfl, he, hb19⟩
  have QLA := Lib.hid ((LA.out.box _).via hb19)
  have QLB := Lib.hid ((LB.out.box _).via hb19)
  have QLc := Lib.hid ((Lc.out.box _).via hb19)
  have QPA := Lib.hid ((PA.out.alloc _).via hb19)
  have QPB := Lib.hid ((PB.out.alloc _).via hb19)
  have QTD := Lib.hid ((TD.out.box _).via hb19)
  have QTU := Lib.hid ((TU.out.box _).via hb19)
  have QHB := Lib.hid (HB.out.trans ((bbox hb19).mono HB.out.size))
  have Pc := Lib.hid ((Pr.new _ _ rfl _ _ _).via hb19)
  clear LA LB Lc PA PB TD TU HB
  have LA := QLA
  clear QLA
  have LB := QLB
  clear QLB
  have Lc := QLc
  clear QLc
  have PA := QPA
  clear QPA
  have PB := QPB
  clear QPB
  have TD := QTD
  clear QTD
  have TU := QTU
  clear QTU
  have HB := QHB
  clear QHB
  have Le := Lib.hid he
  have Se : Hid (Sz 61 (x + y)) := SX.out.add SY.out
  clear he
  obtain ⟨ge, hge⟩ : ∃ b, decide (x + y < 0) = b := ⟨_, rfl⟩
  have He := Lib.hid hge
  rw [hge]
  clear hge
  clear c0 c1 c2 c3
  clear hb19
  have ⟨c0, c1, _, _, _⟩ := PB.out
  go_wp2_with fail
  refine (gcd_n _ _ _ _ _ _ _ 1500 (x + y) (y) (Le.out.box _) (LB.out.box _) (Se.out.mono (by omega)) (SY.out.mono (by omega)) (by omega) He.out HY.out).mono ?_
  rintro e w20 ⟨Ao, no, co, rfl, ho, hb20⟩
  have QLA := Lib.hid ((LA.out.box _).via hb20)
  have QLB := Lib.hid ((LB.out.box _).via hb20)
  have QLc := Lib.hid ((Lc.out.box _).via hb20)
  have QLe := Lib.hid ((Le.out.box _).via hb20)
  have QPA := Lib.hid ((PA.out.alloc _).via hb20)
  have QPB := Lib.hid ((PB.out.alloc _).via hb20)
  have QPc := Lib.hid ((Pc.out.alloc _).via hb20)
  have QTD := Lib.hid ((TD.out.box _).via hb20)
  have QTU := Lib.hid ((TU.out.box _).via hb20)
  have QHB := Lib.hid (HB.out.trans ((bbox hb20).mono HB.out.size))
  have Pe := Lib.hid ((Pr.new _ _ rfl _ _ _).via hb20)
  clear LA LB Lc Le PA PB Pc TD TU HB
  have LA := QLA
  clear QLA
  have LB := QLB
  clear QLB
  have Lc := QLc
  clear QLc
  have Le := QLe
  clear QLe
  have PA := QPA
  clear QPA
  have PB := QPB
  clear QPB
  have Pc := QPc
  clear QPc
  have TD := QTD
  clear QTD
  have TU := QTU
  clear QTU
  have HB := QHB
  clear QHB
  have Lo := Lib.hid ho
  have So : Hid (Sz 61 ((Nat.gcd (x + y).natAbs y.natAbs : Int))) := sz_gcd' Se.out (SY.out.mono (by omega))
  clear ho
  obtain ⟨go, hgo⟩ : ∃ b, decide ((Nat.gcd (x + y).natAbs y.natAbs : Int) < 0) = b := ⟨_, rfl⟩
  have Ho := Lib.hid hgo
  rw [hgo]
  clear hgo
  clear c0 c1
  clear hb20
  have ⟨c0, c1, _, _, _⟩ := Pc.out
  go_wp2_with fail
  refine (rsame_n _ _ _ _ _ _ _ ((Nat.gcd x.natAbs y.natAbs : Int)) ((Nat.gcd (x + y).natAbs y.natAbs : Int)) (Lc.out.box _) (Lo.out.box _) Hc.out Ho.out (by rw [gcd_shift])).mono ?_
  rintro e w21 ⟨rfl, hb21⟩
  have QLA := Lib.hid ((LA.out.box _).via hb21)
  have QLB := Lib.hid ((LB.out.box _).via hb21)
  have QLc := Lib.hid ((Lc.out.box _).via hb21)
  have QLe := Lib.hid ((Le.out.box _).via hb21)
  have QLo := Lib.hid ((Lo.out.box _).via hb21)
  have QPA := Lib.hid ((PA.out.alloc _).via hb21)
  have QPB := Lib.hid ((PB.out.alloc _).via hb21)
  have QPc := Lib.hid ((Pc.out.alloc _).via hb21)
  have QPe := Lib.hid ((Pe.out.alloc _).via hb21)
  have QTD := Lib.hid ((TD.out.box _).via hb21)
  have QTU := Lib.hid ((TU.out.box _).via hb21)
  have QHB := Lib.hid (HB.out.trans ((bbox hb21).mono HB.out.size))
  have Po := Lib.hid ((Pr.new _ _ rfl _ _ _).via hb21)
  clear LA LB Lc Le Lo PA PB Pc Pe TD TU HB
  have LA := QLA
  clear QLA
  have LB := QLB
  clear QLB
  have Lc := QLc
  clear QLc
  have Le := QLe
  clear QLe
  have Lo := QLo
  clear QLo
  have PA := QPA
  clear QPA
  have PB := QPB
  clear QPB
  have Pc := QPc
  clear QPc
  have Pe := QPe
  clear QPe
  have TD := QTD
  clear QTD
  have TU := QTU
  clear QTU
  have HB := QHB
  clear QHB
  clear c0 c1
  clear hb21
  have ⟨c0, c1, _, _, _⟩ := Pc.out
  go_wp2_with fail
  refine (rcheck_n _ _ _ _ 1500 ((Nat.gcd x.natAbs y.natAbs : Int)) Lc.out (Sc.out.mono (by omega)) (by omega) Hc.out).mono ?_
  rintro e w22 ⟨rfl, hb22⟩
  have QLA := Lib.hid (LA.out.via hb22)
  have QLB := Lib.hid (LB.out.via hb22)
  have QLc := Lib.hid (Lc.out.via hb22)
  have QLe := Lib.hid (Le.out.via hb22)
  have QLo := Lib.hid (Lo.out.via hb22)
  have QPA := Lib.hid (PA.out.via hb22)
  have QPB := Lib.hid (PB.out.via hb22)
  have QPc := Lib.hid (Pc.out.via hb22)
  have QPe := Lib.hid (Pe.out.via hb22)
  have QPo := Lib.hid (Po.out.via hb22)
  have QTD := Lib.hid (TD.out.via hb22)
  have QTU := Lib.hid (TU.out.via hb22)
  have QHB := Lib.hid (HB.out.trans (hb22.mono HB.out.size))
  clear LA LB Lc Le Lo PA PB Pc Pe Po TD TU HB
  have LA := QLA
  clear QLA
  have LB := QLB
  clear QLB
  have Lc := QLc
  clear QLc
  have Le := QLe
  clear QLe
  have Lo := QLo
  clear QLo
  have PA := QPA
  clear QPA
  have PB := QPB
  clear QPB
  have Pc := QPc
  clear QPc
  have Pe := QPe
  clear QPe
  have Po := QPo
  clear QPo
  have TD := QTD
  clear QTD
  have TU := QTU
  clear QTU
  have HB := QHB
  clear QHB
  clear c0 c1
  clear hb22
  clear Le Lo Pe Po
  obtain rfl : gc = false := by rw [← Hc.out]; exact decide_eq_false (by omega)
  have G1 : Hid (Nat.gcd x.natAbs y.natAbs ∣ x.natAbs) := Nat.gcd_dvd_left _ _
  have G2 : Hid (Nat.gcd x.natAbs y.natAbs ∣ y.natAbs) := Nat.gcd_dvd_right _ _
  obtain ⟨q, hq⟩ : ∃ q, Nat.gcd x.natAbs y.natAbs = q := ⟨_, rfl⟩
  rw [hq] at Lc Sc Hc G1 G2
  clear hq
  have hcc := Lc.out.cap
  have hcx := Lc.out.max
  rcases Nat.eq_zero_or_pos q with h0 | h0
  · subst h0
    obtain rfl : nc = 0 := Lc.out.len.symm
    have hx0 : x.natAbs = 0 := Nat.eq_zero_of_zero_dvd G1.out
    have hy0 : y.natAbs = 0 := Nat.eq_zero_of_zero_dvd G2.out
    obtain rfl : n = 0 := by rw [← LA.out.len, hx0]; rfl
    obtain rfl : m = 0 := by rw [← LB.out.len, hy0]; rfl
    clear hx0 hy0
    have ⟨c0, c1, _, _, _⟩ := Pc.out
    have ⟨c2, c3, _, _, _⟩ := PA.out
    have ⟨c4, c5, _, _, _⟩ := PB.out
    go_wp2
    go_ret
    exact ⟨rfl, HB.out⟩
  have hnc : 0 < nc := by rw [← Lc.out.len, digs_pos]; rw [Int.natAbs_natCast]; exact h0
  have hncz : ((nc : Int) == 0) = false := by simp; omega
  have ⟨c0, c1, _, _, _⟩ := PA.out
  have ⟨c2, c3, _, _, _⟩ := Pc.out
  go_wp2_with fail
  refine (rdiv0_n _ _ _ _ _ _ _ 1500 (x) (q : Int) LA.out Lc.out (SX.out.mono (by omega)) (Sc.out.mono (by omega)) (by omega) HX.out Hc.out (by omega) (by rw [Int.natAbs_natCast]; exact G1.out)).mono ?_
  rintro e w23 ⟨Af, nf, cf, Bf, df, gf, sf, rfl, hb23⟩
  have QLA := Lib.hid (LA.out.via hb23)
  have QLB := Lib.hid (LB.out.via hb23)
  have QLc := Lib.hid (Lc.out.via hb23)
  have QPA := Lib.hid (PA.out.via hb23)
  have QPB := Lib.hid (PB.out.via hb23)
  have QPc := Lib.hid (Pc.out.via hb23)
  have QTD := Lib.hid (TD.out.via hb23)
  have QTU := Lib.hid (TU.out.via hb23)
  have QHB := Lib.hid (HB.out.trans (hb23.mono HB.out.size))
  clear LA LB Lc PA PB Pc TD TU HB
  have LA := QLA
  clear QLA
  have LB := QLB
  clear QLB
  have Lc := QLc
  clear QLc
  have PA := QPA
  clear QPA
  have PB := QPB
  clear QPB
  have Pc := QPc
  clear QPc
  have TD := QTD
  clear QTD
  have TU := QTU
  clear QTU
  have HB := QHB
  clear QHB
  clear c0 c1 c2 c3
  clear hb23
  have NB := (PB.out.alloc (.cells #[.bool gf, .slice Af nf cf] 24)).alloc (.cells #[.bool sf, .slice Bf 0 df] 24)
  have ⟨nb0, nb1, _, _, _⟩ := NB
  have hlt1 : w.heap.size < w23.heap.size := by have := PB.out.lt; omega
  have hlt2 : w.heap.size + 1 < w23.heap.size := PB.out.lt
  have hne3 : ¬ w.heap.size + 1 = w23.heap.size := by omega
  have hne4 : ¬ w23.heap.size = w.heap.size + 1 := by omega
  have hne1 : ¬ w.heap.size = w23.heap.size := by omega
  have hne2 : ¬ w23.heap.size = w.heap.size := by omega
  have ⟨c0, c1, _, _, _⟩ := PB.out
  have ⟨c2, c3, _, _, _⟩ := Pc.out
  go_wp2_with fail
  refine (rdiv0_n _ _ _ _ _ _ _ 1500 (y) (q : Int) ((LB.out.box _).box _) ((Lc.out.box _).box _) (SY.out.mono (by omega)) (Sc.out.mono (by omega)) (by omega) HY.out Hc.out (by omega) (by rw [Int.natAbs_natCast]; exact G2.out)).mono ?_
  rintro e w24 ⟨Ah, nh, ch, Bh, dh, gh, sh, rfl, hb24⟩
  have QLA := Lib.hid (((LA.out.box _).box _).via hb24)
  have QLB := Lib.hid (((LB.out.box _).box _).via hb24)
  have QLc := Lib.hid (((Lc.out.box _).box _).via hb24)
  have QPA := Lib.hid (((PA.out.alloc _).alloc _).via hb24)
  have QPB := Lib.hid (((PB.out.alloc _).alloc _).via hb24)
  have QPc := Lib.hid (((Pc.out.alloc _).alloc _).via hb24)
  have QTD := Lib.hid (((TD.out.box _).box _).via hb24)
  have QTU := Lib.hid (((TU.out.box _).box _).via hb24)
  have QHB := Lib.hid (HB.out.trans ((bbox (bbox hb24)).mono HB.out.size))
  have ⟨N0, N1⟩ := boxes2 hb24
  have Pf0 := Lib.hid N0
  have Pf := Lib.hid N1
  clear N0 N1
  clear LA LB Lc PA PB Pc TD TU HB
  have LA := QLA
  clear QLA
  have LB := QLB
  clear QLB
  have Lc := QLc
  clear QLc
  have PA := QPA
  clear QPA
  have PB := QPB
  clear QPB
  have Pc := QPc
  clear QPc
  have TD := QTD
  clear QTD
  have TU := QTU
  clear QTU
  have HB := QHB
  clear QHB
  clear c0 c1 c2 c3
  clear hb24
  have ⟨c0, c1, _, _, _⟩ := Pc.out
  have ⟨c2, c3, _, _, _⟩ := Pf.out
  have NH := Pr.new (w24.alloc (.cells #[.bool gh, .slice Ah nh ch] 24)) _ rfl (.bool sh) (.slice Bh 0 dh) 24
  have ⟨c4, c5, _, _, _⟩ := NH
  have NF := (Pf.out.alloc (.cells #[.bool gh, .slice Ah nh ch] 24)).alloc (.cells #[.bool sh, .slice Bh 0 dh] 24)
  have ⟨c6, c7, _, _, _⟩ := NF
  have hlt5 : w23.heap.size + 1 < w24.heap.size := Pf.out.lt
  have hlt6 : w23.heap.size < w24.heap.size := by omega
  have hne5 : ¬ w23.heap.size = w24.heap.size := by omega
  have hne6 : ¬ w24.heap.size = w23.heap.size := by omega
  have hne7 : ¬ w23.heap.size + 1 = w24.heap.size := by omega
  have hne8 : ¬ w24.heap.size = w23.heap.size + 1 := by omega
  go_wp2
  go_ret
  exact ⟨rfl, (HB.out.alloc HB.out.size _).alloc (HB.out.alloc HB.out.size _).size _⟩
end Go.Proofs.YtkcdijhfiahibaaDoor

namespace Go.Proofs.YtkcdijhfiahibaaDoor
open Go.ChangeShapes Go.WideShapes Go.ChangeAt Go.RowKit

theorem roots_any (w : World) (na nb : Bool) (A B : Option Addr) (n m ca cb : Nat) (xs ys : List Nat) (hA : Lm w w.heap.size A n ca xs) (hB : Lm w w.heap.size B m cb ys) (k : Int) (hk : (Lit.int .u8 k).wf = true) (hD : TabD w) (hU : TabU w) :
    Calls Tryd.prog 4 #[.agg #[.bool na, .slice A n ca], .agg #[.bool nb, .slice B m cb], .int .u8 k] w fun e w' => e = .returned (.bool true) ∧ Below w.heap.size w w' := by
  by_cases h : chk na xs = 0 ∧ chk nb ys = 0 ∧ chk nb ys = 0 ∧ (n : Int) ≤ 60 ∧ (m : Int) ≤ 60 ∧ (m : Int) ≤ 60
  · obtain ⟨k0, k1, _, g0, g1, _⟩ := h
    obtain ⟨x, rfl, rfl, hx⟩ := of_chk k0 hA.good (k := 60) (by rw [hA.len]; omega)
    obtain ⟨y, rfl, rfl, hy⟩ := of_chk k1 hB.good (k := 60) (by rw [hB.len]; omega)
    have hr : 0 ≤ k ∧ k ≤ 255 := by simpa [Lit.wf, IntKind.min, IntKind.max, IntKind.signed, IntKind.bits] using hk
    obtain ⟨j, rfl⟩ := Int.eq_ofNat_of_zero_le hr.1
    exact roots_main w A B n m ca cb j x y hA hB hD hU hx hy (by omega)
  · refine roots_long w na nb A B n m ca cb xs ys k hA hB hD hU fun W h1 h2 => ?_
    rcases long_any W na nb nb A B B n m m ca cb cb xs ys ys 60 h1 h2 h2 with ⟨a, b, c, d, e, f, _⟩ | h4
    · exact absurd ⟨a, b, c, d, e, f⟩ h
    · exact h4

set_option maxRecDepth 100000 in
theorem wideRoots_lifted (os : Os) (started : os.Started) (H : Type) (enc : TypeId × Value → H) :
    ReturnsInHanded {} Tryd.checked os 4 .any (fun w args => (Rows.wideRootsSpec.pre enc Tryd.prog Tryd.f4 [] false w args ∧ laidMetH Tryd.prog laid3 w) ∧ sizedMet enc Tryd.prog Tryd.f4 (OpenSpec.ofChange Rows.wideRootsSpec) false w args)
      (Rows.wideRootsSpec.post enc Tryd.prog Tryd.f4 false true false false) := by
  refine returnsInHanded_of_change_and (C := Tryd.checked) (X := fun w _ => laidMetH Tryd.prog laid3 w) (fun _ _ _ hh h => h.of_heap hh) own started (by kernel_rfl) Tryd.func4
    (ChangeSpec.witness_shaped (enc := enc) (C := Tryd.checked) (os := os) (X := fun w _ => laidMetH Tryd.prog laid3 w) false (World.doorLaid Tryd.prog 24 os) #[.agg #[.bool false, .slice none 0 0], .agg #[.bool false, .slice none 0 0], .int .u8 0] 8 rfl (World.shaped_of_RefB (by kernel_rfl) (by kernel_rfl)) (by kernel_rfl) (by kernel_rfl) (by kernel_rfl) (door_met os _)) ?_
  intro W base args ds gs before hval0 hW _ _ hL _
  obtain ⟨hTD, hTU⟩ := tabs_of hL
  have hval : ∀ (j : Nat) t v, Tryd.f4.params[j]? = some t → args[j]? = some v → Value.okWide Tryd.prog W .any base t v := hval0
  have hW' := hW
  obtain ⟨p, q, hA0, hV, rfl, hfz, hnd⟩ := hW
  have hA : DataW.TrodAll enc Tryd.prog W 0 (fun _ => true) true Tryd.f4.params.toList args.toList ds p := hA0
  rw [Tryd.params4] at hA hval
  obtain ⟨v0, v1, v2, d0, d1, d2, p0, p1, p2, rfl, rfl, rfl, h0, h1, h2⟩ := trodAll_three hA
  obtain ⟨rfl, rfl⟩ := trodVars_none hV
  clear hA0 hval0
  simp only [List.append_nil] at hW'
  obtain ⟨k2, rfl, rfl, rfl, wk2⟩ := open_int Tryd.underlying5 (hval 2 5 v2 rfl rfl) h2
  try (simp only [List.append_nil] at hW')
  try (simp only [List.nil_append] at hW')
  try (simp only [List.append_assoc] at hW')
  have hlt : ∀ x ∈ p0 ++ p1, x.block < W.heap.size := fun x hx => by simpa using hW'.lt x hx
  have hlt0 : ∀ x ∈ p0, x.block < W.heap.size := fun x hx => hlt x (List.mem_append_left _ hx)
  have hlt1 : ∀ x ∈ p1, x.block < W.heap.size := fun x hx => hlt x (List.mem_append_right _ hx)
  obtain ⟨na, A, n, ca, xs, rfl, hLA⟩ := open_wide (hval 0 24 v0 rfl rfl) h0 hlt0
  obtain ⟨nb, B, m, cb, ys, rfl, hLB⟩ := open_wide (hval 1 24 v1 rfl rfl) h1 hlt1
  refine (roots_any W na nb A B n m ca cb xs ys hLA hLB k2 wk2 hTD hTU).mono fun e W' ⟨he, hb⟩ => ?_
  subst he
  exact ⟨_, rfl, _, _, _, [], p0 ++ p1, [], hW', trodAll_mk1 (shut_bool Tryd.underlying4 _),
    (by have e := trodAll_mk3 (Below.trod laidOut (by kernel_rfl) (of_decide_eq_true (by kernel_rfl)) h0 hb hlt0) (Below.trod laidOut (by kernel_rfl) (of_decide_eq_true (by kernel_rfl)) h1 hb hlt1) (shut_int Tryd.underlying5 wk2); (try (simp only [List.append_nil] at e)); (try (simp only [List.nil_append] at e)); exact e), rfl, hb.frame _, fun h => by cases h⟩

theorem wideRoots_row : Rows.WideRootsSaid :=
  OpenClaim.holds_of_wide 4 Tryd.f4 rfl rfl rfl rfl rfl rfl rfl ⟨rfl, rfl, rfl, rfl, rfl⟩ rfl rfl rfl rfl rfl (by kernel_rfl) Tryd.func4 (by kernel_rfl)
    (of_decide_eq_true (by kernel_rfl)) (by unfold Func.isWrapper; first | (rw [if_pos (by decide +kernel)]; kernel_rfl) | (rw [if_neg (by decide +kernel)]; exact ⟨rfl, rfl⟩))
    (fun os started H enc _ => wideRoots_lifted os started H enc)

theorem wideRoots_holds : Rows.WideRootsCardSaid :=
  Claim7.holds_tied_plain_at .later [] [.data, .data, .data] true (Rows.wideRootsCard.stood.harness) false
    wideRoots_row (fun _ h => by cases h) (by kernel_rfl) (fun _ h => by cases h) wideRoots_row_tie rfl ⟨rfl, rfl⟩ (by kernel_rfl) rfl
    (fun f fn hf hfn => by
      obtain rfl : f = 4 := Option.some.inj ((show Tryd.prog.funcNamed "planisphere/planispherelaw01.WideRoots" = some 4 by kernel_rfl).symm.trans hf) |>.symm
      obtain rfl : fn = Tryd.f4 := (Option.some.inj (Tryd.func4.symm.trans hfn)).symm
      exact ⟨by kernel_rfl, fun j t ht => by
        rw [Tryd.params4] at ht
        have hm : t ∈ [24, 24, 5] := by simpa using Array.mem_of_getElem? ht
        have hall : ([24, 24, 5].all fun u => !Tryd.prog.wantsStandIn u) = true := by kernel_rfl
        exact (show Tryd.prog.wantsStandIn t = false by simpa using List.all_eq_true.1 hall t hm)⟩)
    (by kernel_rfl)
end Go.Proofs.YtkcdijhfiahibaaDoor

