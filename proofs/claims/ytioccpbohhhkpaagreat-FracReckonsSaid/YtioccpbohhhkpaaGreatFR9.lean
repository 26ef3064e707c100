
/-
  For any two fractions a and b the law FracReckons returns true: Add, Sub, Mul, Div, Neg and Cmp of package frac return what the reference returns, fraction and error, whether the fractions are valid or not, and leave their arguments as they are. Condition: none beyond the statement's own (fractions with a number of more than 130 limbs make the law return true at once).
-/
import Derived.Test.YtioccpbohhhkpaaGreatRows
import Derived.Test.YtioccpbohhhkpaaGreatFR8
/- Two copies of fractions laid in new boxes, in whatever order. -/
namespace Go.Proofs.YtioccpbohhhkpaaGreat
open Go.RowKit

/-- Two slots point to copies of both fractions. -/
def FTwins (w2 : World) (na nb nc nd : Bool) (n m r s : Nat) (xs ys us vs : List Nat) (s5 s6 : Value) (wc : World) : Prop :=
  ∃ gx gy A' c' B' d' A'' c'' B'' d'', s5 = .pointer (some ⟨gx, 0, none⟩) ∧ s6 = .pointer (some ⟨gy, 0, none⟩) ∧ Qd wc gx (.bool na) (.slice A' n c') (.bool nb) (.slice B' m d') ∧ Qd wc gy (.bool nc) (.slice A'' r c'') (.bool nd) (.slice B'' s d'') ∧ Lm wc wc.heap.size A' n c' xs ∧ Lm wc wc.heap.size B' m d' ys ∧ Lm wc wc.heap.size A'' r c'' us ∧ Lm wc wc.heap.size B'' s d'' vs ∧ Below w2.heap.size w2 wc
theorem Qd.far4 {w : World} {g h : Nat} {x0 x1 x2 x3 : Value} (p : Qd w g x0 x1 x2 x3) (hne : g ≠ h) (a b c d : Value) : Qd (Proofs.YtioccpbohhhkpaaGreat.put4 w h a b c d) g x0 x1 x2 x3 :=
  (((p.far1 hne 0 a).far1 hne 1 b).far1 hne 2 c).far1 hne 3 d
theorem put4_size (w : World) (h : Nat) (a b c d : Value) : (Proofs.YtioccpbohhhkpaaGreat.put4 w h a b c d).heap.size = w.heap.size := by unfold Proofs.YtioccpbohhhkpaaGreat.put4; simp [World.size_setCell]
section
variable {w2 w4 : World} {na nb nc nd : Bool} {n m r s : Nat} {xs ys us vs : List Nat} {A3 B3 A4 B4 : Option Addr} {c3 d3 c4 d4 : Nat} {t : TypeId}
theorem ffin1 (hB : Below w2.heap.size w2 w4) (L3 : Lm w4 w4.heap.size A3 n c3 xs) (M3 : Lm w4 w4.heap.size B3 m d3 ys) (L4 : Lm w4 w4.heap.size A4 r c4 us) (M4 : Lm w4 w4.heap.size B4 s d4 vs) :
    FTwins w2 na nb nc nd n m r s xs ys us vs (.pointer (some ⟨w4.heap.size, 0, none⟩)) (.pointer (some ⟨w4.heap.size + 1, 0, none⟩)) ((w4.alloc (.cells #[.bool na, .slice A3 n c3, .bool nb, .slice B3 m d3] t)).alloc (.cells #[.bool nc, .slice A4 r c4, .bool nd, .slice B4 s d4] t)) :=
  ⟨_, _, A3, c3, B3, d3, A4, c4, B4, d4, rfl, rfl, (Qd.new w4 _ rfl _ _ _ _ t).alloc _, Qd.new (w4.alloc _) _ (by simp) _ _ _ _ t, (L3.box _).box _, (M3.box _).box _, (L4.box _).box _, (M4.box _).box _, below_alloc (below_alloc hB _) _⟩
theorem ffin2 (hB : Below w2.heap.size w2 w4) (L3 : Lm w4 w4.heap.size A3 n c3 xs) (M3 : Lm w4 w4.heap.size B3 m d3 ys) (L4 : Lm w4 w4.heap.size A4 r c4 us) (M4 : Lm w4 w4.heap.size B4 s d4 vs) :
    FTwins w2 na nb nc nd n m r s xs ys us vs (.pointer (some ⟨w4.heap.size + 1, 0, none⟩)) (.pointer (some ⟨w4.heap.size, 0, none⟩)) ((w4.alloc (.cells #[.bool nc, .slice A4 r c4, .bool nd, .slice B4 s d4] t)).alloc (.cells #[.bool na, .slice A3 n c3, .bool nb, .slice B3 m d3] t)) :=
  ⟨_, _, A3, c3, B3, d3, A4, c4, B4, d4, rfl, rfl, Qd.new (w4.alloc _) _ (by simp) _ _ _ _ t, (Qd.new w4 _ rfl _ _ _ _ t).alloc _, (L3.box _).box _, (M3.box _).box _, (L4.box _).box _, (M4.box _).box _, below_alloc (below_alloc hB _) _⟩
theorem ffin3 {g : Nat} (hB : Below w2.heap.size w2 w4) (L3 : Lm w4 w4.heap.size A3 n c3 xs) (M3 : Lm w4 w4.heap.size B3 m d3 ys) (L4 : Lm w4 w4.heap.size A4 r c4 us) (M4 : Lm w4 w4.heap.size B4 s d4 vs) (P : Qd w4 g (.bool false) (.slice none 0 0) (.bool false) (.slice none 0 0)) (hg : w2.heap.size ≤ g) :
    FTwins w2 na nb nc nd n m r s xs ys us vs (.pointer (some ⟨g, 0, none⟩)) (.pointer (some ⟨w4.heap.size, 0, none⟩)) ((Proofs.YtioccpbohhhkpaaGreat.put4 w4 g (.bool na) (.slice A3 n c3) (.bool nb) (.slice B3 m d3)).alloc (.cells #[.bool nc, .slice A4 r c4, .bool nd, .slice B4 s d4] t)) :=
  ⟨_, _, A3, c3, B3, d3, A4, c4, B4, d4, rfl, rfl, (P.set _ _ _ _).alloc _, Qd.new _ _ (put4_size _ _ _ _ _ _) _ _ _ _ t, (L3.put4 P _ _ _ _).box _, (M3.put4 P _ _ _ _).box _, (L4.put4 P _ _ _ _).box _, (M4.put4 P _ _ _ _).box _, below_alloc (below_put4 hB hg _ _ _ _) _⟩
theorem ffin4 {g : Nat} (hB : Below w2.heap.size w2 w4) (L3 : Lm w4 w4.heap.size A3 n c3 xs) (M3 : Lm w4 w4.heap.size B3 m d3 ys) (L4 : Lm w4 w4.heap.size A4 r c4 us) (M4 : Lm w4 w4.heap.size B4 s d4 vs) (P : Qd w4 g (.bool false) (.slice none 0 0) (.bool false) (.slice none 0 0)) (hg : w2.heap.size ≤ g) :
    FTwins w2 na nb nc nd n m r s xs ys us vs (.pointer (some ⟨w4.heap.size, 0, none⟩)) (.pointer (some ⟨g, 0, none⟩)) ((Proofs.YtioccpbohhhkpaaGreat.put4 w4 g (.bool nc) (.slice A4 r c4) (.bool nd) (.slice B4 s d4)).alloc (.cells #[.bool na, .slice A3 n c3, .bool nb, .slice B3 m d3] t)) :=
  ⟨_, _, A3, c3, B3, d3, A4, c4, B4, d4, rfl, rfl, Qd.new _ _ (put4_size _ _ _ _ _ _) _ _ _ _ t, (P.set _ _ _ _).alloc _, (L3.put4 P _ _ _ _).box _, (M3.put4 P _ _ _ _).box _, (L4.put4 P _ _ _ _).box _, (M4.put4 P _ _ _ _).box _, below_alloc (below_put4 hB hg _ _ _ _) _⟩
theorem ffin5 {g h : Nat} (hB : Below w2.heap.size w2 w4) (L3 : Lm w4 w4.heap.size A3 n c3 xs) (M3 : Lm w4 w4.heap.size B3 m d3 ys) (L4 : Lm w4 w4.heap.size A4 r c4 us) (M4 : Lm w4 w4.heap.size B4 s d4 vs) (P : Qd w4 g (.bool false) (.slice none 0 0) (.bool false) (.slice none 0 0)) (Q : Qd w4 h (.bool false) (.slice none 0 0) (.bool false) (.slice none 0 0)) (hg : w2.heap.size ≤ g) (hh : w2.heap.size ≤ h) (hne : g ≠ h) :
    FTwins w2 na nb nc nd n m r s xs ys us vs (.pointer (some ⟨g, 0, none⟩)) (.pointer (some ⟨h, 0, none⟩)) (Proofs.YtioccpbohhhkpaaGreat.put4 (Proofs.YtioccpbohhhkpaaGreat.put4 w4 g (.bool na) (.slice A3 n c3) (.bool nb) (.slice B3 m d3)) h (.bool nc) (.slice A4 r c4) (.bool nd) (.slice B4 s d4)) :=
  have Q' := Q.far4 (h := g) (fun e => hne e.symm) (.bool na) (.slice A3 n c3) (.bool nb) (.slice B3 m d3)
  ⟨_, _, A3, c3, B3, d3, A4, c4, B4, d4, rfl, rfl, (P.set _ _ _ _).far4 hne _ _ _ _, Q'.set _ _ _ _, (L3.put4 P _ _ _ _).put4 Q' _ _ _ _, (M3.put4 P _ _ _ _).put4 Q' _ _ _ _, (L4.put4 P _ _ _ _).put4 Q' _ _ _ _, (M4.put4 P _ _ _ _).put4 Q' _ _ _ _, below_put4 (below_put4 hB hg _ _ _ _) hh _ _ _ _⟩
end
end Go.Proofs.YtioccpbohhhkpaaGreat

/- The walk of the law FracReckons. -/
namespace Go.Proofs.YtioccpbohhhkpaaGreat
open Go.RowKit

theorem put4_eq (w : World) (g : Nat) (a b c d : Value) : (((w.setCell ⟨g, 0, none⟩ a).setCell ⟨g, 1, none⟩ b).setCell ⟨g, 2, none⟩ c).setCell ⟨g, 3, none⟩ d = Proofs.YtioccpbohhhkpaaGreat.put4 w g a b c d := rfl

set_option maxRecDepth 100000 in
set_option maxHeartbeats 8000000 in
theorem reckons_main (w : World) (na nb nc nd : Bool) (A B C D : Option Addr) (n m r s ca cb cc cd : Nat) (xs ys us vs : List Nat) (hA : Lm w w.heap.size A n ca xs) (hB : Lm w w.heap.size B m cb ys) (hC : Lm w w.heap.size C r cc us) (hD : Lm w w.heap.size D s cd vs) (hn : n ≤ 130) (hm : m ≤ 130) (hr : r ≤ 130) (hs : s ≤ 130) :
    Calls Tryz.prog 3 #[fv na A n ca nb B m cb, fv nc C r cc nd D s cd] w fun e w' => e = .returned (.bool true) ∧ Below w.heap.size w w' := by
  obtain ⟨padd, aadd, qadd, badd, eadd, kadd1, kadd2⟩ := add_both na nb nc nd xs ys us vs hA.good hB.good hC.good hD.good (by rw [hA.len]; exact hn) (by rw [hB.len]; exact hm) (by rw [hC.len]; exact hr) (by rw [hD.len]; exact hs)
  have Kadd1 := Lib.hid kadd1
  have Kadd2 := Lib.hid kadd2
  clear kadd1 kadd2
  obtain ⟨psub, asub, qsub, bsub, esub, ksub1, ksub2⟩ := sub_both na nb nc nd xs ys us vs hA.good hB.good hC.good hD.good (by rw [hA.len]; exact hn) (by rw [hB.len]; exact hm) (by rw [hC.len]; exact hr) (by rw [hD.len]; exact hs)
  have Ksub1 := Lib.hid ksub1
  have Ksub2 := Lib.hid ksub2
  clear ksub1 ksub2
  obtain ⟨pmul, amul, qmul, bmul, emul, kmul1, kmul2⟩ := mul_both na nb nc nd xs ys us vs hA.good hB.good hC.good hD.good (by rw [hA.len]; exact hn) (by rw [hB.len]; exact hm) (by rw [hC.len]; exact hr) (by rw [hD.len]; exact hs)
  have Kmul1 := Lib.hid kmul1
  have Kmul2 := Lib.hid kmul2
  clear kmul1 kmul2
  obtain ⟨pdiv, adiv, qdiv, bdiv, ediv, kdiv1, kdiv2⟩ := div_both na nb nc nd xs ys us vs hA.good hB.good hC.good hD.good (by rw [hA.len]; exact hn) (by rw [hB.len]; exact hm) (by rw [hC.len]; exact hr) (by rw [hD.len]; exact hs)
  have Kdiv1 := Lib.hid kdiv1
  have Kdiv2 := Lib.hid kdiv2
  clear kdiv1 kdiv2
  obtain ⟨pneg, aneg, qneg, bneg, eneg, kneg1, kneg2⟩ := neg_both na nb xs ys hA.good hB.good (by rw [hA.len]; exact hn) (by rw [hB.len]; exact hm)
  have Kneg1 := Lib.hid kneg1
  have Kneg2 := Lib.hid kneg2
  clear kneg1 kneg2
  obtain ⟨vcmp, ecmp, kcmp1, kcmp2⟩ := cmp_both na nb nc nd xs ys us vs hA.good hB.good hC.good hD.good (by rw [hA.len]; exact hn) (by rw [hB.len]; exact hm) (by rw [hC.len]; exact hr) (by rw [hD.len]; exact hs)
  have Kcmp1 := Lib.hid kcmp1
  have Kcmp2 := Lib.hid kcmp2
  clear kcmp1 kcmp2
  have HG1 : Hid ((decide (130 < n) || decide (130 < m)) = false) := by show _ = _; simp; omega
  have HG2 : Hid ((decide (130 < r) || decide (130 < s)) = false) := by show _ = _; simp; omega
  have p0 := hA.cap
  have q0 := hA.max
  have p1 := hB.cap
  have q1 := hB.max
  have p2 := hC.cap
  have q2 := hC.max
  have p3 := hD.cap
  have q3 := hD.max
  have HA := Lib.hid hA
  have HB := Lib.hid hB
  have HC := Lib.hid hC
  have HD := Lib.hid hD
  clear hA hB hC hD
  go_enter Tryz.func3, Tryz.ntmps3
  have QA := Lib.hid ((Qd.new w (w.heap.size) rfl (.bool na) (.slice A n ca) (.bool nb) (.slice B m cb) 26).alloc (.cells #[.bool nc, .slice C r cc, .bool nd, .slice D s cd] 26))
  have QB := Lib.hid (Qd.new (w.alloc (.cells #[.bool na, .slice A n ca, .bool nb, .slice B m cb] 26)) (w.heap.size + 1) (by simp) (.bool nc) (.slice C r cc) (.bool nd) (.slice D s cd) 26)
  have LA := Lib.hid ((HA.out.box (.cells #[.bool na, .slice A n ca, .bool nb, .slice B m cb] 26)).box (.cells #[.bool nc, .slice C r cc, .bool nd, .slice D s cd] 26))
  have LB := Lib.hid ((HB.out.box (.cells #[.bool na, .slice A n ca, .bool nb, .slice B m cb] 26)).box (.cells #[.bool nc, .slice C r cc, .bool nd, .slice D s cd] 26))
  have LC := Lib.hid ((HC.out.box (.cells #[.bool na, .slice A n ca, .bool nb, .slice B m cb] 26)).box (.cells #[.bool nc, .slice C r cc, .bool nd, .slice D s cd] 26))
  have LD := Lib.hid ((HD.out.box (.cells #[.bool na, .slice A n ca, .bool nb, .slice B m cb] 26)).box (.cells #[.bool nc, .slice C r cc, .bool nd, .slice D s cd] 26))
  have BW : Hid (Below w.heap.size w ((w.alloc (.cells #[.bool na, .slice A n ca, .bool nb, .slice B m cb] 26)).alloc (.cells #[.bool nc, .slice C r cc, .bool nd, .slice D s cd] 26))) := (below_alloc (below_alloc (Below.refl _ _) _) _)
  clear HA HB HC HD
  go_wp2_with fail
  generalize (w.alloc (.cells #[.bool na, .slice A n ca, .bool nb, .slice B m cb] 26)).alloc (.cells #[.bool nc, .slice C r cc, .bool nd, .slice D s cd] 26) = W0 at *
  refine (fgreat_any _ na nb A B n m ca cb p0 q0 p1 q1).mono ?_
  rintro e w1 ⟨rfl, hb⟩
  replace QA := Lib.hid (QA.out.via hb)
  replace QB := Lib.hid (QB.out.via hb)
  replace LA := Lib.hid (LA.out.via hb)
  replace LB := Lib.hid (LB.out.via hb)
  replace LC := Lib.hid (LC.out.via hb)
  replace LD := Lib.hid (LD.out.via hb)
  replace BW := Lib.hid (btr BW.out hb)
  clear hb
  rw [HG1.out]
  have ⟨rQB0, rQB1, rQB2, rQB3, rQB4, rQB5, rQB6, rQB7, rQBl⟩ := QB.out
  go_wp2_with fail
  clear rQB0 rQB1 rQB2 rQB3 rQB4 rQB5 rQB6 rQB7 rQBl
  refine (fgreat_any _ nc nd C D r s cc cd p2 q2 p3 q3).mono ?_
  rintro e w2 ⟨rfl, hb⟩
  replace QA := Lib.hid (QA.out.via hb)
  replace QB := Lib.hid (QB.out.via hb)
  replace LA := Lib.hid (LA.out.via hb)
  replace LB := Lib.hid (LB.out.via hb)
  replace LC := Lib.hid (LC.out.via hb)
  replace LD := Lib.hid (LD.out.via hb)
  replace BW := Lib.hid (btr BW.out hb)
  clear hb
  rw [HG2.out]
  clear p0 q0 p1 q1 p2 q2 p3 q3
  have ⟨rQA0, rQA1, rQA2, rQA3, rQA4, rQA5, rQA6, rQA7, rQAl⟩ := QA.out
  have ⟨rQB0, rQB1, rQB2, rQB3, rQB4, rQB5, rQB6, rQB7, rQBl⟩ := QB.out
  go_wp2_with fail
  have HKS : Hid (∀ W : World, Below w2.heap.size w2 W → W.cell? ⟨w.heap.size, 0, none⟩ = some (.bool na) ∧ W.cell? ⟨w.heap.size, 1, none⟩ = some (.slice A n ca) ∧ W.cell? ⟨w.heap.size, 2, none⟩ = some (.bool nb) ∧ W.cell? ⟨w.heap.size, 3, none⟩ = some (.slice B m cb) ∧ W.cell? ⟨w.heap.size + 1, 0, none⟩ = some (.bool nc) ∧ W.cell? ⟨w.heap.size + 1, 1, none⟩ = some (.slice C r cc) ∧ W.cell? ⟨w.heap.size + 1, 2, none⟩ = some (.bool nd) ∧ W.cell? ⟨w.heap.size + 1, 3, none⟩ = some (.slice D s cd)) := fun W h => ⟨(QA.out.via h).c0, (QA.out.via h).c1, (QA.out.via h).c2, (QA.out.via h).c3, (QB.out.via h).c0, (QB.out.via h).c1, (QB.out.via h).c2, (QB.out.via h).c3⟩
  go_cut [5, 6] (fun s5 s6 wx => FTwins w2 na nb nc nd n m r s xs ys us vs s5 s6 wx)
  case first =>
    go_region_held3 (fun w' => w'.cell? ⟨w.heap.size, 0, none⟩ = some (.bool na) ∧ w'.cell? ⟨w.heap.size, 1, none⟩ = some (.slice A n ca) ∧ w'.cell? ⟨w.heap.size, 2, none⟩ = some (.bool nb) ∧ w'.cell? ⟨w.heap.size, 3, none⟩ = some (.slice B m cb) ∧ w'.cell? ⟨w.heap.size + 1, 0, none⟩ = some (.bool nc) ∧ w'.cell? ⟨w.heap.size + 1, 1, none⟩ = some (.slice C r cc) ∧ w'.cell? ⟨w.heap.size + 1, 2, none⟩ = some (.bool nd) ∧ w'.cell? ⟨w.heap.size + 1, 3, none⟩ = some (.slice D s cd))
      (first | (refine HKS.out _ ?_; (repeat' (first | with_reducible exact B24 | with_reducible exact B3 | with_reducible exact (Below.refl _ _).drew | with_reducible exact Below.refl _ _ | with_reducible refine Below.drew ?_ | with_reducible refine Below.setCell ?_ ?_ _ | with_reducible refine Below.alloc ?_ ?_ _)); all_goals (first | omega | (simp [World.size_setCell]; done) | (simp [World.size_setCell]; omega))))
      (first
       | (go_at_call_of 5 (Value.agg #[Value.bool na, Value.slice A n ca, Value.bool nb, Value.slice B m cb]); refine (ftwin_any _ na nb A B n m ca cb xs ys (by first | with_reducible exact LA.out.drew | with_reducible exact (LA.out.box _).drew | with_reducible exact ((LA.out.box _).box _).drew) (by first | with_reducible exact LB.out.drew | with_reducible exact (LB.out.box _).drew | with_reducible exact ((LB.out.box _).box _).drew) (by omega) (by omega)).mono ?_; rintro e w3 ⟨A3, c3, E3, d3, rfl, L3, M3, hb3⟩; have B3 : Below w2.heap.size w2 w3 := (by first | with_reducible exact b_two_d hb3 | with_reducible exact b_one_d hb3 | exact (Below.refl _ _).drew.trans hb3); have hs23 := B3.size; (try (have PZ : (Qd w3 (w2.heap.size) (.bool false) (.slice none 0 0) (.bool false) (.slice none 0 0)) := (by with_reducible exact (Qd.new w2 (w2.heap.size) rfl (.bool false) (.slice none 0 0) (.bool false) (.slice none 0 0) 26).drew.via hb3); have ⟨z0, z1, z2, z3, z4, z5, z6, z7, zl⟩ := PZ)); (try (have PZ2 : (Qd w3 (w2.heap.size) (.bool false) (.slice none 0 0) (.bool false) (.slice none 0 0)) := (by with_reducible exact ((Qd.new w2 (w2.heap.size) rfl (.bool false) (.slice none 0 0) (.bool false) (.slice none 0 0) 26).alloc (.cells #[.bool false, .slice none 0 0, .bool false, .slice none 0 0] 26)).drew.via hb3); have PZ3 : (Qd w3 (w2.heap.size + 1) (.bool false) (.slice none 0 0) (.bool false) (.slice none 0 0)) := (by with_reducible exact (Qd.new (w2.alloc (.cells #[.bool false, .slice none 0 0, .bool false, .slice none 0 0] 26)) (w2.heap.size + 1) (by simp) (.bool false) (.slice none 0 0) (.bool false) (.slice none 0 0) 26).drew.via hb3); have ⟨y0, y1, y2, y3, y4, y5, y6, y7, yl⟩ := PZ2; have ⟨x0, x1, x2, x3, x4, x5, x6, x7, xl⟩ := PZ3)))
       | (go_at_call_of 5 (Value.agg #[Value.bool nc, Value.slice C r cc, Value.bool nd, Value.slice D s cd]); refine (ftwin_any _ nc nd C D r s cc cd us vs (by first | with_reducible exact LC.out.via B3 | with_reducible exact (LC.out.via B3).box _ | with_reducible exact ((LC.out.via B3).box _).box _) (by first | with_reducible exact LD.out.via B3 | with_reducible exact (LD.out.via B3).box _ | with_reducible exact ((LD.out.via B3).box _).box _) (by omega) (by omega)).mono ?_; rintro e w4 ⟨A4, c4, E4, d4, rfl, L4, M4, hb4⟩; have B34 : Below w3.heap.size w3 w4 := (by first | with_reducible exact hb4 | with_reducible exact b_two hb4 | with_reducible exact b_one hb4); have hs34 := B34.size; have B24 := B3.trans (B34.mono hs23); (try (have PW := PZ.via B34; have ⟨u0, u1, u2, u3, u4, u5, u6, u7, ul⟩ := PW; have ua0 := fun o => (PW.alloc o).c0; have ua1 := fun o => (PW.alloc o).c1; have ua2 := fun o => (PW.alloc o).c2; have ua3 := fun o => (PW.alloc o).c3; have ua4 := fun o => (PW.alloc o).f0; have ua5 := fun o => (PW.alloc o).f1; have ua6 := fun o => (PW.alloc o).f2; have ua7 := fun o => (PW.alloc o).f3; have un1 := Nat.ne_of_lt ul; have un2 := Nat.ne_of_gt ul; have un3 := Nat.ne_of_lt zl; have un4 := Nat.ne_of_gt zl)); (try (have PW2 := PZ2.via B34; have PW3 := PZ3.via B34; have ⟨i0, i1, i2, i3, i4, i5, i6, i7, il⟩ := PW2; have ⟨j0, j1, j2, j3, j4, j5, j6, j7, jl⟩ := PW3)); (try (have PY : (Qd w4 (w3.heap.size) (.bool false) (.slice none 0 0) (.bool false) (.slice none 0 0)) := (by with_reducible exact (Qd.new w3 (w3.heap.size) rfl (.bool false) (.slice none 0 0) (.bool false) (.slice none 0 0) 26).via hb4); have ⟨k0, k1, k2, k3, k4, k5, k6, k7, kl⟩ := PY; have ka0 := fun o => (PY.alloc o).c0; have ka1 := fun o => (PY.alloc o).c1; have ka2 := fun o => (PY.alloc o).c2; have ka3 := fun o => (PY.alloc o).c3; have ka4 := fun o => (PY.alloc o).f0; have ka5 := fun o => (PY.alloc o).f1; have ka6 := fun o => (PY.alloc o).f2; have ka7 := fun o => (PY.alloc o).f3; have kn1 := Nat.ne_of_lt kl; have kn2 := Nat.ne_of_gt kl)); (try (have PY2 : (Qd w4 (w3.heap.size) (.bool false) (.slice none 0 0) (.bool false) (.slice none 0 0)) := (by with_reducible exact ((Qd.new w3 (w3.heap.size) rfl (.bool false) (.slice none 0 0) (.bool false) (.slice none 0 0) 26).alloc (.cells #[.bool false, .slice none 0 0, .bool false, .slice none 0 0] 26)).via hb4); have PY3 : (Qd w4 (w3.heap.size + 1) (.bool false) (.slice none 0 0) (.bool false) (.slice none 0 0)) := (by with_reducible exact (Qd.new (w3.alloc (.cells #[.bool false, .slice none 0 0, .bool false, .slice none 0 0] 26)) (w3.heap.size + 1) (by simp) (.bool false) (.slice none 0 0) (.bool false) (.slice none 0 0) 26).via hb4); have ⟨h0, h1, h2, h3, h4, h5, h6, h7, hl⟩ := PY2; have ⟨t0, t1, t2, t3, t4, t5, t6, t7, tl⟩ := PY3)))
       | fail)
    all_goals
      have L34 := L3.via B34
      have M34 := M3.via B34
      go_wp2_with fail
      go_meet
      (try rw [put4_eq])
      (try rw [put4_eq])
      first
      | with_reducible exact ffin1 B24 L34 M34 L4 M4
      | with_reducible exact ffin2 B24 L34 M34 L4 M4
      | with_reducible exact ffin3 B24 L34 M34 L4 M4 PY hs23
      | with_reducible exact ffin3 B24 L34 M34 L4 M4 PW (Nat.le_refl _)
      | with_reducible exact ffin4 B24 L34 M34 L4 M4 PY hs23
      | with_reducible exact ffin4 B24 L34 M34 L4 M4 PW (Nat.le_refl _)
      | ((with_reducible refine ffin5 B24 L34 M34 L4 M4 PY2 PY3 ?_ ?_ ?_) <;> omega)
      | ((with_reducible refine ffin5 B24 L34 M34 L4 M4 PY3 PY2 ?_ ?_ ?_) <;> omega)
      | ((with_reducible refine ffin5 B24 L34 M34 L4 M4 PW2 PW3 ?_ ?_ ?_) <;> omega)
      | ((with_reducible refine ffin5 B24 L34 M34 L4 M4 PW3 PW2 ?_ ?_ ?_) <;> omega)
      | ((with_reducible refine ffin5 B24 L34 M34 L4 M4 PW PY ?_ ?_ ?_) <;> omega)
      | ((with_reducible refine ffin5 B24 L34 M34 L4 M4 PY PW ?_ ?_ ?_) <;> omega)
  case rest =>
    obtain ⟨gx, gy, A3, c3, E3, d3, A4, c4, E4, d4, rfl, rfl, hX, hY, hx1, hx2, hy1, hy2, BT⟩ := hcut
    clear rQA0 rQA1 rQA2 rQA3 rQA4 rQA5 rQA6 rQA7 rQAl rQB0 rQB1 rQB2 rQB3 rQB4 rQB5 rQB6 rQB7 rQBl HKS
    replace QA := Lib.hid (QA.out.via BT)
    replace QB := Lib.hid (QB.out.via BT)
    replace LA := Lib.hid (LA.out.via BT)
    replace LB := Lib.hid (LB.out.via BT)
    replace LC := Lib.hid (LC.out.via BT)
    replace LD := Lib.hid (LD.out.via BT)
    replace BW := Lib.hid (btr BW.out BT)
    have QX := Lib.hid hX
    have QY := Lib.hid hY
    have X1 := Lib.hid hx1
    have X2 := Lib.hid hx2
    have Y1 := Lib.hid hy1
    have Y2 := Lib.hid hy2
    clear BT hX hY hx1 hx2 hy1 hy2
    have ⟨rQA0, rQA1, rQA2, rQA3, rQA4, rQA5, rQA6, rQA7, rQAl⟩ := QA.out
    have ⟨rQB0, rQB1, rQB2, rQB3, rQB4, rQB5, rQB6, rQB7, rQBl⟩ := QB.out
    go_wp2_with fail
    clear rQA0 rQA1 rQA2 rQA3 rQA4 rQA5 rQA6 rQA7 rQAl rQB0 rQB1 rQB2 rQB3 rQB4 rQB5 rQB6 rQB7 rQBl
    refine (Kadd1.out _ A B C D n m r s ca cb cc cd LA.out LB.out LC.out LD.out).mono ?_
    rintro e w3 ⟨Uadd1, nadd1, cadd1, Vadd1, madd1, dadd1, rfl, hL, hM, hb⟩
    replace QA := Lib.hid (QA.out.via hb)
    replace QB := Lib.hid (QB.out.via hb)
    replace LA := Lib.hid (LA.out.via hb)
    replace LB := Lib.hid (LB.out.via hb)
    replace LC := Lib.hid (LC.out.via hb)
    replace LD := Lib.hid (LD.out.via hb)
    replace QX := Lib.hid (QX.out.via hb)
    replace QY := Lib.hid (QY.out.via hb)
    replace X1 := Lib.hid (X1.out.via hb)
    replace X2 := Lib.hid (X2.out.via hb)
    replace Y1 := Lib.hid (Y1.out.via hb)
    replace Y2 := Lib.hid (Y2.out.via hb)
    replace BW := Lib.hid (btr BW.out hb)
    have Ladd1 := Lib.hid hL
    have Madd1 := Lib.hid hM
    clear hb hL hM
    have ⟨rQX0, rQX1, rQX2, rQX3, rQX4, rQX5, rQX6, rQX7, rQXl⟩ := QX.out
    have ⟨rQY0, rQY1, rQY2, rQY3, rQY4, rQY5, rQY6, rQY7, rQYl⟩ := QY.out
    go_wp2_with fail
    clear rQX0 rQX1 rQX2 rQX3 rQX4 rQX5 rQX6 rQX7 rQXl rQY0 rQY1 rQY2 rQY3 rQY4 rQY5 rQY6 rQY7 rQYl
    replace QA := Lib.hid (QA.out.alloc (.cells #[.bool padd, .slice Uadd1 nadd1 cadd1, .bool qadd, .slice Vadd1 madd1 dadd1] 26))
    replace QB := Lib.hid (QB.out.alloc (.cells #[.bool padd, .slice Uadd1 nadd1 cadd1, .bool qadd, .slice Vadd1 madd1 dadd1] 26))
    replace LA := Lib.hid (LA.out.box (.cells #[.bool padd, .slice Uadd1 nadd1 cadd1, .bool qadd, .slice Vadd1 madd1 dadd1] 26))
    replace LB := Lib.hid (LB.out.box (.cells #[.bool padd, .slice Uadd1 nadd1 cadd1, .bool qadd, .slice Vadd1 madd1 dadd1] 26))
    replace LC := Lib.hid (LC.out.box (.cells #[.bool padd, .slice Uadd1 nadd1 cadd1, .bool qadd, .slice Vadd1 madd1 dadd1] 26))
    replace LD := Lib.hid (LD.out.box (.cells #[.bool padd, .slice Uadd1 nadd1 cadd1, .bool qadd, .slice Vadd1 madd1 dadd1] 26))
    replace QX := Lib.hid (QX.out.alloc (.cells #[.bool padd, .slice Uadd1 nadd1 cadd1, .bool qadd, .slice Vadd1 madd1 dadd1] 26))
    replace QY := Lib.hid (QY.out.alloc (.cells #[.bool padd, .slice Uadd1 nadd1 cadd1, .bool qadd, .slice Vadd1 madd1 dadd1] 26))
    replace X1 := Lib.hid (X1.out.box (.cells #[.bool padd, .slice Uadd1 nadd1 cadd1, .bool qadd, .slice Vadd1 madd1 dadd1] 26))
    replace X2 := Lib.hid (X2.out.box (.cells #[.bool padd, .slice Uadd1 nadd1 cadd1, .bool qadd, .slice Vadd1 madd1 dadd1] 26))
    replace Y1 := Lib.hid (Y1.out.box (.cells #[.bool padd, .slice Uadd1 nadd1 cadd1, .bool qadd, .slice Vadd1 madd1 dadd1] 26))
    replace Y2 := Lib.hid (Y2.out.box (.cells #[.bool padd, .slice Uadd1 nadd1 cadd1, .bool qadd, .slice Vadd1 madd1 dadd1] 26))
    replace Ladd1 := Lib.hid (Ladd1.out.box (.cells #[.bool padd, .slice Uadd1 nadd1 cadd1, .bool qadd, .slice Vadd1 madd1 dadd1] 26))
    replace Madd1 := Lib.hid (Madd1.out.box (.cells #[.bool padd, .slice Uadd1 nadd1 cadd1, .bool qadd, .slice Vadd1 madd1 dadd1] 26))
    have Badd1 := Lib.hid (Qd.new w3 _ rfl (.bool padd) (.slice Uadd1 nadd1 cadd1) (.bool qadd) (.slice Vadd1 madd1 dadd1) 26)
    replace BW := Lib.hid (below_alloc BW.out (.cells #[.bool padd, .slice Uadd1 nadd1 cadd1, .bool qadd, .slice Vadd1 madd1 dadd1] 26))
    generalize w3.alloc (.cells #[.bool padd, .slice Uadd1 nadd1 cadd1, .bool qadd, .slice Vadd1 madd1 dadd1] 26) = W3 at *
    generalize w3.heap.size = g3 at *
    refine (Kadd2.out _ A3 E3 A4 E4 n m r s c3 d3 c4 d4 X1.out X2.out Y1.out Y2.out).mono ?_
    rintro e w4 ⟨Uadd2, nadd2, cadd2, Vadd2, madd2, dadd2, rfl, hL, hM, hb⟩
    replace QA := Lib.hid (QA.out.via hb)
    replace QB := Lib.hid (QB.out.via hb)
    replace LA := Lib.hid (LA.out.via hb)
    replace LB := Lib.hid (LB.out.via hb)
    replace LC := Lib.hid (LC.out.via hb)
    replace LD := Lib.hid (LD.out.via hb)
    replace QX := Lib.hid (QX.out.via hb)
    replace QY := Lib.hid (QY.out.via hb)
    replace X1 := Lib.hid (X1.out.via hb)
    replace X2 := Lib.hid (X2.out.via hb)
    replace Y1 := Lib.hid (Y1.out.via hb)
    replace Y2 := Lib.hid (Y2.out.via hb)
    replace Ladd1 := Lib.hid (Ladd1.out.via hb)
    replace Madd1 := Lib.hid (Madd1.out.via hb)
    replace Badd1 := Lib.hid (Badd1.out.via hb)
    replace BW := Lib.hid (btr BW.out hb)
    have Ladd2 := Lib.hid hL
    have Madd2 := Lib.hid hM
    clear hb hL hM
    have ⟨rQA0, rQA1, rQA2, rQA3, rQA4, rQA5, rQA6, rQA7, rQAl⟩ := QA.out
    have ⟨rQB0, rQB1, rQB2, rQB3, rQB4, rQB5, rQB6, rQB7, rQBl⟩ := QB.out
    go_wp2_with fail
    clear rQA0 rQA1 rQA2 rQA3 rQA4 rQA5 rQA6 rQA7 rQAl rQB0 rQB1 rQB2 rQB3 rQB4 rQB5 rQB6 rQB7 rQBl
    replace QA := Lib.hid (QA.out.alloc (.cells #[.bool padd, .slice Uadd2 nadd2 cadd2, .bool qadd, .slice Vadd2 madd2 dadd2] 26))
    replace QB := Lib.hid (QB.out.alloc (.cells #[.bool padd, .slice Uadd2 nadd2 cadd2, .bool qadd, .slice Vadd2 madd2 dadd2] 26))
    replace LA := Lib.hid (LA.out.box (.cells #[.bool padd, .slice Uadd2 nadd2 cadd2, .bool qadd, .slice Vadd2 madd2 dadd2] 26))
    replace LB := Lib.hid (LB.out.box (.cells #[.bool padd, .slice Uadd2 nadd2 cadd2, .bool qadd, .slice Vadd2 madd2 dadd2] 26))
    replace LC := Lib.hid (LC.out.box (.cells #[.bool padd, .slice Uadd2 nadd2 cadd2, .bool qadd, .slice Vadd2 madd2 dadd2] 26))
    replace LD := Lib.hid (LD.out.box (.cells #[.bool padd, .slice Uadd2 nadd2 cadd2, .bool qadd, .slice Vadd2 madd2 dadd2] 26))
    replace QX := Lib.hid (QX.out.alloc (.cells #[.bool padd, .slice Uadd2 nadd2 cadd2, .bool qadd, .slice Vadd2 madd2 dadd2] 26))
    replace QY := Lib.hid (QY.out.alloc (.cells #[.bool padd, .slice Uadd2 nadd2 cadd2, .bool qadd, .slice Vadd2 madd2 dadd2] 26))
    replace X1 := Lib.hid (X1.out.box (.cells #[.bool padd, .slice Uadd2 nadd2 cadd2, .bool qadd, .slice Vadd2 madd2 dadd2] 26))
    replace X2 := Lib.hid (X2.out.box (.cells #[.bool padd, .slice Uadd2 nadd2 cadd2, .bool qadd, .slice Vadd2 madd2 dadd2] 26))
    replace Y1 := Lib.hid (Y1.out.box (.cells #[.bool padd, .slice Uadd2 nadd2 cadd2, .bool qadd, .slice Vadd2 madd2 dadd2] 26))
    replace Y2 := Lib.hid (Y2.out.box (.cells #[.bool padd, .slice Uadd2 nadd2 cadd2, .bool qadd, .slice Vadd2 madd2 dadd2] 26))
    replace Ladd1 := Lib.hid (Ladd1.out.box (.cells #[.bool padd, .slice Uadd2 nadd2 cadd2, .bool qadd, .slice Vadd2 madd2 dadd2] 26))
    replace Madd1 := Lib.hid (Madd1.out.box (.cells #[.bool padd, .slice Uadd2 nadd2 cadd2, .bool qadd, .slice Vadd2 madd2 dadd2] 26))
    replace Badd1 := Lib.hid (Badd1.out.alloc (.cells #[.bool padd, .slice Uadd2 nadd2 cadd2, .bool qadd, .slice Vadd2 madd2 dadd2] 26))
    replace Ladd2 := Lib.hid (Ladd2.out.box (.cells #[.bool padd, .slice Uadd2 nadd2 cadd2, .bool qadd, .slice Vadd2 madd2 dadd2] 26))
    replace Madd2 := Lib.hid (Madd2.out.box (.cells #[.bool padd, .slice Uadd2 nadd2 cadd2, .bool qadd, .slice Vadd2 madd2 dadd2] 26))
    have Badd2 := Lib.hid (Qd.new w4 _ rfl (.bool padd) (.slice Uadd2 nadd2 cadd2) (.bool qadd) (.slice Vadd2 madd2 dadd2) 26)
    replace BW := Lib.hid (below_alloc BW.out (.cells #[.bool padd, .slice Uadd2 nadd2 cadd2, .bool qadd, .slice Vadd2 madd2 dadd2] 26))
    generalize w4.alloc (.cells #[.bool padd, .slice Uadd2 nadd2 cadd2, .bool qadd, .slice Vadd2 madd2 dadd2] 26) = W4 at *
    generalize w4.heap.size = g4 at *
    refine (Ksub1.out _ A B C D n m r s ca cb cc cd LA.out LB.out LC.out LD.out).mono ?_
    rintro e w5 ⟨Usub1, nsub1, csub1, Vsub1, msub1, dsub1, rfl, hL, hM, hb⟩
    replace QA := Lib.hid (QA.out.via hb)
    replace QB := Lib.hid (QB.out.via hb)
    replace LA := Lib.hid (LA.out.via hb)
    replace LB := Lib.hid (LB.out.via hb)
    replace LC := Lib.hid (LC.out.via hb)
    replace LD := Lib.hid (LD.out.via hb)
    replace QX := Lib.hid (QX.out.via hb)
    replace QY := Lib.hid (QY.out.via hb)
    replace X1 := Lib.hid (X1.out.via hb)
    replace X2 := Lib.hid (X2.out.via hb)
    replace Y1 := Lib.hid (Y1.out.via hb)
    replace Y2 := Lib.hid (Y2.out.via hb)
    replace Ladd1 := Lib.hid (Ladd1.out.via hb)
    replace Madd1 := Lib.hid (Madd1.out.via hb)
    replace Badd1 := Lib.hid (Badd1.out.via hb)
    replace Ladd2 := Lib.hid (Ladd2.out.via hb)
    replace Madd2 := Lib.hid (Madd2.out.via hb)
    replace Badd2 := Lib.hid (Badd2.out.via hb)
    replace BW := Lib.hid (btr BW.out hb)
    have Lsub1 := Lib.hid hL
    have Msub1 := Lib.hid hM
    clear hb hL hM
    have ⟨rQX0, rQX1, rQX2, rQX3, rQX4, rQX5, rQX6, rQX7, rQXl⟩ := QX.out
    have ⟨rQY0, rQY1, rQY2, rQY3, rQY4, rQY5, rQY6, rQY7, rQYl⟩ := QY.out
    go_wp2_with fail
    clear rQX0 rQX1 rQX2 rQX3 rQX4 rQX5 rQX6 rQX7 rQXl rQY0 rQY1 rQY2 rQY3 rQY4 rQY5 rQY6 rQY7 rQYl
    replace QA := Lib.hid (QA.out.alloc (.cells #[.bool psub, .slice Usub1 nsub1 csub1, .bool qsub, .slice Vsub1 msub1 dsub1] 26))
    replace QB := Lib.hid (QB.out.alloc (.cells #[.bool psub, .slice Usub1 nsub1 csub1, .bool qsub, .slice Vsub1 msub1 dsub1] 26))
    replace LA := Lib.hid (LA.out.box (.cells #[.bool psub, .slice Usub1 nsub1 csub1, .bool qsub, .slice Vsub1 msub1 dsub1] 26))
    replace LB := Lib.hid (LB.out.box (.cells #[.bool psub, .slice Usub1 nsub1 csub1, .bool qsub, .slice Vsub1 msub1 dsub1] 26))
    replace LC := Lib.hid (LC.out.box (.cells #[.bool psub, .slice Usub1 nsub1 csub1, .bool qsub, .slice Vsub1 msub1 dsub1] 26))
    replace LD := Lib.hid (LD.out.box (.cells #[.bool psub, .slice Usub1 nsub1 csub1, .bool qsub, .slice Vsub1 msub1 dsub1] 26))
    replace QX := Lib.hid (QX.out.alloc (.cells #[.bool psub, .slice Usub1 nsub1 csub1, .bool qsub, .slice Vsub1 msub1 dsub1] 26))
    replace QY := Lib.hid (QY.out.alloc (.cells #[.bool psub, .slice Usub1 nsub1 csub1, .bool qsub, .slice Vsub1 msub1 dsub1] 26))
    replace X1 := Lib.hid (X1.out.box (.cells #[.bool psub, .slice Usub1 nsub1 csub1, .bool qsub, .slice Vsub1 msub1 dsub1] 26))
    replace X2 := Lib.hid (X2.out.box (.cells #[.bool psub, .slice Usub1 nsub1 csub1, .bool qsub, .slice Vsub1 msub1 dsub1] 26))
    replace Y1 := Lib.hid (Y1.out.box (.cells #[.bool psub, .slice Usub1 nsub1 csub1, .bool qsub, .slice Vsub1 msub1 dsub1] 26))
    replace Y2 := Lib.hid (Y2.out.box (.cells #[.bool psub, .slice Usub1 nsub1 csub1, .bool qsub, .slice Vsub1 msub1 dsub1] 26))
    replace Ladd1 := Lib.hid (Ladd1.out.box (.cells #[.bool psub, .slice Usub1 nsub1 csub1, .bool qsub, .slice Vsub1 msub1 dsub1] 26))
    replace Madd1 := Lib.hid (Madd1.out.box (.cells #[.bool psub, .slice Usub1 nsub1 csub1, .bool qsub, .slice Vsub1 msub1 dsub1] 26))
    replace Badd1 := Lib.hid (Badd1.out.alloc (.cells #[.bool psub, .slice Usub1 nsub1 csub1, .bool qsub, .slice Vsub1 msub1 dsub1] 26))
    replace Ladd2 := Lib.hid (Ladd2.out.box (.cells #[.bool psub, .slice Usub1 nsub1 csub1, .bool qsub, .slice Vsub1 msub1 dsub1] 26))
    replace Madd2 := Lib.hid (Madd2.out.box (.cells #[.bool psub, .slice Usub1 nsub1 csub1, .bool qsub, .slice Vsub1 msub1 dsub1] 26))
    replace Badd2 := Lib.hid (Badd2.out.alloc (.cells #[.bool psub, .slice Usub1 nsub1 csub1, .bool qsub, .slice Vsub1 msub1 dsub1] 26))
    replace Lsub1 := Lib.hid (Lsub1.out.box (.cells #[.bool psub, .slice Usub1 nsub1 csub1, .bool qsub, .slice Vsub1 msub1 dsub1] 26))
    replace Msub1 := Lib.hid (Msub1.out.box (.cells #[.bool psub, .slice Usub1 nsub1 csub1, .bool qsub, .slice Vsub1 msub1 dsub1] 26))
    have Bsub1 := Lib.hid (Qd.new w5 _ rfl (.bool psub) (.slice Usub1 nsub1 csub1) (.bool qsub) (.slice Vsub1 msub1 dsub1) 26)
    replace BW := Lib.hid (below_alloc BW.out (.cells #[.bool psub, .slice Usub1 nsub1 csub1, .bool qsub, .slice Vsub1 msub1 dsub1] 26))
    generalize w5.alloc (.cells #[.bool psub, .slice Usub1 nsub1 csub1, .bool qsub, .slice Vsub1 msub1 dsub1] 26) = W5 at *
    generalize w5.heap.size = g5 at *
    refine (Ksub2.out _ A3 E3 A4 E4 n m r s c3 d3 c4 d4 X1.out X2.out Y1.out Y2.out).mono ?_
    rintro e w6 ⟨Usub2, nsub2, csub2, Vsub2, msub2, dsub2, rfl, hL, hM, hb⟩
    replace QA := Lib.hid (QA.out.via hb)
    replace QB := Lib.hid (QB.out.via hb)
    replace LA := Lib.hid (LA.out.via hb)
    replace LB := Lib.hid (LB.out.via hb)
    replace LC := Lib.hid (LC.out.via hb)
    replace LD := Lib.hid (LD.out.via hb)
    replace QX := Lib.hid (QX.out.via hb)
    replace QY := Lib.hid (QY.out.via hb)
    replace X1 := Lib.hid (X1.out.via hb)
    replace X2 := Lib.hid (X2.out.via hb)
    replace Y1 := Lib.hid (Y1.out.via hb)
    replace Y2 := Lib.hid (Y2.out.via hb)
    replace Ladd1 := Lib.hid (Ladd1.out.via hb)
    replace Madd1 := Lib.hid (Madd1.out.via hb)
    replace Badd1 := Lib.hid (Badd1.out.via hb)
    replace Ladd2 := Lib.hid (Ladd2.out.via hb)
    replace Madd2 := Lib.hid (Madd2.out.via hb)
    replace Badd2 := Lib.hid (Badd2.out.via hb)
    replace Lsub1 := Lib.hid (Lsub1.out.via hb)
    replace Msub1 := Lib.hid (Msub1.out.via hb)
    replace Bsub1 := Lib.hid (Bsub1.out.via hb)
    replace BW := Lib.hid (btr BW.out hb)
    have Lsub2 := Lib.hid hL
    have Msub2 := Lib.hid hM
    clear hb hL hM
    have ⟨rQA0, rQA1, rQA2, rQA3, rQA4, rQA5, rQA6, rQA7, rQAl⟩ := QA.out
    have ⟨rQB0, rQB1, rQB2, rQB3, rQB4, rQB5, rQB6, rQB7, rQBl⟩ := QB.out
    go_wp2_with fail
    clear rQA0 rQA1 rQA2 rQA3 rQA4 rQA5 rQA6 rQA7 rQAl rQB0 rQB1 rQB2 rQB3 rQB4 rQB5 rQB6 rQB7 rQBl
    replace QA := Lib.hid (QA.out.alloc (.cells #[.bool psub, .slice Usub2 nsub2 csub2, .bool qsub, .slice Vsub2 msub2 dsub2] 26))
    replace QB := Lib.hid (QB.out.alloc (.cells #[.bool psub, .slice Usub2 nsub2 csub2, .bool qsub, .slice Vsub2 msub2 dsub2] 26))
    replace LA := Lib.hid (LA.out.box (.cells #[.bool psub, .slice Usub2 nsub2 csub2, .bool qsub, .slice Vsub2 msub2 dsub2] 26))
    replace LB := Lib.hid (LB.out.box (.cells #[.bool psub, .slice Usub2 nsub2 csub2, .bool qsub, .slice Vsub2 msub2 dsub2] 26))
    replace LC := Lib.hid (LC.out.box (.cells #[.bool psub, .slice Usub2 nsub2 csub2, .bool qsub, .slice Vsub2 msub2 dsub2] 26))
    replace LD := Lib.hid (LD.out.box (.cells #[.bool psub, .slice Usub2 nsub2 csub2, .bool qsub, .slice Vsub2 msub2 dsub2] 26))
    replace QX := Lib.hid (QX.out.alloc (.cells #[.bool psub, .slice Usub2 nsub2 csub2, .bool qsub, .slice Vsub2 msub2 dsub2] 26))
    replace QY := Lib.hid (QY.out.alloc (.cells #[.bool psub, .slice Usub2 nsub2 csub2, .bool qsub, .slice Vsub2 msub2 dsub2] 26))
    replace X1 := Lib.hid (X1.out.box (.cells #[.bool psub, .slice Usub2 nsub2 csub2, .bool qsub, .slice Vsub2 msub2 dsub2] 26))
    replace X2 := Lib.hid (X2.out.box (.cells #[.bool psub, .slice Usub2 nsub2 csub2, .bool qsub, .slice Vsub2 msub2 dsub2] 26))
    replace Y1 := Lib.hid (Y1.out.box (.cells #[.bool psub, .slice Usub2 nsub2 csub2, .bool qsub, .slice Vsub2 msub2 dsub2] 26))
    replace Y2 := Lib.hid (Y2.out.box (.cells #[.bool psub, .slice Usub2 nsub2 csub2, .bool qsub, .slice Vsub2 msub2 dsub2] 26))
    replace Ladd1 := Lib.hid (Ladd1.out.box (.cells #[.bool psub, .slice Usub2 nsub2 csub2, .bool qsub, .slice Vsub2 msub2 dsub2] 26))
    replace Madd1 := Lib.hid (Madd1.out.box (.cells #[.bool psub, .slice Usub2 nsub2 csub2, .bool qsub, .slice Vsub2 msub2 dsub2] 26))
    replace Badd1 := Lib.hid (Badd1.out.alloc (.cells #[.bool psub, .slice Usub2 nsub2 csub2, .bool qsub, .slice Vsub2 msub2 dsub2] 26))
    replace Ladd2 := Lib.hid (Ladd2.out.box (.cells #[.bool psub, .slice Usub2 nsub2 csub2, .bool qsub, .slice Vsub2 msub2 dsub2] 26))
    replace Madd2 := Lib.hid (Madd2.out.box (.cells #[.bool psub, .slice Usub2 nsub2 csub2, .bool qsub, .slice Vsub2 msub2 dsub2] 26))
    replace Badd2 := Lib.hid (Badd2.out.alloc (.cells #[.bool psub, .slice Usub2 nsub2 csub2, .bool qsub, .slice Vsub2 msub2 dsub2] 26))
    replace Lsub1 := Lib.hid (Lsub1.out.box (.cells #[.bool psub, .slice Usub2 nsub2 csub2, .bool qsub, .slice Vsub2 msub2 dsub2] 26))
    replace Msub1 := Lib.hid (Msub1.out.box (.cells #[.bool psub, .slice Usub2 nsub2 csub2, .bool qsub, .slice Vsub2 msub2 dsub2] 26))
    replace Bsub1 := Lib.hid (Bsub1.out.alloc (.cells #[.bool psub, .slice Usub2 nsub2 csub2, .bool qsub, .slice Vsub2 msub2 dsub2] 26))
    replace Lsub2 := Lib.hid (Lsub2.out.box (.cells #[.bool psub, .slice Usub2 nsub2 csub2, .bool qsub, .slice Vsub2 msub2 dsub2] 26))
    replace Msub2 := Lib.hid (Msub2.out.box (.cells #[.bool psub, .slice Usub2 nsub2 csub2, .bool qsub, .slice Vsub2 msub2 dsub2] 26))
    have Bsub2 := Lib.hid (Qd.new w6 _ rfl (.bool psub) (.slice Usub2 nsub2 csub2) (.bool qsub) (.slice Vsub2 msub2 dsub2) 26)
    replace BW := Lib.hid (below_alloc BW.out (.cells #[.bool psub, .slice Usub2 nsub2 csub2, .bool qsub, .slice Vsub2 msub2 dsub2] 26))
    generalize w6.alloc (.cells #[.bool psub, .slice Usub2 nsub2 csub2, .bool qsub, .slice Vsub2 msub2 dsub2] 26) = W6 at *
    generalize w6.heap.size = g6 at *
    refine (Kmul1.out _ A B C D n m r s ca cb cc cd LA.out LB.out LC.out LD.out).mono ?_
    rintro e w7 ⟨Umul1, nmul1, cmul1, Vmul1, mmul1, dmul1, rfl, hL, hM, hb⟩
    replace QA := Lib.hid (QA.out.via hb)
    replace QB := Lib.hid (QB.out.via hb)
    replace LA := Lib.hid (LA.out.via hb)
    replace LB := Lib.hid (LB.out.via hb)
    replace LC := Lib.hid (LC.out.via hb)
    replace LD := Lib.hid (LD.out.via hb)
    replace QX := Lib.hid (QX.out.via hb)
    replace QY := Lib.hid (QY.out.via hb)
    replace X1 := Lib.hid (X1.out.via hb)
    replace X2 := Lib.hid (X2.out.via hb)
    replace Y1 := Lib.hid (Y1.out.via hb)
    replace Y2 := Lib.hid (Y2.out.via hb)
    replace Ladd1 := Lib.hid (Ladd1.out.via hb)
    replace Madd1 := Lib.hid (Madd1.out.via hb)
    replace Badd1 := Lib.hid (Badd1.out.via hb)
    replace Ladd2 := Lib.hid (Ladd2.out.via hb)
    replace Madd2 := Lib.hid (Madd2.out.via hb)
    replace Badd2 := Lib.hid (Badd2.out.via hb)
    replace Lsub1 := Lib.hid (Lsub1.out.via hb)
    replace Msub1 := Lib.hid (Msub1.out.via hb)
    replace Bsub1 := Lib.hid (Bsub1.out.via hb)
    replace Lsub2 := Lib.hid (Lsub2.out.via hb)
    replace Msub2 := Lib.hid (Msub2.out.via hb)
    replace Bsub2 := Lib.hid (Bsub2.out.via hb)
    replace BW := Lib.hid (btr BW.out hb)
    have Lmul1 := Lib.hid hL
    have Mmul1 := Lib.hid hM
    clear hb hL hM
    have ⟨rQX0, rQX1, rQX2, rQX3, rQX4, rQX5, rQX6, rQX7, rQXl⟩ := QX.out
    have ⟨rQY0, rQY1, rQY2, rQY3, rQY4, rQY5, rQY6, rQY7, rQYl⟩ := QY.out
    go_wp2_with fail
    clear rQX0 rQX1 rQX2 rQX3 rQX4 rQX5 rQX6 rQX7 rQXl rQY0 rQY1 rQY2 rQY3 rQY4 rQY5 rQY6 rQY7 rQYl
    replace QA := Lib.hid (QA.out.alloc (.cells #[.bool pmul, .slice Umul1 nmul1 cmul1, .bool qmul, .slice Vmul1 mmul1 dmul1] 26))
    replace QB := Lib.hid (QB.out.alloc (.cells #[.bool pmul, .slice Umul1 nmul1 cmul1, .bool qmul, .slice Vmul1 mmul1 dmul1] 26))
    replace LA := Lib.hid (LA.out.box (.cells #[.bool pmul, .slice Umul1 nmul1 cmul1, .bool qmul, .slice Vmul1 mmul1 dmul1] 26))
    replace LB := Lib.hid (LB.out.box (.cells #[.bool pmul, .slice Umul1 nmul1 cmul1, .bool qmul, .slice Vmul1 mmul1 dmul1] 26))
    replace LC := Lib.hid (LC.out.box (.cells #[.bool pmul, .slice Umul1 nmul1 cmul1, .bool qmul, .slice Vmul1 mmul1 dmul1] 26))
    replace LD := Lib.hid (LD.out.box (.cells #[.bool pmul, .slice Umul1 nmul1 cmul1, .bool qmul, .slice Vmul1 mmul1 dmul1] 26))
    replace QX := Lib.hid (QX.out.alloc (.cells #[.bool pmul, .slice Umul1 nmul1 cmul1, .bool qmul, .slice Vmul1 mmul1 dmul1] 26))
    replace QY := Lib.hid (QY.out.alloc (.cells #[.bool pmul, .slice Umul1 nmul1 cmul1, .bool qmul, .slice Vmul1 mmul1 dmul1] 26))
    replace X1 := Lib.hid (X1.out.box (.cells #[.bool pmul, .slice Umul1 nmul1 cmul1, .bool qmul, .slice Vmul1 mmul1 dmul1] 26))
    replace X2 := Lib.hid (X2.out.box (.cells #[.bool pmul, .slice Umul1 nmul1 cmul1, .bool qmul, .slice Vmul1 mmul1 dmul1] 26))
    replace Y1 := Lib.hid (Y1.out.box (.cells #[.bool pmul, .slice Umul1 nmul1 cmul1, .bool qmul, .slice Vmul1 mmul1 dmul1] 26))
    replace Y2 := Lib.hid (Y2.out.box (.cells #[.bool pmul, .slice Umul1 nmul1 cmul1, .bool qmul, .slice Vmul1 mmul1 dmul1] 26))
    replace Ladd1 := Lib.hid (Ladd1.out.box (.cells #[.bool pmul, .slice Umul1 nmul1 cmul1, .bool qmul, .slice Vmul1 mmul1 dmul1] 26))
    replace Madd1 := Lib.hid (Madd1.out.box (.cells #[.bool pmul, .slice Umul1 nmul1 cmul1, .bool qmul, .slice Vmul1 mmul1 dmul1] 26))
    replace Badd1 := Lib.hid (Badd1.out.alloc (.cells #[.bool pmul, .slice Umul1 nmul1 cmul1, .bool qmul, .slice Vmul1 mmul1 dmul1] 26))
    replace Ladd2 := Lib.hid (Ladd2.out.box (.cells #[.bool pmul, .slice Umul1 nmul1 cmul1, .bool qmul, .slice Vmul1 mmul1 dmul1] 26))
    replace Madd2 := Lib.hid (Madd2.out.box (.cells #[.bool pmul, .slice Umul1 nmul1 cmul1, .bool qmul, .slice Vmul1 mmul1 dmul1] 26))
    replace Badd2 := Lib.hid (Badd2.out.alloc (.cells #[.bool pmul, .slice Umul1 nmul1 cmul1, .bool qmul, .slice Vmul1 mmul1 dmul1] 26))
    replace Lsub1 := Lib.hid (Lsub1.out.box (.cells #[.bool pmul, .slice Umul1 nmul1 cmul1, .bool qmul, .slice Vmul1 mmul1 dmul1] 26))
    replace Msub1 := Lib.hid (Msub1.out.box (.cells #[.bool pmul, .slice Umul1 nmul1 cmul1, .bool qmul, .slice Vmul1 mmul1 dmul1] 26))
    replace Bsub1 := Lib.hid (Bsub1.out.alloc (.cells #[.bool pmul, .slice Umul1 nmul1 cmul1, .bool qmul, .slice Vmul1 mmul1 dmul1] 26))
    replace Lsub2 := Lib.hid (Lsub2.out.box (.cells #[.bool pmul, .slice Umul1 nmul1 cmul1, .bool qmul, .slice Vmul1 mmul1 dmul1] 26))
    replace Msub2 := Lib.hid (Msub2.out.box (.cells #[.bool pmul, .slice Umul1 nmul1 cmul1, .bool qmul, .slice Vmul1 mmul1 dmul1] 26))
    replace Bsub2 := Lib.hid (Bsub2.out.alloc (.cells #[.bool pmul, .slice Umul1 nmul1 cmul1, .bool qmul, .slice Vmul1 mmul1 dmul1] 26))
    replace Lmul1 := Lib.hid (Lmul1.out.box (.cells #[.bool pmul, .slice Umul1 nmul1 cmul1, .bool qmul, .slice Vmul1 mmul1 dmul1] 26))
    replace Mmul1 := Lib.hid (Mmul1.out.box (.cells #[.bool pmul, .slice Umul1 nmul1 cmul1, .bool qmul, .slice Vmul1 mmul1 dmul1] 26))
    have Bmul1 := Lib.hid (Qd.new w7 _ rfl (.bool pmul) (.slice Umul1 nmul1 cmul1) (.bool qmul) (.slice Vmul1 mmul1 dmul1) 26)
    replace BW := Lib.hid (below_alloc BW.out (.cells #[.bool pmul, .slice Umul1 nmul1 cmul1, .bool qmul, .slice Vmul1 mmul1 dmul1] 26))
    generalize w7.alloc (.cells #[.bool pmul, .slice Umul1 nmul1 cmul1, .bool qmul, .slice Vmul1 mmul1 dmul1] 26) = W7 at *
    generalize w7.heap.size = g7 at *
    refine (Kmul2.out _ A3 E3 A4 E4 n m r s c3 d3 c4 d4 X1.out X2.out Y1.out Y2.out).mono ?_
    rintro e w8 ⟨Umul2, nmul2, cmul2, Vmul2, mmul2, dmul2, rfl, hL, hM, hb⟩
    replace QA := Lib.hid (QA.out.via hb)
    replace QB := Lib.hid (QB.out.via hb)
    replace LA := Lib.hid (LA.out.via hb)
    replace LB := Lib.hid (LB.out.via hb)
    replace LC := Lib.hid (LC.out.via hb)
    replace LD := Lib.hid (LD.out.via hb)
    replace QX := Lib.hid (QX.out.via hb)
    replace QY := Lib.hid (QY.out.via hb)
    replace X1 := Lib.hid (X1.out.via hb)
    replace X2 := Lib.hid (X2.out.via hb)
    replace Y1 := Lib.hid (Y1.out.via hb)
    replace Y2 := Lib.hid (Y2.out.via hb)
    replace Ladd1 := Lib.hid (Ladd1.out.via hb)
    replace Madd1 := Lib.hid (Madd1.out.via hb)
    replace Badd1 := Lib.hid (Badd1.out.via hb)
    replace Ladd2 := Lib.hid (Ladd2.out.via hb)
    replace Madd2 := Lib.hid (Madd2.out.via hb)
    replace Badd2 := Lib.hid (Badd2.out.via hb)
    replace Lsub1 := Lib.hid (Lsub1.out.via hb)
    replace Msub1 := Lib.hid (Msub1.out.via hb)
    replace Bsub1 := Lib.hid (Bsub1.out.via hb)
    replace Lsub2 := Lib.hid (Lsub2.out.via hb)
    replace Msub2 := Lib.hid (Msub2.out.via hb)
    replace Bsub2 := Lib.hid (Bsub2.out.via hb)
    replace Lmul1 := Lib.hid (Lmul1.out.via hb)
    replace Mmul1 := Lib.hid (Mmul1.out.via hb)
    replace Bmul1 := Lib.hid (Bmul1.out.via hb)
    replace BW := Lib.hid (btr BW.out hb)
    have Lmul2 := Lib.hid hL
    have Mmul2 := Lib.hid hM
    clear hb hL hM
    have ⟨rQA0, rQA1, rQA2, rQA3, rQA4, rQA5, rQA6, rQA7, rQAl⟩ := QA.out
    have ⟨rQB0, rQB1, rQB2, rQB3, rQB4, rQB5, rQB6, rQB7, rQBl⟩ := QB.out
    go_wp2_with fail
    clear rQA0 rQA1 rQA2 rQA3 rQA4 rQA5 rQA6 rQA7 rQAl rQB0 rQB1 rQB2 rQB3 rQB4 rQB5 rQB6 rQB7 rQBl
    replace QA := Lib.hid (QA.out.alloc (.cells #[.bool pmul, .slice Umul2 nmul2 cmul2, .bool qmul, .slice Vmul2 mmul2 dmul2] 26))
    replace QB := Lib.hid (QB.out.alloc (.cells #[.bool pmul, .slice Umul2 nmul2 cmul2, .bool qmul, .slice Vmul2 mmul2 dmul2] 26))
    replace LA := Lib.hid (LA.out.box (.cells #[.bool pmul, .slice Umul2 nmul2 cmul2, .bool qmul, .slice Vmul2 mmul2 dmul2] 26))
    replace LB := Lib.hid (LB.out.box (.cells #[.bool pmul, .slice Umul2 nmul2 cmul2, .bool qmul, .slice Vmul2 mmul2 dmul2] 26))
    replace LC := Lib.hid (LC.out.box (.cells #[.bool pmul, .slice Umul2 nmul2 cmul2, .bool qmul, .slice Vmul2 mmul2 dmul2] 26))
    replace LD := Lib.hid (LD.out.box (.cells #[.bool pmul, .slice Umul2 nmul2 cmul2, .bool qmul, .slice Vmul2 mmul2 dmul2] 26))
    replace QX := Lib.hid (QX.out.alloc (.cells #[.bool pmul, .slice Umul2 nmul2 cmul2, .bool qmul, .slice Vmul2 mmul2 dmul2] 26))
    replace QY := Lib.hid (QY.out.alloc (.cells #[.bool pmul, .slice Umul2 nmul2 cmul2, .bool qmul, .slice Vmul2 mmul2 dmul2] 26))
    replace X1 := Lib.hid (X1.out.box (.cells #[.bool pmul, .slice Umul2 nmul2 cmul2, .bool qmul, .slice Vmul2 mmul2 dmul2] 26))
    replace X2 := Lib.hid (X2.out.box (.cells #[.bool pmul, .slice Umul2 nmul2 cmul2, .bool qmul, .slice Vmul2 mmul2 dmul2] 26))
    replace Y1 := Lib.hid (Y1.out.box (.cells #[.bool pmul, .slice Umul2 nmul2 cmul2, .bool qmul, .slice Vmul2 mmul2 dmul2] 26))
    replace Y2 := Lib.hid (Y2.out.box (.cells #[.bool pmul, .slice Umul2 nmul2 cmul2, .bool qmul, .slice Vmul2 mmul2 dmul2] 26))
    replace Ladd1 := Lib.hid (Ladd1.out.box (.cells #[.bool pmul, .slice Umul2 nmul2 cmul2, .bool qmul, .slice Vmul2 mmul2 dmul2] 26))
    replace Madd1 := Lib.hid (Madd1.out.box (.cells #[.bool pmul, .slice Umul2 nmul2 cmul2, .bool qmul, .slice Vmul2 mmul2 dmul2] 26))
    replace Badd1 := Lib.hid (Badd1.out.alloc (.cells #[.bool pmul, .slice Umul2 nmul2 cmul2, .bool qmul, .slice Vmul2 mmul2 dmul2] 26))
    replace Ladd2 := Lib.hid (Ladd2.out.box (.cells #[.bool pmul, .slice Umul2 nmul2 cmul2, .bool qmul, .slice Vmul2 mmul2 dmul2] 26))
    replace Madd2 := Lib.hid (Madd2.out.box (.cells #[.bool pmul, .slice Umul2 nmul2 cmul2, .bool qmul, .slice Vmul2 mmul2 dmul2] 26))
    replace Badd2 := Lib.hid (Badd2.out.alloc (.cells #[.bool pmul, .slice Umul2 nmul2 cmul2, .bool qmul, .slice Vmul2 mmul2 dmul2] 26))
    replace Lsub1 := Lib.hid (Lsub1.out.box (.cells #[.bool pmul, .slice Umul2 nmul2 cmul2, .bool qmul, .slice Vmul2 mmul2 dmul2] 26))
    replace Msub1 := Lib.hid (Msub1.out.box (.cells #[.bool pmul, .slice Umul2 nmul2 cmul2, .bool qmul, .slice Vmul2 mmul2 dmul2] 26))
    replace Bsub1 := Lib.hid (Bsub1.out.alloc (.cells #[.bool pmul, .slice Umul2 nmul2 cmul2, .bool qmul, .slice Vmul2 mmul2 dmul2] 26))
    replace Lsub2 := Lib.hid (Lsub2.out.box (.cells #[.bool pmul, .slice Umul2 nmul2 cmul2, .bool qmul, .slice Vmul2 mmul2 dmul2] 26))
    replace Msub2 := Lib.hid (Msub2.out.box (.cells #[.bool pmul, .slice Umul2 nmul2 cmul2, .bool qmul, .slice Vmul2 mmul2 dmul2] 26))
    replace Bsub2 := Lib.hid (Bsub2.out.alloc (.cells #[.bool pmul, .slice Umul2 nmul2 cmul2, .bool qmul, .slice Vmul2 mmul2 dmul2] 26))
    replace Lmul1 := Lib.hid (Lmul1.out.box (.cells #[.bool pmul, .slice Umul2 nmul2 cmul2, .bool qmul, .slice Vmul2 mmul2 dmul2] 26))
    replace Mmul1 := Lib.hid (Mmul1.out.box (.cells #[.bool pmul, .slice Umul2 nmul2 cmul2, .bool qmul, .slice Vmul2 mmul2 dmul2] 26))
    replace Bmul1 := Lib.hid (Bmul1.out.alloc (.cells #[.bool pmul, .slice Umul2 nmul2 cmul2, .bool qmul, .slice Vmul2 mmul2 dmul2] 26))
    replace Lmul2 := Lib.hid (Lmul2.out.box (.cells #[.bool pmul, .slice Umul2 nmul2 cmul2, .bool qmul, .slice Vmul2 mmul2 dmul2] 26))
    replace Mmul2 := Lib.hid (Mmul2.out.box (.cells #[.bool pmul, .slice Umul2 nmul2 cmul2, .bool qmul, .slice Vmul2 mmul2 dmul2] 26))
    have Bmul2 := Lib.hid (Qd.new w8 _ rfl (.bool pmul) (.slice Umul2 nmul2 cmul2) (.bool qmul) (.slice Vmul2 mmul2 dmul2) 26)
    replace BW := Lib.hid (below_alloc BW.out (.cells #[.bool pmul, .slice Umul2 nmul2 cmul2, .bool qmul, .slice Vmul2 mmul2 dmul2] 26))
    generalize w8.alloc (.cells #[.bool pmul, .slice Umul2 nmul2 cmul2, .bool qmul, .slice Vmul2 mmul2 dmul2] 26) = W8 at *
    generalize w8.heap.size = g8 at *
    refine (Kdiv1.out _ A B C D n m r s ca cb cc cd LA.out LB.out LC.out LD.out).mono ?_
    rintro e w9 ⟨Udiv1, ndiv1, cdiv1, Vdiv1, mdiv1, ddiv1, rfl, hL, hM, hb⟩
    replace QA := Lib.hid (QA.out.via hb)
    replace QB := Lib.hid (QB.out.via hb)
    replace LA := Lib.hid (LA.out.via hb)
    replace LB := Lib.hid (LB.out.via hb)
    replace LC := Lib.hid (LC.out.via hb)
    replace LD := Lib.hid (LD.out.via hb)
    replace QX := Lib.hid (QX.out.via hb)
    replace QY := Lib.hid (QY.out.via hb)
    replace X1 := Lib.hid (X1.out.via hb)
    replace X2 := Lib.hid (X2.out.via hb)
    replace Y1 := Lib.hid (Y1.out.via hb)
    replace Y2 := Lib.hid (Y2.out.via hb)
    replace Ladd1 := Lib.hid (Ladd1.out.via hb)
    replace Madd1 := Lib.hid (Madd1.out.via hb)
    replace Badd1 := Lib.hid (Badd1.out.via hb)
    replace Ladd2 := Lib.hid (Ladd2.out.via hb)
    replace Madd2 := Lib.hid (Madd2.out.via hb)
    replace Badd2 := Lib.hid (Badd2.out.via hb)
    replace Lsub1 := Lib.hid (Lsub1.out.via hb)
    replace Msub1 := Lib.hid (Msub1.out.via hb)
    replace Bsub1 := Lib.hid (Bsub1.out.via hb)
    replace Lsub2 := Lib.hid (Lsub2.out.via hb)
    replace Msub2 := Lib.hid (Msub2.out.via hb)
    replace Bsub2 := Lib.hid (Bsub2.out.via hb)
    replace Lmul1 := Lib.hid (Lmul1.out.via hb)
    replace Mmul1 := Lib.hid (Mmul1.out.via hb)
    replace Bmul1 := Lib.hid (Bmul1.out.via hb)
    replace Lmul2 := Lib.hid (Lmul2.out.via hb)
    replace Mmul2 := Lib.hid (Mmul2.out.via hb)
    replace Bmul2 := Lib.hid (Bmul2.out.via hb)
    replace BW := Lib.hid (btr BW.out hb)
    have Ldiv1 := Lib.hid hL
    have Mdiv1 := Lib.hid hM
    clear hb hL hM
    have ⟨rQX0, rQX1, rQX2, rQX3, rQX4, rQX5, rQX6, rQX7, rQXl⟩ := QX.out
    have ⟨rQY0, rQY1, rQY2, rQY3, rQY4, rQY5, rQY6, rQY7, rQYl⟩ := QY.out
    go_wp2_with fail
    clear rQX0 rQX1 rQX2 rQX3 rQX4 rQX5 rQX6 rQX7 rQXl rQY0 rQY1 rQY2 rQY3 rQY4 rQY5 rQY6 rQY7 rQYl
    replace QA := Lib.hid (QA.out.alloc (.cells #[.bool pdiv, .slice Udiv1 ndiv1 cdiv1, .bool qdiv, .slice Vdiv1 mdiv1 ddiv1] 26))
    replace QB := Lib.hid (QB.out.alloc (.cells #[.bool pdiv, .slice Udiv1 ndiv1 cdiv1, .bool qdiv, .slice Vdiv1 mdiv1 ddiv1] 26))
    replace LA := Lib.hid (LA.out.box (.cells #[.bool pdiv, .slice Udiv1 ndiv1 cdiv1, .bool qdiv, .slice Vdiv1 mdiv1 ddiv1] 26))
    replace LB := Lib.hid (LB.out.box (.cells #[.bool pdiv, .slice Udiv1 ndiv1 cdiv1, .bool qdiv, .slice Vdiv1 mdiv1 ddiv1] 26))
    replace LC := Lib.hid (LC.out.box (.cells #[.bool pdiv, .slice Udiv1 ndiv1 cdiv1, .bool qdiv, .slice Vdiv1 mdiv1 ddiv1] 26))
    replace LD := Lib.hid (LD.out.box (.cells #[.bool pdiv, .slice Udiv1 ndiv1 cdiv1, .bool qdiv, .slice Vdiv1 mdiv1 ddiv1] 26))
    replace QX := Lib.hid (QX.out.alloc (.cells #[.bool pdiv, .slice Udiv1 ndiv1 cdiv1, .bool qdiv, .slice Vdiv1 mdiv1 ddiv1] 26))
    replace QY := Lib.hid (QY.out.alloc (.cells #[.bool pdiv, .slice Udiv1 ndiv1 cdiv1, .bool qdiv, .slice Vdiv1 mdiv1 ddiv1] 26))
    replace X1 := Lib.hid (X1.out.box (.cells #[.bool pdiv, .slice Udiv1 ndiv1 cdiv1, .bool qdiv, .slice Vdiv1 mdiv1 ddiv1] 26))
    replace X2 := Lib.hid (X2.out.box (.cells #[.bool pdiv, .slice Udiv1 ndiv1 cdiv1, .bool qdiv, .slice Vdiv1 mdiv1 ddiv1] 26))
    replace Y1 := Lib.hid (Y1.out.box (.cells #[.bool pdiv, .slice Udiv1 ndiv1 cdiv1, .bool qdiv, .slice Vdiv1 mdiv1 ddiv1] 26))
    replace Y2 := Lib.hid (Y2.out.box (.cells #[.bool pdiv, .slice Udiv1 ndiv1 cdiv1, .bool qdiv, .slice Vdiv1 mdiv1 ddiv1] 26))
    replace Ladd1 := Lib.hid (Ladd1.out.box (.cells #[.bool pdiv, .slice Udiv1 ndiv1 cdiv1, .bool qdiv, .slice Vdiv1 mdiv1 ddiv1] 26))
    replace Madd1 := Lib.hid (Madd1.out.box (.cells #[.bool pdiv, .slice Udiv1 ndiv1 cdiv1, .bool qdiv, .slice Vdiv1 mdiv1 ddiv1] 26))
    replace Badd1 := Lib.hid (Badd1.out.alloc (.cells #[.bool pdiv, .slice Udiv1 ndiv1 cdiv1, .bool qdiv, .slice Vdiv1 mdiv1 ddiv1] 26))
    replace Ladd2 := Lib.hid (Ladd2.out.box (.cells #[.bool pdiv, .slice Udiv1 ndiv1 cdiv1, .bool qdiv, .slice Vdiv1 mdiv1 ddiv1] 26))
    replace Madd2 := Lib.hid (Madd2.out.box (.cells #[.bool pdiv, .slice Udiv1 ndiv1 cdiv1, .bool qdiv, .slice Vdiv1 mdiv1 ddiv1] 26))
    replace Badd2 := Lib.hid (Badd2.out.alloc (.cells #[.bool pdiv, .slice Udiv1 ndiv1 cdiv1, .bool qdiv, .slice Vdiv1 mdiv1 ddiv1] 26))
    replace Lsub1 := Lib.hid (Lsub1.out.box (.cells #[.bool pdiv, .slice Udiv1 ndiv1 cdiv1, .bool qdiv, .slice Vdiv1 mdiv1 ddiv1] 26))
    replace Msub1 := Lib.hid (Msub1.out.box (.cells #[.bool pdiv, .slice Udiv1 ndiv1 cdiv1, .bool qdiv, .slice Vdiv1 mdiv1 ddiv1] 26))
    replace Bsub1 := Lib.hid (Bsub1.out.alloc (.cells #[.bool pdiv, .slice Udiv1 ndiv1 cdiv1, .bool qdiv, .slice Vdiv1 mdiv1 ddiv1] 26))
    replace Lsub2 := Lib.hid (Lsub2.out.box (.cells #[.bool pdiv, .slice Udiv1 ndiv1 cdiv1, .bool qdiv, .slice Vdiv1 mdiv1 ddiv1] 26))
    replace Msub2 := Lib.hid (Msub2.out.box (.cells #[.bool pdiv, .slice Udiv1 ndiv1 cdiv1, .bool qdiv, .slice Vdiv1 mdiv1 ddiv1] 26))
    replace Bsub2 := Lib.hid (Bsub2.out.alloc (.cells #[.bool pdiv, .slice Udiv1 ndiv1 cdiv1, .bool qdiv, .slice Vdiv1 mdiv1 ddiv1] 26))
    replace Lmul1 := Lib.hid (Lmul1.out.box (.cells #[.bool pdiv, .slice Udiv1 ndiv1 cdiv1, .bool qdiv, .slice Vdiv1 mdiv1 ddiv1] 26))
    replace Mmul1 := Lib.hid (Mmul1.out.box (.cells #[.bool pdiv, .slice Udiv1 ndiv1 cdiv1, .bool qdiv, .slice Vdiv1 mdiv1 ddiv1] 26))
    replace Bmul1 := Lib.hid (Bmul1.out.alloc (.cells #[.bool pdiv, .slice Udiv1 ndiv1 cdiv1, .bool qdiv, .slice Vdiv1 mdiv1 ddiv1] 26))
    replace Lmul2 := Lib.hid (Lmul2.out.box (.cells #[.bool pdiv, .slice Udiv1 ndiv1 cdiv1, .bool qdiv, .slice Vdiv1 mdiv1 ddiv1] 26))
    replace Mmul2 := Lib.hid (Mmul2.out.box (.cells #[.bool pdiv, .slice Udiv1 ndiv1 cdiv1, .bool qdiv, .slice Vdiv1 mdiv1 ddiv1] 26))
    replace Bmul2 := Lib.hid (Bmul2.out.alloc (.cells #[.bool pdiv, .slice Udiv1 ndiv1 cdiv1, .bool qdiv, .slice Vdiv1 mdiv1 ddiv1] 26))
    replace Ldiv1 := Lib.hid (Ldiv1.out.box (.cells #[.bool pdiv, .slice Udiv1 ndiv1 cdiv1, .bool qdiv, .slice Vdiv1 mdiv1 ddiv1] 26))
    replace Mdiv1 := Lib.hid (Mdiv1.out.box (.cells #[.bool pdiv, .slice Udiv1 ndiv1 cdiv1, .bool qdiv, .slice Vdiv1 mdiv1 ddiv1] 26))
    have Bdiv1 := Lib.hid (Qd.new w9 _ rfl (.bool pdiv) (.slice Udiv1 ndiv1 cdiv1) (.bool qdiv) (.slice Vdiv1 mdiv1 ddiv1) 26)
    replace BW := Lib.hid (below_alloc BW.out (.cells #[.bool pdiv, .slice Udiv1 ndiv1 cdiv1, .bool qdiv, .slice Vdiv1 mdiv1 ddiv1] 26))
    generalize w9.alloc (.cells #[.bool pdiv, .slice Udiv1 ndiv1 cdiv1, .bool qdiv, .slice Vdiv1 mdiv1 ddiv1] 26) = W9 at *
    generalize w9.heap.size = g9 at *
    refine (Kdiv2.out _ A3 E3 A4 E4 n m r s c3 d3 c4 d4 X1.out X2.out Y1.out Y2.out).mono ?_
    rintro e w10 ⟨Udiv2, ndiv2, cdiv2, Vdiv2, mdiv2, ddiv2, rfl, hL, hM, hb⟩
    replace QA := Lib.hid (QA.out.via hb)
    replace QB := Lib.hid (QB.out.via hb)
    replace LA := Lib.hid (LA.out.via hb)
    replace LB := Lib.hid (LB.out.via hb)
    replace LC := Lib.hid (LC.out.via hb)
    replace LD := Lib.hid (LD.out.via hb)
    replace QX := Lib.hid (QX.out.via hb)
    replace QY := Lib.hid (QY.out.via hb)
    replace X1 := Lib.hid (X1.out.via hb)
    replace X2 := Lib.hid (X2.out.via hb)
    replace Y1 := Lib.hid (Y1.out.via hb)
    replace Y2 := Lib.hid (Y2.out.via hb)
    replace Ladd1 := Lib.hid (Ladd1.out.via hb)
    replace Madd1 := Lib.hid (Madd1.out.via hb)
    replace Badd1 := Lib.hid (Badd1.out.via hb)
    replace Ladd2 := Lib.hid (Ladd2.out.via hb)
    replace Madd2 := Lib.hid (Madd2.out.via hb)
    replace Badd2 := Lib.hid (Badd2.out.via hb)
    replace Lsub1 := Lib.hid (Lsub1.out.via hb)
    replace Msub1 := Lib.hid (Msub1.out.via hb)
    replace Bsub1 := Lib.hid (Bsub1.out.via hb)
    replace Lsub2 := Lib.hid (Lsub2.out.via hb)
    replace Msub2 := Lib.hid (Msub2.out.via hb)
    replace Bsub2 := Lib.hid (Bsub2.out.via hb)
    replace Lmul1 := Lib.hid (Lmul1.out.via hb)
    replace Mmul1 := Lib.hid (Mmul1.out.via hb)
    replace Bmul1 := Lib.hid (Bmul1.out.via hb)
    replace Lmul2 := Lib.hid (Lmul2.out.via hb)
    replace Mmul2 := Lib.hid (Mmul2.out.via hb)
    replace Bmul2 := Lib.hid (Bmul2.out.via hb)
    replace Ldiv1 := Lib.hid (Ldiv1.out.via hb)
    replace Mdiv1 := Lib.hid (Mdiv1.out.via hb)
    replace Bdiv1 := Lib.hid (Bdiv1.out.via hb)
    replace BW := Lib.hid (btr BW.out hb)
    have Ldiv2 := Lib.hid hL
    have Mdiv2 := Lib.hid hM
    clear hb hL hM
    have ⟨rQA0, rQA1, rQA2, rQA3, rQA4, rQA5, rQA6, rQA7, rQAl⟩ := QA.out
    go_wp2_with fail
    clear rQA0 rQA1 rQA2 rQA3 rQA4 rQA5 rQA6 rQA7 rQAl
    replace QA := Lib.hid (QA.out.alloc (.cells #[.bool pdiv, .slice Udiv2 ndiv2 cdiv2, .bool qdiv, .slice Vdiv2 mdiv2 ddiv2] 26))
    replace QB := Lib.hid (QB.out.alloc (.cells #[.bool pdiv, .slice Udiv2 ndiv2 cdiv2, .bool qdiv, .slice Vdiv2 mdiv2 ddiv2] 26))
    replace LA := Lib.hid (LA.out.box (.cells #[.bool pdiv, .slice Udiv2 ndiv2 cdiv2, .bool qdiv, .slice Vdiv2 mdiv2 ddiv2] 26))
    replace LB := Lib.hid (LB.out.box (.cells #[.bool pdiv, .slice Udiv2 ndiv2 cdiv2, .bool qdiv, .slice Vdiv2 mdiv2 ddiv2] 26))
    replace LC := Lib.hid (LC.out.box (.cells #[.bool pdiv, .slice Udiv2 ndiv2 cdiv2, .bool qdiv, .slice Vdiv2 mdiv2 ddiv2] 26))
    replace LD := Lib.hid (LD.out.box (.cells #[.bool pdiv, .slice Udiv2 ndiv2 cdiv2, .bool qdiv, .slice Vdiv2 mdiv2 ddiv2] 26))
    replace QX := Lib.hid (QX.out.alloc (.cells #[.bool pdiv, .slice Udiv2 ndiv2 cdiv2, .bool qdiv, .slice Vdiv2 mdiv2 ddiv2] 26))
    replace QY := Lib.hid (QY.out.alloc (.cells #[.bool pdiv, .slice Udiv2 ndiv2 cdiv2, .bool qdiv, .slice Vdiv2 mdiv2 ddiv2] 26))
    replace X1 := Lib.hid (X1.out.box (.cells #[.bool pdiv, .slice Udiv2 ndiv2 cdiv2, .bool qdiv, .slice Vdiv2 mdiv2 ddiv2] 26))
    replace X2 := Lib.hid (X2.out.box (.cells #[.bool pdiv, .slice Udiv2 ndiv2 cdiv2, .bool qdiv, .slice Vdiv2 mdiv2 ddiv2] 26))
    replace Y1 := Lib.hid (Y1.out.box (.cells #[.bool pdiv, .slice Udiv2 ndiv2 cdiv2, .bool qdiv, .slice Vdiv2 mdiv2 ddiv2] 26))
    replace Y2 := Lib.hid (Y2.out.box (.cells #[.bool pdiv, .slice Udiv2 ndiv2 cdiv2, .bool qdiv, .slice Vdiv2 mdiv2 ddiv2] 26))
    replace Ladd1 := Lib.hid (Ladd1.out.box (.cells #[.bool pdiv, .slice Udiv2 ndiv2 cdiv2, .bool qdiv, .slice Vdiv2 mdiv2 ddiv2] 26))
    replace Madd1 := Lib.hid (Madd1.out.box (.cells #[.bool pdiv, .slice Udiv2 ndiv2 cdiv2, .bool qdiv, .slice Vdiv2 mdiv2 ddiv2] 26))
    replace Badd1 := Lib.hid (Badd1.out.alloc (.cells #[.bool pdiv, .slice Udiv2 ndiv2 cdiv2, .bool qdiv, .slice Vdiv2 mdiv2 ddiv2] 26))
    replace Ladd2 := Lib.hid (Ladd2.out.box (.cells #[.bool pdiv, .slice Udiv2 ndiv2 cdiv2, .bool qdiv, .slice Vdiv2 mdiv2 ddiv2] 26))
    replace Madd2 := Lib.hid (Madd2.out.box (.cells #[.bool pdiv, .slice Udiv2 ndiv2 cdiv2, .bool qdiv, .slice Vdiv2 mdiv2 ddiv2] 26))
    replace Badd2 := Lib.hid (Badd2.out.alloc (.cells #[.bool pdiv, .slice Udiv2 ndiv2 cdiv2, .bool qdiv, .slice Vdiv2 mdiv2 ddiv2] 26))
    replace Lsub1 := Lib.hid (Lsub1.out.box (.cells #[.bool pdiv, .slice Udiv2 ndiv2 cdiv2, .bool qdiv, .slice Vdiv2 mdiv2 ddiv2] 26))
    replace Msub1 := Lib.hid (Msub1.out.box (.cells #[.bool pdiv, .slice Udiv2 ndiv2 cdiv2, .bool qdiv, .slice Vdiv2 mdiv2 ddiv2] 26))
    replace Bsub1 := Lib.hid (Bsub1.out.alloc (.cells #[.bool pdiv, .slice Udiv2 ndiv2 cdiv2, .bool qdiv, .slice Vdiv2 mdiv2 ddiv2] 26))
    replace Lsub2 := Lib.hid (Lsub2.out.box (.cells #[.bool pdiv, .slice Udiv2 ndiv2 cdiv2, .bool qdiv, .slice Vdiv2 mdiv2 ddiv2] 26))
    replace Msub2 := Lib.hid (Msub2.out.box (.cells #[.bool pdiv, .slice Udiv2 ndiv2 cdiv2, .bool qdiv, .slice Vdiv2 mdiv2 ddiv2] 26))
    replace Bsub2 := Lib.hid (Bsub2.out.alloc (.cells #[.bool pdiv, .slice Udiv2 ndiv2 cdiv2, .bool qdiv, .slice Vdiv2 mdiv2 ddiv2] 26))
    replace Lmul1 := Lib.hid (Lmul1.out.box (.cells #[.bool pdiv, .slice Udiv2 ndiv2 cdiv2, .bool qdiv, .slice Vdiv2 mdiv2 ddiv2] 26))
    replace Mmul1 := Lib.hid (Mmul1.out.box (.cells #[.bool pdiv, .slice Udiv2 ndiv2 cdiv2, .bool qdiv, .slice Vdiv2 mdiv2 ddiv2] 26))
    replace Bmul1 := Lib.hid (Bmul1.out.alloc (.cells #[.bool pdiv, .slice Udiv2 ndiv2 cdiv2, .bool qdiv, .slice Vdiv2 mdiv2 ddiv2] 26))
    replace Lmul2 := Lib.hid (Lmul2.out.box (.cells #[.bool pdiv, .slice Udiv2 ndiv2 cdiv2, .bool qdiv, .slice Vdiv2 mdiv2 ddiv2] 26))
    replace Mmul2 := Lib.hid (Mmul2.out.box (.cells #[.bool pdiv, .slice Udiv2 ndiv2 cdiv2, .bool qdiv, .slice Vdiv2 mdiv2 ddiv2] 26))
    replace Bmul2 := Lib.hid (Bmul2.out.alloc (.cells #[.bool pdiv, .slice Udiv2 ndiv2 cdiv2, .bool qdiv, .slice Vdiv2 mdiv2 ddiv2] 26))
    replace Ldiv1 := Lib.hid (Ldiv1.out.box (.cells #[.bool pdiv, .slice Udiv2 ndiv2 cdiv2, .bool qdiv, .slice Vdiv2 mdiv2 ddiv2] 26))
    replace Mdiv1 := Lib.hid (Mdiv1.out.box (.cells #[.bool pdiv, .slice Udiv2 ndiv2 cdiv2, .bool qdiv, .slice Vdiv2 mdiv2 ddiv2] 26))
    replace Bdiv1 := Lib.hid (Bdiv1.out.alloc (.cells #[.bool pdiv, .slice Udiv2 ndiv2 cdiv2, .bool qdiv, .slice Vdiv2 mdiv2 ddiv2] 26))
    replace Ldiv2 := Lib.hid (Ldiv2.out.box (.cells #[.bool pdiv, .slice Udiv2 ndiv2 cdiv2, .bool qdiv, .slice Vdiv2 mdiv2 ddiv2] 26))
    replace Mdiv2 := Lib.hid (Mdiv2.out.box (.cells #[.bool pdiv, .slice Udiv2 ndiv2 cdiv2, .bool qdiv, .slice Vdiv2 mdiv2 ddiv2] 26))
    have Bdiv2 := Lib.hid (Qd.new w10 _ rfl (.bool pdiv) (.slice Udiv2 ndiv2 cdiv2) (.bool qdiv) (.slice Vdiv2 mdiv2 ddiv2) 26)
    replace BW := Lib.hid (below_alloc BW.out (.cells #[.bool pdiv, .slice Udiv2 ndiv2 cdiv2, .bool qdiv, .slice Vdiv2 mdiv2 ddiv2] 26))
    generalize w10.alloc (.cells #[.bool pdiv, .slice Udiv2 ndiv2 cdiv2, .bool qdiv, .slice Vdiv2 mdiv2 ddiv2] 26) = W10 at *
    generalize w10.heap.size = g10 at *
    refine (Kneg1.out _ A B n m ca cb LA.out LB.out).mono ?_
    rintro e w11 ⟨Uneg1, nneg1, cneg1, Vneg1, mneg1, dneg1, rfl, hL, hM, hb⟩
    replace QA := Lib.hid (QA.out.via hb)
    replace QB := Lib.hid (QB.out.via hb)
    replace LA := Lib.hid (LA.out.via hb)
    replace LB := Lib.hid (LB.out.via hb)
    replace LC := Lib.hid (LC.out.via hb)
    replace LD := Lib.hid (LD.out.via hb)
    replace QX := Lib.hid (QX.out.via hb)
    replace QY := Lib.hid (QY.out.via hb)
    replace X1 := Lib.hid (X1.out.via hb)
    replace X2 := Lib.hid (X2.out.via hb)
    replace Y1 := Lib.hid (Y1.out.via hb)
    replace Y2 := Lib.hid (Y2.out.via hb)
    replace Ladd1 := Lib.hid (Ladd1.out.via hb)
    replace Madd1 := Lib.hid (Madd1.out.via hb)
    replace Badd1 := Lib.hid (Badd1.out.via hb)
    replace Ladd2 := Lib.hid (Ladd2.out.via hb)
    replace Madd2 := Lib.hid (Madd2.out.via hb)
    replace Badd2 := Lib.hid (Badd2.out.via hb)
    replace Lsub1 := Lib.hid (Lsub1.out.via hb)
    replace Msub1 := Lib.hid (Msub1.out.via hb)
    replace Bsub1 := Lib.hid (Bsub1.out.via hb)
    replace Lsub2 := Lib.hid (Lsub2.out.via hb)
    replace Msub2 := Lib.hid (Msub2.out.via hb)
    replace Bsub2 := Lib.hid (Bsub2.out.via hb)
    replace Lmul1 := Lib.hid (Lmul1.out.via hb)
    replace Mmul1 := Lib.hid (Mmul1.out.via hb)
    replace Bmul1 := Lib.hid (Bmul1.out.via hb)
    replace Lmul2 := Lib.hid (Lmul2.out.via hb)
    replace Mmul2 := Lib.hid (Mmul2.out.via hb)
    replace Bmul2 := Lib.hid (Bmul2.out.via hb)
    replace Ldiv1 := Lib.hid (Ldiv1.out.via hb)
    replace Mdiv1 := Lib.hid (Mdiv1.out.via hb)
    replace Bdiv1 := Lib.hid (Bdiv1.out.via hb)
    replace Ldiv2 := Lib.hid (Ldiv2.out.via hb)
    replace Mdiv2 := Lib.hid (Mdiv2.out.via hb)
    replace Bdiv2 := Lib.hid (Bdiv2.out.via hb)
    replace BW := Lib.hid (btr BW.out hb)
    have Lneg1 := Lib.hid hL
    have Mneg1 := Lib.hid hM
    clear hb hL hM
    have ⟨rQX0, rQX1, rQX2, rQX3, rQX4, rQX5, rQX6, rQX7, rQXl⟩ := QX.out
    go_wp2_with fail
    clear rQX0 rQX1 rQX2 rQX3 rQX4 rQX5 rQX6 rQX7 rQXl
    replace QA := Lib.hid (QA.out.alloc (.cells #[.bool pneg, .slice Uneg1 nneg1 cneg1, .bool qneg, .slice Vneg1 mneg1 dneg1] 26))
    replace QB := Lib.hid (QB.out.alloc (.cells #[.bool pneg, .slice Uneg1 nneg1 cneg1, .bool qneg, .slice Vneg1 mneg1 dneg1] 26))
    replace LA := Lib.hid (LA.out.box (.cells #[.bool pneg, .slice Uneg1 nneg1 cneg1, .bool qneg, .slice Vneg1 mneg1 dneg1] 26))
    replace LB := Lib.hid (LB.out.box (.cells #[.bool pneg, .slice Uneg1 nneg1 cneg1, .bool qneg, .slice Vneg1 mneg1 dneg1] 26))
    replace LC := Lib.hid (LC.out.box (.cells #[.bool pneg, .slice Uneg1 nneg1 cneg1, .bool qneg, .slice Vneg1 mneg1 dneg1] 26))
    replace LD := Lib.hid (LD.out.box (.cells #[.bool pneg, .slice Uneg1 nneg1 cneg1, .bool qneg, .slice Vneg1 mneg1 dneg1] 26))
    replace QX := Lib.hid (QX.out.alloc (.cells #[.bool pneg, .slice Uneg1 nneg1 cneg1, .bool qneg, .slice Vneg1 mneg1 dneg1] 26))
    replace QY := Lib.hid (QY.out.alloc (.cells #[.bool pneg, .slice Uneg1 nneg1 cneg1, .bool qneg, .slice Vneg1 mneg1 dneg1] 26))
    replace X1 := Lib.hid (X1.out.box (.cells #[.bool pneg, .slice Uneg1 nneg1 cneg1, .bool qneg, .slice Vneg1 mneg1 dneg1] 26))
    replace X2 := Lib.hid (X2.out.box (.cells #[.bool pneg, .slice Uneg1 nneg1 cneg1, .bool qneg, .slice Vneg1 mneg1 dneg1] 26))
    replace Y1 := Lib.hid (Y1.out.box (.cells #[.bool pneg, .slice Uneg1 nneg1 cneg1, .bool qneg, .slice Vneg1 mneg1 dneg1] 26))
    replace Y2 := Lib.hid (Y2.out.box (.cells #[.bool pneg, .slice Uneg1 nneg1 cneg1, .bool qneg, .slice Vneg1 mneg1 dneg1] 26))
    replace Ladd1 := Lib.hid (Ladd1.out.box (.cells #[.bool pneg, .slice Uneg1 nneg1 cneg1, .bool qneg, .slice Vneg1 mneg1 dneg1] 26))
    replace Madd1 := Lib.hid (Madd1.out.box (.cells #[.bool pneg, .slice Uneg1 nneg1 cneg1, .bool qneg, .slice Vneg1 mneg1 dneg1] 26))
    replace Badd1 := Lib.hid (Badd1.out.alloc (.cells #[.bool pneg, .slice Uneg1 nneg1 cneg1, .bool qneg, .slice Vneg1 mneg1 dneg1] 26))
    replace Ladd2 := Lib.hid (Ladd2.out.box (.cells #[.bool pneg, .slice Uneg1 nneg1 cneg1, .bool qneg, .slice Vneg1 mneg1 dneg1] 26))
    replace Madd2 := Lib.hid (Madd2.out.box (.cells #[.bool pneg, .slice Uneg1 nneg1 cneg1, .bool qneg, .slice Vneg1 mneg1 dneg1] 26))
    replace Badd2 := Lib.hid (Badd2.out.alloc (.cells #[.bool pneg, .slice Uneg1 nneg1 cneg1, .bool qneg, .slice Vneg1 mneg1 dneg1] 26))
    replace Lsub1 := Lib.hid (Lsub1.out.box (.cells #[.bool pneg, .slice Uneg1 nneg1 cneg1, .bool qneg, .slice Vneg1 mneg1 dneg1] 26))
    replace Msub1 := Lib.hid (Msub1.out.box (.cells #[.bool pneg, .slice Uneg1 nneg1 cneg1, .bool qneg, .slice Vneg1 mneg1 dneg1] 26))
    replace Bsub1 := Lib.hid (Bsub1.out.alloc (.cells #[.bool pneg, .slice Uneg1 nneg1 cneg1, .bool qneg, .slice Vneg1 mneg1 dneg1] 26))
    replace Lsub2 := Lib.hid (Lsub2.out.box (.cells #[.bool pneg, .slice Uneg1 nneg1 cneg1, .bool qneg, .slice Vneg1 mneg1 dneg1] 26))
    replace Msub2 := Lib.hid (Msub2.out.box (.cells #[.bool pneg, .slice Uneg1 nneg1 cneg1, .bool qneg, .slice Vneg1 mneg1 dneg1] 26))
    replace Bsub2 := Lib.hid (Bsub2.out.alloc (.cells #[.bool pneg, .slice Uneg1 nneg1 cneg1, .bool qneg, .slice Vneg1 mneg1 dneg1] 26))
    replace Lmul1 := Lib.hid (Lmul1.out.box (.cells #[.bool pneg, .slice Uneg1 nneg1 cneg1, .bool qneg, .slice Vneg1 mneg1 dneg1] 26))
    replace Mmul1 := Lib.hid (Mmul1.out.box (.cells #[.bool pneg, .slice Uneg1 nneg1 cneg1, .bool qneg, .slice Vneg1 mneg1 dneg1] 26))
    replace Bmul1 := Lib.hid (Bmul1.out.alloc (.cells #[.bool pneg, .slice Uneg1 nneg1 cneg1, .bool qneg, .slice Vneg1 mneg1 dneg1] 26))
    replace Lmul2 := Lib.hid (Lmul2.out.box (.cells #[.bool pneg, .slice Uneg1 nneg1 cneg1, .bool qneg, .slice Vneg1 mneg1 dneg1] 26))
    replace Mmul2 := Lib.hid (Mmul2.out.box (.cells #[.bool pneg, .slice Uneg1 nneg1 cneg1, .bool qneg, .slice Vneg1 mneg1 dneg1] 26))
    replace Bmul2 := Lib.hid (Bmul2.out.alloc (.cells #[.bool pneg, .slice Uneg1 nneg1 cneg1, .bool qneg, .slice Vneg1 mneg1 dneg1] 26))
    replace Ldiv1 := Lib.hid (Ldiv1.out.box (.cells #[.bool pneg, .slice Uneg1 nneg1 cneg1, .bool qneg, .slice Vneg1 mneg1 dneg1] 26))
    replace Mdiv1 := Lib.hid (Mdiv1.out.box (.cells #[.bool pneg, .slice Uneg1 nneg1 cneg1, .bool qneg, .slice Vneg1 mneg1 dneg1] 26))
    replace Bdiv1 := Lib.hid (Bdiv1.out.alloc (.cells #[.bool pneg, .slice Uneg1 nneg1 cneg1, .bool qneg, .slice Vneg1 mneg1 dneg1] 26))
    replace Ldiv2 := Lib.hid (Ldiv2.out.box (.cells #[.bool pneg, .slice Uneg1 nneg1 cneg1, .bool qneg, .slice Vneg1 mneg1 dneg1] 26))
    replace Mdiv2 := Lib.hid (Mdiv2.out.box (.cells #[.bool pneg, .slice Uneg1 nneg1 cneg1, .bool qneg, .slice Vneg1 mneg1 dneg1] 26))
    replace Bdiv2 := Lib.hid (Bdiv2.out.alloc (.cells #[.bool pneg, .slice Uneg1 nneg1 cneg1, .bool qneg, .slice Vneg1 mneg1 dneg1] 26))
    replace Lneg1 := Lib.hid (Lneg1.out.box (.cells #[.bool pneg, .slice Uneg1 nneg1 cneg1, .bool qneg, .slice Vneg1 mneg1 dneg1] 26))
    replace Mneg1 := Lib.hid (Mneg1.out.box (.cells #[.bool pneg, .slice Uneg1 nneg1 cneg1, .bool qneg, .slice Vneg1 mneg1 dneg1] 26))
    have Bneg1 := Lib.hid (Qd.new w11 _ rfl (.bool pneg) (.slice Uneg1 nneg1 cneg1) (.bool qneg) (.slice Vneg1 mneg1 dneg1) 26)
    replace BW := Lib.hid (below_alloc BW.out (.cells #[.bool pneg, .slice Uneg1 nneg1 cneg1, .bool qneg, .slice Vneg1 mneg1 dneg1] 26))
    generalize w11.alloc (.cells #[.bool pneg, .slice Uneg1 nneg1 cneg1, .bool qneg, .slice Vneg1 mneg1 dneg1] 26) = W11 at *
    generalize w11.heap.size = g11 at *
    refine (Kneg2.out _ A3 E3 n m c3 d3 X1.out X2.out).mono ?_
    rintro e w12 ⟨Uneg2, nneg2, cneg2, Vneg2, mneg2, dneg2, rfl, hL, hM, hb⟩
    replace QA := Lib.hid (QA.out.via hb)
    replace QB := Lib.hid (QB.out.via hb)
    replace LA := Lib.hid (LA.out.via hb)
    replace LB := Lib.hid (LB.out.via hb)
    replace LC := Lib.hid (LC.out.via hb)
    replace LD := Lib.hid (LD.out.via hb)
    replace QX := Lib.hid (QX.out.via hb)
    replace QY := Lib.hid (QY.out.via hb)
    replace X1 := Lib.hid (X1.out.via hb)
    replace X2 := Lib.hid (X2.out.via hb)
    replace Y1 := Lib.hid (Y1.out.via hb)
    replace Y2 := Lib.hid (Y2.out.via hb)
    replace Ladd1 := Lib.hid (Ladd1.out.via hb)
    replace Madd1 := Lib.hid (Madd1.out.via hb)
    replace Badd1 := Lib.hid (Badd1.out.via hb)
    replace Ladd2 := Lib.hid (Ladd2.out.via hb)
    replace Madd2 := Lib.hid (Madd2.out.via hb)
    replace Badd2 := Lib.hid (Badd2.out.via hb)
    replace Lsub1 := Lib.hid (Lsub1.out.via hb)
    replace Msub1 := Lib.hid (Msub1.out.via hb)
    replace Bsub1 := Lib.hid (Bsub1.out.via hb)
    replace Lsub2 := Lib.hid (Lsub2.out.via hb)
    replace Msub2 := Lib.hid (Msub2.out.via hb)
    replace Bsub2 := Lib.hid (Bsub2.out.via hb)
    replace Lmul1 := Lib.hid (Lmul1.out.via hb)
    replace Mmul1 := Lib.hid (Mmul1.out.via hb)
    replace Bmul1 := Lib.hid (Bmul1.out.via hb)
    replace Lmul2 := Lib.hid (Lmul2.out.via hb)
    replace Mmul2 := Lib.hid (Mmul2.out.via hb)
    replace Bmul2 := Lib.hid (Bmul2.out.via hb)
    replace Ldiv1 := Lib.hid (Ldiv1.out.via hb)
    replace Mdiv1 := Lib.hid (Mdiv1.out.via hb)
    replace Bdiv1 := Lib.hid (Bdiv1.out.via hb)
    replace Ldiv2 := Lib.hid (Ldiv2.out.via hb)
    replace Mdiv2 := Lib.hid (Mdiv2.out.via hb)
    replace Bdiv2 := Lib.hid (Bdiv2.out.via hb)
    replace Lneg1 := Lib.hid (Lneg1.out.via hb)
    replace Mneg1 := Lib.hid (Mneg1.out.via hb)
    replace Bneg1 := Lib.hid (Bneg1.out.via hb)
    replace BW := Lib.hid (btr BW.out hb)
    have Lneg2 := Lib.hid hL
    have Mneg2 := Lib.hid hM
    clear hb hL hM
    have ⟨rQA0, rQA1, rQA2, rQA3, rQA4, rQA5, rQA6, rQA7, rQAl⟩ := QA.out
    have ⟨rQB0, rQB1, rQB2, rQB3, rQB4, rQB5, rQB6, rQB7, rQBl⟩ := QB.out
    go_wp2_with fail
    clear rQA0 rQA1 rQA2 rQA3 rQA4 rQA5 rQA6 rQA7 rQAl rQB0 rQB1 rQB2 rQB3 rQB4 rQB5 rQB6 rQB7 rQBl
    replace QA := Lib.hid (QA.out.alloc (.cells #[.bool pneg, .slice Uneg2 nneg2 cneg2, .bool qneg, .slice Vneg2 mneg2 dneg2] 26))
    replace QB := Lib.hid (QB.out.alloc (.cells #[.bool pneg, .slice Uneg2 nneg2 cneg2, .bool qneg, .slice Vneg2 mneg2 dneg2] 26))
    replace LA := Lib.hid (LA.out.box (.cells #[.bool pneg, .slice Uneg2 nneg2 cneg2, .bool qneg, .slice Vneg2 mneg2 dneg2] 26))
    replace LB := Lib.hid (LB.out.box (.cells #[.bool pneg, .slice Uneg2 nneg2 cneg2, .bool qneg, .slice Vneg2 mneg2 dneg2] 26))
    replace LC := Lib.hid (LC.out.box (.cells #[.bool pneg, .slice Uneg2 nneg2 cneg2, .bool qneg, .slice Vneg2 mneg2 dneg2] 26))
    replace LD := Lib.hid (LD.out.box (.cells #[.bool pneg, .slice Uneg2 nneg2 cneg2, .bool qneg, .slice Vneg2 mneg2 dneg2] 26))
    replace QX := Lib.hid (QX.out.alloc (.cells #[.bool pneg, .slice Uneg2 nneg2 cneg2, .bool qneg, .slice Vneg2 mneg2 dneg2] 26))
    replace QY := Lib.hid (QY.out.alloc (.cells #[.bool pneg, .slice Uneg2 nneg2 cneg2, .bool qneg, .slice Vneg2 mneg2 dneg2] 26))
    replace X1 := Lib.hid (X1.out.box (.cells #[.bool pneg, .slice Uneg2 nneg2 cneg2, .bool qneg, .slice Vneg2 mneg2 dneg2] 26))
    replace X2 := Lib.hid (X2.out.box (.cells #[.bool pneg, .slice Uneg2 nneg2 cneg2, .bool qneg, .slice Vneg2 mneg2 dneg2] 26))
    replace Y1 := Lib.hid (Y1.out.box (.cells #[.bool pneg, .slice Uneg2 nneg2 cneg2, .bool qneg, .slice Vneg2 mneg2 dneg2] 26))
    replace Y2 := Lib.hid (Y2.out.box (.cells #[.bool pneg, .slice Uneg2 nneg2 cneg2, .bool qneg, .slice Vneg2 mneg2 dneg2] 26))
    replace Ladd1 := Lib.hid (Ladd1.out.box (.cells #[.bool pneg, .slice Uneg2 nneg2 cneg2, .bool qneg, .slice Vneg2 mneg2 dneg2] 26))
    replace Madd1 := Lib.hid (Madd1.out.box (.cells #[.bool pneg, .slice Uneg2 nneg2 cneg2, .bool qneg, .slice Vneg2 mneg2 dneg2] 26))
    replace Badd1 := Lib.hid (Badd1.out.alloc (.cells #[.bool pneg, .slice Uneg2 nneg2 cneg2, .bool qneg, .slice Vneg2 mneg2 dneg2] 26))
    replace Ladd2 := Lib.hid (Ladd2.out.box (.cells #[.bool pneg, .slice Uneg2 nneg2 cneg2, .bool qneg, .slice Vneg2 mneg2 dneg2] 26))
    replace Madd2 := Lib.hid (Madd2.out.box (.cells #[.bool pneg, .slice Uneg2 nneg2 cneg2, .bool qneg, .slice Vneg2 mneg2 dneg2] 26))
    replace Badd2 := Lib.hid (Badd2.out.alloc (.cells #[.bool pneg, .slice Uneg2 nneg2 cneg2, .bool qneg, .slice Vneg2 mneg2 dneg2] 26))
    replace Lsub1 := Lib.hid (Lsub1.out.box (.cells #[.bool pneg, .slice Uneg2 nneg2 cneg2, .bool qneg, .slice Vneg2 mneg2 dneg2] 26))
    replace Msub1 := Lib.hid (Msub1.out.box (.cells #[.bool pneg, .slice Uneg2 nneg2 cneg2, .bool qneg, .slice Vneg2 mneg2 dneg2] 26))
    replace Bsub1 := Lib.hid (Bsub1.out.alloc (.cells #[.bool pneg, .slice Uneg2 nneg2 cneg2, .bool qneg, .slice Vneg2 mneg2 dneg2] 26))
    replace Lsub2 := Lib.hid (Lsub2.out.box (.cells #[.bool pneg, .slice Uneg2 nneg2 cneg2, .bool qneg, .slice Vneg2 mneg2 dneg2] 26))
    replace Msub2 := Lib.hid (Msub2.out.box (.cells #[.bool pneg, .slice Uneg2 nneg2 cneg2, .bool qneg, .slice Vneg2 mneg2 dneg2] 26))
    replace Bsub2 := Lib.hid (Bsub2.out.alloc (.cells #[.bool pneg, .slice Uneg2 nneg2 cneg2, .bool qneg, .slice Vneg2 mneg2 dneg2] 26))
    replace Lmul1 := Lib.hid (Lmul1.out.box (.cells #[.bool pneg, .slice Uneg2 nneg2 cneg2, .bool qneg, .slice Vneg2 mneg2 dneg2] 26))
    replace Mmul1 := Lib.hid (Mmul1.out.box (.cells #[.bool pneg, .slice Uneg2 nneg2 cneg2, .bool qneg, .slice Vneg2 mneg2 dneg2] 26))
    replace Bmul1 := Lib.hid (Bmul1.out.alloc (.cells #[.bool pneg, .slice Uneg2 nneg2 cneg2, .bool qneg, .slice Vneg2 mneg2 dneg2] 26))
    replace Lmul2 := Lib.hid (Lmul2.out.box (.cells #[.bool pneg, .slice Uneg2 nneg2 cneg2, .bool qneg, .slice Vneg2 mneg2 dneg2] 26))
    replace Mmul2 := Lib.hid (Mmul2.out.box (.cells #[.bool pneg, .slice Uneg2 nneg2 cneg2, .bool qneg, .slice Vneg2 mneg2 dneg2] 26))
    replace Bmul2 := Lib.hid (Bmul2.out.alloc (.cells #[.bool pneg, .slice Uneg2 nneg2 cneg2, .bool qneg, .slice Vneg2 mneg2 dneg2] 26))
    replace Ldiv1 := Lib.hid (Ldiv1.out.box (.cells #[.bool pneg, .slice Uneg2 nneg2 cneg2, .bool qneg, .slice Vneg2 mneg2 dneg2] 26))
    replace Mdiv1 := Lib.hid (Mdiv1.out.box (.cells #[.bool pneg, .slice Uneg2 nneg2 cneg2, .bool qneg, .slice Vneg2 mneg2 dneg2] 26))
    replace Bdiv1 := Lib.hid (Bdiv1.out.alloc (.cells #[.bool pneg, .slice Uneg2 nneg2 cneg2, .bool qneg, .slice Vneg2 mneg2 dneg2] 26))
    replace Ldiv2 := Lib.hid (Ldiv2.out.box (.cells #[.bool pneg, .slice Uneg2 nneg2 cneg2, .bool qneg, .slice Vneg2 mneg2 dneg2] 26))
    replace Mdiv2 := Lib.hid (Mdiv2.out.box (.cells #[.bool pneg, .slice Uneg2 nneg2 cneg2, .bool qneg, .slice Vneg2 mneg2 dneg2] 26))
    replace Bdiv2 := Lib.hid (Bdiv2.out.alloc (.cells #[.bool pneg, .slice Uneg2 nneg2 cneg2, .bool qneg, .slice Vneg2 mneg2 dneg2] 26))
    replace Lneg1 := Lib.hid (Lneg1.out.box (.cells #[.bool pneg, .slice Uneg2 nneg2 cneg2, .bool qneg, .slice Vneg2 mneg2 dneg2] 26))
    replace Mneg1 := Lib.hid (Mneg1.out.box (.cells #[.bool pneg, .slice Uneg2 nneg2 cneg2, .bool qneg, .slice Vneg2 mneg2 dneg2] 26))
    replace Bneg1 := Lib.hid (Bneg1.out.alloc (.cells #[.bool pneg, .slice Uneg2 nneg2 cneg2, .bool qneg, .slice Vneg2 mneg2 dneg2] 26))
    replace Lneg2 := Lib.hid (Lneg2.out.box (.cells #[.bool pneg, .slice Uneg2 nneg2 cneg2, .bool qneg, .slice Vneg2 mneg2 dneg2] 26))
    replace Mneg2 := Lib.hid (Mneg2.out.box (.cells #[.bool pneg, .slice Uneg2 nneg2 cneg2, .bool qneg, .slice Vneg2 mneg2 dneg2] 26))
    have Bneg2 := Lib.hid (Qd.new w12 _ rfl (.bool pneg) (.slice Uneg2 nneg2 cneg2) (.bool qneg) (.slice Vneg2 mneg2 dneg2) 26)
    replace BW := Lib.hid (below_alloc BW.out (.cells #[.bool pneg, .slice Uneg2 nneg2 cneg2, .bool qneg, .slice Vneg2 mneg2 dneg2] 26))
    generalize w12.alloc (.cells #[.bool pneg, .slice Uneg2 nneg2 cneg2, .bool qneg, .slice Vneg2 mneg2 dneg2] 26) = W12 at *
    generalize w12.heap.size = g12 at *
    refine (Kcmp1.out _ A B C D n m r s ca cb cc cd LA.out LB.out LC.out LD.out).mono ?_
    rintro e w13 ⟨rfl, hb⟩
    replace QA := Lib.hid (QA.out.via hb)
    replace QB := Lib.hid (QB.out.via hb)
    replace LA := Lib.hid (LA.out.via hb)
    replace LB := Lib.hid (LB.out.via hb)
    replace LC := Lib.hid (LC.out.via hb)
    replace LD := Lib.hid (LD.out.via hb)
    replace QX := Lib.hid (QX.out.via hb)
    replace QY := Lib.hid (QY.out.via hb)
    replace X1 := Lib.hid (X1.out.via hb)
    replace X2 := Lib.hid (X2.out.via hb)
    replace Y1 := Lib.hid (Y1.out.via hb)
    replace Y2 := Lib.hid (Y2.out.via hb)
    replace Ladd1 := Lib.hid (Ladd1.out.via hb)
    replace Madd1 := Lib.hid (Madd1.out.via hb)
    replace Badd1 := Lib.hid (Badd1.out.via hb)
    replace Ladd2 := Lib.hid (Ladd2.out.via hb)
    replace Madd2 := Lib.hid (Madd2.out.via hb)
    replace Badd2 := Lib.hid (Badd2.out.via hb)
    replace Lsub1 := Lib.hid (Lsub1.out.via hb)
    replace Msub1 := Lib.hid (Msub1.out.via hb)
    replace Bsub1 := Lib.hid (Bsub1.out.via hb)
    replace Lsub2 := Lib.hid (Lsub2.out.via hb)
    replace Msub2 := Lib.hid (Msub2.out.via hb)
    replace Bsub2 := Lib.hid (Bsub2.out.via hb)
    replace Lmul1 := Lib.hid (Lmul1.out.via hb)
    replace Mmul1 := Lib.hid (Mmul1.out.via hb)
    replace Bmul1 := Lib.hid (Bmul1.out.via hb)
    replace Lmul2 := Lib.hid (Lmul2.out.via hb)
    replace Mmul2 := Lib.hid (Mmul2.out.via hb)
    replace Bmul2 := Lib.hid (Bmul2.out.via hb)
    replace Ldiv1 := Lib.hid (Ldiv1.out.via hb)
    replace Mdiv1 := Lib.hid (Mdiv1.out.via hb)
    replace Bdiv1 := Lib.hid (Bdiv1.out.via hb)
    replace Ldiv2 := Lib.hid (Ldiv2.out.via hb)
    replace Mdiv2 := Lib.hid (Mdiv2.out.via hb)
    replace Bdiv2 := Lib.hid (Bdiv2.out.via hb)
    replace Lneg1 := Lib.hid (Lneg1.out.via hb)
    replace Mneg1 := Lib.hid (Mneg1.out.via hb)
    replace Bneg1 := Lib.hid (Bneg1.out.via hb)
    replace Lneg2 := Lib.hid (Lneg2.out.via hb)
    replace Mneg2 := Lib.hid (Mneg2.out.via hb)
    replace Bneg2 := Lib.hid (Bneg2.out.via hb)
    replace BW := Lib.hid (btr BW.out hb)
    clear hb
    have ⟨rQX0, rQX1, rQX2, rQX3, rQX4, rQX5, rQX6, rQX7, rQXl⟩ := QX.out
    have ⟨rQY0, rQY1, rQY2, rQY3, rQY4, rQY5, rQY6, rQY7, rQYl⟩ := QY.out
    go_wp2_with fail
    clear rQX0 rQX1 rQX2 rQX3 rQX4 rQX5 rQX6 rQX7 rQXl rQY0 rQY1 rQY2 rQY3 rQY4 rQY5 rQY6 rQY7 rQYl
    refine (Kcmp2.out _ A3 E3 A4 E4 n m r s c3 d3 c4 d4 X1.out X2.out Y1.out Y2.out).mono ?_
    rintro e w14 ⟨rfl, hb⟩
    replace QA := Lib.hid (QA.out.via hb)
    replace QB := Lib.hid (QB.out.via hb)
    replace LA := Lib.hid (LA.out.via hb)
    replace LB := Lib.hid (LB.out.via hb)
    replace LC := Lib.hid (LC.out.via hb)
    replace LD := Lib.hid (LD.out.via hb)
    replace QX := Lib.hid (QX.out.via hb)
    replace QY := Lib.hid (QY.out.via hb)
    replace X1 := Lib.hid (X1.out.via hb)
    replace X2 := Lib.hid (X2.out.via hb)
    replace Y1 := Lib.hid (Y1.out.via hb)
    replace Y2 := Lib.hid (Y2.out.via hb)
    replace Ladd1 := Lib.hid (Ladd1.out.via hb)
    replace Madd1 := Lib.hid (Madd1.out.via hb)
    replace Badd1 := Lib.hid (Badd1.out.via hb)
    replace Ladd2 := Lib.hid (Ladd2.out.via hb)
    replace Madd2 := Lib.hid (Madd2.out.via hb)
    replace Badd2 := Lib.hid (Badd2.out.via hb)
    replace Lsub1 := Lib.hid (Lsub1.out.via hb)
    replace Msub1 := Lib.hid (Msub1.out.via hb)
    replace Bsub1 := Lib.hid (Bsub1.out.via hb)
    replace Lsub2 := Lib.hid (Lsub2.out.via hb)
    replace Msub2 := Lib.hid (Msub2.out.via hb)
    replace Bsub2 := Lib.hid (Bsub2.out.via hb)
    replace Lmul1 := Lib.hid (Lmul1.out.via hb)
    replace Mmul1 := Lib.hid (Mmul1.out.via hb)
    replace Bmul1 := Lib.hid (Bmul1.out.via hb)
    replace Lmul2 := Lib.hid (Lmul2.out.via hb)
    replace Mmul2 := Lib.hid (Mmul2.out.via hb)
    replace Bmul2 := Lib.hid (Bmul2.out.via hb)
    replace Ldiv1 := Lib.hid (Ldiv1.out.via hb)
    replace Mdiv1 := Lib.hid (Mdiv1.out.via hb)
    replace Bdiv1 := Lib.hid (Bdiv1.out.via hb)
    replace Ldiv2 := Lib.hid (Ldiv2.out.via hb)
    replace Mdiv2 := Lib.hid (Mdiv2.out.via hb)
    replace Bdiv2 := Lib.hid (Bdiv2.out.via hb)
    replace Lneg1 := Lib.hid (Lneg1.out.via hb)
    replace Mneg1 := Lib.hid (Mneg1.out.via hb)
    replace Bneg1 := Lib.hid (Bneg1.out.via hb)
    replace Lneg2 := Lib.hid (Lneg2.out.via hb)
    replace Mneg2 := Lib.hid (Mneg2.out.via hb)
    replace Bneg2 := Lib.hid (Bneg2.out.via hb)
    replace BW := Lib.hid (btr BW.out hb)
    clear hb
    have ⟨rBadd10, rBadd11, rBadd12, rBadd13, rBadd14, rBadd15, rBadd16, rBadd17, rBadd1l⟩ := Badd1.out
    have ⟨rBadd20, rBadd21, rBadd22, rBadd23, rBadd24, rBadd25, rBadd26, rBadd27, rBadd2l⟩ := Badd2.out
    go_wp2_with fail
    clear rBadd10 rBadd11 rBadd12 rBadd13 rBadd14 rBadd15 rBadd16 rBadd17 rBadd1l rBadd20 rBadd21 rBadd22 rBadd23 rBadd24 rBadd25 rBadd26 rBadd27 rBadd2l
    refine (fsame_self _ padd qadd Uadd1 Vadd1 Uadd2 Vadd2 nadd1 madd1 nadd2 madd2 cadd1 dadd1 cadd2 dadd2 aadd badd Ladd1.out Madd1.out Ladd2.out Madd2.out).mono ?_
    rintro e w15 ⟨rfl, hb⟩
    clear Badd1
    clear Badd2
    clear Ladd1
    clear Ladd2
    clear Madd1
    clear Madd2
    replace QA := Lib.hid (QA.out.via hb)
    replace QB := Lib.hid (QB.out.via hb)
    replace LA := Lib.hid (LA.out.via hb)
    replace LB := Lib.hid (LB.out.via hb)
    replace LC := Lib.hid (LC.out.via hb)
    replace LD := Lib.hid (LD.out.via hb)
    replace QX := Lib.hid (QX.out.via hb)
    replace QY := Lib.hid (QY.out.via hb)
    replace X1 := Lib.hid (X1.out.via hb)
    replace X2 := Lib.hid (X2.out.via hb)
    replace Y1 := Lib.hid (Y1.out.via hb)
    replace Y2 := Lib.hid (Y2.out.via hb)
    replace Lsub1 := Lib.hid (Lsub1.out.via hb)
    replace Msub1 := Lib.hid (Msub1.out.via hb)
    replace Bsub1 := Lib.hid (Bsub1.out.via hb)
    replace Lsub2 := Lib.hid (Lsub2.out.via hb)
    replace Msub2 := Lib.hid (Msub2.out.via hb)
    replace Bsub2 := Lib.hid (Bsub2.out.via hb)
    replace Lmul1 := Lib.hid (Lmul1.out.via hb)
    replace Mmul1 := Lib.hid (Mmul1.out.via hb)
    replace Bmul1 := Lib.hid (Bmul1.out.via hb)
    replace Lmul2 := Lib.hid (Lmul2.out.via hb)
    replace Mmul2 := Lib.hid (Mmul2.out.via hb)
    replace Bmul2 := Lib.hid (Bmul2.out.via hb)
    replace Ldiv1 := Lib.hid (Ldiv1.out.via hb)
    replace Mdiv1 := Lib.hid (Mdiv1.out.via hb)
    replace Bdiv1 := Lib.hid (Bdiv1.out.via hb)
    replace Ldiv2 := Lib.hid (Ldiv2.out.via hb)
    replace Mdiv2 := Lib.hid (Mdiv2.out.via hb)
    replace Bdiv2 := Lib.hid (Bdiv2.out.via hb)
    replace Lneg1 := Lib.hid (Lneg1.out.via hb)
    replace Mneg1 := Lib.hid (Mneg1.out.via hb)
    replace Bneg1 := Lib.hid (Bneg1.out.via hb)
    replace Lneg2 := Lib.hid (Lneg2.out.via hb)
    replace Mneg2 := Lib.hid (Mneg2.out.via hb)
    replace Bneg2 := Lib.hid (Bneg2.out.via hb)
    replace BW := Lib.hid (btr BW.out hb)
    clear hb
    have ⟨rBsub10, rBsub11, rBsub12, rBsub13, rBsub14, rBsub15, rBsub16, rBsub17, rBsub1l⟩ := Bsub1.out
    have ⟨rBsub20, rBsub21, rBsub22, rBsub23, rBsub24, rBsub25, rBsub26, rBsub27, rBsub2l⟩ := Bsub2.out
    go_wp2_with fail
    clear rBsub10 rBsub11 rBsub12 rBsub13 rBsub14 rBsub15 rBsub16 rBsub17 rBsub1l rBsub20 rBsub21 rBsub22 rBsub23 rBsub24 rBsub25 rBsub26 rBsub27 rBsub2l
    refine (fsame_self _ psub qsub Usub1 Vsub1 Usub2 Vsub2 nsub1 msub1 nsub2 msub2 csub1 dsub1 csub2 dsub2 asub bsub Lsub1.out Msub1.out Lsub2.out Msub2.out).mono ?_
    rintro e w16 ⟨rfl, hb⟩
    clear Bsub1
    clear Bsub2
    clear Lsub1
    clear Lsub2
    clear Msub1
    clear Msub2
    replace QA := Lib.hid (QA.out.via hb)
    replace QB := Lib.hid (QB.out.via hb)
    replace LA := Lib.hid (LA.out.via hb)
    replace LB := Lib.hid (LB.out.via hb)
    replace LC := Lib.hid (LC.out.via hb)
    replace LD := Lib.hid (LD.out.via hb)
    replace QX := Lib.hid (QX.out.via hb)
    replace QY := Lib.hid (QY.out.via hb)
    replace X1 := Lib.hid (X1.out.via hb)
    replace X2 := Lib.hid (X2.out.via hb)
    replace Y1 := Lib.hid (Y1.out.via hb)
    replace Y2 := Lib.hid (Y2.out.via hb)
    replace Lmul1 := Lib.hid (Lmul1.out.via hb)
    replace Mmul1 := Lib.hid (Mmul1.out.via hb)
    replace Bmul1 := Lib.hid (Bmul1.out.via hb)
    replace Lmul2 := Lib.hid (Lmul2.out.via hb)
    replace Mmul2 := Lib.hid (Mmul2.out.via hb)
    replace Bmul2 := Lib.hid (Bmul2.out.via hb)
    replace Ldiv1 := Lib.hid (Ldiv1.out.via hb)
    replace Mdiv1 := Lib.hid (Mdiv1.out.via hb)
    replace Bdiv1 := Lib.hid (Bdiv1.out.via hb)
    replace Ldiv2 := Lib.hid (Ldiv2.out.via hb)
    replace Mdiv2 := Lib.hid (Mdiv2.out.via hb)
    replace Bdiv2 := Lib.hid (Bdiv2.out.via hb)
    replace Lneg1 := Lib.hid (Lneg1.out.via hb)
    replace Mneg1 := Lib.hid (Mneg1.out.via hb)
    replace Bneg1 := Lib.hid (Bneg1.out.via hb)
    replace Lneg2 := Lib.hid (Lneg2.out.via hb)
    replace Mneg2 := Lib.hid (Mneg2.out.via hb)
    replace Bneg2 := Lib.hid (Bneg2.out.via hb)
    replace BW := Lib.hid (btr BW.out hb)
    clear hb
    have ⟨rBmul10, rBmul11, rBmul12, rBmul13, rBmul14, rBmul15, rBmul16, rBmul17, rBmul1l⟩ := Bmul1.out
    have ⟨rBmul20, rBmul21, rBmul22, rBmul23, rBmul24, rBmul25, rBmul26, rBmul27, rBmul2l⟩ := Bmul2.out
    go_wp2_with fail
    clear rBmul10 rBmul11 rBmul12 rBmul13 rBmul14 rBmul15 rBmul16 rBmul17 rBmul1l rBmul20 rBmul21 rBmul22 rBmul23 rBmul24 rBmul25 rBmul26 rBmul27 rBmul2l
    refine (fsame_self _ pmul qmul Umul1 Vmul1 Umul2 Vmul2 nmul1 mmul1 nmul2 mmul2 cmul1 dmul1 cmul2 dmul2 amul bmul Lmul1.out Mmul1.out Lmul2.out Mmul2.out).mono ?_
    rintro e w17 ⟨rfl, hb⟩
    clear Bmul1
    clear Bmul2
    clear Lmul1
    clear Lmul2
    clear Mmul1
    clear Mmul2
    replace QA := Lib.hid (QA.out.via hb)
    replace QB := Lib.hid (QB.out.via hb)
    replace LA := Lib.hid (LA.out.via hb)
    replace LB := Lib.hid (LB.out.via hb)
    replace LC := Lib.hid (LC.out.via hb)
    replace LD := Lib.hid (LD.out.via hb)
    replace QX := Lib.hid (QX.out.via hb)
    replace QY := Lib.hid (QY.out.via hb)
    replace X1 := Lib.hid (X1.out.via hb)
    replace X2 := Lib.hid (X2.out.via hb)
    replace Y1 := Lib.hid (Y1.out.via hb)
    replace Y2 := Lib.hid (Y2.out.via hb)
    replace Ldiv1 := Lib.hid (Ldiv1.out.via hb)
    replace Mdiv1 := Lib.hid (Mdiv1.out.via hb)
    replace Bdiv1 := Lib.hid (Bdiv1.out.via hb)
    replace Ldiv2 := Lib.hid (Ldiv2.out.via hb)
    replace Mdiv2 := Lib.hid (Mdiv2.out.via hb)
    replace Bdiv2 := Lib.hid (Bdiv2.out.via hb)
    replace Lneg1 := Lib.hid (Lneg1.out.via hb)
    replace Mneg1 := Lib.hid (Mneg1.out.via hb)
    replace Bneg1 := Lib.hid (Bneg1.out.via hb)
    replace Lneg2 := Lib.hid (Lneg2.out.via hb)
    replace Mneg2 := Lib.hid (Mneg2.out.via hb)
    replace Bneg2 := Lib.hid (Bneg2.out.via hb)
    replace BW := Lib.hid (btr BW.out hb)
    clear hb
    have ⟨rBdiv10, rBdiv11, rBdiv12, rBdiv13, rBdiv14, rBdiv15, rBdiv16, rBdiv17, rBdiv1l⟩ := Bdiv1.out
    have ⟨rBdiv20, rBdiv21, rBdiv22, rBdiv23, rBdiv24, rBdiv25, rBdiv26, rBdiv27, rBdiv2l⟩ := Bdiv2.out
    go_wp2_with fail
    clear rBdiv10 rBdiv11 rBdiv12 rBdiv13 rBdiv14 rBdiv15 rBdiv16 rBdiv17 rBdiv1l rBdiv20 rBdiv21 rBdiv22 rBdiv23 rBdiv24 rBdiv25 rBdiv26 rBdiv27 rBdiv2l
    refine (fsame_self _ pdiv qdiv Udiv1 Vdiv1 Udiv2 Vdiv2 ndiv1 mdiv1 ndiv2 mdiv2 cdiv1 ddiv1 cdiv2 ddiv2 adiv bdiv Ldiv1.out Mdiv1.out Ldiv2.out Mdiv2.out).mono ?_
    rintro e w18 ⟨rfl, hb⟩
    clear Bdiv1
    clear Bdiv2
    clear Ldiv1
    clear Ldiv2
    clear Mdiv1
    clear Mdiv2
    replace QA := Lib.hid (QA.out.via hb)
    replace QB := Lib.hid (QB.out.via hb)
    replace LA := Lib.hid (LA.out.via hb)
    replace LB := Lib.hid (LB.out.via hb)
    replace LC := Lib.hid (LC.out.via hb)
    replace LD := Lib.hid (LD.out.via hb)
    replace QX := Lib.hid (QX.out.via hb)
    replace QY := Lib.hid (QY.out.via hb)
    replace X1 := Lib.hid (X1.out.via hb)
    replace X2 := Lib.hid (X2.out.via hb)
    replace Y1 := Lib.hid (Y1.out.via hb)
    replace Y2 := Lib.hid (Y2.out.via hb)
    replace Lneg1 := Lib.hid (Lneg1.out.via hb)
    replace Mneg1 := Lib.hid (Mneg1.out.via hb)
    replace Bneg1 := Lib.hid (Bneg1.out.via hb)
    replace Lneg2 := Lib.hid (Lneg2.out.via hb)
    replace Mneg2 := Lib.hid (Mneg2.out.via hb)
    replace Bneg2 := Lib.hid (Bneg2.out.via hb)
    replace BW := Lib.hid (btr BW.out hb)
    clear hb
    have ⟨rBneg10, rBneg11, rBneg12, rBneg13, rBneg14, rBneg15, rBneg16, rBneg17, rBneg1l⟩ := Bneg1.out
    have ⟨rBneg20, rBneg21, rBneg22, rBneg23, rBneg24, rBneg25, rBneg26, rBneg27, rBneg2l⟩ := Bneg2.out
    go_wp2_with fail
    clear rBneg10 rBneg11 rBneg12 rBneg13 rBneg14 rBneg15 rBneg16 rBneg17 rBneg1l rBneg20 rBneg21 rBneg22 rBneg23 rBneg24 rBneg25 rBneg26 rBneg27 rBneg2l
    refine (fsame_self _ pneg qneg Uneg1 Vneg1 Uneg2 Vneg2 nneg1 mneg1 nneg2 mneg2 cneg1 dneg1 cneg2 dneg2 aneg bneg Lneg1.out Mneg1.out Lneg2.out Mneg2.out).mono ?_
    rintro e w19 ⟨rfl, hb⟩
    clear Bneg1
    clear Bneg2
    clear Lneg1
    clear Lneg2
    clear Mneg1
    clear Mneg2
    replace QA := Lib.hid (QA.out.via hb)
    replace QB := Lib.hid (QB.out.via hb)
    replace LA := Lib.hid (LA.out.via hb)
    replace LB := Lib.hid (LB.out.via hb)
    replace LC := Lib.hid (LC.out.via hb)
    replace LD := Lib.hid (LD.out.via hb)
    replace QX := Lib.hid (QX.out.via hb)
    replace QY := Lib.hid (QY.out.via hb)
    replace X1 := Lib.hid (X1.out.via hb)
    replace X2 := Lib.hid (X2.out.via hb)
    replace Y1 := Lib.hid (Y1.out.via hb)
    replace Y2 := Lib.hid (Y2.out.via hb)
    replace BW := Lib.hid (btr BW.out hb)
    clear hb
    have ⟨rQA0, rQA1, rQA2, rQA3, rQA4, rQA5, rQA6, rQA7, rQAl⟩ := QA.out
    have ⟨rQX0, rQX1, rQX2, rQX3, rQX4, rQX5, rQX6, rQX7, rQXl⟩ := QX.out
    go_wp2_with fail
    clear rQA0 rQA1 rQA2 rQA3 rQA4 rQA5 rQA6 rQA7 rQAl rQX0 rQX1 rQX2 rQX3 rQX4 rQX5 rQX6 rQX7 rQXl
    refine (fsame_self _ na nb A B A3 E3 n m n m ca cb c3 d3 xs ys LA.out LB.out X1.out X2.out).mono ?_
    rintro e w20 ⟨rfl, hb⟩
    replace QA := Lib.hid (QA.out.via hb)
    replace QB := Lib.hid (QB.out.via hb)
    replace LA := Lib.hid (LA.out.via hb)
    replace LB := Lib.hid (LB.out.via hb)
    replace LC := Lib.hid (LC.out.via hb)
    replace LD := Lib.hid (LD.out.via hb)
    replace QX := Lib.hid (QX.out.via hb)
    replace QY := Lib.hid (QY.out.via hb)
    replace X1 := Lib.hid (X1.out.via hb)
    replace X2 := Lib.hid (X2.out.via hb)
    replace Y1 := Lib.hid (Y1.out.via hb)
    replace Y2 := Lib.hid (Y2.out.via hb)
    replace BW := Lib.hid (btr BW.out hb)
    clear hb
    have ⟨rQB0, rQB1, rQB2, rQB3, rQB4, rQB5, rQB6, rQB7, rQBl⟩ := QB.out
    have ⟨rQY0, rQY1, rQY2, rQY3, rQY4, rQY5, rQY6, rQY7, rQYl⟩ := QY.out
    go_wp2_with fail
    clear rQB0 rQB1 rQB2 rQB3 rQB4 rQB5 rQB6 rQB7 rQBl rQY0 rQY1 rQY2 rQY3 rQY4 rQY5 rQY6 rQY7 rQYl
    refine (fsame_self _ nc nd C D A4 E4 r s r s cc cd c4 d4 us vs LC.out LD.out Y1.out Y2.out).mono ?_
    rintro e w21 ⟨rfl, hb⟩
    replace QA := Lib.hid (QA.out.via hb)
    replace QB := Lib.hid (QB.out.via hb)
    replace LA := Lib.hid (LA.out.via hb)
    replace LB := Lib.hid (LB.out.via hb)
    replace LC := Lib.hid (LC.out.via hb)
    replace LD := Lib.hid (LD.out.via hb)
    replace QX := Lib.hid (QX.out.via hb)
    replace QY := Lib.hid (QY.out.via hb)
    replace X1 := Lib.hid (X1.out.via hb)
    replace X2 := Lib.hid (X2.out.via hb)
    replace Y1 := Lib.hid (Y1.out.via hb)
    replace Y2 := Lib.hid (Y2.out.via hb)
    replace BW := Lib.hid (btr BW.out hb)
    clear hb
    go_wp2
    go_ret
    exact ⟨rfl, BW.out⟩
theorem reckons_any (w : World) (na nb nc nd : Bool) (A B C D : Option Addr) (n m r s ca cb cc cd : Nat) (xs ys us vs : List Nat) (hA : Lm w w.heap.size A n ca xs) (hB : Lm w w.heap.size B m cb ys) (hC : Lm w w.heap.size C r cc us) (hD : Lm w w.heap.size D s cd vs) :
    Calls Tryz.prog 3 #[fv na A n ca nb B m cb, fv nc C r cc nd D s cd] w fun e w' => e = .returned (.bool true) ∧ Below w.heap.size w w' := by
  by_cases h1 : 130 < n ∨ 130 < m
  · exact reckons_great1 w na nb nc nd A B C D n m r s ca cb cc cd xs ys us vs hA hB hC hD h1
  · by_cases h2 : 130 < r ∨ 130 < s
    · exact reckons_great2 w na nb nc nd A B C D n m r s ca cb cc cd xs ys us vs hA hB hC hD h2 h1
    · exact reckons_main w na nb nc nd A B C D n m r s ca cb cc cd xs ys us vs hA hB hC hD (by omega) (by omega) (by omega) (by omega)
end Go.Proofs.YtioccpbohhhkpaaGreat

namespace Go.Proofs.YtioccpbohhhkpaaGreat
open Go.ChangeShapes Go.WideShapes Go.ChangeAt Go.RowKit

theorem own : ownKnob Tryz.prog.godebug = none := by kernel_rfl

set_option maxRecDepth 100000 in
theorem reckons_lifted (os : Os) (started : os.Started) (H : Type) (enc : TypeId × Value → H) :
    ReturnsInHanded {} Tryz.checked os 3 .any (Rows.fracReckonsSpec.pre6 enc Tryz.prog Tryz.f3 Rows.fracReckonsRow.domain false) (Rows.fracReckonsSpec.post enc Tryz.prog Tryz.f3 false true false false) := by
  refine returnsInHanded_of_change (C := Tryz.checked) own started (by kernel_rfl) Tryz.func3
    (ChangeSpec.witness6 (enc := enc) (C := Tryz.checked) false ⟨#[], #[.agg #[.bool false, .slice none 0 0, .bool false, .slice none 0 0], .agg #[.bool false, .slice none 0 0, .bool false, .slice none 0 0]], []⟩ 8 (by kernel_rfl) (by kernel_rfl) (by kernel_rfl) (by kernel_rfl)) ?_
  intro W base args ds gs before hval0 hW hcnd _
  have hval : ∀ (j : Nat) t v, Tryz.f3.params[j]? = some t → args[j]? = some v → Value.okWide Tryz.prog W .any base t v := hval0
  have hW' := hW
  obtain ⟨p, q, hA0, hV, rfl, hfz, hnd⟩ := hW
  have hA : DataW.TrodAll enc Tryz.prog W 0 (fun _ => true) true Tryz.f3.params.toList args.toList ds p := hA0
  rw [Tryz.params3] at hA hval
  obtain ⟨v0, v1, d0, d1, p0, p1, rfl, rfl, rfl, h0, h1⟩ := trodAll_two hA
  obtain ⟨rfl, rfl⟩ := trodVars_none hV
  clear hA0 hval0
  simp only [List.append_nil] at hW'
  have hlt : ∀ x ∈ p0 ++ p1, x.block < W.heap.size := fun x hx => by
    refine hW'.lt x ?_
    simpa using hx
  have hlt0 : ∀ x ∈ p0, x.block < W.heap.size := fun x hx => hlt x (List.mem_append_left _ hx)
  have hlt1 : ∀ x ∈ p1, x.block < W.heap.size := fun x hx => hlt x (List.mem_append_right _ hx)
  obtain ⟨na, A, n, ca, xs, nb, B, m, cb, ys, rfl, hLA, hLB⟩ := open_frac (hval 0 26 v0 rfl rfl) h0 hlt0
  obtain ⟨nc, C, r, cc, us, nd, D, s, cd, vs, rfl, hLC, hLD⟩ := open_frac (hval 1 26 v1 rfl rfl) h1 hlt1
  refine (reckons_any W na nb nc nd A B C D n m r s ca cb cc cd xs ys us vs hLA hLB hLC hLD).mono fun e W' ⟨he, hb⟩ => ?_
  subst he
  exact ⟨_, rfl, _, _, _, [], p0 ++ p1, [], hW', trodAll_mk1 (shut_bool Tryz.underlying4 _),
    trodAll_mk2 (Below.trod laidOut (by kernel_rfl) (of_decide_eq_true (by kernel_rfl)) h0 hb hlt0) (Below.trod laidOut (by kernel_rfl) (of_decide_eq_true (by kernel_rfl)) h1 hb hlt1), rfl, hb.frame _, fun h => by cases h⟩

theorem reckons_holds : Rows.FracReckonsSaid :=
  OpenClaim.holds_of_wide 3 Tryz.f3 rfl rfl rfl rfl rfl rfl rfl ⟨rfl, rfl, rfl, rfl, rfl⟩ rfl rfl rfl rfl rfl (by kernel_rfl) Tryz.func3 (by kernel_rfl)
    (of_decide_eq_true (by kernel_rfl)) (by unfold Func.isWrapper; first | (rw [if_pos (by decide +kernel)]; kernel_rfl) | (rw [if_neg (by decide +kernel)]; exact ⟨rfl, rfl⟩))
    (fun os started H enc _ => reckons_lifted os started H enc)

end Go.Proofs.YtioccpbohhhkpaaGreat

