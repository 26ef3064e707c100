/- Lemmas, part 9. -/
import Derived.Deep.LoopGhost
import Derived.Deep.MidRow
import Derived.Test.YtffblodpgcifcaaGreatDoorSL8
/- The reference's Has: an interval has a fraction. -/
namespace Go.Proofs.YtffblodpgcifcaaGreatDoor
open Go.RowKit

theorem sz2_i64 {i : Int} (h1 : -9223372036854775808 ≤ i) (h2 : i ≤ 9223372036854775807) : Sz 2 i := by unfold Sz; omega
theorem rred_f (w : World) (A B : Option Addr) (n m ca cb : Nat) (i : Int) (hA : Lm w w.heap.size A n ca (digs i.natAbs)) (hB : Lm w w.heap.size B m cb (digs (1099511627776 : Int).natAbs)) (h1 : -9223372036854775808 ≤ i) (h2 : i ≤ 9223372036854775807) {na nb : Bool} (ha : decide (i < 0) = na) (hb : decide ((1099511627776 : Int) < 0) = nb) :
    Calls Tryz.prog 28 #[.agg #[.bool na, .slice A n ca], .agg #[.bool nb, .slice B m cb]] w (RF1 w 2 i 1099511627776) :=
  (rreduced_pos w A B n m ca cb 2 i 1099511627776 hA hB (sz2_i64 h1 h2) (by unfold Sz; decide) (by omega) ha hb (by decide)).mono fun e w' h => rfr_rf1 (red_fr (sz2_i64 h1 h2) (by unfold Sz; decide) (by omega) (by omega)) h
set_option maxRecDepth 100000 in
set_option maxHeartbeats 4000000 in
theorem rhas_f (w : World) (lo hi : Int) (zf : Bool) (A B : Option Addr) (n m ca cb k : Nat) (p q u v : Int) (hz : decide (p < 0) = zf) (hA : Lm w w.heap.size A n ca (digs p.natAbs)) (hB : Lm w w.heap.size B m cb (digs q.natAbs)) (f : FrV k p q u v) (hk2 : 2 ≤ k) (hk : k ≤ 300) (l1 : -9223372036854775808 ≤ lo) (l2 : lo ≤ 9223372036854775807) (l3 : -9223372036854775808 ≤ hi) (l4 : hi ≤ 9223372036854775807) (hv : 0 < v) (H1 : lo * v ≤ u * 1099511627776) (H2 : u * 1099511627776 ≤ hi * v) :
    Calls Tryz.prog 16 #[iv lo hi, fv zf A n ca false B m cb] w (RB1 w true) := by
  have HA := Lib.hid hA
  have HB := Lib.hid hB
  have HF := Lib.hid (And.intro hz f)
  have HI := Lib.hid (And.intro hk2 (And.intro hk hv))
  have HH := Lib.hid (And.intro H1 H2)
  have Hl := Lib.hid (And.intro l1 l2)
  have Hh := Lib.hid (And.intro l3 l4)
  obtain ⟨zl, hzl⟩ : ∃ b, decide (lo < 0) = b := ⟨_, rfl⟩
  obtain ⟨zh, hzh⟩ : ∃ b, decide (hi < 0) = b := ⟨_, rfl⟩
  have HZl := Lib.hid hzl
  have HZh := Lib.hid hzh
  clear hA hB hz f hk2 hk hv H1 H2 l1 l2 l3 l4 hzl hzh
  go_enter Tryz.func16, Tryz.ntmps16
  have QA := Lib.hid ((Pr.new w (w.heap.size) rfl (.int .i64 lo) (.int .i64 hi) 23).alloc (.cells #[.bool zf, .slice A n ca, .bool false, .slice B m cb] 31))
  have QF := Lib.hid (Qd.new (w.alloc (.cells #[.int .i64 lo, .int .i64 hi] 23)) (w.heap.size + 1) (by simp) (.bool zf) (.slice A n ca) (.bool false) (.slice B m cb) 31)
  have LA := Lib.hid ((HA.out.box (.cells #[.int .i64 lo, .int .i64 hi] 23)).box (.cells #[.bool zf, .slice A n ca, .bool false, .slice B m cb] 31))
  have LB := Lib.hid ((HB.out.box (.cells #[.int .i64 lo, .int .i64 hi] 23)).box (.cells #[.bool zf, .slice A n ca, .bool false, .slice B m cb] 31))
  have BW : Hid (Below w.heap.size w ((w.alloc (.cells #[.int .i64 lo, .int .i64 hi] 23)).alloc (.cells #[.bool zf, .slice A n ca, .bool false, .slice B m cb] 31))) := (sbal (sbal (Below.refl _ _) _) _)
  clear HA HB
  go_wp2_with fail
  generalize (w.alloc (.cells #[.int .i64 lo, .int .i64 hi] 23)).alloc (.cells #[.bool zf, .slice A n ca, .bool false, .slice B m cb] 31) = W0 at *
  have HKS : Hid (∀ X : World, Below W0.heap.size W0 X → X.cell? ⟨w.heap.size, 0, none⟩ = some (.int .i64 lo) ∧ X.cell? ⟨w.heap.size, 1, none⟩ = some (.int .i64 hi) ∧ X.cell? ⟨w.heap.size + 1, 0, none⟩ = some (.bool zf) ∧ X.cell? ⟨w.heap.size + 1, 1, none⟩ = some (.slice A n ca) ∧ X.cell? ⟨w.heap.size + 1, 2, none⟩ = some (.bool false) ∧ X.cell? ⟨w.heap.size + 1, 3, none⟩ = some (.slice B m cb)) := fun X h => ⟨(QA.out.via h).c0, (QA.out.via h).c1, (QF.out.via h).c0, (QF.out.via h).c1, (QF.out.via h).c2, (QF.out.via h).c3⟩
  go_cut [5] (fun s wx => ∃ c : Int, s = .int .i64 c ∧ c ≤ 0 ∧ Below W0.heap.size W0 wx)
  case first =>
    go_region_held3 (fun X => X.cell? ⟨w.heap.size, 0, none⟩ = some (.int .i64 lo) ∧ X.cell? ⟨w.heap.size, 1, none⟩ = some (.int .i64 hi) ∧ X.cell? ⟨w.heap.size + 1, 0, none⟩ = some (.bool zf) ∧ X.cell? ⟨w.heap.size + 1, 1, none⟩ = some (.slice A n ca) ∧ X.cell? ⟨w.heap.size + 1, 2, none⟩ = some (.bool false) ∧ X.cell? ⟨w.heap.size + 1, 3, none⟩ = some (.slice B m cb))
      (first | exact HKS.out _ (Below.refl _ _) | exact HKS.out _ (Below.refl _ _).drew | exact HKS.out _ E3 | exact HKS.out _ E2 | exact HKS.out _ E1 | exact HKS.out _ E0)
      (first
       | (have _t := E2; go_at_call 20; refine (rcmp_f _ z1 zf A1 B1 A B n1 m1 n m c1 d1 ca cb k p1 q1 p q lo 1099511627776 u v hz1 HF.out.1 hP1 hQ1 (LA.out.via E2) (LB.out.via E2) (hf1.mono HI.out.1) HF.out.2 HI.out.2.1 (by decide) HI.out.2.2).mono ?_; rintro e u3 ⟨c3, rfl, hc3, _, hh3⟩; have E3 : Below W0.heap.size W0 u3 := sbtr E2 hh3)
       | (have _t := E1; go_at_call 28; refine (rred_f _ A0 D0 n0 m0 c0 d0 lo (hL0.via hh1) hL1 Hl.out.1 Hl.out.2 HZl.out (by decide)).mono ?_; rintro e u2 ⟨p1, q1, z1, A1, n1, c1, B1, m1, d1, hz1, hf1, rfl, hP1, hQ1, hh2⟩; have E2 : Below W0.heap.size W0 u2 := sbtr E1 hh2)
       | (have _t := E0; go_at_call 29; refine (rfrom_any _ 1099511627776 (by decide) (by decide)).mono ?_; rintro e u1 ⟨D0, m0, d0, rfl, hL1, hh1⟩; have E1 : Below W0.heap.size W0 u1 := sbtr E0 hh1)
       | (go_at_call 29; refine (rfrom_any _ lo Hl.out.1 Hl.out.2).mono ?_; rintro e u0 ⟨A0, n0, c0, rfl, hL0, hh0⟩; rw [HZl.out]; have E0 : Below W0.heap.size W0 u0 := (by first | exact (bdrewN (Below.refl _ _) 1).trans hh0 | exact hh0))
       | fail)
    all_goals
      go_wp2_with fail
      go_meet
      exact ⟨_, rfl, hc3.2 HH.out.1, E3⟩
  case rest =>
    obtain ⟨cl, rfl, hcl, hb⟩ := hcut
    clear HKS
    replace QA := Lib.hid (QA.out.via hb)
    replace QF := Lib.hid (QF.out.via hb)
    replace LA := Lib.hid (LA.out.via hb)
    replace LB := Lib.hid (LB.out.via hb)
    replace BW := Lib.hid (sbtr BW.out hb)
    clear hb
    have HC := Lib.hid hcl
    clear hcl
    go_wp2_with fail
    generalize wc = W1 at *
    have HKS : Hid (∀ X : World, Below W1.heap.size W1 X → X.cell? ⟨w.heap.size, 0, none⟩ = some (.int .i64 lo) ∧ X.cell? ⟨w.heap.size, 1, none⟩ = some (.int .i64 hi) ∧ X.cell? ⟨w.heap.size + 1, 0, none⟩ = some (.bool zf) ∧ X.cell? ⟨w.heap.size + 1, 1, none⟩ = some (.slice A n ca) ∧ X.cell? ⟨w.heap.size + 1, 2, none⟩ = some (.bool false) ∧ X.cell? ⟨w.heap.size + 1, 3, none⟩ = some (.slice B m cb)) := fun X h => ⟨(QA.out.via h).c0, (QA.out.via h).c1, (QF.out.via h).c0, (QF.out.via h).c1, (QF.out.via h).c2, (QF.out.via h).c3⟩
    go_cut [7] (fun s wx => ∃ c : Int, s = .int .i64 c ∧ c ≤ 0 ∧ Below W1.heap.size W1 wx)
    case first =>
      go_region_held3 (fun X => X.cell? ⟨w.heap.size, 0, none⟩ = some (.int .i64 lo) ∧ X.cell? ⟨w.heap.size, 1, none⟩ = some (.int .i64 hi) ∧ X.cell? ⟨w.heap.size + 1, 0, none⟩ = some (.bool zf) ∧ X.cell? ⟨w.heap.size + 1, 1, none⟩ = some (.slice A n ca) ∧ X.cell? ⟨w.heap.size + 1, 2, none⟩ = some (.bool false) ∧ X.cell? ⟨w.heap.size + 1, 3, none⟩ = some (.slice B m cb))
        (first | exact HKS.out _ (Below.refl _ _) | exact HKS.out _ (Below.refl _ _).drew | exact HKS.out _ E3 | exact HKS.out _ E2 | exact HKS.out _ E1 | exact HKS.out _ E0)
        (first
         | (have _t := E2; go_at_call 20; refine (rcmp_f _ zf z1 A B A1 B1 n m n1 m1 ca cb c1 d1 k p q p1 q1 u v hi 1099511627776 HF.out.1 hz1 (LA.out.via E2) (LB.out.via E2) hP1 hQ1 HF.out.2 (hf1.mono HI.out.1) HI.out.2.1 HI.out.2.2 (by decide)).mono ?_; rintro e u3 ⟨c3, rfl, hc3, _, hh3⟩; have E3 : Below W1.heap.size W1 u3 := sbtr E2 hh3)
         | (have _t := E1; go_at_call 28; refine (rred_f _ A0 D0 n0 m0 c0 d0 hi (hL0.via hh1) hL1 Hh.out.1 Hh.out.2 HZh.out (by decide)).mono ?_; rintro e u2 ⟨p1, q1, z1, A1, n1, c1, B1, m1, d1, hz1, hf1, rfl, hP1, hQ1, hh2⟩; have E2 : Below W1.heap.size W1 u2 := sbtr E1 hh2)
         | (have _t := E0; go_at_call 29; refine (rfrom_any _ 1099511627776 (by decide) (by decide)).mono ?_; rintro e u1 ⟨D0, m0, d0, rfl, hL1, hh1⟩; have E1 : Below W1.heap.size W1 u1 := sbtr E0 hh1)
         | (go_at_call 29; refine (rfrom_any _ hi Hh.out.1 Hh.out.2).mono ?_; rintro e u0 ⟨A0, n0, c0, rfl, hL0, hh0⟩; rw [HZh.out]; have E0 : Below W1.heap.size W1 u0 := (by first | exact (bdrewN (Below.refl _ _) 1).trans hh0 | exact hh0))
         | fail)
      all_goals
        go_wp2_with fail
        go_meet
        exact ⟨_, rfl, hc3.2 HH.out.2, E3⟩
    case rest =>
      obtain ⟨ch, rfl, hch, hb⟩ := hcut
      have hcl := HC.out
      go_wp2
      go_ret
      exact ⟨rfl, sbtr BW.out hb⟩
end Go.Proofs.YtffblodpgcifcaaGreatDoor

/- Two new boxes of fractions, made in whatever order. -/
namespace Go.Proofs.YtffblodpgcifcaaGreatDoor
open Go.RowKit

/-- A fraction in lowest terms that is worth u / v, by its numbers' limbs. -/
def Fd (w : World) (k : Nat) (u v : Int) (z : Bool) (A : Option Addr) (n c : Nat) (B : Option Addr) (m cb : Nat) : Prop := ∃ p q, decide (p < 0) = z ∧ FrV k p q u v ∧ Lm w w.heap.size A n c (digs p.natAbs) ∧ Lm w w.heap.size B m cb (digs q.natAbs)
section
variable {w w' : World} {k : Nat} {u v : Int} {z : Bool} {A : Option Addr} {n c : Nat} {B : Option Addr} {m cb : Nat}
theorem Fd.via (h : Fd w k u v z A n c B m cb) (hb : Below w.heap.size w w') : Fd w' k u v z A n c B m cb := by
  obtain ⟨p, q, h1, h2, h3, h4⟩ := h
  exact ⟨p, q, h1, h2, h3.via hb, h4.via hb⟩
theorem Fd.alloc (h : Fd w k u v z A n c B m cb) (o : Obj) : Fd (w.alloc o) k u v z A n c B m cb := h.via ((Below.refl _ _).alloc (Nat.le_refl _) o)
theorem Fd.put4 (h : Fd w k u v z A n c B m cb) {g n0 c0 n1 c1 : Nat} {b b' : Bool} {A0 A1 : Option Addr} (p : Qd w g (.bool b) (.slice A0 n0 c0) (.bool b') (.slice A1 n1 c1)) (y0 y1 y2 y3 : Value) : Fd (put4 w g y0 y1 y2 y3) k u v z A n c B m cb := by
  obtain ⟨p1, q1, h1, h2, h3, h4⟩ := h
  exact ⟨p1, q1, h1, h2, h3.put4 p _ _ _ _, h4.put4 p _ _ _ _⟩
theorem Fd.fx (h : Fd w k u v z A n c B m cb) {g : Nat} (p : Qd w g (.bool z) (.slice A n c) (.bool false) (.slice B m cb)) : Fx w g k u v := by
  obtain ⟨p1, q1, h1, h2, h3, h4⟩ := h
  exact ⟨p1, q1, z, A, n, c, B, m, cb, h1, h2, p, h3, h4⟩
end
theorem put4_eq (w : World) (g : Nat) (a b c d : Value) : (((w.setCell ⟨g, 0, none⟩ a).setCell ⟨g, 1, none⟩ b).setCell ⟨g, 2, none⟩ c).setCell ⟨g, 3, none⟩ d = Proofs.YtffblodpgcifcaaGreatDoor.put4 w g a b c d := rfl
/-- Two slots point to two boxes of fractions. -/
def FxT (W : World) (k : Nat) (u1 v1 u2 v2 : Int) (sx sy : Value) (wx : World) : Prop :=
  ∃ gx gy, sx = .pointer (some ⟨gx, 0, none⟩) ∧ sy = .pointer (some ⟨gy, 0, none⟩) ∧ Fx wx gx k u1 v1 ∧ Fx wx gy k u2 v2 ∧ gx ≠ gy ∧ W.heap.size ≤ gx ∧ W.heap.size ≤ gy ∧ Below W.heap.size W wx
section
variable {W w4 : World} {k : Nat} {u1 v1 u2 v2 : Int} {z1 z2 : Bool} {A B A' B' : Option Addr} {n c m d n' c' m' d' : Nat} {t : TypeId}
theorem xfin1 (hB : Below W.heap.size W w4) (X : Fd w4 k u1 v1 z1 A n c B m d) (Y : Fd w4 k u2 v2 z2 A' n' c' B' m' d') :
    FxT W k u1 v1 u2 v2 (.pointer (some ⟨w4.heap.size, 0, none⟩)) (.pointer (some ⟨w4.heap.size + 1, 0, none⟩)) ((w4.alloc (.cells #[.bool z1, .slice A n c, .bool false, .slice B m d] t)).alloc (.cells #[.bool z2, .slice A' n' c', .bool false, .slice B' m' d'] t)) :=
  ⟨_, _, rfl, rfl, ((X.alloc _).alloc _).fx ((Qd.new w4 _ rfl _ _ _ _ t).alloc _), ((Y.alloc _).alloc _).fx (Qd.new (w4.alloc _) _ (by simp) _ _ _ _ t), by omega, hB.size, Nat.le_succ_of_le hB.size, sbal (sbal hB _) _⟩
theorem xfin2 (hB : Below W.heap.size W w4) (X : Fd w4 k u1 v1 z1 A n c B m d) (Y : Fd w4 k u2 v2 z2 A' n' c' B' m' d') :
    FxT W k u1 v1 u2 v2 (.pointer (some ⟨w4.heap.size + 1, 0, none⟩)) (.pointer (some ⟨w4.heap.size, 0, none⟩)) ((w4.alloc (.cells #[.bool z2, .slice A' n' c', .bool false, .slice B' m' d'] t)).alloc (.cells #[.bool z1, .slice A n c, .bool false, .slice B m d] t)) :=
  ⟨_, _, rfl, rfl, ((X.alloc _).alloc _).fx (Qd.new (w4.alloc _) _ (by simp) _ _ _ _ t), ((Y.alloc _).alloc _).fx ((Qd.new w4 _ rfl _ _ _ _ t).alloc _), by omega, Nat.le_succ_of_le hB.size, hB.size, sbal (sbal hB _) _⟩
theorem xfin3 {g : Nat} (hB : Below W.heap.size W w4) (X : Fd w4 k u1 v1 z1 A n c B m d) (Y : Fd w4 k u2 v2 z2 A' n' c' B' m' d') (P : Qd w4 g (.bool false) (.slice none 0 0) (.bool false) (.slice none 0 0)) (hg : W.heap.size ≤ g) :
    FxT W k u1 v1 u2 v2 (.pointer (some ⟨g, 0, none⟩)) (.pointer (some ⟨w4.heap.size, 0, none⟩)) ((put4 w4 g (.bool z1) (.slice A n c) (.bool false) (.slice B m d)).alloc (.cells #[.bool z2, .slice A' n' c', .bool false, .slice B' m' d'] t)) :=
  ⟨_, _, rfl, rfl, ((X.put4 P _ _ _ _).alloc _).fx ((P.set _ _ _ _).alloc _), ((Y.put4 P _ _ _ _).alloc _).fx (Qd.new _ _ (size_put4 _ _ _ _ _ _) _ _ _ _ t), Nat.ne_of_lt P.lt, hg, hB.size, sbal (below_put4 hB hg _ _ _ _) _⟩
theorem xfin4 {g : Nat} (hB : Below W.heap.size W w4) (X : Fd w4 k u1 v1 z1 A n c B m d) (Y : Fd w4 k u2 v2 z2 A' n' c' B' m' d') (P : Qd w4 g (.bool false) (.slice none 0 0) (.bool false) (.slice none 0 0)) (hg : W.heap.size ≤ g) :
    FxT W k u1 v1 u2 v2 (.pointer (some ⟨w4.heap.size, 0, none⟩)) (.pointer (some ⟨g, 0, none⟩)) ((put4 w4 g (.bool z2) (.slice A' n' c') (.bool false) (.slice B' m' d')).alloc (.cells #[.bool z1, .slice A n c, .bool false, .slice B m d] t)) :=
  ⟨_, _, rfl, rfl, ((X.put4 P _ _ _ _).alloc _).fx (Qd.new _ _ (size_put4 _ _ _ _ _ _) _ _ _ _ t), ((Y.put4 P _ _ _ _).alloc _).fx ((P.set _ _ _ _).alloc _), Nat.ne_of_gt P.lt, hB.size, hg, sbal (below_put4 hB hg _ _ _ _) _⟩
theorem xfin5 {g h : Nat} (hB : Below W.heap.size W w4) (X : Fd w4 k u1 v1 z1 A n c B m d) (Y : Fd w4 k u2 v2 z2 A' n' c' B' m' d') (P : Qd w4 g (.bool false) (.slice none 0 0) (.bool false) (.slice none 0 0)) (Q : Qd w4 h (.bool false) (.slice none 0 0) (.bool false) (.slice none 0 0)) (hg : W.heap.size ≤ g) (hh : W.heap.size ≤ h) (hne : g ≠ h) :
    FxT W k u1 v1 u2 v2 (.pointer (some ⟨g, 0, none⟩)) (.pointer (some ⟨h, 0, none⟩)) (put4 (put4 w4 g (.bool z1) (.slice A n c) (.bool false) (.slice B m d)) h (.bool z2) (.slice A' n' c') (.bool false) (.slice B' m' d')) :=
  have Q' := Q.far (h := g) (fun e => hne e.symm) (.bool z1) (.slice A n c) (.bool false) (.slice B m d)
  ⟨_, _, rfl, rfl, ((X.put4 P _ _ _ _).put4 Q' _ _ _ _).fx ((P.set _ _ _ _).far hne _ _ _ _), ((Y.put4 P _ _ _ _).put4 Q' _ _ _ _).fx (Q'.set _ _ _ _), hne, hg, hh, below_put4 (below_put4 hB hg _ _ _ _) hh _ _ _ _⟩
end
end Go.Proofs.YtffblodpgcifcaaGreatDoor

/- The law's near: an end is less than a unit away from a fraction. -/
namespace Go.Proofs.YtffblodpgcifcaaGreatDoor
open Go.RowKit

/-- The end is at most a unit above (up) or below the number u / v. -/
def NB (i u v : Int) (up : Bool) : Prop := if up = true then 0 ≤ i * v - u * 1099511627776 ∧ i * v - u * 1099511627776 < v else 0 ≤ u * 1099511627776 - i * v ∧ u * 1099511627776 - i * v < v
/-- A call reports whether something holds. -/
def RNB (w : World) (p : Prop) (e : Ending) (w' : World) : Prop := ∃ b : Bool, e = .returned (.bool b) ∧ (b = true ↔ p) ∧ Below w.heap.size w w'
theorem frv_neg {k : Nat} {p q u v : Int} (h : FrV k p q u v) (hk : k ≤ 2000) : FrV k (-p) q (-u) v := by
  have sp : Sz k (-p) := by have := h.sp; unfold Sz at *; omega
  refine ⟨h.pos, by rw [Int.neg_mul, Int.neg_mul, h.eq], ?_, sp, h.sq⟩
  have hc := h.ok
  have c1 := chk_z sp (show k ≤ 4096 by omega)
  have e : (-p).natAbs = p.natAbs := by omega
  unfold fchk at hc ⊢
  split at hc
  · rename_i h0
    rw [e] at c1 ⊢
    rw [if_pos ⟨c1, h0.2⟩]
  · exact absurd hc (by decide)
/-- A slot points to a new box of a fraction. -/
def FxO (W : World) (k : Nat) (u v : Int) (sx : Value) (wx : World) : Prop := ∃ g, sx = .pointer (some ⟨g, 0, none⟩) ∧ Fx wx g k u v ∧ W.heap.size ≤ g ∧ Below W.heap.size W wx
section
variable {W w4 : World} {k : Nat} {u v : Int} {z : Bool} {A B : Option Addr} {n c m d : Nat} {t : TypeId}
theorem yfin1 (hB : Below W.heap.size W w4) (X : Fd w4 k u v z A n c B m d) : FxO W k u v (.pointer (some ⟨w4.heap.size, 0, none⟩)) (w4.alloc (.cells #[.bool z, .slice A n c, .bool false, .slice B m d] t)) :=
  ⟨_, rfl, (X.alloc _).fx (Qd.new w4 _ rfl _ _ _ _ t), hB.size, sbal hB _⟩
theorem yfin2 {g : Nat} (hB : Below W.heap.size W w4) (X : Fd w4 k u v z A n c B m d) (P : Qd w4 g (.bool false) (.slice none 0 0) (.bool false) (.slice none 0 0)) (hg : W.heap.size ≤ g) :
    FxO W k u v (.pointer (some ⟨g, 0, none⟩)) (put4 w4 g (.bool z) (.slice A n c) (.bool false) (.slice B m d)) :=
  ⟨_, rfl, (X.put4 P _ _ _ _).fx (P.set _ _ _ _), hg, below_put4 hB hg _ _ _ _⟩
end
set_option maxRecDepth 100000 in
set_option maxHeartbeats 16000000 in
theorem lnear_any (w : World) (i : Int) (zf : Bool) (A B : Option Addr) (n m ca cb k : Nat) (p q u v : Int) (up : Bool) (hz : decide (p < 0) = zf) (hA : Lm w w.heap.size A n ca (digs p.natAbs)) (hB : Lm w w.heap.size B m cb (digs q.natAbs)) (f : FrV k p q u v) (hk2 : 2 ≤ k) (hk : k ≤ 100) (l1 : -9223372036854775808 ≤ i) (l2 : i ≤ 9223372036854775807) (hv : 0 < v) :
    Calls Tryz.prog 22 #[.int .i64 i, fv zf A n ca false B m cb, .bool up] w (RNB w (NB i u v up)) := by
  have HA := Lib.hid hA
  have HB := Lib.hid hB
  have HF := Lib.hid (And.intro hz f)
  have HI := Lib.hid (And.intro hk2 (And.intro hk hv))
  have q1 := fun W => lnumber_any W i l1 l2
  have Q1 := Lib.hid q1
  have q2 := fun W => lnumber_any W 1 (by decide) (by decide)
  have Q2 := Lib.hid q2
  clear hA hB hz f hk2 hk hv l1 l2 q1 q2
  go_enter Tryz.func22, Tryz.ntmps22
  have QF := Lib.hid (Qd.new w (w.heap.size) rfl (.bool zf) (.slice A n ca) (.bool false) (.slice B m cb) 31)
  have LA := Lib.hid (HA.out.box (.cells #[.bool zf, .slice A n ca, .bool false, .slice B m cb] 31))
  have LB := Lib.hid (HB.out.box (.cells #[.bool zf, .slice A n ca, .bool false, .slice B m cb] 31))
  have BW : Hid (Below w.heap.size w (w.alloc (.cells #[.bool zf, .slice A n ca, .bool false, .slice B m cb] 31))) := (sbal (Below.refl _ _) _)
  clear HA HB
  go_wp2_with fail
  generalize w.alloc (.cells #[.bool zf, .slice A n ca, .bool false, .slice B m cb] 31) = W0 at *
  have HKS : Hid (∀ X : World, Below W0.heap.size W0 X → X.cell? ⟨w.heap.size, 0, none⟩ = some (.bool zf) ∧ X.cell? ⟨w.heap.size, 1, none⟩ = some (.slice A n ca) ∧ X.cell? ⟨w.heap.size, 2, none⟩ = some (.bool false) ∧ X.cell? ⟨w.heap.size, 3, none⟩ = some (.slice B m cb)) := fun X h => ⟨(QF.out.via h).c0, (QF.out.via h).c1, (QF.out.via h).c2, (QF.out.via h).c3⟩
  go_cut [7] (fun sx wx => FxO W0 (k + k + 1) (i * v - u * 1099511627776) (1099511627776 * v) sx wx)
  case first =>
    go_region_held3 (fun X => X.cell? ⟨w.heap.size, 0, none⟩ = some (.bool zf) ∧ X.cell? ⟨w.heap.size, 1, none⟩ = some (.slice A n ca) ∧ X.cell? ⟨w.heap.size, 2, none⟩ = some (.bool false) ∧ X.cell? ⟨w.heap.size, 3, none⟩ = some (.slice B m cb))
      (first | (refine HKS.out _ ?_; (repeat' (first | with_reducible exact BB2 | with_reducible exact BB1 | with_reducible exact (Below.refl _ _).drew | with_reducible exact Below.refl _ _ | with_reducible refine Below.drew ?_ | with_reducible refine Below.setCell ?_ ?_ _ | with_reducible refine Below.alloc ?_ ?_ _)); all_goals (first | omega | (simp [World.size_setCell]; done) | (simp [World.size_setCell]; omega))))
      (first
       | (have _t := BB1; go_at_call 12; refine (rminus_f _ z1 zf A1 G1 A B n1 m1 n m c1 d1 ca cb k p1 q1 p q i 1099511627776 u v hz1 HF.out.1 (by first | with_reducible exact hL1 | with_reducible exact hL1.box _ | with_reducible exact (hL1.box _).box _) (by first | with_reducible exact hM1 | with_reducible exact hM1.box _ | with_reducible exact (hM1.box _).box _) (by first | with_reducible exact LA.out.via BB1 | with_reducible exact (LA.out.via BB1).box _) (by first | with_reducible exact LB.out.via BB1 | with_reducible exact (LB.out.via BB1).box _) (hf1.mono HI.out.1) HF.out.2 (by have := HI.out.2.1; omega)).mono ?_; rintro e u2 ⟨p2, q2, z2, A2, n2, c2, G2, m2, d2, hz2, hf2, rfl, hL2, hM2, hh⟩; have B2 : Below u1.heap.size u1 u2 := (by first | with_reducible exact hh | with_reducible exact b_two hh | with_reducible exact b_one hh); have BB2 := sbtr BB1 B2; have S2 := BB2.size; have T2 := B2.size; (try (have P0 := P0.via B2)); (try (have D0a := D0a.via B2; have D0b := D0b.via B2)); have X2 : Fd u2 (k + k + 1) (i * v - u * 1099511627776) (1099511627776 * v) z2 A2 n2 c2 G2 m2 d2 := ⟨p2, q2, hz2, hf2, hL2, hM2⟩; (try (have P1 : (Qd u2 (u1.heap.size) (.bool false) (.slice none 0 0) (.bool false) (.slice none 0 0)) := (by with_reducible exact (Qd.new u1 (u1.heap.size) rfl (.bool false) (.slice none 0 0) (.bool false) (.slice none 0 0) 31).via hh); have l1 := P1.lt)); (try (have D1a : (Qd u2 (u1.heap.size) (.bool false) (.slice none 0 0) (.bool false) (.slice none 0 0)) := (by with_reducible exact ((Qd.new u1 (u1.heap.size) rfl (.bool false) (.slice none 0 0) (.bool false) (.slice none 0 0) 31).alloc (.cells #[.bool false, .slice none 0 0, .bool false, .slice none 0 0] 31)).via hh); have D1b : (Qd u2 (u1.heap.size + 1) (.bool false) (.slice none 0 0) (.bool false) (.slice none 0 0)) := (by with_reducible exact (Qd.new (u1.alloc (.cells #[.bool false, .slice none 0 0, .bool false, .slice none 0 0] 31)) (u1.heap.size + 1) (by simp) (.bool false) (.slice none 0 0) (.bool false) (.slice none 0 0) 31).via hh); have l1 := D1a.lt)); (try (have ⟨p00, p01, p02, p03, p04, p05, p06, p07, p0l⟩ := P0; have p0a0 := fun o => (P0.alloc o).c0; have p0a1 := fun o => (P0.alloc o).c1; have p0a2 := fun o => (P0.alloc o).c2; have p0a3 := fun o => (P0.alloc o).c3; have p0a4 := fun o => (P0.alloc o).f0; have p0a5 := fun o => (P0.alloc o).f1; have p0a6 := fun o => (P0.alloc o).f2; have p0a7 := fun o => (P0.alloc o).f3; have p0n1 := Nat.ne_of_lt p0l; have p0n2 := Nat.ne_of_gt p0l)); (try (have ⟨da0_0, da0_1, da0_2, da0_3, da0_4, da0_5, da0_6, da0_7, da0_l⟩ := D0a; have ⟨db0_0, db0_1, db0_2, db0_3, db0_4, db0_5, db0_6, db0_7, db0_l⟩ := D0b)); (try (have m01 : ¬ (W0.heap.size = u1.heap.size) := (by have := l0; have := l1; omega); have n01 : ¬ (u1.heap.size = W0.heap.size) := (by have := l0; have := l1; omega))); (try (have ⟨p10, p11, p12, p13, p14, p15, p16, p17, p1l⟩ := P1; have p1a0 := fun o => (P1.alloc o).c0; have p1a1 := fun o => (P1.alloc o).c1; have p1a2 := fun o => (P1.alloc o).c2; have p1a3 := fun o => (P1.alloc o).c3; have p1a4 := fun o => (P1.alloc o).f0; have p1a5 := fun o => (P1.alloc o).f1; have p1a6 := fun o => (P1.alloc o).f2; have p1a7 := fun o => (P1.alloc o).f3; have p1n1 := Nat.ne_of_lt p1l; have p1n2 := Nat.ne_of_gt p1l)); (try (have ⟨da1_0, da1_1, da1_2, da1_3, da1_4, da1_5, da1_6, da1_7, da1_l⟩ := D1a; have ⟨db1_0, db1_1, db1_2, db1_3, db1_4, db1_5, db1_6, db1_7, db1_l⟩ := D1b)))
       | (go_at_call 7; refine (Q1.out _).mono ?_; rintro e u1 ⟨p1, q1, z1, A1, n1, c1, G1, m1, d1, hz1, hf1, rfl, hL1, hM1, hh⟩; have BB1 : Below W0.heap.size W0 u1 := (by first | with_reducible exact b_two_d hh | with_reducible exact b_one_d hh | exact (Below.refl _ _).drew.trans hh); have S1 := BB1.size; have T1 := BB1.size; (try (have P0 : (Qd u1 (W0.heap.size) (.bool false) (.slice none 0 0) (.bool false) (.slice none 0 0)) := (by with_reducible exact (Qd.new W0 (W0.heap.size) rfl (.bool false) (.slice none 0 0) (.bool false) (.slice none 0 0) 31).drew.via hh); have l0 := P0.lt)); (try (have D0a : (Qd u1 (W0.heap.size) (.bool false) (.slice none 0 0) (.bool false) (.slice none 0 0)) := (by with_reducible exact ((Qd.new W0 (W0.heap.size) rfl (.bool false) (.slice none 0 0) (.bool false) (.slice none 0 0) 31).alloc (.cells #[.bool false, .slice none 0 0, .bool false, .slice none 0 0] 31)).drew.via hh); have D0b : (Qd u1 (W0.heap.size + 1) (.bool false) (.slice none 0 0) (.bool false) (.slice none 0 0)) := (by with_reducible exact (Qd.new (W0.alloc (.cells #[.bool false, .slice none 0 0, .bool false, .slice none 0 0] 31)) (W0.heap.size + 1) (by simp) (.bool false) (.slice none 0 0) (.bool false) (.slice none 0 0) 31).drew.via hh); have l0 := D0a.lt)))
       | fail)
    all_goals
      go_wp2_with fail
      go_meet
      (try rw [put4_eq])
      first
      | with_reducible exact yfin1 BB2 X2
      | with_reducible exact yfin2 BB2 X2 P0 (Nat.le_refl _)
      | with_reducible exact yfin2 BB2 X2 P1 S1
  case rest =>
    obtain ⟨gD, rfl, hD, hgD, hb⟩ := hcut
    have D := Lib.hid hD
    have BW0 := BW
    have BW := Lib.hid (sbtr BW.out hb)
    have hw0 := BW0.out.size
    have HGW : Hid (w.heap.size ≤ gD) := by show _ ≤ _; omega
    clear HKS hD hgD hb QF LA LB Q1 hw0
    go_upto_if 19 with (fail)
    generalize wc = W1 at *
    go_cut [] from 18 to 24 (fun wx => Fx wx gD (k + k + 1) (if up = true then i * v - u * 1099511627776 else -(i * v - u * 1099511627776)) (1099511627776 * v) ∧ Below w.heap.size w wx)
    case first =>
      cases up with
      | true =>
        go_wp2_with fail
        go_meet
        exact ⟨D.out, BW.out⟩
      | false =>
        have ⟨pD, qD, zD, AD, nD, cD, BD, mD, dD, hzD, hfD, hqD, haD, hbD⟩ := D.out
        have HQ := Lib.hid hqD
        have ⟨r0, r1, r2, r3, r4, r5, r6, r7, rl⟩ := hqD
        go_wp2_with fail
        clear r0 r1 r2 r3 r4 r5 r6 r7 rl hqD
        refine (rneg_g _ zD AD BD nD mD cD dD (k + k + 1) pD qD haD hbD hfD.sp (by have := HI.out.2.1; omega) hzD hfD.pos (by rw [← hzD]; exact hfD.ok)).mono ?_
        rintro e y1 ⟨A5, n5, c5, B5, m5, d5, rfl, hL5, hM5, hb⟩
        have hn5 : decide (qD < 0) = false := decide_eq_false (by have := hfD.pos; omega)
        rw [hn5]
        obtain ⟨z5, hz5⟩ : ∃ b, decide (-pD < 0) = b := ⟨_, rfl⟩
        rw [hz5]
        have HQ2 := Lib.hid (HQ.out.via hb)
        have HF5 := Lib.hid (And.intro hz5 (frv_neg hfD (by have := HI.out.2.1; omega)))
        have X5 : Hid (Fd y1 (k + k + 1) (-(i * v - u * 1099511627776)) (1099511627776 * v) z5 A5 n5 c5 B5 m5 d5) := ⟨-pD, qD, HF5.out.1, HF5.out.2, (by rw [show (-pD).natAbs = pD.natAbs by omega] at *; exact hL5), hM5⟩
        have B5 := Lib.hid (sbtr BW.out hb)
        have hgw : w.heap.size ≤ gD := HGW.out
        clear hL5 hM5 hb hz5 hzD hfD haD hbD D BW HF5 HQ hn5
        have ⟨r0, r1, r2, r3, r4, r5, r6, r7, rl⟩ := HQ2.out
        go_wp2_with fail
        go_meet
        rw [put4_eq]
        exact ⟨(X5.out.put4 HQ2.out _ _ _ _).fx (HQ2.out.set _ _ _ _), below_put4 B5.out hgw _ _ _ _⟩
    case rest =>
      obtain ⟨hD, hb⟩ := hcut
      clear D BW
      obtain ⟨U, hU⟩ : ∃ U, (if up = true then i * v - u * 1099511627776 else -(i * v - u * 1099511627776)) = U := ⟨_, rfl⟩
      rw [hU] at hD
      have HU := Lib.hid hU
      have D := Lib.hid hD
      have BW := Lib.hid hb
      clear hU hD hb
      go_wp2_with fail
      generalize wc = W2 at *
      have ⟨pD, qD, zD, AD, nD, cD, BD, mD, dD, hzD, hfD, hqD, haD, hbD⟩ := D.out
      have HQ := Lib.hid hqD
      have LD := Lib.hid haD
      have MD := Lib.hid hbD
      have HFD := Lib.hid (And.intro hzD hfD)
      clear hzD hfD hqD haD hbD D
      have HKS : Hid (∀ X : World, Below W2.heap.size W2 X → X.cell? ⟨gD, 0, none⟩ = some (.bool zD) ∧ X.cell? ⟨gD, 1, none⟩ = some (.slice AD nD cD) ∧ X.cell? ⟨gD, 2, none⟩ = some (.bool false) ∧ X.cell? ⟨gD, 3, none⟩ = some (.slice BD mD dD)) := fun X h => ⟨(HQ.out.via h).c0, (HQ.out.via h).c1, (HQ.out.via h).c2, (HQ.out.via h).c3⟩
      go_cut [9] (fun s wx => ∃ c : Int, s = .int .i64 c ∧ (c < 0 ↔ U < v) ∧ Below W2.heap.size W2 wx)
      case first =>
        go_region_held3 (fun X => X.cell? ⟨gD, 0, none⟩ = some (.bool zD) ∧ X.cell? ⟨gD, 1, none⟩ = some (.slice AD nD cD) ∧ X.cell? ⟨gD, 2, none⟩ = some (.bool false) ∧ X.cell? ⟨gD, 3, none⟩ = some (.slice BD mD dD))
          (first | exact HKS.out _ (Below.refl _ _) | exact HKS.out _ (Below.refl _ _).drew | exact HKS.out _ E1 | exact HKS.out _ E0)
          (first
           | (have _t := E0; go_at_call 20; refine (rcmp_f _ zD z1 AD BD A1 B1 nD mD n1 m1 cD dD c1 d1 (k + k + 1) pD qD p1 q1 U (1099511627776 * v) 1 1099511627776 HFD.out.1 hz1 (LD.out.via E0) (MD.out.via E0) hL1 hM1 HFD.out.2 (hf1.mono (by have := HI.out.1; omega)) (by have := HI.out.2.1; omega) (by have := HI.out.2.2; omega) (by decide)).mono ?_; rintro e u1 ⟨c3, rfl, _, hc3, hh1⟩; have E1 : Below W2.heap.size W2 u1 := sbtr E0 hh1)
           | (go_at_call 7; refine (Q2.out _).mono ?_; rintro e u0 ⟨p1, q1, z1, A1, n1, c1, B1, m1, d1, hz1, hf1, rfl, hL1, hM1, hh0⟩; have E0 : Below W2.heap.size W2 u0 := (by first | exact (bdrewN (Below.refl _ _) 1).trans hh0 | exact hh0))
           | fail)
        all_goals
          go_wp2_with fail
          go_meet
          exact ⟨_, rfl, by rw [hc3]; omega, E1⟩
      case rest =>
        obtain ⟨c, rfl, hc, hb⟩ := hcut
        replace HQ := Lib.hid (HQ.out.via hb)
        replace BW := Lib.hid (sbtr BW.out hb)
        have hz0 : zD = false ↔ 0 ≤ U := by
          have h1 := HFD.out.1
          have h2 := HFD.out.2.eq
          have h3 := HFD.out.2.pos
          have h4 := HI.out.2.2
          have h5 : 0 < 1099511627776 * v := by omega
          rw [← h1, decide_eq_false_iff_not]
          constructor
          · intro h
            rcases Int.lt_or_le U 0 with h6 | h6
            · have := Int.mul_neg_of_neg_of_pos h6 h3
              have := Int.mul_nonneg (show 0 ≤ pD by omega) (show 0 ≤ 1099511627776 * v by omega)
              omega
            · exact h6
          · intro h6 h
            have := Int.mul_neg_of_neg_of_pos h h5
            have := Int.mul_nonneg h6 (show 0 ≤ qD by omega)
            omega
        have hN : NB i u v up ↔ 0 ≤ U ∧ U < v := by
          unfold NB
          rw [← HU.out]
          cases up
          · simp only [Bool.false_eq_true, if_false]; constructor <;> intro h <;> omega
          · simp only [if_true]
        have HN := Lib.hid hN
        have HC := Lib.hid hc
        have HZ := Lib.hid hz0
        clear hN hc hz0 hb HKS HU HFD
        have ⟨r0, r1, r2, r3, r4, r5, r6, r7, rl⟩ := HQ.out
        by_cases h1 : zD = true
        · subst h1
          go_wp2
          go_ret
          exact ⟨_, rfl, by constructor; (intro h; cases h); (intro h; exact absurd (HZ.out.2 (HN.out.1 h).1) (by decide)), BW.out⟩
        · obtain rfl : zD = false := by cases zD; rfl; exact absurd rfl h1
          by_cases h2 : c < 0
          · have h3 : decide (c < 0) = true := decide_eq_true h2
            go_wp2
            go_ret
            exact ⟨_, rfl, by constructor; (intro _; exact HN.out.2 ⟨HZ.out.1 (by first | rfl | trivial), HC.out.1 h2⟩); (intro _; rfl), BW.out⟩
          · have h3 : decide (c < 0) = false := decide_eq_false h2
            go_wp2
            go_ret
            exact ⟨_, rfl, by constructor; (intro h; cases h); (intro h; have := HC.out.2 (HN.out.1 h).2; omega), BW.out⟩
end Go.Proofs.YtffblodpgcifcaaGreatDoor

/- A new array of four fractions. -/
namespace Go.Proofs.YtffblodpgcifcaaGreatDoor
open Go.RowKit

/-- Block g has sixteen cells that hold these values, and may be written. -/
structure D16 (w : World) (g : Nat) (vs : List Value) : Prop where
  len : vs.length = 16
  at_ : ∀ j (h : j < vs.length), w.cell? ⟨g, j, none⟩ = some vs[j]
  free : ∀ j, j < 16 → w.frozen? ⟨g, j, none⟩ = false
  lt : g < w.heap.size
theorem D16.via {w w' : World} {g : Nat} {vs : List Value} (p : D16 w g vs) (hb : Below w.heap.size w w') : D16 w' g vs :=
  ⟨p.len, fun j h => (hb.cell (p := ⟨g, j, none⟩) p.lt).trans (p.at_ j h), fun j h => (hb.frozen (p := ⟨g, j, none⟩) p.lt).trans (p.free j h), Nat.lt_of_lt_of_le p.lt hb.size⟩
theorem D16.alloc {w : World} {g : Nat} {vs : List Value} (p : D16 w g vs) (o : Obj) : D16 (w.alloc o) g vs := p.via ((Below.refl _ _).alloc (Nat.le_refl _) o)
theorem D16.drew {w : World} {g : Nat} {vs : List Value} (p : D16 w g vs) : D16 w.drew g vs := ⟨p.len, p.at_, p.free, p.lt⟩
theorem D16.new (w : World) (k : Nat) (hk : w.heap.size = k) (v0 v1 v2 v3 v4 v5 v6 v7 v8 v9 v10 v11 v12 v13 v14 v15 : Value) (t : TypeId) : D16 (w.alloc (.cells #[v0, v1, v2, v3, v4, v5, v6, v7, v8, v9, v10, v11, v12, v13, v14, v15] t)) k [v0, v1, v2, v3, v4, v5, v6, v7, v8, v9, v10, v11, v12, v13, v14, v15] := by
  subst hk
  refine ⟨rfl, fun j h => ?_, fun j h => ?_, by simp⟩
  · simp only [List.length_cons, List.length_nil] at h
    rcases (show j = 0 ∨ j = 1 ∨ j = 2 ∨ j = 3 ∨ j = 4 ∨ j = 5 ∨ j = 6 ∨ j = 7 ∨ j = 8 ∨ j = 9 ∨ j = 10 ∨ j = 11 ∨ j = 12 ∨ j = 13 ∨ j = 14 ∨ j = 15 by omega) with rfl | rfl | rfl | rfl | rfl | rfl | rfl | rfl | rfl | rfl | rfl | rfl | rfl | rfl | rfl | rfl <;> go_simp
  · rcases (show j = 0 ∨ j = 1 ∨ j = 2 ∨ j = 3 ∨ j = 4 ∨ j = 5 ∨ j = 6 ∨ j = 7 ∨ j = 8 ∨ j = 9 ∨ j = 10 ∨ j = 11 ∨ j = 12 ∨ j = 13 ∨ j = 14 ∨ j = 15 by omega) with rfl | rfl | rfl | rfl | rfl | rfl | rfl | rfl | rfl | rfl | rfl | rfl | rfl | rfl | rfl | rfl <;> go_simp
theorem D16.raw {w : World} {g : Nat} {v0 v1 v2 v3 v4 v5 v6 v7 v8 v9 v10 v11 v12 v13 v14 v15 : Value} (p : D16 w g [v0, v1, v2, v3, v4, v5, v6, v7, v8, v9, v10, v11, v12, v13, v14, v15]) : w.cell? ⟨g, 0, none⟩ = some v0 ∧ w.cell? ⟨g, 1, none⟩ = some v1 ∧ w.cell? ⟨g, 2, none⟩ = some v2 ∧ w.cell? ⟨g, 3, none⟩ = some v3 ∧ w.cell? ⟨g, 4, none⟩ = some v4 ∧ w.cell? ⟨g, 5, none⟩ = some v5 ∧ w.cell? ⟨g, 6, none⟩ = some v6 ∧ w.cell? ⟨g, 7, none⟩ = some v7 ∧ w.cell? ⟨g, 8, none⟩ = some v8 ∧ w.cell? ⟨g, 9, none⟩ = some v9 ∧ w.cell? ⟨g, 10, none⟩ = some v10 ∧ w.cell? ⟨g, 11, none⟩ = some v11 ∧ w.cell? ⟨g, 12, none⟩ = some v12 ∧ w.cell? ⟨g, 13, none⟩ = some v13 ∧ w.cell? ⟨g, 14, none⟩ = some v14 ∧ w.cell? ⟨g, 15, none⟩ = some v15 ∧ w.frozen? ⟨g, 0, none⟩ = false ∧ w.frozen? ⟨g, 1, none⟩ = false ∧ w.frozen? ⟨g, 2, none⟩ = false ∧ w.frozen? ⟨g, 3, none⟩ = false ∧ w.frozen? ⟨g, 4, none⟩ = false ∧ w.frozen? ⟨g, 5, none⟩ = false ∧ w.frozen? ⟨g, 6, none⟩ = false ∧ w.frozen? ⟨g, 7, none⟩ = false ∧ w.frozen? ⟨g, 8, none⟩ = false ∧ w.frozen? ⟨g, 9, none⟩ = false ∧ w.frozen? ⟨g, 10, none⟩ = false ∧ w.frozen? ⟨g, 11, none⟩ = false ∧ w.frozen? ⟨g, 12, none⟩ = false ∧ w.frozen? ⟨g, 13, none⟩ = false ∧ w.frozen? ⟨g, 14, none⟩ = false ∧ w.frozen? ⟨g, 15, none⟩ = false :=
  ⟨p.at_ 0 (by simp), p.at_ 1 (by simp), p.at_ 2 (by simp), p.at_ 3 (by simp), p.at_ 4 (by simp), p.at_ 5 (by simp), p.at_ 6 (by simp), p.at_ 7 (by simp), p.at_ 8 (by simp), p.at_ 9 (by simp), p.at_ 10 (by simp), p.at_ 11 (by simp), p.at_ 12 (by simp), p.at_ 13 (by simp), p.at_ 14 (by simp), p.at_ 15 (by simp), p.free 0 (by omega), p.free 1 (by omega), p.free 2 (by omega), p.free 3 (by omega), p.free 4 (by omega), p.free 5 (by omega), p.free 6 (by omega), p.free 7 (by omega), p.free 8 (by omega), p.free 9 (by omega), p.free 10 (by omega), p.free 11 (by omega), p.free 12 (by omega), p.free 13 (by omega), p.free 14 (by omega), p.free 15 (by omega)⟩
theorem D16.set {w : World} {g : Nat} {vs : List Value} (p : D16 w g vs) (us : List Value) (hu : us.length = 16) : D16 (w.setCells g 0 us) g us :=
  ⟨hu, fun j h => by
    have := World.cell?_setCells_in g us 0 w (fun i hi => by rw [Nat.zero_add, p.at_ i (by rw [p.len]; omega)]; rfl) j h
    rwa [Nat.zero_add] at this, fun j h => by rw [World.frozen?_setCells]; exact p.free j h, by rw [size_setCells]; exact p.lt⟩
theorem set16_eq (w : World) (g : Nat) (v0 v1 v2 v3 v4 v5 v6 v7 v8 v9 v10 v11 v12 v13 v14 v15 : Value) : (((((((((((((((w.setCell ⟨g, 0, none⟩ v0).setCell ⟨g, 1, none⟩ v1).setCell ⟨g, 2, none⟩ v2).setCell ⟨g, 3, none⟩ v3).setCell ⟨g, 4, none⟩ v4).setCell ⟨g, 5, none⟩ v5).setCell ⟨g, 6, none⟩ v6).setCell ⟨g, 7, none⟩ v7).setCell ⟨g, 8, none⟩ v8).setCell ⟨g, 9, none⟩ v9).setCell ⟨g, 10, none⟩ v10).setCell ⟨g, 11, none⟩ v11).setCell ⟨g, 12, none⟩ v12).setCell ⟨g, 13, none⟩ v13).setCell ⟨g, 14, none⟩ v14).setCell ⟨g, 15, none⟩ v15 = w.setCells g 0 [v0, v1, v2, v3, v4, v5, v6, v7, v8, v9, v10, v11, v12, v13, v14, v15] := rfl
/-- A fraction in lowest terms that is worth u / v, in four cells of a block. -/
def Fa (w : World) (g o0 o1 o2 o3 k : Nat) (u v : Int) : Prop := ∃ p q z A n c B m cb, decide (p < 0) = z ∧ FrV k p q u v ∧ w.cell? ⟨g, o0, none⟩ = some (.bool z) ∧ w.cell? ⟨g, o1, none⟩ = some (.slice A n c) ∧ w.cell? ⟨g, o2, none⟩ = some (.bool false) ∧ w.cell? ⟨g, o3, none⟩ = some (.slice B m cb) ∧ g < w.heap.size ∧ Lm w w.heap.size A n c (digs p.natAbs) ∧ Lm w w.heap.size B m cb (digs q.natAbs)
theorem Fa.via {w w' : World} {g o0 o1 o2 o3 k : Nat} {u v : Int} (h : Fa w g o0 o1 o2 o3 k u v) (hb : Below w.heap.size w w') : Fa w' g o0 o1 o2 o3 k u v := by
  obtain ⟨p, q, z, A, n, c, B, m, cb, h1, h2, c0, c1, c2, c3, hl, h4, h5⟩ := h
  exact ⟨p, q, z, A, n, c, B, m, cb, h1, h2, (hb.cell (p := ⟨g, o0, none⟩) hl).trans c0, (hb.cell (p := ⟨g, o1, none⟩) hl).trans c1, (hb.cell (p := ⟨g, o2, none⟩) hl).trans c2, (hb.cell (p := ⟨g, o3, none⟩) hl).trans c3, Nat.lt_of_lt_of_le hl hb.size, h4.via hb, h5.via hb⟩
theorem Fa.alloc {w : World} {g o0 o1 o2 o3 k : Nat} {u v : Int} (h : Fa w g o0 o1 o2 o3 k u v) (o : Obj) : Fa (w.alloc o) g o0 o1 o2 o3 k u v := h.via ((Below.refl _ _).alloc (Nat.le_refl _) o)
theorem Fa.lt {w : World} {g o0 o1 o2 o3 k : Nat} {u v : Int} (h : Fa w g o0 o1 o2 o3 k u v) : g < w.heap.size := by
  obtain ⟨p, q, z, A, n, c, B, m, cb, h1, h2, c0, c1, c2, c3, hl, h4, h5⟩ := h
  exact hl
theorem Fd.fa {w : World} {k : Nat} {u v : Int} {z : Bool} {A : Option Addr} {n c : Nat} {B : Option Addr} {m cb : Nat} (h : Fd w k u v z A n c B m cb) {g o0 o1 o2 o3 : Nat} (c0 : w.cell? ⟨g, o0, none⟩ = some (.bool z)) (c1 : w.cell? ⟨g, o1, none⟩ = some (.slice A n c)) (c2 : w.cell? ⟨g, o2, none⟩ = some (.bool false)) (c3 : w.cell? ⟨g, o3, none⟩ = some (.slice B m cb)) (hl : g < w.heap.size) : Fa w g o0 o1 o2 o3 k u v := by
  obtain ⟨p1, q1, h1, h2, h3, h4⟩ := h
  exact ⟨p1, q1, z, A, n, c, B, m, cb, h1, h2, c0, c1, c2, c3, hl, h3, h4⟩
/-- Limbs lie in no array of fractions. -/
theorem Lm.setA {w : World} {n c : Nat} {A : Option Addr} {xs : List Nat} (h : Lm w w.heap.size A n c xs) {g : Nat} {vs : List Value} (p : D16 w g vs) (hv : ∀ j (hj : j < vs.length) (k : IntKind) (x : Int), vs[j] ≠ .int k x) (us : List Value) (hu : us.length = 16) : Lm (w.setCells g 0 us) (w.setCells g 0 us).heap.size A n c xs := by
  refine ⟨h.len, h.good, h.cap, h.max, h.nil_, fun hn => ?_⟩
  obtain ⟨b, off, e, hb, hc⟩ := h.at_ hn
  refine ⟨b, off, e, by rw [size_setCells]; exact hb, fun j hj => ?_⟩
  rw [World.cell?_setCells_out g us 0 w ⟨b, off + j, none⟩ (fun eb _ => ?_)]
  · exact hc j hj
  · have hx := hc j hj
    have eb : b = g := eb
    subst eb
    by_cases ho : off + j < vs.length
    · have h1 := p.at_ (off + j) ho
      rw [hx] at h1
      exact absurd (Option.some.inj h1).symm (hv _ ho _ _)
    · have := p.len
      refine .inr ?_
      show 0 + us.length ≤ off + j
      omega
theorem Fd.setA {w : World} {k : Nat} {u v : Int} {z : Bool} {A : Option Addr} {n c : Nat} {B : Option Addr} {m cb : Nat} (h : Fd w k u v z A n c B m cb) {g : Nat} {vs : List Value} (p : D16 w g vs) (hv : ∀ j (hj : j < vs.length) (k : IntKind) (x : Int), vs[j] ≠ .int k x) (us : List Value) (hu : us.length = 16) : Fd (w.setCells g 0 us) k u v z A n c B m cb := by
  obtain ⟨p1, q1, h1, h2, h3, h4⟩ := h
  exact ⟨p1, q1, h1, h2, h3.setA p hv us hu, h4.setA p hv us hu⟩
/-- A slot points to a new array of four fractions. -/
def A4 (W : World) (i0 i1 i2 i3 : Int) (s : Value) (wx : World) : Prop := ∃ g, s = .pointer (some ⟨g, 0, none⟩) ∧ Fa wx g 0 1 2 3 2 i0 1099511627776 ∧ Fa wx g 4 5 6 7 2 i1 1099511627776 ∧ Fa wx g 8 9 10 11 2 i2 1099511627776 ∧ Fa wx g 12 13 14 15 2 i3 1099511627776 ∧ W.heap.size ≤ g ∧ Below W.heap.size W wx
theorem zfin1 {W w : World} {i0 i1 i2 i3 : Int} {z0 : Bool} {A0 G0 : Option Addr} {n0 c0 m0 d0 : Nat} {z1 : Bool} {A1 G1 : Option Addr} {n1 c1 m1 d1 : Nat} {z2 : Bool} {A2 G2 : Option Addr} {n2 c2 m2 d2 : Nat} {z3 : Bool} {A3 G3 : Option Addr} {n3 c3 m3 d3 : Nat} {t : TypeId} (hB : Below W.heap.size W w) (X0 : Fd w 2 i0 1099511627776 z0 A0 n0 c0 G0 m0 d0) (X1 : Fd w 2 i1 1099511627776 z1 A1 n1 c1 G1 m1 d1) (X2 : Fd w 2 i2 1099511627776 z2 A2 n2 c2 G2 m2 d2) (X3 : Fd w 2 i3 1099511627776 z3 A3 n3 c3 G3 m3 d3) : A4 W i0 i1 i2 i3 (.pointer (some ⟨w.heap.size, 0, none⟩)) (w.alloc (.cells #[.bool z0, .slice A0 n0 c0, .bool false, .slice G0 m0 d0, .bool z1, .slice A1 n1 c1, .bool false, .slice G1 m1 d1, .bool z2, .slice A2 n2 c2, .bool false, .slice G2 m2 d2, .bool z3, .slice A3 n3 c3, .bool false, .slice G3 m3 d3] t)) := by
  have D := D16.new w _ rfl (.bool z0) (.slice A0 n0 c0) (.bool false) (.slice G0 m0 d0) (.bool z1) (.slice A1 n1 c1) (.bool false) (.slice G1 m1 d1) (.bool z2) (.slice A2 n2 c2) (.bool false) (.slice G2 m2 d2) (.bool z3) (.slice A3 n3 c3) (.bool false) (.slice G3 m3 d3) t
  exact ⟨_, rfl, (X0.alloc _).fa (D.at_ 0 (by simp)) (D.at_ 1 (by simp)) (D.at_ 2 (by simp)) (D.at_ 3 (by simp)) D.lt, (X1.alloc _).fa (D.at_ 4 (by simp)) (D.at_ 5 (by simp)) (D.at_ 6 (by simp)) (D.at_ 7 (by simp)) D.lt, (X2.alloc _).fa (D.at_ 8 (by simp)) (D.at_ 9 (by simp)) (D.at_ 10 (by simp)) (D.at_ 11 (by simp)) D.lt, (X3.alloc _).fa (D.at_ 12 (by simp)) (D.at_ 13 (by simp)) (D.at_ 14 (by simp)) (D.at_ 15 (by simp)) D.lt, hB.size, sbal hB _⟩
theorem zs_noint : ∀ j (hj : j < ([.bool false, .slice none 0 0, .bool false, .slice none 0 0, .bool false, .slice none 0 0, .bool false, .slice none 0 0, .bool false, .slice none 0 0, .bool false, .slice none 0 0, .bool false, .slice none 0 0, .bool false, .slice none 0 0] : List Value).length) (k : IntKind) (x : Int), ([.bool false, .slice none 0 0, .bool false, .slice none 0 0, .bool false, .slice none 0 0, .bool false, .slice none 0 0, .bool false, .slice none 0 0, .bool false, .slice none 0 0, .bool false, .slice none 0 0, .bool false, .slice none 0 0] : List Value)[j] ≠ .int k x := by
  intro j hj k x
  simp only [List.length_cons, List.length_nil] at hj
  rcases (show j = 0 ∨ j = 1 ∨ j = 2 ∨ j = 3 ∨ j = 4 ∨ j = 5 ∨ j = 6 ∨ j = 7 ∨ j = 8 ∨ j = 9 ∨ j = 10 ∨ j = 11 ∨ j = 12 ∨ j = 13 ∨ j = 14 ∨ j = 15 by omega) with rfl | rfl | rfl | rfl | rfl | rfl | rfl | rfl | rfl | rfl | rfl | rfl | rfl | rfl | rfl | rfl <;> exact fun h => by cases h
theorem zfin2 {W w : World} {g : Nat} {i0 i1 i2 i3 : Int} {z0 : Bool} {A0 G0 : Option Addr} {n0 c0 m0 d0 : Nat} {z1 : Bool} {A1 G1 : Option Addr} {n1 c1 m1 d1 : Nat} {z2 : Bool} {A2 G2 : Option Addr} {n2 c2 m2 d2 : Nat} {z3 : Bool} {A3 G3 : Option Addr} {n3 c3 m3 d3 : Nat} (hB : Below W.heap.size W w) (X0 : Fd w 2 i0 1099511627776 z0 A0 n0 c0 G0 m0 d0) (X1 : Fd w 2 i1 1099511627776 z1 A1 n1 c1 G1 m1 d1) (X2 : Fd w 2 i2 1099511627776 z2 A2 n2 c2 G2 m2 d2) (X3 : Fd w 2 i3 1099511627776 z3 A3 n3 c3 G3 m3 d3) (p : D16 w g [.bool false, .slice none 0 0, .bool false, .slice none 0 0, .bool false, .slice none 0 0, .bool false, .slice none 0 0, .bool false, .slice none 0 0, .bool false, .slice none 0 0, .bool false, .slice none 0 0, .bool false, .slice none 0 0]) (hg : W.heap.size ≤ g) : A4 W i0 i1 i2 i3 (.pointer (some ⟨g, 0, none⟩)) (w.setCells g 0 [.bool z0, .slice A0 n0 c0, .bool false, .slice G0 m0 d0, .bool z1, .slice A1 n1 c1, .bool false, .slice G1 m1 d1, .bool z2, .slice A2 n2 c2, .bool false, .slice G2 m2 d2, .bool z3, .slice A3 n3 c3, .bool false, .slice G3 m3 d3]) := by
  have D := p.set [.bool z0, .slice A0 n0 c0, .bool false, .slice G0 m0 d0, .bool z1, .slice A1 n1 c1, .bool false, .slice G1 m1 d1, .bool z2, .slice A2 n2 c2, .bool false, .slice G2 m2 d2, .bool z3, .slice A3 n3 c3, .bool false, .slice G3 m3 d3] rfl
  exact ⟨_, rfl, (X0.setA p zs_noint _ rfl).fa (D.at_ 0 (by simp)) (D.at_ 1 (by simp)) (D.at_ 2 (by simp)) (D.at_ 3 (by simp)) D.lt, (X1.setA p zs_noint _ rfl).fa (D.at_ 4 (by simp)) (D.at_ 5 (by simp)) (D.at_ 6 (by simp)) (D.at_ 7 (by simp)) D.lt, (X2.setA p zs_noint _ rfl).fa (D.at_ 8 (by simp)) (D.at_ 9 (by simp)) (D.at_ 10 (by simp)) (D.at_ 11 (by simp)) D.lt, (X3.setA p zs_noint _ rfl).fa (D.at_ 12 (by simp)) (D.at_ 13 (by simp)) (D.at_ 14 (by simp)) (D.at_ 15 (by simp)) D.lt, hg, below_setCells hg _ _ _ _ hB⟩
end Go.Proofs.YtffblodpgcifcaaGreatDoor

/- A part of an interval has a part of the result. -/
namespace Go.Proofs.YtffblodpgcifcaaGreatDoor
open Go.RowKit

/-- If there is a result p, there is a result q, and it is a part of p. -/
def PartO (p q : Out) : Prop := p.err = 0 → q.err = 0 ∧ p.lo ≤ q.lo ∧ q.hi ≤ p.hi
theorem part_mk {lo hi lo' hi' : Int} (h1 : lo ≤ lo') (h2 : hi' ≤ hi) : PartO (mkI lo hi) (mkI lo' hi') := by
  intro h
  by_cases c : lo < -2305843009213693952 ∨ 2305843009213693952 < hi
  · rw [mkI_out c] at h; cases h
  · rw [mkI_in (by omega) (by omega), mkI_in (by omega) (by omega)]
    exact ⟨rfl, h1, h2⟩
theorem lin_mul {a b t c : Int} (h1 : a ≤ t) (h2 : t ≤ b) : min (a * c) (b * c) ≤ t * c ∧ t * c ≤ max (a * c) (b * c) := by
  rcases Int.le_total 0 c with h | h
  · have e1 := Int.mul_le_mul_of_nonneg_right h1 h
    have e2 := Int.mul_le_mul_of_nonneg_right h2 h
    omega
  · have e1 := Int.mul_le_mul_of_nonpos_right h1 h
    have e2 := Int.mul_le_mul_of_nonpos_right h2 h
    omega
theorem corner {al ah bl bh t s : Int} (h1 : al ≤ t) (h2 : t ≤ ah) (h3 : bl ≤ s) (h4 : s ≤ bh) :
    mn4 (al * bl) (al * bh) (ah * bl) (ah * bh) ≤ t * s ∧ t * s ≤ mx4 (al * bl) (al * bh) (ah * bl) (ah * bh) := by
  obtain ⟨a1, a2⟩ := lin_mul (c := s) h1 h2
  obtain ⟨b1, b2⟩ := lin_mul (c := al) h3 h4
  obtain ⟨c1, c2⟩ := lin_mul (c := ah) h3 h4
  rw [Int.mul_comm bl al, Int.mul_comm bh al, Int.mul_comm s al] at b1 b2
  rw [Int.mul_comm bl ah, Int.mul_comm bh ah, Int.mul_comm s ah] at c1 c2
  unfold mn4 mx4
  omega
theorem part_mul {al ah bl bh x y z w : Int} (h1 : al ≤ x) (h2 : x ≤ y) (h3 : y ≤ ah) (h4 : bl ≤ z) (h5 : z ≤ w) (h6 : w ≤ bh) :
    PartO (mkI (mulLo al ah bl bh) (mulHi al ah bl bh)) (mkI (mulLo x y z w) (mulHi x y z w)) := by
  obtain ⟨a1, a2⟩ := corner (t := x) (s := z) h1 (by omega) h4 (by omega) (ah := ah) (bh := bh)
  obtain ⟨b1, b2⟩ := corner (t := x) (s := w) h1 (by omega) (show bl ≤ w by omega) h6 (ah := ah)
  obtain ⟨c1, c2⟩ := corner (t := y) (s := z) (show al ≤ y by omega) h3 h4 (by omega) (bh := bh)
  obtain ⟨d1, d2⟩ := corner (t := y) (s := w) (show al ≤ y by omega) h3 (show bl ≤ w by omega) h6
  refine part_mk (fdiv_mono (by omega) ?_) (cdiv_mono (by omega) ?_)
  · show _ ≤ mn4 (x * z) (x * w) (y * z) (y * w)
    conv => rhs; unfold mn4
    omega
  · show mx4 (x * z) (x * w) (y * z) (y * w) ≤ _
    conv => lhs; unfold mx4
    omega
theorem dvLo_part {p q c d p' q' c' d' : Int} (h1 : p ≤ p') (h2 : p' ≤ q') (h3 : q' ≤ q) (h4 : 0 < c) (h5 : c ≤ c') (h6 : c' ≤ d') (h7 : d' ≤ d) : dvLo p q c d ≤ dvLo p' q' c' d' := by
  unfold dvLo
  rw [least_quo (by omega) h4 (by omega), least_quo h2 (by omega) h6]
  by_cases hp : p < 0
  · rw [if_pos hp]
    have e1 := fdiv_mono h4 h1
    by_cases hp' : p' < 0
    · rw [if_pos hp']
      have e2 := quo_mono_div_neg (p := p') (by omega) h4 h5
      omega
    · rw [if_neg hp']
      have e2 : 0 ≤ p' / d' := Int.ediv_nonneg (by omega) (by omega)
      have e3 := fdiv_mono h4 (show p ≤ 0 by omega)
      rw [Int.zero_ediv] at e3
      omega
  · rw [if_neg hp, if_neg (by omega)]
    have e1 := fdiv_mono (show 0 < d by omega) h1
    have e2 := quo_mono_div (p := p') (by omega) (show 0 < d' by omega) h7
    omega
theorem dvHi_part {p q c d p' q' c' d' : Int} (h1 : p ≤ p') (h2 : p' ≤ q') (h3 : q' ≤ q) (h4 : 0 < c) (h5 : c ≤ c') (h6 : c' ≤ d') (h7 : d' ≤ d) : dvHi p' q' c' d' ≤ dvHi p q c d := by
  unfold dvHi
  rw [most_quo (by omega) h4 (by omega), most_quo h2 (by omega) h6]
  by_cases hq : 0 < q
  · rw [if_pos hq]
    have e1 := cdiv_mono h4 h3
    by_cases hq' : 0 < q'
    · rw [if_pos hq']
      have e2 := cquo_mono_div (p := q') (by omega) h4 h5
      omega
    · rw [if_neg hq']
      have e2 := cdiv_mono (show 0 < d' by omega) (show q' ≤ 0 by omega)
      have e3 := cdiv_mono h4 (show 0 ≤ q by omega)
      have z1 : cdiv 0 d' = 0 := by unfold cdiv; simp
      have z2 : cdiv 0 c = 0 := by unfold cdiv; simp
      omega
  · rw [if_neg hq, if_neg (by omega)]
    have e1 := cdiv_mono (show 0 < d by omega) h3
    have e2 := cquo_mono_div_neg (p := q') (by omega) (show 0 < d' by omega) h7
    omega
theorem part_div {al ah bl bh x y z w : Int} (h1 : al ≤ x) (h2 : x ≤ y) (h3 : y ≤ ah) (h4 : bl ≤ z) (h5 : z ≤ w) (h6 : w ≤ bh) : PartO (divO al ah bl bh) (divO x y z w) := by
  unfold divO
  by_cases c0 : bl ≤ 0 ∧ 0 ≤ bh
  · rw [if_pos c0]; intro h; cases h
  · rw [if_neg c0, if_neg (show ¬ (z ≤ 0 ∧ 0 ≤ w) by omega)]
    by_cases c1 : 0 < bl
    · rw [if_pos c1, if_pos (show 0 < z by omega)]
      exact part_mk (dvLo_part (by omega) (by omega) (by omega) c1 h4 h5 h6) (dvHi_part (by omega) (by omega) (by omega) c1 h4 h5 h6)
    · rw [if_neg c1, if_neg (show ¬ 0 < z by omega)]
      exact part_mk (dvLo_part (by omega) (by omega) (by omega) (by omega) (by omega) (by omega) (by omega)) (dvHi_part (by omega) (by omega) (by omega) (by omega) (by omega) (by omega) (by omega))
theorem part_sq {al ah x y : Int} (h1 : al ≤ x) (h2 : x ≤ y) (h3 : y ≤ ah) : PartO (sqO al ah) (sqO x y) := by
  unfold sqO
  refine part_mk (fdiv_mono (by omega) (sq_mono ?_ ?_)) (cdiv_mono (by omega) (sq_mono ?_ ?_))
  all_goals first | (unfold sqA; omega) | (unfold sqB; omega)
theorem part_sub {al ah bl bh x y z w : Int} (h1 : al ≤ x) (h3 : y ≤ ah) (h4 : bl ≤ z) (h6 : w ≤ bh) : PartO (mkI (al - bh) (ah - bl)) (mkI (x - w) (y - z)) :=
  part_mk (by omega) (by omega)
end Go.Proofs.YtffblodpgcifcaaGreatDoor

/- Results of intervals have the exact results: in whole numbers of units. -/
namespace Go.Proofs.YtffblodpgcifcaaGreatDoor
open Go.RowKit

theorem mk_ok {lo hi : Int} (h : (mkI lo hi).err = 0) : (mkI lo hi).lo = lo ∧ (mkI lo hi).hi = hi := by
  by_cases c : lo < -2305843009213693952 ∨ 2305843009213693952 < hi
  · rw [mkI_out c] at h; cases h
  · rw [mkI_in (by omega) (by omega)]; exact ⟨rfl, rfl⟩
theorem fl_mul {p d : Int} (hd : 0 < d) : p / d * d ≤ p := Int.ediv_mul_le p (by omega)
theorem cl_mul {p d : Int} (hd : 0 < d) : p ≤ cdiv p d * d := by
  have h := Int.ediv_mul_le (-p) (show d ≠ 0 by omega)
  unfold cdiv
  rw [Int.neg_mul]
  omega
theorem hold_add {al ah bl bh x y : Int} (h1 : al ≤ x) (h2 : x ≤ ah) (h3 : bl ≤ y) (h4 : y ≤ bh) (he : (mkI (al + bl) (ah + bh)).err = 0) :
    (mkI (al + bl) (ah + bh)).lo ≤ x + y ∧ x + y ≤ (mkI (al + bl) (ah + bh)).hi := by
  obtain ⟨e1, e2⟩ := mk_ok he
  rw [e1, e2]; omega
theorem hold_sub {al ah bl bh x y : Int} (h1 : al ≤ x) (h2 : x ≤ ah) (h3 : bl ≤ y) (h4 : y ≤ bh) (he : (mkI (al - bh) (ah - bl)).err = 0) :
    (mkI (al - bh) (ah - bl)).lo ≤ x - y ∧ x - y ≤ (mkI (al - bh) (ah - bl)).hi := by
  obtain ⟨e1, e2⟩ := mk_ok he
  rw [e1, e2]; omega
theorem hold_mul {al ah bl bh x y : Int} (h1 : al ≤ x) (h2 : x ≤ ah) (h3 : bl ≤ y) (h4 : y ≤ bh) (he : (mkI (mulLo al ah bl bh) (mulHi al ah bl bh)).err = 0) :
    (mkI (mulLo al ah bl bh) (mulHi al ah bl bh)).lo * 1099511627776 ≤ x * y ∧ x * y ≤ (mkI (mulLo al ah bl bh) (mulHi al ah bl bh)).hi * 1099511627776 := by
  obtain ⟨e1, e2⟩ := mk_ok he
  obtain ⟨c1, c2⟩ := corner h1 h2 h3 h4
  have f1 := fl_mul (p := mn4 (al * bl) (al * bh) (ah * bl) (ah * bh)) (d := 1099511627776) (by omega)
  have f2 := cl_mul (p := mx4 (al * bl) (al * bh) (ah * bl) (ah * bh)) (d := 1099511627776) (by omega)
  rw [e1, e2]
  unfold mulLo mulHi
  generalize x * y = t at *
  omega
theorem sq_in {al ah x : Int} (h1 : al ≤ x) (h2 : x ≤ ah) : sqA al ah * sqA al ah ≤ x * x ∧ x * x ≤ sqB al ah * sqB al ah := by
  rcases Int.le_total 0 x with h | h
  · exact ⟨sq_mono (by unfold sqA; omega) (by unfold sqA; omega), sq_mono h (by unfold sqB; omega)⟩
  · have e : x * x = (-x) * (-x) := by rw [Int.neg_mul_neg]
    rw [e]
    exact ⟨sq_mono (by unfold sqA; omega) (by unfold sqA; omega), sq_mono (by omega) (by unfold sqB; omega)⟩
theorem hold_sq {al ah x : Int} (h1 : al ≤ x) (h2 : x ≤ ah) (he : (sqO al ah).err = 0) : (sqO al ah).lo * 1099511627776 ≤ x * x ∧ x * x ≤ (sqO al ah).hi * 1099511627776 := by
  obtain ⟨e1, e2⟩ := mk_ok he
  obtain ⟨c1, c2⟩ := sq_in h1 h2
  have f1 := fl_mul (p := sqA al ah * sqA al ah) (d := 1099511627776) (by omega)
  have f2 := cl_mul (p := sqB al ah * sqB al ah) (d := 1099511627776) (by omega)
  unfold sqO
  rw [e1, e2]
  generalize x * x = t at *
  omega
theorem dv_one {p y : Int} : dvLo p p y y = p / y ∧ dvHi p p y y = cdiv p y := by unfold dvLo dvHi mn4 mx4; omega
/-- The result of a quotient, by a number of the divisor that is greater than 0. -/
theorem hold_div_pos {al ah bl bh x y : Int} (h1 : al ≤ x) (h2 : x ≤ ah) (h3 : bl ≤ y) (h4 : y ≤ bh) (hy : 0 < y) (he : (divO al ah bl bh).err = 0) :
    (divO al ah bl bh).lo * y ≤ x * 1099511627776 ∧ x * 1099511627776 ≤ (divO al ah bl bh).hi * y := by
  by_cases c0 : bl ≤ 0 ∧ 0 ≤ bh
  · unfold divO at he; rw [if_pos c0] at he; cases he
  · have e : divO al ah bl bh = mkI (dvLo (al * 1099511627776) (ah * 1099511627776) bl bh) (dvHi (al * 1099511627776) (ah * 1099511627776) bl bh) := by
      unfold divO; rw [if_neg c0, if_pos (show 0 < bl by omega)]
    rw [e] at he ⊢
    obtain ⟨e1, e2⟩ := mk_ok he
    have k1 := dvLo_part (p := al * 1099511627776) (p' := x * 1099511627776) (q' := x * 1099511627776) (q := ah * 1099511627776) (c := bl) (c' := y) (d' := y) (d := bh) (by omega) (by omega) (by omega) (by omega) h3 (by omega) h4
    have k2 := dvHi_part (p := al * 1099511627776) (p' := x * 1099511627776) (q' := x * 1099511627776) (q := ah * 1099511627776) (c := bl) (c' := y) (d' := y) (d := bh) (by omega) (by omega) (by omega) (by omega) h3 (by omega) h4
    rw [dv_one.1] at k1
    rw [dv_one.2] at k2
    have f1 := fl_mul (p := x * 1099511627776) hy
    have f2 := cl_mul (p := x * 1099511627776) hy
    have m1 := Int.mul_le_mul_of_nonneg_right k1 (show 0 ≤ y by omega)
    have m2 := Int.mul_le_mul_of_nonneg_right k2 (show 0 ≤ y by omega)
    rw [e1, e2]
    exact ⟨Int.le_trans m1 f1, Int.le_trans f2 m2⟩
theorem hold_div_neg {al ah bl bh x y : Int} (h1 : al ≤ x) (h2 : x ≤ ah) (h3 : bl ≤ y) (h4 : y ≤ bh) (hy : y < 0) (he : (divO al ah bl bh).err = 0) :
    (divO al ah bl bh).lo * (-y) ≤ -(x * 1099511627776) ∧ -(x * 1099511627776) ≤ (divO al ah bl bh).hi * (-y) := by
  by_cases c0 : bl ≤ 0 ∧ 0 ≤ bh
  · unfold divO at he; rw [if_pos c0] at he; cases he
  · have e : divO al ah bl bh = mkI (dvLo (-(ah * 1099511627776)) (-(al * 1099511627776)) (-bh) (-bl)) (dvHi (-(ah * 1099511627776)) (-(al * 1099511627776)) (-bh) (-bl)) := by
      unfold divO; rw [if_neg c0, if_neg (show ¬ 0 < bl by omega)]
    rw [e] at he ⊢
    obtain ⟨e1, e2⟩ := mk_ok he
    have k1 := dvLo_part (p := -(ah * 1099511627776)) (p' := -(x * 1099511627776)) (q' := -(x * 1099511627776)) (q := -(al * 1099511627776)) (c := -bh) (c' := -y) (d' := -y) (d := -bl) (by omega) (by omega) (by omega) (by omega) (by omega) (by omega) (by omega)
    have k2 := dvHi_part (p := -(ah * 1099511627776)) (p' := -(x * 1099511627776)) (q' := -(x * 1099511627776)) (q := -(al * 1099511627776)) (c := -bh) (c' := -y) (d' := -y) (d := -bl) (by omega) (by omega) (by omega) (by omega) (by omega) (by omega) (by omega)
    rw [dv_one.1] at k1
    rw [dv_one.2] at k2
    have f1 := fl_mul (p := -(x * 1099511627776)) (show 0 < -y by omega)
    have f2 := cl_mul (p := -(x * 1099511627776)) (show 0 < -y by omega)
    have m1 := Int.mul_le_mul_of_nonneg_right k1 (show 0 ≤ -y by omega)
    have m2 := Int.mul_le_mul_of_nonneg_right k2 (show 0 ≤ -y by omega)
    rw [e1, e2]
    exact ⟨Int.le_trans m1 f1, Int.le_trans f2 m2⟩
/-- The ends of a square root: squares below and above. -/
theorem hold_sqrt {x Rl Rh Nl Nh N : Nat} (hl : IsRt Nl Rl) (hh : IsRt Nh Rh) (h1 : Nl ≤ N) (h2 : N ≤ Nh) (hx : x = N) :
    (Rl : Int) * (Rl : Int) ≤ (x : Int) ∧ (x : Int) ≤ rtHi Nh Rh * rtHi Nh Rh := by
  subst hx
  obtain ⟨a1, _⟩ := hl
  obtain ⟨_, b2⟩ := hh
  have c1 : ((Rl * Rl : Nat) : Int) ≤ (x : Int) := Int.ofNat_le.2 (Nat.le_trans a1 h1)
  rw [Int.natCast_mul] at c1
  refine ⟨c1, ?_⟩
  unfold rtHi
  by_cases h : Rh * Rh = Nh
  · rw [if_pos h]
    have c2 : (x : Int) ≤ ((Rh * Rh : Nat) : Int) := Int.ofNat_le.2 (by omega)
    rwa [Int.natCast_mul] at c2
  · rw [if_neg h]
    have c2 : (x : Int) ≤ (((Rh + 1) * (Rh + 1) : Nat) : Int) := Int.ofNat_le.2 (by omega)
    rw [Int.natCast_mul] at c2
    simpa using c2
/-- A fraction p / q is the number u / v: comparisons with whole numbers of units. -/
theorem has_iff {lo p q u v K : Int} (hq : 0 < q) (hv : 0 < v) (he : p * v = u * q) : (lo * q ≤ p * K ↔ lo * v ≤ u * K) ∧ (p * K ≤ lo * q ↔ u * K ≤ lo * v) := by
  have e1 : lo * q * v = lo * v * q := by rw [Int.mul_assoc, Int.mul_comm q v, ← Int.mul_assoc]
  have e2 : p * K * v = u * K * q := by rw [Int.mul_assoc, Int.mul_comm K v, ← Int.mul_assoc, he, Int.mul_assoc, Int.mul_comm q K, ← Int.mul_assoc]
  constructor
  · constructor
    · intro h
      have h2 := Int.mul_le_mul_of_nonneg_right h (show 0 ≤ v by omega)
      rw [e1, e2] at h2
      exact Int.le_of_mul_le_mul_right h2 hq
    · intro h
      have h2 := Int.mul_le_mul_of_nonneg_right h (show 0 ≤ q by omega)
      rw [← e1, ← e2] at h2
      exact Int.le_of_mul_le_mul_right h2 hv
  · constructor
    · intro h
      have h2 := Int.mul_le_mul_of_nonneg_right h (show 0 ≤ v by omega)
      rw [e1, e2] at h2
      exact Int.le_of_mul_le_mul_right h2 hq
    · intro h
      have h2 := Int.mul_le_mul_of_nonneg_right h (show 0 ≤ q by omega)
      rw [← e1, ← e2] at h2
      exact Int.le_of_mul_le_mul_right h2 hv
end Go.Proofs.YtffblodpgcifcaaGreatDoor

/- Both ends of a result are less than a unit away from an exact result for ends of the arguments: in whole numbers of units. -/
namespace Go.Proofs.YtffblodpgcifcaaGreatDoor
open Go.RowKit

/-- t / d is at least lo, and less than lo + 1. -/
def NearLo (lo t d : Int) : Prop := 0 ≤ t - lo * d ∧ t - lo * d < d
/-- t / d is at most hi, and greater than hi - 1. -/
def NearHi (hi t d : Int) : Prop := 0 ≤ hi * d - t ∧ hi * d - t < d
theorem near_fl {t d : Int} (hd : 0 < d) : NearLo (t / d) t d := by
  have h1 := Int.mul_ediv_add_emod t d
  have h2 := Int.emod_nonneg t (show d ≠ 0 by omega)
  have h3 := Int.emod_lt_of_pos t hd
  unfold NearLo
  rw [Int.mul_comm d] at h1
  omega
theorem near_cl {t d : Int} (hd : 0 < d) : NearHi (cdiv t d) t d := by
  have h := near_fl (t := -t) hd
  unfold NearLo at h
  unfold NearHi cdiv
  rw [Int.neg_mul]
  omega
theorem mn4_is (a b c d : Int) : mn4 a b c d = a ∨ mn4 a b c d = b ∨ mn4 a b c d = c ∨ mn4 a b c d = d := by unfold mn4; omega
theorem mx4_is (a b c d : Int) : mx4 a b c d = a ∨ mx4 a b c d = b ∨ mx4 a b c d = c ∨ mx4 a b c d = d := by unfold mx4; omega
theorem least_mul {al ah bl bh : Int} (he : (mkI (mulLo al ah bl bh) (mulHi al ah bl bh)).err = 0) :
    (NearLo (mkI (mulLo al ah bl bh) (mulHi al ah bl bh)).lo (al * bl) 1099511627776 ∨ NearLo (mkI (mulLo al ah bl bh) (mulHi al ah bl bh)).lo (al * bh) 1099511627776 ∨ NearLo (mkI (mulLo al ah bl bh) (mulHi al ah bl bh)).lo (ah * bl) 1099511627776 ∨ NearLo (mkI (mulLo al ah bl bh) (mulHi al ah bl bh)).lo (ah * bh) 1099511627776) ∧
    (NearHi (mkI (mulLo al ah bl bh) (mulHi al ah bl bh)).hi (al * bl) 1099511627776 ∨ NearHi (mkI (mulLo al ah bl bh) (mulHi al ah bl bh)).hi (al * bh) 1099511627776 ∨ NearHi (mkI (mulLo al ah bl bh) (mulHi al ah bl bh)).hi (ah * bl) 1099511627776 ∨ NearHi (mkI (mulLo al ah bl bh) (mulHi al ah bl bh)).hi (ah * bh) 1099511627776) := by
  obtain ⟨e1, e2⟩ := mk_ok he
  rw [e1, e2]
  unfold mulLo mulHi
  constructor
  · have h := near_fl (t := mn4 (al * bl) (al * bh) (ah * bl) (ah * bh)) (d := 1099511627776) (by omega)
    rcases mn4_is (al * bl) (al * bh) (ah * bl) (ah * bh) with e | e | e | e <;> rw [e] at h ⊢
    · exact .inl h
    · exact .inr (.inl h)
    · exact .inr (.inr (.inl h))
    · exact .inr (.inr (.inr h))
  · have h := near_cl (t := mx4 (al * bl) (al * bh) (ah * bl) (ah * bh)) (d := 1099511627776) (by omega)
    rcases mx4_is (al * bl) (al * bh) (ah * bl) (ah * bh) with e | e | e | e <;> rw [e] at h ⊢
    · exact .inl h
    · exact .inr (.inl h)
    · exact .inr (.inr (.inl h))
    · exact .inr (.inr (.inr h))
theorem least_dv {p q c d : Int} (hc : 0 < c) (hd : 0 < d) :
    (NearLo (dvLo p q c d) p c ∨ NearLo (dvLo p q c d) p d ∨ NearLo (dvLo p q c d) q c ∨ NearLo (dvLo p q c d) q d) ∧
    (NearHi (dvHi p q c d) p c ∨ NearHi (dvHi p q c d) p d ∨ NearHi (dvHi p q c d) q c ∨ NearHi (dvHi p q c d) q d) := by
  unfold dvLo dvHi
  constructor
  · rcases mn4_is (p / c) (p / d) (q / c) (q / d) with e | e | e | e <;> rw [e]
    · exact .inl (near_fl hc)
    · exact .inr (.inl (near_fl hd))
    · exact .inr (.inr (.inl (near_fl hc)))
    · exact .inr (.inr (.inr (near_fl hd)))
  · rcases mx4_is (cdiv p c) (cdiv p d) (cdiv q c) (cdiv q d) with e | e | e | e <;> rw [e]
    · exact .inl (near_cl hc)
    · exact .inr (.inl (near_cl hd))
    · exact .inr (.inr (.inl (near_cl hc)))
    · exact .inr (.inr (.inr (near_cl hd)))
/-- A scaled interval: its ends are those of the least and the greatest product. -/
theorem least_scale {al ah num den : Int} (hz : den ≠ 0) (he : (scO al ah num den).err = 0) :
    NearLo (scO al ah num den).lo (min (sN al num den) (sN ah num den)) (den.natAbs : Int) ∧ NearHi (scO al ah num den).hi (max (sN al num den) (sN ah num den)) (den.natAbs : Int) := by
  have hD : 0 < (den.natAbs : Int) := by omega
  unfold scO at he ⊢
  rw [if_neg hz] at he ⊢
  obtain ⟨e1, e2⟩ := mk_ok he
  rw [e1, e2, ← fdiv_min hD, ← cdiv_max hD]
  exact ⟨near_fl hD, near_cl hD⟩
end Go.Proofs.YtffblodpgcifcaaGreatDoor

/- The walk of the law SpanParts. -/
namespace Go.Proofs.YtffblodpgcifcaaGreatDoor
open Go.RowKit

def ptV (lo hi k : Int) : Int := lo + k % (hi - lo + 1)
theorem ptV_in {lo hi k : Int} (h : lo ≤ hi) : lo ≤ ptV lo hi k ∧ ptV lo hi k ≤ hi := by
  have h1 := Int.emod_nonneg k (show hi - lo + 1 ≠ 0 by omega)
  have h2 := Int.emod_lt_of_pos k (show 0 < hi - lo + 1 by omega)
  unfold ptV; omega
set_option maxRecDepth 100000 in
set_option maxHeartbeats 1000000 in
theorem lpoint_any (w : World) (lo hi k : Int) (h1 : -2305843009213693952 ≤ lo) (h2 : lo ≤ hi) (h3 : hi ≤ 2305843009213693952) (k0 : 0 ≤ k) (_k1 : k ≤ 18446744073709551615) :
    Calls Tryz.prog 8 #[iv lo hi, .int .u64 k] w (RN1 w (ptV lo hi k)) := by
  have hm1 := Int.emod_nonneg k (show hi - lo + 1 ≠ 0 by omega)
  have hm2 := Int.emod_lt_of_pos k (show 0 < hi - lo + 1 by omega)
  have ht : k.tmod (hi - lo + 1) = k % (hi - lo + 1) := Int.tmod_eq_emod_of_nonneg k0
  obtain ⟨t, htt⟩ : ∃ t, k % (hi - lo + 1) = t := ⟨_, rfl⟩
  have HV : Hid (ptV lo hi k = lo + t) := by show _ = _; unfold ptV; rw [htt]
  rw [htt] at hm1 hm2 ht
  have e1 : IntKind.i64.wrap (hi - lo) = hi - lo := IntWalk.i64_in _ (by omega)
  have e2 : IntKind.u64.wrap (hi - lo) = hi - lo := by rw [IntKind.wrap_u64]; omega
  have e3 : IntKind.u64.wrap (hi - lo + 1) = hi - lo + 1 := by rw [IntKind.wrap_u64]; omega
  have e4 : IntKind.i64.wrap t = t := IntWalk.i64_in _ (by omega)
  have e5 : IntKind.i64.wrap (lo + t) = lo + t := IntWalk.i64_in _ (by omega)
  have e6 : (hi - lo + 1 == 0) = false := by simp; omega
  have e7 : ¬ hi - lo + 1 = 0 := by omega
  have e8 : IntKind.u64.wrap t = t := by rw [IntKind.wrap_u64]; omega
  have QA := Lib.hid (Pr.new w w.heap.size rfl (.int .i64 lo) (.int .i64 hi) 23)
  have BW : Hid (Below w.heap.size w (w.alloc (ivB lo hi))) := sbal (Below.refl _ _) _
  clear h1 h2 h3 k0 hm1 hm2
  go_enter Tryz.func8, Tryz.ntmps8
  go_upto_region 2 with (fail)
  generalize w.alloc (ivB lo hi) = W0 at *
  have ⟨a0, a1, _, _, _⟩ := QA.out
  go_region
  all_goals
    go_wp2
    go_ret
    exact ⟨ret_int HV.out.symm, bdrewN BW.out 1⟩
end Go.Proofs.YtffblodpgcifcaaGreatDoor

/- The walk of the law SpanLeast. -/
namespace Go.Proofs.YtffblodpgcifcaaGreatDoor
open Go.RowKit

/-- What the walk has: four numbers in an array, three intervals, and the world below. -/
structure St (w0 w : World) (gl gP gQ gS : Nat) (al ah bl bh pl ph ql qh sl sh : Int) : Prop where
  a0 : Fa w gl 0 1 2 3 2 al 1099511627776
  a1 : Fa w gl 4 5 6 7 2 ah 1099511627776
  a2 : Fa w gl 8 9 10 11 2 bl 1099511627776
  a3 : Fa w gl 12 13 14 15 2 bh 1099511627776
  p : Pr w gP (.int .i64 pl) (.int .i64 ph)
  q : Pr w gQ (.int .i64 ql) (.int .i64 qh)
  s : Pr w gS (.int .i64 sl) (.int .i64 sh)
  below : Below w0.heap.size w0 w
theorem St.via {w0 w w' : World} {gl gP gQ gS : Nat} {al ah bl bh pl ph ql qh sl sh : Int} (h : St w0 w gl gP gQ gS al ah bl bh pl ph ql qh sl sh) (hb : Below w.heap.size w w') : St w0 w' gl gP gQ gS al ah bl bh pl ph ql qh sl sh :=
  ⟨h.a0.via hb, h.a1.via hb, h.a2.via hb, h.a3.via hb, h.p.via hb, h.q.via hb, h.s.via hb, sbtr h.below hb⟩
theorem St.alloc {w0 w : World} {gl gP gQ gS : Nat} {al ah bl bh pl ph ql qh sl sh : Int} (h : St w0 w gl gP gQ gS al ah bl bh pl ph ql qh sl sh) (o : Obj) : St w0 (w.alloc o) gl gP gQ gS al ah bl bh pl ph ql qh sl sh := h.via ((Below.refl _ _).alloc (Nat.le_refl _) o)
/-- A corner's numbers; the quotient of two numbers with a divisor greater than 0. -/
def CX (al ah : Int) (j : Nat) : Int := if j < 2 then al else ah
def CY (bl bh : Int) (j : Nat) : Int := if j % 2 = 0 then bl else bh
def qU (x y : Int) : Int := if y < 0 then -(x * 1099511627776) else x * 1099511627776
def qV (y : Int) : Int := if y < 0 then 1099511627776 * -y else 1099511627776 * y
theorem qV_pos {y : Int} (h : y ≠ 0) : 0 < qV y := by unfold qV; split <;> omega
theorem q_fr {x y p q : Int} (hy : y ≠ 0) (f : FrV 4 p q (x * 1099511627776) (1099511627776 * y)) : FrV 4 p q (qU x y) (qV y) := by
  unfold qU qV
  split
  · exact frv_to f (by omega) (by rw [Int.mul_neg, Int.mul_neg, Int.neg_mul])
  · exact f
/-- The corners up to the n-th one have told what they know. -/
def JN (n : Nat) (al ah bl bh pl ph ql qh : Int) (lw hg ls mr : Bool) : Prop := ∀ j, j < n →
  (NB pl (CX al ah j * CY bl bh j) (1099511627776 * 1099511627776) false → lw = true) ∧ (NB ph (CX al ah j * CY bl bh j) (1099511627776 * 1099511627776) true → hg = true) ∧
  (CY bl bh j ≠ 0 → NB ql (qU (CX al ah j) (CY bl bh j)) (qV (CY bl bh j)) false → ls = true) ∧ (CY bl bh j ≠ 0 → NB qh (qU (CX al ah j) (CY bl bh j)) (qV (CY bl bh j)) true → mr = true)
theorem JN.zero {al ah bl bh pl ph ql qh : Int} {lw hg ls mr : Bool} : JN 0 al ah bl bh pl ph ql qh lw hg ls mr := fun j hj => absurd hj (by omega)
theorem JN.step {n : Nat} {al ah bl bh pl ph ql qh x y : Int} {lw hg ls mr lw' hg' ls' mr' : Bool} (h : JN n al ah bl bh pl ph ql qh lw hg ls mr) (hx : CX al ah n = x) (hy : CY bl bh n = y)
    (l1 : lw = true → lw' = true) (l2 : NB pl (x * y) (1099511627776 * 1099511627776) false → lw' = true) (h1 : hg = true → hg' = true) (h2 : NB ph (x * y) (1099511627776 * 1099511627776) true → hg' = true)
    (s1 : ls = true → ls' = true) (s2 : y ≠ 0 → NB ql (qU x y) (qV y) false → ls' = true) (m1 : mr = true → mr' = true) (m2 : y ≠ 0 → NB qh (qU x y) (qV y) true → mr' = true) : JN (n + 1) al ah bl bh pl ph ql qh lw' hg' ls' mr' := by
  intro j hj
  by_cases e : j < n
  · obtain ⟨a, b, c, d⟩ := h j e
    exact ⟨fun k => l1 (a k), fun k => h1 (b k), fun k k' => s1 (c k k'), fun k k' => m1 (d k k')⟩
  · obtain rfl : j = n := by omega
    rw [hx, hy]
    exact ⟨l2, h2, s2, m2⟩
/-- A slot holds what was there or what is asked. -/
def OrB (w : World) (lw : Bool) (p : Prop) (s : Value) (wx : World) : Prop := ∃ b, s = .bool b ∧ (lw = true → b = true) ∧ (p → b = true) ∧ Below w.heap.size w wx
/-- The relation of the loops: the counter is at n of three values. -/
def RelL (a b c : Int) (ja jb jc : Nat) (w0 : World) (gl gP gQ gS : Nat) (al ah bl bh pl ph ql qh sl sh : Int) (gn : Nat) (si s17 s18 s19 s20 : Value) (wr : World) : Prop := ∃ lw hg ls mr, s17 = .bool lw ∧ s18 = .bool hg ∧ s19 = .bool ls ∧ s20 = .bool mr ∧
  (si = .int .i64 a ∧ gn = 2 ∧ JN ja al ah bl bh pl ph ql qh lw hg ls mr ∨ si = .int .i64 b ∧ gn = 1 ∧ JN jb al ah bl bh pl ph ql qh lw hg ls mr ∨ si = .int .i64 c ∧ gn = 0 ∧ JN jc al ah bl bh pl ph ql qh lw hg ls mr) ∧ St w0 wr gl gP gQ gS al ah bl bh pl ph ql qh sl sh
theorem out_rg {lo hi : Int} (h : lo ≤ hi) : -2305843009213693952 ≤ (mkI lo hi).lo ∧ (mkI lo hi).lo ≤ 2305843009213693952 ∧ -2305843009213693952 ≤ (mkI lo hi).hi ∧ (mkI lo hi).hi ≤ 2305843009213693952 := by
  by_cases c : lo < -2305843009213693952 ∨ 2305843009213693952 < hi
  · rw [mkI_out c]; show -2305843009213693952 ≤ (0 : Int) ∧ (0 : Int) ≤ 2305843009213693952 ∧ -2305843009213693952 ≤ (0 : Int) ∧ (0 : Int) ≤ 2305843009213693952; decide
  · rw [mkI_in (by omega) (by omega)]
    show -2305843009213693952 ≤ lo ∧ lo ≤ 2305843009213693952 ∧ -2305843009213693952 ≤ hi ∧ hi ≤ 2305843009213693952
    omega
def OutRg (o : Out) : Prop := -2305843009213693952 ≤ o.lo ∧ o.lo ≤ 2305843009213693952 ∧ -2305843009213693952 ≤ o.hi ∧ o.hi ≤ 2305843009213693952
theorem zero_rg (e : Int) : OutRg ⟨0, 0, e⟩ := by unfold OutRg; show -2305843009213693952 ≤ (0 : Int) ∧ (0 : Int) ≤ 2305843009213693952 ∧ -2305843009213693952 ≤ (0 : Int) ∧ (0 : Int) ≤ 2305843009213693952; decide
theorem divO_rg (al ah : Int) {bl bh : Int} (hb : bl ≤ bh) : OutRg (divO al ah bl bh) := by
  unfold divO
  split
  · exact zero_rg _
  · split
    · exact out_rg (dv_le (by omega) (by omega))
    · exact out_rg (dv_le (by omega) (by omega))
theorem scO_rg (al ah num den : Int) : OutRg (scO al ah num den) := by
  unfold scO
  split
  · exact zero_rg _
  · refine out_rg ?_
    have a := fdiv_le_cdiv (p := sN al num den) (d := (den.natAbs : Int)) (by omega)
    omega
/-- What the corners know at the end. -/
theorem JN.mul {al ah bl bh pl ph ql qh : Int} {lw hg ls mr : Bool} (h : JN 4 al ah bl bh pl ph ql qh lw hg ls mr) (o : Out) (ho : o = mkI (mulLo al ah bl bh) (mulHi al ah bl bh)) (e1 : pl = o.lo) (e2 : ph = o.hi) (he : o.err = 0) : lw = true ∧ hg = true := by
  subst e1 e2 ho
  obtain ⟨k1, k2⟩ := least_mul he
  have c0 := h 0 (by omega)
  have c1 := h 1 (by omega)
  have c2 := h 2 (by omega)
  have c3 := h 3 (by omega)
  have nl : ∀ {i t : Int}, NearLo i t 1099511627776 → NB i t (1099511627776 * 1099511627776) false := fun h => by unfold NB; unfold NearLo at h; rw [if_neg (by decide)]; omega
  have nh : ∀ {i t : Int}, NearHi i t 1099511627776 → NB i t (1099511627776 * 1099511627776) true := fun h => by unfold NB; unfold NearHi at h; rw [if_pos rfl]; omega
  constructor
  · rcases k1 with k | k | k | k
    · exact c0.1 (nl k)
    · exact c1.1 (nl k)
    · exact c2.1 (nl k)
    · exact c3.1 (nl k)
  · rcases k2 with k | k | k | k
    · exact c0.2.1 (nh k)
    · exact c1.2.1 (nh k)
    · exact c2.2.1 (nh k)
    · exact c3.2.1 (nh k)
theorem q_lo {i x y : Int} (hy : 0 < y) (h : NearLo i (x * 1099511627776) y) : NB i (qU x y) (qV y) false := by
  unfold NB qU qV; unfold NearLo at h
  rw [if_neg (by decide), if_neg (by omega), if_neg (by omega)]
  have : i * (1099511627776 * y) = i * y * 1099511627776 := by rw [Int.mul_comm 1099511627776, ← Int.mul_assoc]
  rw [this]; omega
theorem q_hi {i x y : Int} (hy : 0 < y) (h : NearHi i (x * 1099511627776) y) : NB i (qU x y) (qV y) true := by
  unfold NB qU qV; unfold NearHi at h
  rw [if_pos rfl, if_neg (by omega), if_neg (by omega)]
  have : i * (1099511627776 * y) = i * y * 1099511627776 := by rw [Int.mul_comm 1099511627776, ← Int.mul_assoc]
  rw [this]; omega
theorem q_lon {i x y : Int} (hy : y < 0) (h : NearLo i (-(x * 1099511627776)) (-y)) : NB i (qU x y) (qV y) false := by
  unfold NB qU qV; unfold NearLo at h
  rw [if_neg (by decide), if_pos hy, if_pos hy]
  have : i * (1099511627776 * -y) = i * -y * 1099511627776 := by rw [Int.mul_comm 1099511627776, ← Int.mul_assoc]
  rw [this]; omega
theorem q_hin {i x y : Int} (hy : y < 0) (h : NearHi i (-(x * 1099511627776)) (-y)) : NB i (qU x y) (qV y) true := by
  unfold NB qU qV; unfold NearHi at h
  rw [if_pos rfl, if_pos hy, if_pos hy]
  have : i * (1099511627776 * -y) = i * -y * 1099511627776 := by rw [Int.mul_comm 1099511627776, ← Int.mul_assoc]
  rw [this]; omega
theorem JN.div {al ah bl bh pl ph ql qh : Int} {lw hg ls mr : Bool} (h : JN 4 al ah bl bh pl ph ql qh lw hg ls mr) (hbl : bl ≤ bh) (o : Out) (ho : o = divO al ah bl bh) (e1 : ql = o.lo) (e2 : qh = o.hi) (he : o.err = 0) : ls = true ∧ mr = true := by
  subst e1 e2 ho
  obtain ⟨_, _, s0, m0⟩ := h 0 (by omega)
  obtain ⟨_, _, s1, m1⟩ := h 1 (by omega)
  obtain ⟨_, _, s2, m2⟩ := h 2 (by omega)
  obtain ⟨_, _, s3, m3⟩ := h 3 (by omega)
  by_cases hz : bl ≤ 0 ∧ 0 ≤ bh
  · unfold divO at he; rw [if_pos hz] at he; cases he
  by_cases hp : 0 < bl
  · have e : divO al ah bl bh = mkI (dvLo (al * 1099511627776) (ah * 1099511627776) bl bh) (dvHi (al * 1099511627776) (ah * 1099511627776) bl bh) := by unfold divO; rw [if_neg hz, if_pos hp]
    rw [e] at he s0 s1 s2 s3 m0 m1 m2 m3
    obtain ⟨e1, e2⟩ := mk_ok he
    rw [e1] at s0 s1 s2 s3
    rw [e2] at m0 m1 m2 m3
    have hb : 0 < bh := by omega
    obtain ⟨k1, k2⟩ := least_dv (p := al * 1099511627776) (q := ah * 1099511627776) hp hb
    constructor
    · rcases k1 with k | k | k | k
      · exact s0 (show bl ≠ 0 by omega) (q_lo hp k)
      · exact s1 (show bh ≠ 0 by omega) (q_lo hb k)
      · exact s2 (show bl ≠ 0 by omega) (q_lo hp k)
      · exact s3 (show bh ≠ 0 by omega) (q_lo hb k)
    · rcases k2 with k | k | k | k
      · exact m0 (show bl ≠ 0 by omega) (q_hi hp k)
      · exact m1 (show bh ≠ 0 by omega) (q_hi hb k)
      · exact m2 (show bl ≠ 0 by omega) (q_hi hp k)
      · exact m3 (show bh ≠ 0 by omega) (q_hi hb k)
  · have e : divO al ah bl bh = mkI (dvLo (-(ah * 1099511627776)) (-(al * 1099511627776)) (-bh) (-bl)) (dvHi (-(ah * 1099511627776)) (-(al * 1099511627776)) (-bh) (-bl)) := by unfold divO; rw [if_neg hz, if_neg hp]
    rw [e] at he s0 s1 s2 s3 m0 m1 m2 m3
    obtain ⟨e1, e2⟩ := mk_ok he
    rw [e1] at s0 s1 s2 s3
    rw [e2] at m0 m1 m2 m3
    have hn : bl < 0 := by omega
    have hb : bh < 0 := by omega
    obtain ⟨k1, k2⟩ := least_dv (p := -(ah * 1099511627776)) (q := -(al * 1099511627776)) (show 0 < -bh by omega) (show 0 < -bl by omega)
    constructor
    · rcases k1 with k | k | k | k
      · exact s3 (show bh ≠ 0 by omega) (q_lon hb k)
      · exact s2 (show bl ≠ 0 by omega) (q_lon hn k)
      · exact s1 (show bh ≠ 0 by omega) (q_lon hb k)
      · exact s0 (show bl ≠ 0 by omega) (q_lon hn k)
    · rcases k2 with k | k | k | k
      · exact m3 (show bh ≠ 0 by omega) (q_hin hb k)
      · exact m2 (show bl ≠ 0 by omega) (q_hin hn k)
      · exact m1 (show bh ≠ 0 by omega) (q_hin hb k)
      · exact m0 (show bl ≠ 0 by omega) (q_hin hn k)
theorem rof_f (w : World) (a b : Int) (ha1 : -9223372036854775808 ≤ a) (ha2 : a ≤ 9223372036854775807) (hb1 : -9223372036854775808 ≤ b) (hb2 : b ≤ 9223372036854775807) (hb : b ≠ 0) :
    Calls Tryz.prog 23 #[.int .i64 a, .int .i64 b] w (RF2 w 2 (if b < 0 then -a else a) (b.natAbs : Int)) := by
  have f := red_fr (k := 2) (sz2_i64 ha1 ha2) (sz2_i64 hb1 hb2) (by omega) hb
  have f2 := frv_to f hb (u' := if b < 0 then -a else a) (v' := (b.natAbs : Int)) (by
    split
    · have : (b.natAbs : Int) = -b := by omega
      rw [this, Int.mul_neg, Int.neg_mul]
    · have : (b.natAbs : Int) = b := by omega
      rw [this])
  refine (rof_g w a b ha1 ha2 hb1 hb2 (decide (a / dvr a b < 0)) (decide (b / dvr a b < 0)) (digs (a / dvr a b).natAbs) (digs (b / dvr a b).natAbs) 0 (fun W A B n m ca cb h1 h2 => ?_)).mono fun e w' h => rfe_rf2 f2 h
  refine rmake_ok W _ _ A B n m ca cb _ _ h1 h2 (chk_z (sz2_i64 ha1 ha2) (by omega)) (chk_z (sz2_i64 hb1 hb2) (by omega)) (fun e => hb (by have := digs_nil.1 e; omega)) _ _ (fun W h1 h2 => ?_)
  rcases Int.lt_or_lt_of_ne hb with hn | hp
  · exact rreduced_neg W A B n m ca cb 2 a b h1 h2 (sz2_i64 ha1 ha2) (sz2_i64 hb1 hb2) (by omega) rfl rfl hn
  · exact rreduced_pos W A B n m ca cb 2 a b h1 h2 (sz2_i64 ha1 ha2) (sz2_i64 hb1 hb2) (by omega) rfl rfl hp
end Go.Proofs.YtffblodpgcifcaaGreatDoor

/- A fraction stored whole into a box that lies there. -/
namespace Go.Proofs.YtffblodpgcifcaaGreatDoor
open Go.RowKit

theorem Qd.there {w : World} {g : Nat} {x0 x1 x2 x3 : Value} (p : Qd w g x0 x1 x2 x3) : w.there g 0 4 := by
  intro j hj
  rcases (show j = 0 ∨ j = 1 ∨ j = 2 ∨ j = 3 by omega) with rfl | rfl | rfl | rfl
  · rw [Nat.zero_add]; exact ⟨by rw [p.c0]; rfl, p.f0⟩
  · rw [Nat.zero_add]; exact ⟨by rw [p.c1]; rfl, p.f1⟩
  · rw [Nat.zero_add]; exact ⟨by rw [p.c2]; rfl, p.f2⟩
  · rw [Nat.zero_add]; exact ⟨by rw [p.c3]; rfl, p.f3⟩
/-- What the walk's store of a fraction does. -/
theorem store_qd {w : World} {g : Nat} {x0 x1 x2 x3 : Value} (p : Qd w g x0 x1 x2 x3) (z z' : Bool) (A B : Option Addr) (n c m d : Nat) :
    (Instr.storeAt 31 (.pointer (some ⟨g, 0, none⟩)) (.agg #[.bool z, .slice A n c, .bool z', .slice B m d])).run Tryz.prog w = .ok () (put4 w g (.bool z) (.slice A n c) (.bool z') (.slice B m d)) :=
  run_storeAt_mid (P := Tryz.prog) w g 0 31 #[.bool z, .slice A n c, .bool z', .slice B m d] p.there (by kernel_rfl) (by simp [Value.oneCell'])
theorem Qd.range {w : World} {g : Nat} {x0 x1 x2 x3 : Value} (p : Qd w g x0 x1 x2 x3) : w.rangeAt g 0 [x0, x1, x2, x3] := by
  intro j v hv
  rw [Nat.zero_add]
  match j, hv with
  | 0, hv => cases hv; exact p.c0
  | 1, hv => cases hv; exact p.c1
  | 2, hv => cases hv; exact p.c2
  | 3, hv => cases hv; exact p.c3
theorem frac_info : (Tryz.prog.info? 31).map (·.size) = some 4 := by kernel_rfl
/-- A walk's store of a fraction into a box that lies there, whole. -/
theorem wpList_store_qd {ops : Array Oper} {rest : List Oper} {op : Oper} {a : Act} {w : World} {Q : Exit → Act → World → Prop} {g : Nat} {x0 x1 x2 x3 : Value} (p : Qd w g x0 x1 x2 x3) (hgd : op.guard = none) (x y : Operand)
    (ho : op.op = .store 31 x y) (z z' : Bool) (A B : Option Addr) (n c m d : Nat) (hx : a.eval x = .pointer (some ⟨g, 0, none⟩)) (hy : a.eval y = .agg #[.bool z, .slice A n c, .bool z', .slice B m d])
    (h : wpList Tryz.prog ops Q rest (a.put op.dst undef) (put4 w g (.bool z) (.slice A n c) (.bool z') (.slice B m d))) : wpList Tryz.prog ops Q (op :: rest) a w :=
  wpList_store_mid hgd 31 x y ho g 0 _ hx hy p.there frac_info (by simp [Value.oneCell']) h
/-- A walk's load of a fraction, whole. -/
theorem wpList_load_qd {ops : Array Oper} {rest : List Oper} {op : Oper} {a : Act} {w : World} {Q : Exit → Act → World → Prop} {g : Nat} {x0 x1 x2 x3 : Value} (p : Qd w g x0 x1 x2 x3) (hgd : op.guard = none) (x : Operand)
    (ho : op.op = .load 31 x) (hx : a.eval x = .pointer (some ⟨g, 0, none⟩))
    (h : wpList Tryz.prog ops Q rest (a.put op.dst (.agg #[x0, x1, x2, x3])) w) : wpList Tryz.prog ops Q (op :: rest) a w :=
  wpList_load_mid hgd 31 x ho g 0 hx [x0, x1, x2, x3] _ p.range Tryz.underlying31 rfl frac_info h
/-- As an operation: in a region that draws. -/
theorem wp_store_qd {op : Oper} {a : Act} {w : World} {K : Act → World → Prop} {Q : Exit → Act → World → Prop} {g : Nat} {x0 x1 x2 x3 : Value} (p : Qd w g x0 x1 x2 x3) (x y : Operand)
    (ho : op.op = .store 31 x y) (z z' : Bool) (A B : Option Addr) (n c m d : Nat) (hx : a.eval x = .pointer (some ⟨g, 0, none⟩)) (hy : a.eval y = .agg #[.bool z, .slice A n c, .bool z', .slice B m d])
    (h : K (a.put op.dst undef) (put4 w g (.bool z) (.slice A n c) (.bool z') (.slice B m d))) : op.wp Tryz.prog a w K Q :=
  wp_store_mid 31 x y ho g 0 _ hx hy p.there frac_info (by simp [Value.oneCell']) h
end Go.Proofs.YtffblodpgcifcaaGreatDoor

/- An array of four fractions stored whole. -/
namespace Go.Proofs.YtffblodpgcifcaaGreatDoor
open Go.RowKit

theorem D16.there {w : World} {g : Nat} {vs : List Value} (p : D16 w g vs) : w.there g 0 16 := by
  intro j hj
  rw [Nat.zero_add]
  exact ⟨by rw [p.at_ j (by rw [p.len]; exact hj)]; rfl, p.free j hj⟩
theorem arr_info : (Tryz.prog.info? 45).map (·.size) = some 16 := by kernel_rfl
theorem wp_store_d16 {op : Oper} {a : Act} {w : World} {K : Act → World → Prop} {Q : Exit → Act → World → Prop} {g : Nat} {vs : List Value} (p : D16 w g vs) (x y : Operand)
    (ho : op.op = .store 45 x y) (z0 z1 z2 z3 : Bool) (A0 A1 A2 A3 B0 B1 B2 B3 : Option Addr) (n0 n1 n2 n3 c0 c1 c2 c3 m0 m1 m2 m3 d0 d1 d2 d3 : Nat) (hx : a.eval x = .pointer (some ⟨g, 0, none⟩))
    (hy : a.eval y = .agg #[.bool z0, .slice A0 n0 c0, .bool false, .slice B0 m0 d0, .bool z1, .slice A1 n1 c1, .bool false, .slice B1 m1 d1, .bool z2, .slice A2 n2 c2, .bool false, .slice B2 m2 d2, .bool z3, .slice A3 n3 c3, .bool false, .slice B3 m3 d3])
    (h : K (a.put op.dst undef) (w.setCells g 0 [.bool z0, .slice A0 n0 c0, .bool false, .slice B0 m0 d0, .bool z1, .slice A1 n1 c1, .bool false, .slice B1 m1 d1, .bool z2, .slice A2 n2 c2, .bool false, .slice B2 m2 d2, .bool z3, .slice A3 n3 c3, .bool false, .slice B3 m3 d3])) : op.wp Tryz.prog a w K Q :=
  wp_store_mid 45 x y ho g 0 _ hx hy p.there arr_info (by simp [Value.oneCell']) h
theorem below_setA {B : Nat} {w w1 : World} (h : Below B w w1) {g : Nat} (hg : B ≤ g) : ∀ (vs : List Value) (o : Nat), Below B w (w1.setCells g o vs)
  | [], _ => h
  | v :: vs, o => below_setA (h.setCell (p := ⟨g, o, none⟩) hg v) hg vs (o + 1)
end Go.Proofs.YtffblodpgcifcaaGreatDoor

