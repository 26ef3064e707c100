/- Lemmas, part 7. -/
import Derived.Deep.RegionHeld3
import Derived.Deep.DeepCutAuto
import Derived.Test.YtkendkbicafdgaaGreatDoorFBack6
/- The reference for fractions: Reduced. -/
namespace Go.Proofs.YtkendkbicafdgaaGreatDoor
open Go.RowKit

section
variable (w : World) (A B : Option Addr) (n m ca cb k : Nat) (x y : Int) (hA : Lm w w.heap.size A n ca (digs x.natAbs)) (hB : Lm w w.heap.size B m cb (digs y.natAbs)) (hx : Sz k x) (hy : Sz k y) (hk : k ≤ 2000) {na nb : Bool} (ha : decide (x < 0) = na) (hb : decide (y < 0) = nb)
include hA hx hk ha
theorem rneg_n2 : Calls Tryz.prog 40 #[.agg #[.bool na, .slice A n ca]] w (RN w (-x)) := by
  have hc := chk_z hx (show k ≤ 4096 by omega)
  rw [ha] at hc
  have h := rneg_ok w na A n ca _ hA hc
  refine h.mono fun e w' hr => ?_
  have hl : (digs x.natAbs).length ≤ 4096 := Nat.le_trans hx.len (by omega)
  have hr2 := rw_rn hl hr
  have e1 : toI (!na) x.natAbs = -x := by
    subst ha
    unfold toI
    by_cases h : x < 0
    · rw [decide_eq_true h]; simp; omega
    · rw [decide_eq_false h]; simp; omega
  rw [e1] at hr2
  exact hr2
include hB hy hb
theorem rgcd_n2 : Calls Tryz.prog 26 #[.agg #[.bool na, .slice A n ca], .agg #[.bool nb, .slice B m cb]] w fun e w' => ∃ A' n' c', e = .returned (.tuple #[.agg #[.bool false, .slice A' n' c'], .int .i64 0]) ∧ Lm w' w'.heap.size A' n' c' (digs (Nat.gcd x.natAbs y.natAbs)) ∧ Below w.heap.size w w' := by
  subst ha hb
  have hxl : (digs x.natAbs).length ≤ 4096 := Nat.le_trans hx.len (by omega)
  have hyl : (digs y.natAbs).length ≤ 4096 := Nat.le_trans hy.len (by omega)
  have h := rgcd_ok w _ _ A B n m ca cb _ _ hA hB (chkB_z hx (by omega) hy (by omega))
  have hgl : (digs (Nat.gcd x.natAbs y.natAbs)).length ≤ 4096 := by
    rcases Nat.eq_zero_or_pos x.natAbs with h0 | h0
    · rw [h0, Nat.gcd_zero_left]; exact hyl
    · exact Nat.le_trans (digs_mono (Nat.gcd_le_left _ h0)) hxl
  refine h.mono fun e w' hr => ?_
  obtain ⟨A', n', c', he, hL, hb⟩ := rw_rn (neg := false) hgl hr
  have e1 : decide (toI false (Nat.gcd x.natAbs y.natAbs) < 0) = false := by unfold toI; simp
  rw [e1] at he
  have e2 : (toI false (Nat.gcd x.natAbs y.natAbs)).natAbs = Nat.gcd x.natAbs y.natAbs := toI_abs _ _
  rw [e2] at hL
  exact ⟨A', n', c', he, hL, hb⟩
end

set_option maxRecDepth 100000 in
set_option maxHeartbeats 2000000 in
theorem rreduced_pos (w : World) (A B : Option Addr) (n m ca cb k : Nat) (x y : Int) (hA : Lm w w.heap.size A n ca (digs x.natAbs)) (hB : Lm w w.heap.size B m cb (digs y.natAbs)) (hx : Sz k x) (hy : Sz k y) (hk : k ≤ 2000) {na nb : Bool} (ha : decide (x < 0) = na) (hb : decide (y < 0) = nb) (hs : 0 < y) :
    Calls Tryz.prog 15 #[.agg #[.bool na, .slice A n ca], .agg #[.bool nb, .slice B m cb]] w (RFr w (x / dvr x y) (y / dvr x y)) := by
  have HA := Lib.hid hA
  have HB := Lib.hid hB
  have HX := Lib.hid hx
  have HY := Lib.hid hy
  have HC := Lib.hid hs
  obtain rfl : nb = false := by rw [← hb]; exact decide_eq_false (by omega)
  have HNa := Lib.hid ha
  have HNb := Lib.hid hb
  clear hA hB hx hy ha hb hs
  go_enter Tryz.func15, Tryz.ntmps15
  go_wp2_with fail
  refine (rgcd_n2 _ A B n m ca cb k x y (((HA.out.box _).box _).box _) (((HB.out.box _).box _).box _) HX.out HY.out hk HNa.out HNb.out).mono ?_
  rintro e w1 ⟨A1, n1, c1, rfl, hL1, hb1⟩
  have PA := Lib.hid (((((Pr.new w _ rfl (.bool na) (.slice A n ca) 24).alloc (.cells #[.bool false, .slice B m cb] 24)).alloc (.cells #[.bool false, .slice none 0 0, .bool false, .slice none 0 0] 26)).via hb1).alloc (.cells #[.bool false, .slice A1 n1 c1] 24))
  have PB := Lib.hid ((((Pr.new (w.alloc (.cells #[.bool na, .slice A n ca] 24)) (w.heap.size + 1) (by simp) (.bool false) (.slice B m cb) 24).alloc (.cells #[.bool false, .slice none 0 0, .bool false, .slice none 0 0] 26)).via hb1).alloc (.cells #[.bool false, .slice A1 n1 c1] 24))
  have QR := Lib.hid (((Qd.new ((w.alloc (.cells #[.bool na, .slice A n ca] 24)).alloc (.cells #[.bool false, .slice B m cb] 24)) (w.heap.size + 1 + 1) (by simp) (.bool false) (.slice none 0 0) (.bool false) (.slice none 0 0) 26).via hb1).alloc (.cells #[.bool false, .slice A1 n1 c1] 24))
  have PG := Lib.hid (Pr.new w1 _ rfl (.bool false) (.slice A1 n1 c1) 24)
  have LA := Lib.hid (((((HA.out.box _).box _).box _).via hb1).box (.cells #[.bool false, .slice A1 n1 c1] 24))
  have LB := Lib.hid (((((HB.out.box _).box _).box _).via hb1).box (.cells #[.bool false, .slice A1 n1 c1] 24))
  have L1 := Lib.hid (hL1.box (.cells #[.bool false, .slice A1 n1 c1] 24))
  have B1 := Lib.hid ((bbox (bbox (bbox hb1))).alloc (bbox (bbox (bbox hb1))).size (.cells #[.bool false, .slice A1 n1 c1] 24))
  have ⟨x0, x1, _, _, xl⟩ := ((((Pr.new w _ rfl (.bool na) (.slice A n ca) 24).alloc (.cells #[.bool false, .slice B m cb] 24)).alloc (.cells #[.bool false, .slice none 0 0, .bool false, .slice none 0 0] 26)).via hb1)
  have hg : w.heap.size + 1 + 1 < w1.heap.size := by have := hb1.size; simp only [World.size_alloc] at this; omega
  have ⟨y0, y1, _, _, yl⟩ := (((Pr.new (w.alloc (.cells #[.bool na, .slice A n ca] 24)) (w.heap.size + 1) (by simp) (.bool false) (.slice B m cb) 24).alloc (.cells #[.bool false, .slice none 0 0, .bool false, .slice none 0 0] 26)).via hb1)
  clear hb1 hL1 HA HB
  go_wp2_with fail
  clear y0 y1 yl x0 x1 xl
  generalize w1.alloc (.cells #[.bool false, .slice A1 n1 c1] 24) = W1 at *
  generalize w1.heap.size = g at *
  have HD : Hid (decide (dvr x y < 0) = false) := by
    show _ = _
    have := HC.out
    unfold dvr
    rw [if_neg (by omega)]
    simp
  have LC : Hid (Lm W1 W1.heap.size A1 n1 c1 (digs (dvr x y).natAbs)) := by
    have := HC.out
    have e : (dvr x y).natAbs = Nat.gcd x.natAbs y.natAbs := by unfold dvr; rw [if_neg (by omega)]; rfl
    rw [e]
    exact L1.out
  have BL := Lib.hid B1.out
  clear L1 B1
  refine (rdiv_x _ A A1 n n1 ca c1 k x (dvr x y) (x / dvr x y) LA.out LC.out HX.out (sz_dvr HY.out (by have := HC.out; omega)) hk (dvr_ne (by have := HC.out; omega)) (dvr_left x y) HNa.out HD.out).mono ?_
  rintro e w3 ⟨A3, n3, c3, g3, A4, n4, c4, rfl, hL3, hb3⟩
  obtain ⟨np, hnp⟩ : ∃ b, decide (x / dvr x y < 0) = b := ⟨_, rfl⟩
  rw [hnp]
  have HNp := Lib.hid hnp
  have P7 := Lib.hid ((Pr.new w3 _ rfl (.bool np) (.slice A3 n3 c3) 24).alloc (.cells #[.bool g3, .slice A4 n4 c4] 24))
  have KB := Lib.hid (((PB.out.via hb3).alloc (.cells #[.bool np, .slice A3 n3 c3] 24)).alloc (.cells #[.bool g3, .slice A4 n4 c4] 24))
  have KG := Lib.hid (((PG.out.via hb3).alloc (.cells #[.bool np, .slice A3 n3 c3] 24)).alloc (.cells #[.bool g3, .slice A4 n4 c4] 24))
  have KR := Lib.hid (((QR.out.via hb3).alloc (.cells #[.bool np, .slice A3 n3 c3] 24)).alloc (.cells #[.bool g3, .slice A4 n4 c4] 24))
  have ML := Lib.hid (((LB.out.via hb3).box (.cells #[.bool np, .slice A3 n3 c3] 24)).box (.cells #[.bool g3, .slice A4 n4 c4] 24))
  have MC := Lib.hid (((LC.out.via hb3).box (.cells #[.bool np, .slice A3 n3 c3] 24)).box (.cells #[.bool g3, .slice A4 n4 c4] 24))
  have M3 := Lib.hid ((hL3.box (.cells #[.bool np, .slice A3 n3 c3] 24)).box (.cells #[.bool g3, .slice A4 n4 c4] 24))
  have B3 := Lib.hid (((BL.out.trans (hb3.mono BL.out.size)).alloc (BL.out.trans (hb3.mono BL.out.size)).size (.cells #[.bool np, .slice A3 n3 c3] 24)).alloc ((BL.out.trans (hb3.mono BL.out.size)).alloc (BL.out.trans (hb3.mono BL.out.size)).size (.cells #[.bool np, .slice A3 n3 c3] 24)).size (.cells #[.bool g3, .slice A4 n4 c4] 24))
  have ⟨b0, b1, _, _, bl⟩ := KB.out
  have ⟨p0, p1, _, _, pl⟩ := KG.out
  clear hnp hb3 hL3 PA PB PG QR LA LB LC BL
  go_wp2_with fail
  clear b0 b1 bl p0 p1 pl
  generalize (w3.alloc (.cells #[.bool np, .slice A3 n3 c3] 24)).alloc (.cells #[.bool g3, .slice A4 n4 c4] 24) = W3 at *
  generalize w3.heap.size = h3 at *
  refine (rdiv_x _ B A1 m n1 cb c1 k y (dvr x y) (y / dvr x y) ML.out MC.out HY.out (sz_dvr HY.out (by have := HC.out; omega)) hk (dvr_ne (by have := HC.out; omega)) (dvr_right x y) HNb.out HD.out).mono ?_
  rintro e w4 ⟨A5, n5, c5, g5, A6, n6, c6, rfl, hL5, hb5⟩
  obtain ⟨nq, hnq⟩ : ∃ b, decide (y / dvr x y < 0) = b := ⟨_, rfl⟩
  rw [hnq]
  have HNq := Lib.hid hnq
  have PQ := Lib.hid ((Pr.new w4 _ rfl (.bool nq) (.slice A5 n5 c5) 24).alloc (.cells #[.bool g5, .slice A6 n6 c6] 24))
  have P7' := Lib.hid (((P7.out.via hb5).alloc (.cells #[.bool nq, .slice A5 n5 c5] 24)).alloc (.cells #[.bool g5, .slice A6 n6 c6] 24))
  have QR := Lib.hid (((KR.out.via hb5).alloc (.cells #[.bool nq, .slice A5 n5 c5] 24)).alloc (.cells #[.bool g5, .slice A6 n6 c6] 24))
  have M5 := Lib.hid ((hL5.box (.cells #[.bool nq, .slice A5 n5 c5] 24)).box (.cells #[.bool g5, .slice A6 n6 c6] 24))
  have M7 := Lib.hid (((M3.out.via hb5).box (.cells #[.bool nq, .slice A5 n5 c5] 24)).box (.cells #[.bool g5, .slice A6 n6 c6] 24))
  have B5 := Lib.hid (((B3.out.trans (hb5.mono B3.out.size)).alloc (B3.out.trans (hb5.mono B3.out.size)).size (.cells #[.bool nq, .slice A5 n5 c5] 24)).alloc ((B3.out.trans (hb5.mono B3.out.size)).alloc (B3.out.trans (hb5.mono B3.out.size)).size (.cells #[.bool nq, .slice A5 n5 c5] 24)).size (.cells #[.bool g5, .slice A6 n6 c6] 24))
  have ⟨s0, s1, _, _, sl⟩ := P7'.out
  have ⟨u0, u1, _, _, ul⟩ := PQ.out
  have ⟨r0, r1, r2, r3, rf0, rf1, rf2, rf3, rl⟩ := QR.out
  clear hnq hb5 hL5 P7 KB KG KR ML MC M3 B3
  go_wp2
  exact post_f1 Tryz.results15 rfl rfl (QR.out.set (.bool np) (.slice A3 n3 c3) (.bool nq) (.slice A5 n5 c5)) ⟨A3, n3, c3, A5, n5, c5, by rw [HNp.out, HNq.out], M7.out.put4 QR.out _ _ _ _, M5.out.put4 QR.out _ _ _ _, below_put4 B5.out (by omega) _ _ _ _⟩
set_option maxRecDepth 100000 in
set_option maxHeartbeats 2000000 in
theorem rreduced_neg (w : World) (A B : Option Addr) (n m ca cb k : Nat) (x y : Int) (hA : Lm w w.heap.size A n ca (digs x.natAbs)) (hB : Lm w w.heap.size B m cb (digs y.natAbs)) (hx : Sz k x) (hy : Sz k y) (hk : k ≤ 2000) {na nb : Bool} (ha : decide (x < 0) = na) (hb : decide (y < 0) = nb) (hs : y < 0) :
    Calls Tryz.prog 15 #[.agg #[.bool na, .slice A n ca], .agg #[.bool nb, .slice B m cb]] w (RFr w (x / dvr x y) (y / dvr x y)) := by
  have HA := Lib.hid hA
  have HB := Lib.hid hB
  have HX := Lib.hid hx
  have HY := Lib.hid hy
  have HC := Lib.hid hs
  obtain rfl : nb = true := by rw [← hb]; exact decide_eq_true hs
  have HNa := Lib.hid ha
  have HNb := Lib.hid hb
  clear hA hB hx hy ha hb hs
  go_enter Tryz.func15, Tryz.ntmps15
  go_wp2_with fail
  refine (rgcd_n2 _ A B n m ca cb k x y (((HA.out.box _).box _).box _) (((HB.out.box _).box _).box _) HX.out HY.out hk HNa.out HNb.out).mono ?_
  rintro e w1 ⟨A1, n1, c1, rfl, hL1, hb1⟩
  have PA := Lib.hid (((((Pr.new w _ rfl (.bool na) (.slice A n ca) 24).alloc (.cells #[.bool true, .slice B m cb] 24)).alloc (.cells #[.bool false, .slice none 0 0, .bool false, .slice none 0 0] 26)).via hb1).alloc (.cells #[.bool false, .slice A1 n1 c1] 24))
  have PB := Lib.hid ((((Pr.new (w.alloc (.cells #[.bool na, .slice A n ca] 24)) (w.heap.size + 1) (by simp) (.bool true) (.slice B m cb) 24).alloc (.cells #[.bool false, .slice none 0 0, .bool false, .slice none 0 0] 26)).via hb1).alloc (.cells #[.bool false, .slice A1 n1 c1] 24))
  have QR := Lib.hid (((Qd.new ((w.alloc (.cells #[.bool na, .slice A n ca] 24)).alloc (.cells #[.bool true, .slice B m cb] 24)) (w.heap.size + 1 + 1) (by simp) (.bool false) (.slice none 0 0) (.bool false) (.slice none 0 0) 26).via hb1).alloc (.cells #[.bool false, .slice A1 n1 c1] 24))
  have PG := Lib.hid (Pr.new w1 _ rfl (.bool false) (.slice A1 n1 c1) 24)
  have LA := Lib.hid (((((HA.out.box _).box _).box _).via hb1).box (.cells #[.bool false, .slice A1 n1 c1] 24))
  have LB := Lib.hid (((((HB.out.box _).box _).box _).via hb1).box (.cells #[.bool false, .slice A1 n1 c1] 24))
  have L1 := Lib.hid (hL1.box (.cells #[.bool false, .slice A1 n1 c1] 24))
  have B1 := Lib.hid ((bbox (bbox (bbox hb1))).alloc (bbox (bbox (bbox hb1))).size (.cells #[.bool false, .slice A1 n1 c1] 24))
  have ⟨x0, x1, _, _, xl⟩ := ((((Pr.new w _ rfl (.bool na) (.slice A n ca) 24).alloc (.cells #[.bool true, .slice B m cb] 24)).alloc (.cells #[.bool false, .slice none 0 0, .bool false, .slice none 0 0] 26)).via hb1)
  have hg : w.heap.size + 1 + 1 < w1.heap.size := by have := hb1.size; simp only [World.size_alloc] at this; omega
  have ⟨y0, y1, _, _, yl⟩ := (((Pr.new (w.alloc (.cells #[.bool na, .slice A n ca] 24)) (w.heap.size + 1) (by simp) (.bool true) (.slice B m cb) 24).alloc (.cells #[.bool false, .slice none 0 0, .bool false, .slice none 0 0] 26)).via hb1)
  clear hb1 hL1 HA HB
  go_wp2_with fail
  clear y0 y1 yl x0 x1 xl
  generalize w1.alloc (.cells #[.bool false, .slice A1 n1 c1] 24) = W1 at *
  generalize w1.heap.size = g at *
  have hg0 : Sz k (Nat.gcd x.natAbs y.natAbs : Int) := sz_gcd2 HY.out (by have := HC.out; omega)
  have HG := Lib.hid hg0
  have hdg : decide ((Nat.gcd x.natAbs y.natAbs : Int) < 0) = false := by simp
  have HDG := Lib.hid hdg
  have HD : Hid (decide (-(Nat.gcd x.natAbs y.natAbs : Int) < 0) = true) := by
    show _ = _
    have := HC.out
    have h : 0 < Nat.gcd x.natAbs y.natAbs := Nat.gcd_pos_of_pos_right _ (by omega)
    simp
    omega
  have HE : Hid (dvr x y = -(Nat.gcd x.natAbs y.natAbs : Int)) := by
    show _ = _
    have := HC.out
    unfold dvr
    rw [if_pos this]
  clear hg0 hdg
  refine (rneg_n2 _ A1 n1 c1 k (Nat.gcd x.natAbs y.natAbs : Int) L1.out HG.out hk HDG.out).mono ?_
  rintro e w2 ⟨A2, n2, c2, rfl, hL2, hb2⟩
  rw [HD.out]
  rw [← HE.out] at hL2 HD
  have P6 := PG.out.via hb2
  have KA := Lib.hid ((PA.out.via hb2).far (h := g) (by omega) (.bool true) (.slice A2 n2 c2))
  have KB := Lib.hid ((PB.out.via hb2).far (h := g) (by omega) (.bool true) (.slice A2 n2 c2))
  have KR := Lib.hid ((QR.out.via hb2).far2 (h := g) (x := .bool true) (y := .slice A2 n2 c2) (by omega))
  have ML := Lib.hid ((LA.out.via hb2).setP P6 (.bool true) (.slice A2 n2 c2))
  have MB := Lib.hid ((LB.out.via hb2).setP P6 (.bool true) (.slice A2 n2 c2))
  have LC := Lib.hid (hL2.setP P6 (.bool true) (.slice A2 n2 c2))
  have KG := Lib.hid (P6.set (.bool true) (.slice A2 n2 c2))
  have BL := Lib.hid (below_set2 (B1.out.trans (hb2.mono B1.out.size)) (g := g) (by omega) (.bool true) (.slice A2 n2 c2))
  have ⟨p0, p1, pf0, pf1, pl⟩ := P6
  have ⟨a0, a1, _, _, al⟩ := PA.out.via hb2
  clear hL2 hb2 PA PB QR LA LB L1 PG B1 P6
  go_wp2_with fail
  clear p0 p1 pf0 pf1 pl a0 a1 al
  generalize (w2.setCell ⟨g, 0, none⟩ (.bool true)).setCell ⟨g, 1, none⟩ (.slice A2 n2 c2) = W2 at *
  have PA := KA
  have PB := KB
  have QR := KR
  have LA := ML
  have LB := MB
  have PG := KG
  clear KA KB KR ML MB KG
  refine (rdiv_x _ A A2 n n2 ca c2 k x (dvr x y) (x / dvr x y) LA.out LC.out HX.out (sz_dvr HY.out (by have := HC.out; omega)) hk (dvr_ne (by have := HC.out; omega)) (dvr_left x y) HNa.out HD.out).mono ?_
  rintro e w3 ⟨A3, n3, c3, g3, A4, n4, c4, rfl, hL3, hb3⟩
  obtain ⟨np, hnp⟩ : ∃ b, decide (x / dvr x y < 0) = b := ⟨_, rfl⟩
  rw [hnp]
  have HNp := Lib.hid hnp
  have P7 := Lib.hid ((Pr.new w3 _ rfl (.bool np) (.slice A3 n3 c3) 24).alloc (.cells #[.bool g3, .slice A4 n4 c4] 24))
  have KB := Lib.hid (((PB.out.via hb3).alloc (.cells #[.bool np, .slice A3 n3 c3] 24)).alloc (.cells #[.bool g3, .slice A4 n4 c4] 24))
  have KG := Lib.hid (((PG.out.via hb3).alloc (.cells #[.bool np, .slice A3 n3 c3] 24)).alloc (.cells #[.bool g3, .slice A4 n4 c4] 24))
  have KR := Lib.hid (((QR.out.via hb3).alloc (.cells #[.bool np, .slice A3 n3 c3] 24)).alloc (.cells #[.bool g3, .slice A4 n4 c4] 24))
  have ML := Lib.hid (((LB.out.via hb3).box (.cells #[.bool np, .slice A3 n3 c3] 24)).box (.cells #[.bool g3, .slice A4 n4 c4] 24))
  have MC := Lib.hid (((LC.out.via hb3).box (.cells #[.bool np, .slice A3 n3 c3] 24)).box (.cells #[.bool g3, .slice A4 n4 c4] 24))
  have M3 := Lib.hid ((hL3.box (.cells #[.bool np, .slice A3 n3 c3] 24)).box (.cells #[.bool g3, .slice A4 n4 c4] 24))
  have B3 := Lib.hid (((BL.out.trans (hb3.mono BL.out.size)).alloc (BL.out.trans (hb3.mono BL.out.size)).size (.cells #[.bool np, .slice A3 n3 c3] 24)).alloc ((BL.out.trans (hb3.mono BL.out.size)).alloc (BL.out.trans (hb3.mono BL.out.size)).size (.cells #[.bool np, .slice A3 n3 c3] 24)).size (.cells #[.bool g3, .slice A4 n4 c4] 24))
  have ⟨b0, b1, _, _, bl⟩ := KB.out
  have ⟨p0, p1, _, _, pl⟩ := KG.out
  clear hnp hb3 hL3 PA PB PG QR LA LB LC BL
  go_wp2_with fail
  clear b0 b1 bl p0 p1 pl
  generalize (w3.alloc (.cells #[.bool np, .slice A3 n3 c3] 24)).alloc (.cells #[.bool g3, .slice A4 n4 c4] 24) = W3 at *
  generalize w3.heap.size = h3 at *
  refine (rdiv_x _ B A2 m n2 cb c2 k y (dvr x y) (y / dvr x y) ML.out MC.out HY.out (sz_dvr HY.out (by have := HC.out; omega)) hk (dvr_ne (by have := HC.out; omega)) (dvr_right x y) HNb.out HD.out).mono ?_
  rintro e w4 ⟨A5, n5, c5, g5, A6, n6, c6, rfl, hL5, hb5⟩
  obtain ⟨nq, hnq⟩ : ∃ b, decide (y / dvr x y < 0) = b := ⟨_, rfl⟩
  rw [hnq]
  have HNq := Lib.hid hnq
  have PQ := Lib.hid ((Pr.new w4 _ rfl (.bool nq) (.slice A5 n5 c5) 24).alloc (.cells #[.bool g5, .slice A6 n6 c6] 24))
  have P7' := Lib.hid (((P7.out.via hb5).alloc (.cells #[.bool nq, .slice A5 n5 c5] 24)).alloc (.cells #[.bool g5, .slice A6 n6 c6] 24))
  have QR := Lib.hid (((KR.out.via hb5).alloc (.cells #[.bool nq, .slice A5 n5 c5] 24)).alloc (.cells #[.bool g5, .slice A6 n6 c6] 24))
  have M5 := Lib.hid ((hL5.box (.cells #[.bool nq, .slice A5 n5 c5] 24)).box (.cells #[.bool g5, .slice A6 n6 c6] 24))
  have M7 := Lib.hid (((M3.out.via hb5).box (.cells #[.bool nq, .slice A5 n5 c5] 24)).box (.cells #[.bool g5, .slice A6 n6 c6] 24))
  have B5 := Lib.hid (((B3.out.trans (hb5.mono B3.out.size)).alloc (B3.out.trans (hb5.mono B3.out.size)).size (.cells #[.bool nq, .slice A5 n5 c5] 24)).alloc ((B3.out.trans (hb5.mono B3.out.size)).alloc (B3.out.trans (hb5.mono B3.out.size)).size (.cells #[.bool nq, .slice A5 n5 c5] 24)).size (.cells #[.bool g5, .slice A6 n6 c6] 24))
  have ⟨s0, s1, _, _, sl⟩ := P7'.out
  have ⟨u0, u1, _, _, ul⟩ := PQ.out
  have ⟨r0, r1, r2, r3, rf0, rf1, rf2, rf3, rl⟩ := QR.out
  clear hnq hb5 hL5 P7 KB KG KR ML MC M3 B3
  go_wp2
  exact post_f1 Tryz.results15 rfl rfl (QR.out.set (.bool np) (.slice A3 n3 c3) (.bool nq) (.slice A5 n5 c5)) ⟨A3, n3, c3, A5, n5, c5, by rw [HNp.out, HNq.out], M7.out.put4 QR.out _ _ _ _, M5.out.put4 QR.out _ _ _ _, below_put4 B5.out (by omega) _ _ _ _⟩
end Go.Proofs.YtkendkbicafdgaaGreatDoor

/- Make and Of on both sides. -/
namespace Go.Proofs.YtkendkbicafdgaaGreatDoor
open Go.RowKit

/-- A call returns a fraction that reads so, and an error; what was there is kept. -/
def RG (w : World) (np : Bool) (xs : List Nat) (nq : Bool) (ys : List Nat) (err : Int) (e : Ending) (w' : World) : Prop := ∃ A n c B m c', e = .returned (.tuple #[fv np A n c nq B m c', .int .i64 err]) ∧ Lm w' w'.heap.size A n c xs ∧ Lm w' w'.heap.size B m c' ys ∧ Below w.heap.size w w'
theorem rfe_rg {w : World} {p q : Int} {e : Ending} {w' : World} (h : RFE w p q e w') : RG w (decide (p < 0)) (digs p.natAbs) (decide (q < 0)) (digs q.natAbs) 0 e w' := h
theorem rfx_rg {w : World} {x : Int} {e : Ending} {w' : World} (h : RFX w x e w') : RG w false [] false [] x e w' := ⟨none, 0, 0, none, 0, 0, h.1, Lm.nil _ _, Lm.nil _ _, h.2⟩

set_option maxRecDepth 100000 in
set_option maxHeartbeats 1000000 in
theorem make_g (w : World) (na nb : Bool) (A B : Option Addr) (n m ca cb : Nat) (xs ys : List Nat) (hA : Lm w w.heap.size A n ca xs) (hB : Lm w w.heap.size B m cb ys) (np nq : Bool) (l1 l2 : List Nat) (err : Int)
    (H : ∀ W, Lm W W.heap.size A n ca xs → Lm W W.heap.size B m cb ys → Calls Tryz.prog 30 #[.func (.func 33) #[fv na A n ca nb B m cb] #[]] W (RG W np l1 nq l2 err)) :
    Calls Tryz.prog 45 #[.agg #[.bool na, .slice A n ca], .agg #[.bool nb, .slice B m cb]] w (RG w np l1 nq l2 err) := by
  have hmf : ∀ (fn : Fn) (first cap : Array Value) (w : World), (Instr.makeFunc fn first cap).run Tryz.prog w = .ok (.func fn first cap) w := fun _ _ _ _ => rfl
  have HH := Lib.hid H
  have HA := Lib.hid hA
  have HB := Lib.hid hB
  clear H hA hB
  go_enter Tryz.func45, Tryz.ntmps45
  go_wp2_with fail
  refine (HH.out _ (((HA.out.box _).box _).box _) (((HB.out.box _).box _).box _)).mono ?_
  rintro e w1 ⟨A1, n1, c1, B1, m1, d1, rfl, hL, hM, hb⟩
  have Q := Lib.hid ((Qd.new ((w.alloc (.cells #[.bool na, .slice A n ca] 24)).alloc (.cells #[.bool nb, .slice B m cb] 24)) (w.heap.size + 1 + 1) (by simp) (.bool false) (.slice none 0 0) (.bool false) (.slice none 0 0) 26).via hb)
  have L1 := Lib.hid hL
  have M1 := Lib.hid hM
  have BB := Lib.hid (bbox (bbox (bbox hb)))
  have ⟨q0, q1, q2, q3, f0, f1, f2, f3, ql⟩ := Q.out
  clear hL hM hb
  go_wp2
  exact post_f Tryz.results45 rfl rfl (Q.out.set (.bool np) (.slice A1 n1 c1) (.bool nq) (.slice B1 m1 d1)) ⟨A1, n1, c1, B1, m1, d1, rfl, L1.out.put4 Q.out _ _ _ _, M1.out.put4 Q.out _ _ _ _, below_put4 BB.out (by omega) _ _ _ _⟩

set_option maxRecDepth 100000 in
set_option maxHeartbeats 1000000 in
theorem of_g (w : World) (a b : Int) (ha1 : -9223372036854775808 ≤ a) (ha2 : a ≤ 9223372036854775807) (hb1 : -9223372036854775808 ≤ b) (hb2 : b ≤ 9223372036854775807) (np nq : Bool) (l1 l2 : List Nat) (err : Int)
    (H : ∀ W (A B : Option Addr) (n m ca cb : Nat), Lm W W.heap.size A n ca (digs a.natAbs) → Lm W W.heap.size B m cb (digs b.natAbs) → Calls Tryz.prog 45 #[.agg #[.bool (decide (a < 0)), .slice A n ca], .agg #[.bool (decide (b < 0)), .slice B m cb]] W (RG W np l1 nq l2 err)) :
    Calls Tryz.prog 19 #[.int .i64 a, .int .i64 b] w (RG w np l1 nq l2 err) := by
  obtain ⟨na, hna⟩ : ∃ z, decide (a < 0) = z := ⟨_, rfl⟩
  obtain ⟨nb, hnb⟩ : ∃ z, decide (b < 0) = z := ⟨_, rfl⟩
  rw [hna, hnb] at H
  have HNa := Lib.hid hna
  have HNb := Lib.hid hnb
  have HH := Lib.hid H
  clear H hna hnb
  go_enter Tryz.func19, Tryz.ntmps19
  go_wp2_with fail
  refine (from_any _ a ha1 ha2).mono ?_
  rintro e w1 ⟨A1, n1, c1, rfl, hL1, h1⟩
  rw [HNa.out]
  have Q := Lib.hid ((Qd.new w _ rfl (.bool false) (.slice none 0 0) (.bool false) (.slice none 0 0) 26).via h1)
  have L1 := Lib.hid hL1
  have B1 := Lib.hid (bbox h1)
  clear hL1 h1
  go_wp2_with fail
  refine (from_any _ b hb1 hb2).mono ?_
  rintro e w2 ⟨A2, n2, c2, rfl, hL2, h2⟩
  rw [HNb.out]
  have Q2 := Lib.hid (Q.out.via h2)
  have L12 := Lib.hid (L1.out.via h2)
  have L2 := Lib.hid hL2
  have B2 := Lib.hid (btr B1.out h2)
  clear hL2 h2 Q L1 B1
  go_wp2_with fail
  refine (HH.out _ _ _ _ _ _ _ L12.out L2.out).mono ?_
  rintro e w3 ⟨A3, n3, c3, B3, m3, d3, rfl, hL3, hM3, h3⟩
  have Q := Lib.hid (Q2.out.via h3)
  have L3 := Lib.hid hL3
  have M3 := Lib.hid hM3
  have BB := Lib.hid (btr B2.out h3)
  have ⟨q0, q1, q2, q3, f0, f1, f2, f3, ql⟩ := Q.out
  clear hL3 hM3 h3 Q2 L12 L2 B2
  go_wp2
  exact post_f Tryz.results19 rfl rfl (Q.out.set (.bool np) (.slice A3 n3 c3) (.bool nq) (.slice B3 m3 d3)) ⟨A3, n3, c3, B3, m3, d3, rfl, L3.out.put4 Q.out _ _ _ _, M3.out.put4 Q.out _ _ _ _, below_put4 BB.out (Nat.le_refl _) _ _ _ _⟩

set_option maxRecDepth 100000 in
set_option maxHeartbeats 1000000 in
theorem rof_g (w : World) (a b : Int) (ha1 : -9223372036854775808 ≤ a) (ha2 : a ≤ 9223372036854775807) (hb1 : -9223372036854775808 ≤ b) (hb2 : b ≤ 9223372036854775807) (np nq : Bool) (l1 l2 : List Nat) (err : Int)
    (H : ∀ W (A B : Option Addr) (n m ca cb : Nat), Lm W W.heap.size A n ca (digs a.natAbs) → Lm W W.heap.size B m cb (digs b.natAbs) → Calls Tryz.prog 79 #[.agg #[.bool (decide (a < 0)), .slice A n ca], .agg #[.bool (decide (b < 0)), .slice B m cb]] W (RG W np l1 nq l2 err)) :
    Calls Tryz.prog 43 #[.int .i64 a, .int .i64 b] w (RG w np l1 nq l2 err) := by
  obtain ⟨na, hna⟩ : ∃ z, decide (a < 0) = z := ⟨_, rfl⟩
  obtain ⟨nb, hnb⟩ : ∃ z, decide (b < 0) = z := ⟨_, rfl⟩
  rw [hna, hnb] at H
  have HNa := Lib.hid hna
  have HNb := Lib.hid hnb
  have HH := Lib.hid H
  clear H hna hnb
  go_enter Tryz.func43, Tryz.ntmps43
  go_wp2_with fail
  refine (rfrom_any _ a ha1 ha2).mono ?_
  rintro e w1 ⟨A1, n1, c1, rfl, hL1, h1⟩
  rw [HNa.out]
  have Q := Lib.hid ((Qd.new w _ rfl (.bool false) (.slice none 0 0) (.bool false) (.slice none 0 0) 26).via h1)
  have L1 := Lib.hid hL1
  have B1 := Lib.hid (bbox h1)
  clear hL1 h1
  go_wp2_with fail
  refine (rfrom_any _ b hb1 hb2).mono ?_
  rintro e w2 ⟨A2, n2, c2, rfl, hL2, h2⟩
  rw [HNb.out]
  have Q2 := Lib.hid (Q.out.via h2)
  have L12 := Lib.hid (L1.out.via h2)
  have L2 := Lib.hid hL2
  have B2 := Lib.hid (btr B1.out h2)
  clear hL2 h2 Q L1 B1
  go_wp2_with fail
  refine (HH.out _ _ _ _ _ _ _ L12.out L2.out).mono ?_
  rintro e w3 ⟨A3, n3, c3, B3, m3, d3, rfl, hL3, hM3, h3⟩
  have Q := Lib.hid (Q2.out.via h3)
  have L3 := Lib.hid hL3
  have M3 := Lib.hid hM3
  have BB := Lib.hid (btr B2.out h3)
  have ⟨q0, q1, q2, q3, f0, f1, f2, f3, ql⟩ := Q.out
  clear hL3 hM3 h3 Q2 L12 L2 B2
  go_wp2
  exact post_f Tryz.results43 rfl rfl (Q.out.set (.bool np) (.slice A3 n3 c3) (.bool nq) (.slice B3 m3 d3)) ⟨A3, n3, c3, B3, m3, d3, rfl, L3.out.put4 Q.out _ _ _ _, M3.out.put4 Q.out _ _ _ _, below_put4 BB.out (Nat.le_refl _) _ _ _ _⟩

set_option maxRecDepth 100000 in
set_option maxHeartbeats 1000000 in
theorem rmake_nbad (w : World) (na nb : Bool) (A B : Option Addr) (n m ca cb : Nat) (xs ys : List Nat) (hA : Lm w w.heap.size A n ca xs) (hB : Lm w w.heap.size B m cb ys) (hn : chk na xs = 8) :
    Calls Tryz.prog 79 #[.agg #[.bool na, .slice A n ca], .agg #[.bool nb, .slice B m cb]] w (RG w false [] false [] 8) := by
  have HA := Lib.hid hA
  have HB := Lib.hid hB
  have HN := Lib.hid hn
  clear hn
  clear hA hB
  go_enter Tryz.func79, Tryz.ntmps79
  go_wp2_with fail
  refine (rcheck_bad _ na A n ca xs (((HA.out.box _).box _).box _) HN.out).mono ?_
  rintro e w1 ⟨rfl, hb1⟩
  have PA := Lib.hid ((((Pr.new w _ rfl (.bool na) (.slice A n ca) 24).alloc (.cells #[.bool nb, .slice B m cb] 24)).alloc (.cells #[.bool false, .slice none 0 0, .bool false, .slice none 0 0] 26)).via hb1)
  have PB := Lib.hid (((Pr.new (w.alloc (.cells #[.bool na, .slice A n ca] 24)) (w.heap.size + 1) (by simp) (.bool nb) (.slice B m cb) 24).alloc (.cells #[.bool false, .slice none 0 0, .bool false, .slice none 0 0] 26)).via hb1)
  have QR := Lib.hid ((Qd.new ((w.alloc (.cells #[.bool na, .slice A n ca] 24)).alloc (.cells #[.bool nb, .slice B m cb] 24)) (w.heap.size + 1 + 1) (by simp) (.bool false) (.slice none 0 0) (.bool false) (.slice none 0 0) 26).via hb1)
  have LA := Lib.hid ((((HA.out.box _).box _).box _).via hb1)
  have LB := Lib.hid ((((HB.out.box _).box _).box _).via hb1)
  have B1 := Lib.hid (bbox (bbox (bbox hb1)))
  clear hb1 HA HB
  have ⟨q0, q1, q2, q3, f0, f1, f2, f3, ql⟩ := QR.out
  go_wp2
  exact post_f Tryz.results79 rfl rfl (QR.out.set (.bool false) (.slice none 0 0) (.bool false) (.slice none 0 0)) ⟨none, 0, 0, none, 0, 0, rfl, Lm.nil _ _, Lm.nil _ _, below_put4 B1.out (by omega) _ _ _ _⟩

set_option maxRecDepth 100000 in
set_option maxHeartbeats 1000000 in
theorem rmake_dbad (w : World) (na nb : Bool) (A B : Option Addr) (n m ca cb : Nat) (xs ys : List Nat) (hA : Lm w w.heap.size A n ca xs) (hB : Lm w w.heap.size B m cb ys) (hn : chk na xs = 0) (hd : chk nb ys = 8) :
    Calls Tryz.prog 79 #[.agg #[.bool na, .slice A n ca], .agg #[.bool nb, .slice B m cb]] w (RG w false [] false [] 8) := by
  have HA := Lib.hid hA
  have HB := Lib.hid hB
  have HN := Lib.hid hn
  have HD := Lib.hid hd
  clear hn hd
  clear hA hB
  go_enter Tryz.func79, Tryz.ntmps79
  go_wp2_with fail
  refine (rcheck_ok _ na A n ca xs (((HA.out.box _).box _).box _) HN.out).mono ?_
  rintro e w1 ⟨rfl, hb1⟩
  have PA := Lib.hid ((((Pr.new w _ rfl (.bool na) (.slice A n ca) 24).alloc (.cells #[.bool nb, .slice B m cb] 24)).alloc (.cells #[.bool false, .slice none 0 0, .bool false, .slice none 0 0] 26)).via hb1)
  have PB := Lib.hid (((Pr.new (w.alloc (.cells #[.bool na, .slice A n ca] 24)) (w.heap.size + 1) (by simp) (.bool nb) (.slice B m cb) 24).alloc (.cells #[.bool false, .slice none 0 0, .bool false, .slice none 0 0] 26)).via hb1)
  have QR := Lib.hid ((Qd.new ((w.alloc (.cells #[.bool na, .slice A n ca] 24)).alloc (.cells #[.bool nb, .slice B m cb] 24)) (w.heap.size + 1 + 1) (by simp) (.bool false) (.slice none 0 0) (.bool false) (.slice none 0 0) 26).via hb1)
  have LA := Lib.hid ((((HA.out.box _).box _).box _).via hb1)
  have LB := Lib.hid ((((HB.out.box _).box _).box _).via hb1)
  have B1 := Lib.hid (bbox (bbox (bbox hb1)))
  clear hb1 HA HB
  have ⟨b0, b1, _, _, bl⟩ := PB.out
  go_wp2_with fail
  refine (rcheck_bad _ nb B m cb ys LB.out HD.out).mono ?_
  rintro e w2 ⟨rfl, hb2⟩
  have PA2 := Lib.hid (PA.out.via hb2)
  have PB2 := Lib.hid (PB.out.via hb2)
  have QR2 := Lib.hid (QR.out.via hb2)
  have LA2 := Lib.hid (LA.out.via hb2)
  have LB2 := Lib.hid (LB.out.via hb2)
  have B2 := Lib.hid (btr B1.out hb2)
  clear hb2 PA PB QR LA LB B1 b0 b1 bl
  have QR := QR2
  have B1 := B2
  clear QR2 B2
  have ⟨q0, q1, q2, q3, f0, f1, f2, f3, ql⟩ := QR.out
  go_wp2
  exact post_f Tryz.results79 rfl rfl (QR.out.set (.bool false) (.slice none 0 0) (.bool false) (.slice none 0 0)) ⟨none, 0, 0, none, 0, 0, rfl, Lm.nil _ _, Lm.nil _ _, below_put4 B1.out (by omega) _ _ _ _⟩

set_option maxRecDepth 100000 in
set_option maxHeartbeats 1000000 in
theorem rmake_zero (w : World) (na nb : Bool) (A B : Option Addr) (n m ca cb : Nat) (xs ys : List Nat) (hA : Lm w w.heap.size A n ca xs) (hB : Lm w w.heap.size B m cb ys) (hn : chk na xs = 0) (hd : chk nb ys = 0) (hz : ys = []) :
    Calls Tryz.prog 79 #[.agg #[.bool na, .slice A n ca], .agg #[.bool nb, .slice B m cb]] w (RG w false [] false [] 18) := by
  have HA := Lib.hid hA
  have HB := Lib.hid hB
  subst hz
  obtain rfl : m = 0 := HB.out.len.symm
  have hcc := HB.out.cap
  have hcx := HB.out.max
  have HN := Lib.hid hn
  have HD := Lib.hid hd
  clear hn hd
  clear hA hB
  go_enter Tryz.func79, Tryz.ntmps79
  go_wp2_with fail
  refine (rcheck_ok _ na A n ca xs (((HA.out.box _).box _).box _) HN.out).mono ?_
  rintro e w1 ⟨rfl, hb1⟩
  have PA := Lib.hid ((((Pr.new w _ rfl (.bool na) (.slice A n ca) 24).alloc (.cells #[.bool nb, .slice B 0 cb] 24)).alloc (.cells #[.bool false, .slice none 0 0, .bool false, .slice none 0 0] 26)).via hb1)
  have PB := Lib.hid (((Pr.new (w.alloc (.cells #[.bool na, .slice A n ca] 24)) (w.heap.size + 1) (by simp) (.bool nb) (.slice B 0 cb) 24).alloc (.cells #[.bool false, .slice none 0 0, .bool false, .slice none 0 0] 26)).via hb1)
  have QR := Lib.hid ((Qd.new ((w.alloc (.cells #[.bool na, .slice A n ca] 24)).alloc (.cells #[.bool nb, .slice B 0 cb] 24)) (w.heap.size + 1 + 1) (by simp) (.bool false) (.slice none 0 0) (.bool false) (.slice none 0 0) 26).via hb1)
  have LA := Lib.hid ((((HA.out.box _).box _).box _).via hb1)
  have LB := Lib.hid ((((HB.out.box _).box _).box _).via hb1)
  have B1 := Lib.hid (bbox (bbox (bbox hb1)))
  clear hb1 HA HB
  have ⟨b0, b1, _, _, bl⟩ := PB.out
  go_wp2_with fail
  refine (rcheck_ok _ nb B 0 cb [] LB.out HD.out).mono ?_
  rintro e w2 ⟨rfl, hb2⟩
  have PA2 := Lib.hid (PA.out.via hb2)
  have PB2 := Lib.hid (PB.out.via hb2)
  have QR2 := Lib.hid (QR.out.via hb2)
  have LA2 := Lib.hid (LA.out.via hb2)
  have LB2 := Lib.hid (LB.out.via hb2)
  have B2 := Lib.hid (btr B1.out hb2)
  clear hb2 PA PB QR LA LB B1 b0 b1 bl
  have QR := QR2
  have B1 := B2
  clear QR2 B2
  have ⟨b0, b1, _, _, bl⟩ := PB2.out
  have ⟨q0, q1, q2, q3, f0, f1, f2, f3, ql⟩ := QR.out
  go_wp2
  exact post_f Tryz.results79 rfl rfl (QR.out.set (.bool false) (.slice none 0 0) (.bool false) (.slice none 0 0)) ⟨none, 0, 0, none, 0, 0, rfl, Lm.nil _ _, Lm.nil _ _, below_put4 B1.out (by omega) _ _ _ _⟩

set_option maxRecDepth 100000 in
set_option maxHeartbeats 1000000 in
theorem rmake_ok (w : World) (na nb : Bool) (A B : Option Addr) (n m ca cb : Nat) (xs ys : List Nat) (hA : Lm w w.heap.size A n ca xs) (hB : Lm w w.heap.size B m cb ys) (hn : chk na xs = 0) (hd : chk nb ys = 0) (hz : ys ≠ []) (p q : Int) (H : ∀ W, Lm W W.heap.size A n ca xs → Lm W W.heap.size B m cb ys → Calls Tryz.prog 15 #[.agg #[.bool na, .slice A n ca], .agg #[.bool nb, .slice B m cb]] W (RFr W p q)) :
    Calls Tryz.prog 79 #[.agg #[.bool na, .slice A n ca], .agg #[.bool nb, .slice B m cb]] w (RG w (decide (p < 0)) (digs p.natAbs) (decide (q < 0)) (digs q.natAbs) 0) := by
  have HA := Lib.hid hA
  have HB := Lib.hid hB
  have hm0 : 0 < m := by
    rcases Nat.eq_zero_or_pos m with h | h
    · exact absurd (List.eq_nil_of_length_eq_zero (by rw [HB.out.len]; exact h)) hz
    · exact h
  have hmz : ((m : Int) == 0) = false := by simp; omega
  have hcc := HB.out.cap
  have hcx := HB.out.max
  have HH := Lib.hid H
  clear H hz
  have HN := Lib.hid hn
  have HD := Lib.hid hd
  clear hn hd
  clear hA hB
  go_enter Tryz.func79, Tryz.ntmps79
  go_wp2_with fail
  refine (rcheck_ok _ na A n ca xs (((HA.out.box _).box _).box _) HN.out).mono ?_
  rintro e w1 ⟨rfl, hb1⟩
  have PA := Lib.hid ((((Pr.new w _ rfl (.bool na) (.slice A n ca) 24).alloc (.cells #[.bool nb, .slice B m cb] 24)).alloc (.cells #[.bool false, .slice none 0 0, .bool false, .slice none 0 0] 26)).via hb1)
  have PB := Lib.hid (((Pr.new (w.alloc (.cells #[.bool na, .slice A n ca] 24)) (w.heap.size + 1) (by simp) (.bool nb) (.slice B m cb) 24).alloc (.cells #[.bool false, .slice none 0 0, .bool false, .slice none 0 0] 26)).via hb1)
  have QR := Lib.hid ((Qd.new ((w.alloc (.cells #[.bool na, .slice A n ca] 24)).alloc (.cells #[.bool nb, .slice B m cb] 24)) (w.heap.size + 1 + 1) (by simp) (.bool false) (.slice none 0 0) (.bool false) (.slice none 0 0) 26).via hb1)
  have LA := Lib.hid ((((HA.out.box _).box _).box _).via hb1)
  have LB := Lib.hid ((((HB.out.box _).box _).box _).via hb1)
  have B1 := Lib.hid (bbox (bbox (bbox hb1)))
  clear hb1 HA HB
  have ⟨b0, b1, _, _, bl⟩ := PB.out
  go_wp2_with fail
  refine (rcheck_ok _ nb B m cb ys LB.out HD.out).mono ?_
  rintro e w2 ⟨rfl, hb2⟩
  have PA2 := Lib.hid (PA.out.via hb2)
  have PB2 := Lib.hid (PB.out.via hb2)
  have QR2 := Lib.hid (QR.out.via hb2)
  have LA2 := Lib.hid (LA.out.via hb2)
  have LB2 := Lib.hid (LB.out.via hb2)
  have B2 := Lib.hid (btr B1.out hb2)
  clear hb2 PA PB QR LA LB B1 b0 b1 bl
  have QR := QR2
  have B1 := B2
  clear QR2 B2
  have ⟨a0, a1, _, _, al⟩ := PA2.out
  have ⟨b0, b1, _, _, bl⟩ := PB2.out
  go_wp2_with fail
  refine (HH.out _ LA2.out LB2.out).mono ?_
  rintro e w3 ⟨A3, n3, c3, B3, m3, d3, rfl, hL3, hM3, h3⟩
  obtain ⟨np, hnp⟩ : ∃ b, decide (p < 0) = b := ⟨_, rfl⟩
  obtain ⟨nq, hnq⟩ : ∃ b, decide (q < 0) = b := ⟨_, rfl⟩
  rw [hnp, hnq]
  have HNp := Lib.hid hnp
  have HNq := Lib.hid hnq
  have Q3 := Lib.hid (QR.out.via h3)
  have L3 := Lib.hid hL3
  have M3 := Lib.hid hM3
  have BB := Lib.hid (btr B1.out h3)
  have ⟨q0, q1, q2, q3, f0, f1, f2, f3, ql⟩ := Q3.out
  clear hL3 hM3 h3 hnp hnq a0 a1 al b0 b1 bl
  go_wp2
  exact post_f Tryz.results79 rfl rfl (Q3.out.set (.bool np) (.slice A3 n3 c3) (.bool nq) (.slice B3 m3 d3)) ⟨A3, n3, c3, B3, m3, d3, by rw [HNp.out, HNq.out]; rfl, L3.out.put4 Q3.out _ _ _ _, M3.out.put4 Q3.out _ _ _ _, below_put4 BB.out (by omega) _ _ _ _⟩

theorem make_both (na nb : Bool) (xs ys : List Nat) (gx : Good xs) (gy : Good ys) (lx : xs.length ≤ 2000) (ly : ys.length ≤ 2000) : ∃ np l1 nq l2 err,
    (∀ (w : World) (A B : Option Addr) (n m ca cb : Nat), Lm w w.heap.size A n ca xs → Lm w w.heap.size B m cb ys → Calls Tryz.prog 45 #[.agg #[.bool na, .slice A n ca], .agg #[.bool nb, .slice B m cb]] w (RG w np l1 nq l2 err)) ∧
    (∀ (w : World) (A B : Option Addr) (n m ca cb : Nat), Lm w w.heap.size A n ca xs → Lm w w.heap.size B m cb ys → Calls Tryz.prog 79 #[.agg #[.bool na, .slice A n ca], .agg #[.bool nb, .slice B m cb]] w (RG w np l1 nq l2 err)) := by
  have hcf : ∀ (v : Value) (W : World), (callFunc 33 (#[v] ++ #[])).run Tryz.prog W = .ok (.enter 33 (#[v] ++ #[])) W := fun v W => by go_simp
  rcases chkB_cases na xs nb ys with hv | hv
  · have hn := (chkB_ok.1 hv).1
    have hd := (chkB_ok.1 hv).2
    obtain ⟨x, hx1, hx2, hx3⟩ := of_chk hn gx lx
    obtain ⟨y, hy1, hy2, hy3⟩ := of_chk hd gy ly
    rcases Int.lt_trichotomy y 0 with h | h | h
    · refine ⟨_, _, _, _, _, fun w A B n m ca cb hA hB => make_g w na nb A B n m ca cb xs ys hA hB _ _ _ _ _ fun W h1 h2 => (attempt_ok W 33 #[_] #[] (x / dvr x y) (y / dvr x y) (hcf _) ?_).mono fun e w' hr => rfe_rg hr, fun w A B n m ca cb hA hB => rmake_ok w na nb A B n m ca cb xs ys hA hB hn hd ?_ (x / dvr x y) (y / dvr x y) fun W h1 h2 => ?_⟩
      · have i1 := h1.via (wat_below W)
        have i2 := h2.via (wat_below W)
        rw [hx2] at i1
        rw [hy2] at i2
        exact reduced_neg (Wat W) A B n m ca cb 2000 x y i1 i2 hx3 hy3 (Nat.le_refl _) hx1.symm hy1.symm h
      · rw [hy2, Ne, digs_nil]; omega
      · rw [hx2] at h1
        rw [hy2] at h2
        exact rreduced_neg W A B n m ca cb 2000 x y h1 h2 hx3 hy3 (Nat.le_refl _) hx1.symm hy1.symm h
    · refine ⟨_, _, _, _, _, fun w A B n m ca cb hA hB => make_g w na nb A B n m ca cb xs ys hA hB _ _ _ _ _ fun W h1 h2 => (attempt_no W 33 #[_] #[] 18 (hcf _) ?_).mono fun e w' hr => rfx_rg hr, fun w A B n m ca cb hA hB => rmake_zero w na nb A B n m ca cb xs ys hA hB hn hd ?_⟩
      · have i1 := h1.via (wat_below W)
        have i2 := h2.via (wat_below W)
        rw [hx2] at i1
        rw [hy2] at i2
        exact reduced_zero (Wat W) A B n m ca cb 2000 x y i1 i2 hx3 hy3 (Nat.le_refl _) hx1.symm hy1.symm h
      · rw [hy2, digs_nil]; omega
    · refine ⟨_, _, _, _, _, fun w A B n m ca cb hA hB => make_g w na nb A B n m ca cb xs ys hA hB _ _ _ _ _ fun W h1 h2 => (attempt_ok W 33 #[_] #[] (x / dvr x y) (y / dvr x y) (hcf _) ?_).mono fun e w' hr => rfe_rg hr, fun w A B n m ca cb hA hB => rmake_ok w na nb A B n m ca cb xs ys hA hB hn hd ?_ (x / dvr x y) (y / dvr x y) fun W h1 h2 => ?_⟩
      · have i1 := h1.via (wat_below W)
        have i2 := h2.via (wat_below W)
        rw [hx2] at i1
        rw [hy2] at i2
        exact reduced_pos (Wat W) A B n m ca cb 2000 x y i1 i2 hx3 hy3 (Nat.le_refl _) hx1.symm hy1.symm h
      · rw [hy2, Ne, digs_nil]; omega
      · rw [hx2] at h1
        rw [hy2] at h2
        exact rreduced_pos W A B n m ca cb 2000 x y h1 h2 hx3 hy3 (Nat.le_refl _) hx1.symm hy1.symm h
  · refine ⟨false, [], false, [], 8, fun w A B n m ca cb hA hB => make_g w na nb A B n m ca cb xs ys hA hB _ _ _ _ _ fun W h1 h2 => (attempt_no W 33 #[_] #[] 8 (hcf _) ?_).mono fun e w' hr => rfx_rg hr, fun w A B n m ca cb hA hB => ?_⟩
    · exact reduced_bad (Wat W) na nb A B n m ca cb xs ys (h1.via (wat_below W)) (h2.via (wat_below W)) hv
    · rcases chk_cases na xs with hn | hn
      · rcases chk_cases nb ys with hd | hd
        · have := chkB_ok.2 ⟨hn, hd⟩
          omega
        · exact rmake_dbad w na nb A B n m ca cb xs ys hA hB hn hd
      · exact rmake_nbad w na nb A B n m ca cb xs ys hA hB hn
end Go.Proofs.YtkendkbicafdgaaGreatDoor

/- Package frac: product, known. -/
namespace Go.Proofs.YtkendkbicafdgaaGreatDoor
open Go.RowKit

/-- A call returns the number z. -/
def RVz (w : World) (z : Int) (e : Ending) (w' : World) : Prop := ∃ A n c, e = .returned (.agg #[.bool (decide (z < 0)), .slice A n c]) ∧ Lm w' w'.heap.size A n c (digs z.natAbs) ∧ Below w.heap.size w w'

set_option maxRecDepth 100000 in
set_option maxHeartbeats 1000000 in
theorem prod_n (w : World) (A B : Option Addr) (n m ca cb k : Nat) (x y : Int) (hA : Lm w w.heap.size A n ca (digs x.natAbs)) (hB : Lm w w.heap.size B m cb (digs y.natAbs)) (hx : Sz k x) (hy : Sz k y) (hk : k ≤ 2000) {na nb : Bool} (ha : decide (x < 0) = na) (hb : decide (y < 0) = nb) :
    Calls Tryz.prog 70 #[.agg #[.bool na, .slice A n ca], .agg #[.bool nb, .slice B m cb]] w (RVz w (x * y)) := by
  have HA := Lib.hid hA
  have HB := Lib.hid hB
  have HX := Lib.hid hx
  have HY := Lib.hid hy
  have HNa := Lib.hid ha
  have HNb := Lib.hid hb
  clear hA hB hx hy ha hb
  go_enter Tryz.func70, Tryz.ntmps70
  go_wp2_with fail
  refine (mul_n _ A B n m ca cb k x y (((HA.out.box _).box _).box _) (((HB.out.box _).box _).box _) HX.out HY.out hk HNa.out HNb.out).mono ?_
  rintro e w1 ⟨A1, n1, c1, rfl, hL1, hb1⟩
  have P := Lib.hid ((Pr.new ((w.alloc (.cells #[.bool na, .slice A n ca] 24)).alloc (.cells #[.bool nb, .slice B m cb] 24)) (w.heap.size + 1 + 1) (by simp) (.bool false) (.slice none 0 0) 24).via hb1)
  have L1 := Lib.hid hL1
  have B1 := Lib.hid (bbox (bbox (bbox hb1)))
  clear hL1 hb1
  obtain ⟨nz, hnz⟩ : ∃ b, decide (x * y < 0) = b := ⟨_, rfl⟩
  rw [hnz]
  have HNz := Lib.hid hnz
  clear hnz
  go_wp2_with fail
  refine (must_ok _ _ _ _ _).mono ?_
  rintro e w2 ⟨rfl, hb2⟩
  have P2 := P.out.via hb2
  have L2 := Lib.hid (L1.out.via hb2)
  have B2 := Lib.hid (btr B1.out hb2)
  have ⟨p0, p1, f0, f1, pl⟩ := P2
  clear hb2
  go_wp2
  exact post_w1 Tryz.results70 rfl rfl (P2.set _ _).c0 (P2.set _ _).c1 ⟨A1, n1, c1, by rw [HNz.out], L2.out.setP P2 _ _, below_set2 B2.out (by omega) _ _⟩

/-- Boxes of ratios lie in four cells like those of fractions. -/
theorem res_r1 {fn : Func} {r : Nat} (hr : fn.results = #[.cell r 59]) {tmps : Array Value} {w : World} {g : Nat} {x0 x1 x2 x3 : Value} (ht : tmps.getD r undef = .pointer (some ⟨g, 0, none⟩))
    (d : Qd w g x0 x1 x2 x3) : (results fn tmps).run Tryz.prog w = .ok (.agg #[x0, x1, x2, x3]) w := by
  have h0 := d.c0; have h1 := d.c1; have h2 := d.c2; have h3 := d.c3
  rw [Array.getD_eq_getD_getElem?] at ht
  simp [results, hr, go_sem, ht, h0, h1, h2, h3]
theorem post_r1 {fn : Func} {r : Nat} (hr : fn.results = #[.cell r 59]) {R : Ending → World → Prop} {a : Act} {w : World} {g : Nat} {x0 x1 x2 x3 : Value} (ht : a.tmps.getD r undef = .pointer (some ⟨g, 0, none⟩))
    (hd : a.defers = []) (d : Qd w g x0 x1 x2 x3) (h : R (.returned (.agg #[x0, x1, x2, x3])) w) : bodyPost Tryz.prog fn R .ret a w :=
  bodyPost_ret (res_r1 hr ht d) hd h
set_option maxRecDepth 100000 in
set_option maxHeartbeats 1000000 in
theorem known_ok (w : World) (nn dn : Bool) (A B : Option Addr) (n m ca cb : Nat) (xs ys : List Nat) (hA : Lm w w.heap.size A n ca xs) (hB : Lm w w.heap.size B m cb ys) (hv : fchk nn xs dn ys = 0) :
    Calls Tryz.prog 57 #[fv nn A n ca dn B m cb] w fun e w' => e = .returned (fv nn A n ca dn B m cb) ∧ Below w.heap.size w w' := by
  have HA := Lib.hid hA
  have HB := Lib.hid hB
  have HV := Lib.hid hv
  clear hA hB hv
  go_enter Tryz.func57, Tryz.ntmps57
  go_wp2_with fail
  refine (fcheck_any _ nn dn A B n m ca cb xs ys ((HA.out.box _).box _) ((HB.out.box _).box _)).mono ?_
  rintro e w1 ⟨rfl, hb1⟩
  rw [HV.out]
  have Q := Lib.hid (((Qd.new w _ rfl (.bool nn) (.slice A n ca) (.bool dn) (.slice B m cb) 26).alloc (.cells #[.bool false, .slice none 0 0, .bool false, .slice none 0 0] 59)).via hb1)
  have R := Lib.hid ((Qd.new (w.alloc (.cells #[.bool nn, .slice A n ca, .bool dn, .slice B m cb] 26)) (w.heap.size + 1) (by simp) (.bool false) (.slice none 0 0) (.bool false) (.slice none 0 0) 59).via hb1)
  have B1 := Lib.hid (bbox (bbox hb1))
  clear hb1
  go_wp2_with fail
  refine (pass_ok _).mono ?_
  rintro e w2 ⟨rfl, rfl⟩
  have ⟨q0, q1, q2, q3, _, _, _, _, ql⟩ := Q.out
  have ⟨r0, r1, r2, r3, f0, f1, f2, f3, rl⟩ := R.out
  go_wp2
  exact post_r1 Tryz.results57 rfl rfl (R.out.set (.bool nn) (.slice A n ca) (.bool dn) (.slice B m cb)) ⟨rfl, below_put4 B1.out (by omega) _ _ _ _⟩
set_option maxRecDepth 100000 in
set_option maxHeartbeats 1000000 in
theorem known_no (w : World) (nn dn : Bool) (A B : Option Addr) (n m ca cb : Nat) (xs ys : List Nat) (hA : Lm w w.heap.size A n ca xs) (hB : Lm w w.heap.size B m cb ys) (hv : fchk nn xs dn ys = 8) :
    Calls Tryz.prog 57 #[fv nn A n ca dn B m cb] w fun e w' => e = Pan 8 ∧ Below w.heap.size w w' := by
  have HA := Lib.hid hA
  have HB := Lib.hid hB
  have HV := Lib.hid hv
  clear hA hB hv
  go_enter Tryz.func57, Tryz.ntmps57
  go_wp2_with fail
  refine (fcheck_any _ nn dn A B n m ca cb xs ys ((HA.out.box _).box _) ((HB.out.box _).box _)).mono ?_
  rintro e w1 ⟨rfl, hb1⟩
  rw [HV.out]
  have B1 := Lib.hid (bbox (bbox hb1))
  clear hb1
  go_wp2_with fail
  refine (pass_no _ 8 (by decide)).mono ?_
  rintro e w2 ⟨rfl, rfl⟩
  unfold Pan
  go_wp2
  exact ⟨rfl, rfl, B1.out⟩
end Go.Proofs.YtkendkbicafdgaaGreatDoor

/- Mathematics of fractions: which divisors a sum of reduced fractions has. No program is named here. -/
namespace Go.Proofs.YtkendkbicafdgaaGreatDoor
theorem cop_of (t : Int) (an bn : Int) (p' q' p : Nat) (ht : t = an * q' + bn * p') (hpq : Nat.gcd p' q' = 1) (hpp : p' ∣ p) (ha : Nat.gcd an.natAbs p = 1) : Nat.Coprime t.natAbs p' := by
  refine Nat.eq_one_of_dvd_one ?_
  have h1 := Nat.gcd_dvd_left t.natAbs p'
  have h2 := Nat.gcd_dvd_right t.natAbs p'
  generalize Nat.gcd t.natAbs p' = d at *
  have i1 : (d : Int) ∣ t := Int.ofNat_dvd_left.2 h1
  have i2 : (d : Int) ∣ (p' : Int) := Int.natCast_dvd_natCast.2 h2
  have i3 : (d : Int) ∣ an * q' := by
    have e : an * q' = t - bn * p' := by omega
    rw [e]
    exact Int.dvd_sub i1 (Int.dvd_mul_of_dvd_right i2)
  have h3 : d ∣ an.natAbs * q' := by
    have := Int.ofNat_dvd_left.1 i3
    rwa [Int.natAbs_mul, Int.natAbs_natCast] at this
  have c : Nat.Coprime d q' := Nat.Coprime.coprime_dvd_left h2 hpq
  have h4 : d ∣ an.natAbs := c.dvd_of_dvd_mul_right h3
  have h5 : d ∣ Nat.gcd an.natAbs p := Nat.dvd_gcd h4 (Nat.dvd_trans h2 hpp)
  rwa [ha] at h5
theorem frac_common (an bn : Int) (p q s : Nat) (hp : 0 < p) (ha : Nat.gcd an.natAbs p = 1) (hb : Nat.gcd bn.natAbs q = 1) (hs : Nat.gcd p q = s) :
    ∃ t : Int, an * q + bn * p = t * s ∧ 0 < s ∧ Nat.gcd (an * q + bn * p).natAbs (p * q) = s * Nat.gcd t.natAbs s := by
  have hs0 : 0 < s := by rw [← hs]; exact Nat.gcd_pos_of_pos_left _ hp
  obtain ⟨p', hp'⟩ : s ∣ p := hs ▸ Nat.gcd_dvd_left p q
  obtain ⟨q', hq'⟩ : s ∣ q := hs ▸ Nat.gcd_dvd_right p q
  have hpq : Nat.gcd p' q' = 1 := by
    have h : s * Nat.gcd p' q' = s * 1 := by rw [← Nat.gcd_mul_left, ← hp', ← hq', hs, Nat.mul_one]
    exact Nat.eq_of_mul_eq_mul_left hs0 h
  refine ⟨an * q' + bn * p', ?_, hs0, ?_⟩
  · rw [hp', hq', Int.natCast_mul, Int.natCast_mul]; grind
  · have c1 := cop_of (an * q' + bn * p') an bn p' q' p rfl hpq ⟨s, by rw [Nat.mul_comm]; exact hp'⟩ ha
    have c2 := cop_of (an * q' + bn * p') bn an q' p' q (by omega) (by rw [Nat.gcd_comm]; exact hpq) ⟨s, by rw [Nat.mul_comm]; exact hq'⟩ hb
    have e : (an * q + bn * p).natAbs = s * (an * q' + bn * p').natAbs := by
      have : an * q + bn * p = s * (an * q' + bn * p') := by rw [hp', hq', Int.natCast_mul, Int.natCast_mul]; grind
      rw [this, Int.natAbs_mul, Int.natAbs_natCast]
    have e2 : p * q = s * (s * (p' * q')) := by
      have h : s * p' * (s * q') = s * (s * (p' * q')) := by grind
      rw [← hp', ← hq'] at h
      exact h
    rw [e, e2, Nat.gcd_mul_left]
    congr 1
    have c := Nat.Coprime.mul_right c1 c2
    exact Nat.Coprime.gcd_mul_right_cancel_right s c.symm
end Go.Proofs.YtkendkbicafdgaaGreatDoor

/- Two copies laid in new boxes, in whatever order. -/
namespace Go.Proofs.YtkendkbicafdgaaGreatDoor
open Go.RowKit

/-- Two slots point to copies of both numbers. -/
def TwinsAt (w2 : World) (na : Bool) (n : Nat) (xs : List Nat) (nb : Bool) (m : Nat) (ys : List Nat) (s5 s6 : Value) (wc : World) : Prop :=
  ∃ gx gy A' c' A'' c'', s5 = .pointer (some ⟨gx, 0, none⟩) ∧ s6 = .pointer (some ⟨gy, 0, none⟩) ∧ Pr wc gx (.bool na) (.slice A' n c') ∧ Pr wc gy (.bool nb) (.slice A'' m c'') ∧ Lm wc wc.heap.size A' n c' xs ∧ Lm wc wc.heap.size A'' m c'' ys ∧ Below w2.heap.size w2 wc

section
variable {w2 w4 : World} {na nb : Bool} {n m : Nat} {xs ys : List Nat} {A3 A4 : Option Addr} {c3 c4 : Nat} {t : TypeId}
theorem fin1 (hB : Below w2.heap.size w2 w4) (L3 : Lm w4 w4.heap.size A3 n c3 xs) (L4 : Lm w4 w4.heap.size A4 m c4 ys) :
    TwinsAt w2 na n xs nb m ys (.pointer (some ⟨w4.heap.size, 0, none⟩)) (.pointer (some ⟨w4.heap.size + 1, 0, none⟩)) ((w4.alloc (.cells #[.bool na, .slice A3 n c3] t)).alloc (.cells #[.bool nb, .slice A4 m c4] t)) :=
  ⟨_, _, A3, c3, A4, c4, rfl, rfl, (Pr.new w4 _ rfl _ _ t).alloc _, Pr.new (w4.alloc _) _ (by simp) _ _ t, (L3.box _).box _, (L4.box _).box _, (hB.alloc hB.size _).alloc (hB.alloc hB.size _).size _⟩
theorem fin2 (hB : Below w2.heap.size w2 w4) (L3 : Lm w4 w4.heap.size A3 n c3 xs) (L4 : Lm w4 w4.heap.size A4 m c4 ys) :
    TwinsAt w2 na n xs nb m ys (.pointer (some ⟨w4.heap.size + 1, 0, none⟩)) (.pointer (some ⟨w4.heap.size, 0, none⟩)) ((w4.alloc (.cells #[.bool nb, .slice A4 m c4] t)).alloc (.cells #[.bool na, .slice A3 n c3] t)) :=
  ⟨_, _, A3, c3, A4, c4, rfl, rfl, Pr.new (w4.alloc _) _ (by simp) _ _ t, (Pr.new w4 _ rfl _ _ t).alloc _, (L3.box _).box _, (L4.box _).box _, (hB.alloc hB.size _).alloc (hB.alloc hB.size _).size _⟩
theorem fin3 {g : Nat} (hB : Below w2.heap.size w2 w4) (L3 : Lm w4 w4.heap.size A3 n c3 xs) (L4 : Lm w4 w4.heap.size A4 m c4 ys) (P : Pr w4 g (.bool false) (.slice none 0 0)) (hg : w2.heap.size ≤ g) :
    TwinsAt w2 na n xs nb m ys (.pointer (some ⟨g, 0, none⟩)) (.pointer (some ⟨w4.heap.size, 0, none⟩)) (((w4.setCell ⟨g, 0, none⟩ (.bool na)).setCell ⟨g, 1, none⟩ (.slice A3 n c3)).alloc (.cells #[.bool nb, .slice A4 m c4] t)) :=
  ⟨_, _, A3, c3, A4, c4, rfl, rfl, (P.set _ _).alloc _, Pr.new _ _ (size_set2 _ _ _ _) _ _ t, (L3.setP P _ _).box _, (L4.setP P _ _).box _, (below_set2 hB hg _ _).alloc (below_set2 hB hg _ _).size _⟩
theorem fin4 {g : Nat} (hB : Below w2.heap.size w2 w4) (L3 : Lm w4 w4.heap.size A3 n c3 xs) (L4 : Lm w4 w4.heap.size A4 m c4 ys) (P : Pr w4 g (.bool false) (.slice none 0 0)) (hg : w2.heap.size ≤ g) :
    TwinsAt w2 na n xs nb m ys (.pointer (some ⟨w4.heap.size, 0, none⟩)) (.pointer (some ⟨g, 0, none⟩)) (((w4.setCell ⟨g, 0, none⟩ (.bool nb)).setCell ⟨g, 1, none⟩ (.slice A4 m c4)).alloc (.cells #[.bool na, .slice A3 n c3] t)) :=
  ⟨_, _, A3, c3, A4, c4, rfl, rfl, Pr.new _ _ (size_set2 _ _ _ _) _ _ t, (P.set _ _).alloc _, (L3.setP P _ _).box _, (L4.setP P _ _).box _, (below_set2 hB hg _ _).alloc (below_set2 hB hg _ _).size _⟩
theorem fin5 {g h : Nat} (hB : Below w2.heap.size w2 w4) (L3 : Lm w4 w4.heap.size A3 n c3 xs) (L4 : Lm w4 w4.heap.size A4 m c4 ys) (P : Pr w4 g (.bool false) (.slice none 0 0)) (Q : Pr w4 h (.bool false) (.slice none 0 0)) (hg : w2.heap.size ≤ g) (hh : w2.heap.size ≤ h) (hne : g ≠ h) :
    TwinsAt w2 na n xs nb m ys (.pointer (some ⟨g, 0, none⟩)) (.pointer (some ⟨h, 0, none⟩)) ((((w4.setCell ⟨g, 0, none⟩ (.bool na)).setCell ⟨g, 1, none⟩ (.slice A3 n c3)).setCell ⟨h, 0, none⟩ (.bool nb)).setCell ⟨h, 1, none⟩ (.slice A4 m c4)) :=
  have Q' := Q.far (h := g) (fun e => hne e.symm) (.bool na) (.slice A3 n c3)
  ⟨_, _, A3, c3, A4, c4, rfl, rfl, (P.set _ _).far hne _ _, Q'.set _ _, (L3.setP P _ _).setP Q' _ _, (L4.setP P _ _).setP Q' _ _, below_set2 (below_set2 hB hg _ _) hh _ _⟩
end
theorem b_one {w w' : World} {o : Obj} (h : Below (w.alloc o).heap.size (w.alloc o) w') : Below w.heap.size w w' := bbox h
theorem b_two {w w' : World} {o o' : Obj} (h : Below ((w.alloc o).alloc o').heap.size ((w.alloc o).alloc o') w') : Below w.heap.size w w' := bbox (bbox h)
theorem b_one_d {w w' : World} {o : Obj} (h : Below (w.alloc o).drew.heap.size (w.alloc o).drew w') : Below w.heap.size w w' :=
  ((Below.refl w.heap.size w).alloc (Nat.le_refl _) o).drew.trans (h.mono (((Below.refl w.heap.size w).alloc (Nat.le_refl _) o).drew.size))
theorem b_two_d {w w' : World} {o o' : Obj} (h : Below ((w.alloc o).alloc o').drew.heap.size ((w.alloc o).alloc o').drew w') : Below w.heap.size w w' :=
  have q := (((Below.refl w.heap.size w).alloc (Nat.le_refl _) o).alloc ((Below.refl w.heap.size w).alloc (Nat.le_refl _) o).size o').drew
  q.trans (h.mono q.size)
end Go.Proofs.YtkendkbicafdgaaGreatDoor

/- Package frac: ratio.add, with either combination. -/
namespace Go.Proofs.YtkendkbicafdgaaGreatDoor
open Go.RowKit

theorem below_alloc {a b : World} (h : Below a.heap.size a b) (o : Obj) : Below a.heap.size a (b.alloc o) := h.alloc h.size o
theorem dvr_pos {N D : Int} (hD : 0 < D) : dvr N D = (Nat.gcd N.natAbs D.natAbs : Int) := by unfold dvr; rw [if_neg (by omega)]

set_option maxRecDepth 100000 in
set_option maxHeartbeats 4000000 in
theorem add_plus (w : World) (A B C D : Option Addr) (n m r s ca cb cc cd k : Nat) (x y P Q : Int) (hA : Lm w w.heap.size A n ca (digs x.natAbs)) (hB : Lm w w.heap.size B m cb (digs P.natAbs)) (hC : Lm w w.heap.size C r cc (digs y.natAbs)) (hD : Lm w w.heap.size D s cd (digs Q.natAbs))
    (hx : Sz k x) (hP : Sz k P) (hy : Sz k y) (hQ : Sz k Q) (hk : k ≤ 300) {na nb : Bool} (ha : decide (x < 0) = na) (hb : decide (y < 0) = nb) (hP0 : 0 < P) (hQ0 : 0 < Q) (t : Int) (ht : x * Q + y * P = t * (Nat.gcd P.natAbs Q.natAbs : Int))
    (hg : Nat.gcd (x * Q + y * P).natAbs (P * Q).natAbs = Nat.gcd P.natAbs Q.natAbs * Nat.gcd t.natAbs (Nat.gcd P.natAbs Q.natAbs)) :
    Calls Tryz.prog 82 #[fv na A n ca false B m cb, fv nb C r cc false D s cd, .func (.func 83) #[] #[]] w (RFr w ((x * Q + y * P) / dvr (x * Q + y * P) (P * Q)) ((P * Q) / dvr (x * Q + y * P) (P * Q))) := by
  have SX := Lib.hid hx
  have SP := Lib.hid hP
  have SY := Lib.hid hy
  have SQ := Lib.hid hQ
  have HNa := Lib.hid ha
  have HNb := Lib.hid hb
  have HP0 := Lib.hid hP0
  have HQ0 := Lib.hid hQ0
  have DP : Hid (decide (P < 0) = false) := decide_eq_false (by omega)
  have DQ : Hid (decide (Q < 0) = false) := decide_eq_false (by omega)
  have XQ := Lib.hid (hx.mul hQ)
  have YP := Lib.hid (hy.mul hP)
  have PQ := Lib.hid (hP.mul hQ)
  have SN := Lib.hid ((hx.mul hQ).add (hy.mul hP))
  have DPQ : Hid (decide (P * Q < 0) = false) := decide_eq_false (by have := Int.mul_pos hP0 hQ0; omega)
  have HPQ : Hid (0 < P * Q) := Int.mul_pos hP0 hQ0
  have HT := Lib.hid ht
  have HGG := Lib.hid hg
  have HA := Lib.hid hA
  have HB := Lib.hid hB
  have HC := Lib.hid hC
  have HD := Lib.hid hD
  have HPn : Hid (0 < P.natAbs) := by show _ < _; omega
  clear hx hP hy hQ ha hb hP0 hQ0 ht hg hA hB hC hD
  obtain ⟨N, hN⟩ : ∃ N, x * Q + y * P = N := ⟨_, rfl⟩
  rw [hN] at HT HGG SN ⊢
  have HN := Lib.hid hN
  clear hN
  go_enter Tryz.func82, Tryz.ntmps82
  have Q3 := Lib.hid (((Qd.new w _ rfl (.bool na) (.slice A n ca) (.bool false) (.slice B m cb) 59).alloc (.cells #[.bool nb, .slice C r cc, .bool false, .slice D s cd] 59)).alloc (.cells #[.bool false, .slice none 0 0, .bool false, .slice none 0 0] 26))
  have Q4 := Lib.hid ((Qd.new (w.alloc (.cells #[.bool na, .slice A n ca, .bool false, .slice B m cb] 59)) (w.heap.size + 1) (by simp) (.bool nb) (.slice C r cc) (.bool false) (.slice D s cd) 59).alloc (.cells #[.bool false, .slice none 0 0, .bool false, .slice none 0 0] 26))
  have QR := Lib.hid (Qd.new ((w.alloc (.cells #[.bool na, .slice A n ca, .bool false, .slice B m cb] 59)).alloc (.cells #[.bool nb, .slice C r cc, .bool false, .slice D s cd] 59)) (w.heap.size + 1 + 1) (by simp) (.bool false) (.slice none 0 0) (.bool false) (.slice none 0 0) 26)
  have LA := Lib.hid (((HA.out.box (.cells #[.bool na, .slice A n ca, .bool false, .slice B m cb] 59)).box (.cells #[.bool nb, .slice C r cc, .bool false, .slice D s cd] 59)).box (.cells #[.bool false, .slice none 0 0, .bool false, .slice none 0 0] 26))
  have LB := Lib.hid (((HB.out.box (.cells #[.bool na, .slice A n ca, .bool false, .slice B m cb] 59)).box (.cells #[.bool nb, .slice C r cc, .bool false, .slice D s cd] 59)).box (.cells #[.bool false, .slice none 0 0, .bool false, .slice none 0 0] 26))
  have LC := Lib.hid (((HC.out.box (.cells #[.bool na, .slice A n ca, .bool false, .slice B m cb] 59)).box (.cells #[.bool nb, .slice C r cc, .bool false, .slice D s cd] 59)).box (.cells #[.bool false, .slice none 0 0, .bool false, .slice none 0 0] 26))
  have LD := Lib.hid (((HD.out.box (.cells #[.bool na, .slice A n ca, .bool false, .slice B m cb] 59)).box (.cells #[.bool nb, .slice C r cc, .bool false, .slice D s cd] 59)).box (.cells #[.bool false, .slice none 0 0, .bool false, .slice none 0 0] 26))
  have BW : Hid (Below w.heap.size w (((w.alloc (.cells #[.bool na, .slice A n ca, .bool false, .slice B m cb] 59)).alloc (.cells #[.bool nb, .slice C r cc, .bool false, .slice D s cd] 59)).alloc (.cells #[.bool false, .slice none 0 0, .bool false, .slice none 0 0] 26))) := below_alloc (below_alloc (below_alloc (Below.refl _ _) _) _) _
  clear HA HB HC HD
  go_wp2_with fail
  generalize ((w.alloc (.cells #[.bool na, .slice A n ca, .bool false, .slice B m cb] 59)).alloc (.cells #[.bool nb, .slice C r cc, .bool false, .slice D s cd] 59)).alloc (.cells #[.bool false, .slice none 0 0, .bool false, .slice none 0 0] 26) = W0 at *
  have hrl := QR.out.lt
  have HKS : Hid (∀ X : World, Below W0.heap.size W0 X → X.cell? ⟨w.heap.size, 0, none⟩ = some (.bool na) ∧ X.cell? ⟨w.heap.size, 1, none⟩ = some (.slice A n ca) ∧ X.cell? ⟨w.heap.size, 2, none⟩ = some (.bool false) ∧ X.cell? ⟨w.heap.size, 3, none⟩ = some (.slice B m cb) ∧ X.cell? ⟨w.heap.size + 1, 0, none⟩ = some (.bool nb) ∧ X.cell? ⟨w.heap.size + 1, 1, none⟩ = some (.slice C r cc) ∧ X.cell? ⟨w.heap.size + 1, 2, none⟩ = some (.bool false) ∧ X.cell? ⟨w.heap.size + 1, 3, none⟩ = some (.slice D s cd)) := fun X h => ⟨(Q3.out.via h).c0, (Q3.out.via h).c1, (Q3.out.via h).c2, (Q3.out.via h).c3, (Q4.out.via h).c0, (Q4.out.via h).c1, (Q4.out.via h).c2, (Q4.out.via h).c3⟩
  go_cut [7] (fun sl wx => ∃ g A3 n3 c3, sl = .pointer (some ⟨g, 0, none⟩) ∧ Pr wx g (.bool (decide (N < 0))) (.slice A3 n3 c3) ∧ Lm wx wx.heap.size A3 n3 c3 (digs N.natAbs) ∧ W0.heap.size ≤ g ∧ Below W0.heap.size W0 wx)
  case first =>
    go_region_held3 (fun w' => w'.cell? ⟨w.heap.size, 0, none⟩ = some (.bool na) ∧ w'.cell? ⟨w.heap.size, 1, none⟩ = some (.slice A n ca) ∧ w'.cell? ⟨w.heap.size, 2, none⟩ = some (.bool false) ∧ w'.cell? ⟨w.heap.size, 3, none⟩ = some (.slice B m cb) ∧ w'.cell? ⟨w.heap.size + 1, 0, none⟩ = some (.bool nb) ∧ w'.cell? ⟨w.heap.size + 1, 1, none⟩ = some (.slice C r cc) ∧ w'.cell? ⟨w.heap.size + 1, 2, none⟩ = some (.bool false) ∧ w'.cell? ⟨w.heap.size + 1, 3, none⟩ = some (.slice D s cd))
      (first | (refine HKS.out _ ?_; (repeat' (first | exact Bd | exact Bc | exact B2 | exact B1 | exact (Below.refl _ _).drew | exact Below.refl _ _ | refine below_alloc ?_ _ | refine Below.drew ?_ | refine Below.setCell ?_ ?_ _)); all_goals (first | omega | (simp; done) | (simp; omega))))
      (first
       | (go_at_call_of 70 (Value.agg #[Value.bool na, Value.slice A n ca]); refine (prod_n _ A D n s ca cd k x Q (by first | exact LA.out.via B2 | exact (LA.out.via B2).box _ | exact LA.out.drew | exact (LA.out.box _).drew | exact LA.out | exact LA.out.box _) (by first | exact LD.out.via B2 | exact (LD.out.via B2).box _ | exact LD.out.drew | exact (LD.out.box _).drew | exact LD.out | exact LD.out.box _) SX.out SQ.out (by omega) HNa.out DQ.out).mono ?_; rintro e wa ⟨A1, n1, c1, rfl, hL1, hb1⟩; have B1 : Below W0.heap.size W0 wa := (by first | exact btr B2 hb1 | exact btr B2 (bbox hb1) | exact (Below.refl _ _).drew.trans hb1 | exact b_one_d hb1 | exact hb1 | exact bbox hb1); have B1s := B1.size; (try (have F0 : Pr _ W0.heap.size (.bool false) (.slice none 0 0) := (by first | exact (Pr.new W0 _ rfl _ _ 24).via hb1 | exact (Pr.new W0 _ rfl _ _ 24).drew.via hb1))); (try (have ⟨F0a, F0b, F0c, F0d, F0e⟩ := F0)); (try (have F0 := (by first | exact F0.via hb1 | exact (F0.alloc _).via hb1))); (try (have F1 : Pr _ wb.heap.size (.bool false) (.slice none 0 0) := (by first | exact (Pr.new wb _ rfl _ _ 24).via hb1))); (try (have ⟨F0a, F0b, F0c, F0d, F0e⟩ := F0)); (try (have ⟨F1a, F1b, F1c, F1d, F1e⟩ := F1)))
       | (go_at_call_of 70 (Value.agg #[Value.bool nb, Value.slice C r cc]); refine (prod_n _ C B r m cc cb k y P (by first | exact LC.out.via B1 | exact (LC.out.via B1).box _ | exact LC.out.drew | exact (LC.out.box _).drew | exact LC.out | exact LC.out.box _) (by first | exact LB.out.via B1 | exact (LB.out.via B1).box _ | exact LB.out.drew | exact (LB.out.box _).drew | exact LB.out | exact LB.out.box _) SY.out SP.out (by omega) HNb.out DP.out).mono ?_; rintro e wb ⟨A2, n2, c2, rfl, hL2, hb2⟩; have B2 : Below W0.heap.size W0 wb := (by first | exact btr B1 hb2 | exact btr B1 (bbox hb2) | exact (Below.refl _ _).drew.trans hb2 | exact b_one_d hb2 | exact hb2 | exact bbox hb2); have B2s := B2.size; (try (have F0 : Pr _ W0.heap.size (.bool false) (.slice none 0 0) := (by first | exact (Pr.new W0 _ rfl _ _ 24).via hb2 | exact (Pr.new W0 _ rfl _ _ 24).drew.via hb2))); (try (have ⟨F0a, F0b, F0c, F0d, F0e⟩ := F0)); (try (have F0 := (by first | exact F0.via hb2 | exact (F0.alloc _).via hb2))); (try (have F1 : Pr _ wa.heap.size (.bool false) (.slice none 0 0) := (by first | exact (Pr.new wa _ rfl _ _ 24).via hb2))); (try (have ⟨F0a, F0b, F0c, F0d, F0e⟩ := F0)); (try (have ⟨F1a, F1b, F1c, F1d, F1e⟩ := F1)))
       | (go_at_call 83; refine (add_n _ A1 A2 n1 n2 c1 c2 (k + k) (x * Q) (y * P) (by first | exact hL1 | exact hL1.box _ | exact hL1.via hb2 | exact (hL1.via hb2).box _ | exact (hL1.box _).via hb2 | exact ((hL1.box _).via hb2).box _) (by first | exact hL2 | exact hL2.box _ | exact hL2.via hb1 | exact (hL2.via hb1).box _ | exact (hL2.box _).via hb1 | exact ((hL2.box _).via hb1).box _) XQ.out YP.out (by omega) rfl rfl).mono ?_; rw [HN.out]; rintro e wc ⟨A3, n3, c3, rfl, hL3, hb3⟩; have Bc : Below W0.heap.size W0 wc := (by first | exact btr B2 hb3 | exact btr B2 (bbox hb3) | exact btr B1 hb3 | exact btr B1 (bbox hb3) | exact (Below.refl _ _).drew.trans hb3 | exact b_one_d hb3 | exact hb3 | exact bbox hb3); have Bcs := Bc.size; (try (have F0 := (by first | exact F0.via hb3 | exact (F0.alloc _).via hb3))); (try (have F1 := (by first | exact F1.via hb3 | exact (F1.alloc _).via hb3))); (try (have F2 : Pr _ wb.heap.size (.bool false) (.slice none 0 0) := (by first | exact (Pr.new wb _ rfl _ _ 24).via hb3))); (try (have F2 : Pr _ wa.heap.size (.bool false) (.slice none 0 0) := (by first | exact (Pr.new wa _ rfl _ _ 24).via hb3))); (try (have ⟨F0a, F0b, F0c, F0d, F0e⟩ := F0)); (try (have ⟨F1a, F1b, F1c, F1d, F1e⟩ := F1)); (try (have ⟨F2a, F2b, F2c, F2d, F2e⟩ := F2)))
       | (go_at_call 64; refine (must_ok _ _ _ _ _).mono ?_; rintro e wd ⟨rfl, hb4⟩; have Bd : Below W0.heap.size W0 wd := (by first | exact btr Bc hb4 | exact btr Bc (bbox hb4) | exact (Below.refl _ _).drew.trans hb4 | exact b_one_d hb4 | exact hb4 | exact bbox hb4); have Bds := Bd.size; have hL4 := (by first | exact hL3.via hb4 | exact (hL3.box _).via hb4); (try (have F0 := (by first | exact F0.via hb4 | exact (F0.alloc _).via hb4))); (try (have F1 := (by first | exact F1.via hb4 | exact (F1.alloc _).via hb4))); (try (have F2 := (by first | exact F2.via hb4 | exact (F2.alloc _).via hb4))); (try (have F3 : Pr _ wc.heap.size (.bool false) (.slice none 0 0) := (by first | exact (Pr.new wc _ rfl _ _ 24).via hb4))); (try (have ⟨F0a, F0b, F0c, F0d, F0e⟩ := F0)); (try (have ⟨F1a, F1b, F1c, F1d, F1e⟩ := F1)); (try (have ⟨F2a, F2b, F2c, F2d, F2e⟩ := F2)); (try (have ⟨F3a, F3b, F3c, F3d, F3e⟩ := F3)))
       | fail)
    all_goals
      go_wp2_with fail
      go_meet
      first
        | exact ⟨_, A3, n3, c3, rfl, Pr.new _ _ rfl _ _ _, hL4.box _, Bd.size, below_alloc Bd _⟩
        | exact ⟨_, A3, n3, c3, rfl, F0.set _ _, hL4.setP F0 _ _, (by first | exact Nat.le_refl _ | exact B1s | exact B2s | exact Bcs), below_set2 Bd (by first | exact Nat.le_refl _ | exact B1s | exact B2s | exact Bcs) _ _⟩
        | exact ⟨_, A3, n3, c3, rfl, F1.set _ _, hL4.setP F1 _ _, (by first | exact Nat.le_refl _ | exact B1s | exact B2s | exact Bcs), below_set2 Bd (by first | exact Nat.le_refl _ | exact B1s | exact B2s | exact Bcs) _ _⟩
        | exact ⟨_, A3, n3, c3, rfl, F2.set _ _, hL4.setP F2 _ _, (by first | exact Nat.le_refl _ | exact B1s | exact B2s | exact Bcs), below_set2 Bd (by first | exact Nat.le_refl _ | exact B1s | exact B2s | exact Bcs) _ _⟩
        | exact ⟨_, A3, n3, c3, rfl, F3.set _ _, hL4.setP F3 _ _, (by first | exact Nat.le_refl _ | exact B1s | exact B2s | exact Bcs), below_set2 Bd (by first | exact Nat.le_refl _ | exact B1s | exact B2s | exact Bcs) _ _⟩
  case rest =>
  obtain ⟨g7, A3, n3, c3, rfl, hP7, hL3, hg7, hbx⟩ := hcut
  obtain ⟨nN, hnN⟩ : ∃ b, decide (N < 0) = b := ⟨_, rfl⟩
  rw [hnN] at hP7
  have HNN := Lib.hid hnN
  have KA := Lib.hid (Q3.out.via hbx)
  have KB := Lib.hid (Q4.out.via hbx)
  have KR := Lib.hid (QR.out.via hbx)
  have MB := Lib.hid (LB.out.via hbx)
  have MD := Lib.hid (LD.out.via hbx)
  have P7 := Lib.hid hP7
  have L7 := Lib.hid hL3
  have BB := Lib.hid (BW.out.trans (hbx.mono BW.out.size))
  clear hnN hP7 hL3 hbx HKS Q3 Q4 QR LA LB LC LD BW XQ YP
  have ⟨_, _, a2, a3, _, _, _, _, al⟩ := KA.out
  have ⟨_, _, b2, b3, _, _, _, _, bl⟩ := KB.out
  go_wp2_with fail
  refine (prod_n _ B D m s cb cd k P Q MB.out MD.out SP.out SQ.out (by omega) DP.out DQ.out).mono ?_
  rintro e w2 ⟨A8, n8, c8, rfl, hL8, hb8⟩
  rw [DPQ.out]
  clear a2 a3 al b2 b3 bl
  have ⟨_, _, a2, a3, _, _, _, _, al⟩ := KA.out.via hb8
  have ⟨_, _, b2, b3, _, _, _, _, bl⟩ := KB.out.via hb8
  have hg8 : g7 < w2.heap.size := (P7.out.via hb8).lt
  have KA' := Lib.hid ((KA.out.via hb8).alloc (.cells #[.bool false, .slice A8 n8 c8] 24))
  have KB' := Lib.hid ((KB.out.via hb8).alloc (.cells #[.bool false, .slice A8 n8 c8] 24))
  have KR' := Lib.hid ((KR.out.via hb8).alloc (.cells #[.bool false, .slice A8 n8 c8] 24))
  have MB' := Lib.hid ((MB.out.via hb8).box (.cells #[.bool false, .slice A8 n8 c8] 24))
  have MD' := Lib.hid ((MD.out.via hb8).box (.cells #[.bool false, .slice A8 n8 c8] 24))
  have P7' := Lib.hid ((P7.out.via hb8).alloc (.cells #[.bool false, .slice A8 n8 c8] 24))
  have L7' := Lib.hid ((L7.out.via hb8).box (.cells #[.bool false, .slice A8 n8 c8] 24))
  have BB' := Lib.hid ((below_alloc (btr BB.out hb8) (.cells #[.bool false, .slice A8 n8 c8] 24)))
  clear KA
  have KA := KA'
  clear KA'
  clear KB
  have KB := KB'
  clear KB'
  clear KR
  have KR := KR'
  clear KR'
  clear MB
  have MB := MB'
  clear MB'
  clear MD
  have MD := MD'
  clear MD'
  clear P7
  have P7 := P7'
  clear P7'
  clear L7
  have L7 := L7'
  clear L7'
  clear BB
  have BB := BB'
  clear BB'
  have P8 := Lib.hid (Pr.new w2 _ rfl (.bool false) (.slice A8 n8 c8) 24)
  have L8 := Lib.hid (hL8.box (.cells #[.bool false, .slice A8 n8 c8] 24))
  clear hL8 hb8
  go_wp2_with fail
  clear a2 a3 al b2 b3 bl
  generalize w2.alloc (.cells #[.bool false, .slice A8 n8 c8] 24) = W2 at *
  generalize w2.heap.size = g8 at *
  refine (gcd_n2 _ B D m s cb cd k P Q MB.out MD.out SP.out SQ.out (by omega) DP.out DQ.out).mono ?_
  rintro e w3 ⟨A9, n9, c9, rfl, hL9, hb9⟩
  have KA' := Lib.hid (KA.out.via hb9)
  have KB' := Lib.hid (KB.out.via hb9)
  have KR' := Lib.hid (KR.out.via hb9)
  have MB' := Lib.hid (MB.out.via hb9)
  have MD' := Lib.hid (MD.out.via hb9)
  have P7' := Lib.hid (P7.out.via hb9)
  have L7' := Lib.hid (L7.out.via hb9)
  have BB' := Lib.hid ((btr BB.out hb9))
  have P8' := Lib.hid (P8.out.via hb9)
  have L8' := Lib.hid (L8.out.via hb9)
  clear KA
  have KA := KA'
  clear KA'
  clear KB
  have KB := KB'
  clear KB'
  clear KR
  have KR := KR'
  clear KR'
  clear MB
  have MB := MB'
  clear MB'
  clear MD
  have MD := MD'
  clear MD'
  clear P7
  have P7 := P7'
  clear P7'
  clear L7
  have L7 := L7'
  clear L7'
  clear BB
  have BB := BB'
  clear BB'
  clear P8
  have P8 := P8'
  clear P8'
  clear L8
  have L8 := L8'
  clear L8'
  have L9 := Lib.hid (hL9)
  clear hL9 hb9
  go_wp2_with fail
  refine (must_ok _ _ _ _ _).mono ?_
  rintro e w4 ⟨rfl, hb10⟩
  have hg9 : g8 < w4.heap.size := (P8.out.via hb10).lt
  have KA' := Lib.hid ((KA.out.via hb10).alloc (.cells #[.bool false, .slice A9 n9 c9] 24))
  have KB' := Lib.hid ((KB.out.via hb10).alloc (.cells #[.bool false, .slice A9 n9 c9] 24))
  have KR' := Lib.hid ((KR.out.via hb10).alloc (.cells #[.bool false, .slice A9 n9 c9] 24))
  have MB' := Lib.hid ((MB.out.via hb10).box (.cells #[.bool false, .slice A9 n9 c9] 24))
  have MD' := Lib.hid ((MD.out.via hb10).box (.cells #[.bool false, .slice A9 n9 c9] 24))
  have P7' := Lib.hid ((P7.out.via hb10).alloc (.cells #[.bool false, .slice A9 n9 c9] 24))
  have L7' := Lib.hid ((L7.out.via hb10).box (.cells #[.bool false, .slice A9 n9 c9] 24))
  have BB' := Lib.hid ((below_alloc (btr BB.out hb10) (.cells #[.bool false, .slice A9 n9 c9] 24)))
  have P8' := Lib.hid ((P8.out.via hb10).alloc (.cells #[.bool false, .slice A9 n9 c9] 24))
  have L8' := Lib.hid ((L8.out.via hb10).box (.cells #[.bool false, .slice A9 n9 c9] 24))
  have L9' := Lib.hid ((L9.out.via hb10).box (.cells #[.bool false, .slice A9 n9 c9] 24))
  clear KA
  have KA := KA'
  clear KA'
  clear KB
  have KB := KB'
  clear KB'
  clear KR
  have KR := KR'
  clear KR'
  clear MB
  have MB := MB'
  clear MB'
  clear MD
  have MD := MD'
  clear MD'
  clear P7
  have P7 := P7'
  clear P7'
  clear L7
  have L7 := L7'
  clear L7'
  clear BB
  have BB := BB'
  clear BB'
  clear P8
  have P8 := P8'
  clear P8'
  clear L8
  have L8 := L8'
  clear L8'
  clear L9
  have L9 := L9'
  clear L9'
  have P9 := Lib.hid (Pr.new w4 _ rfl (.bool false) (.slice A9 n9 c9) 24)
  clear KA
  clear KB
  clear MB
  clear MD
  clear hb10
  have SG := Lib.hid ((sz_gcd2 (x := P) SQ.out (by have := HQ0.out; omega)).mono (show k ≤ 2000 by omega))
  generalize hG : Nat.gcd P.natAbs Q.natAbs = G at *
  have HG0 : Hid (0 < G) := by show _ < _; rw [← hG]; exact Nat.gcd_pos_of_pos_left _ HPn.out
  clear hG
  go_wp2_with fail
  generalize w4.alloc (.cells #[.bool false, .slice A9 n9 c9] 24) = W4 at *
  generalize w4.heap.size = g9 at *
  have SZN : Hid (Sz 2000 N) := SN.out.mono (by omega)
  have SZD : Hid (Sz 2000 (P * Q)) := PQ.out.mono (by omega)
  have HDV : Hid (dvr N (P * Q) = (G * Nat.gcd t.natAbs G : Nat)) := by show _ = _; rw [dvr_pos HPQ.out, HGG.out]
  by_cases hone : G = 1
  · have HD1 : Hid (dvr N (P * Q) = 1) := by show _ = _; rw [HDV.out, hone, Nat.gcd_one_right]; rfl
    subst hone
    refine (isOne_yes _ A9 n9 c9 L9.out).mono ?_
    rintro e w5 ⟨rfl, hb5⟩
    have KR' := Lib.hid (KR.out.via hb5)
    have P7' := Lib.hid (P7.out.via hb5)
    have L7' := Lib.hid (L7.out.via hb5)
    have BB' := Lib.hid ((btr BB.out hb5))
    have P8' := Lib.hid (P8.out.via hb5)
    have L8' := Lib.hid (L8.out.via hb5)
    have L9' := Lib.hid (L9.out.via hb5)
    have P9' := Lib.hid (P9.out.via hb5)
    clear KR
    have KR := KR'
    clear KR'
    clear P7
    have P7 := P7'
    clear P7'
    clear L7
    have L7 := L7'
    clear L7'
    clear BB
    have BB := BB'
    clear BB'
    clear P8
    have P8 := P8'
    clear P8'
    clear L8
    have L8 := L8'
    clear L8'
    clear L9
    have L9 := L9'
    clear L9'
    clear P9
    have P9 := P9'
    clear P9'
    clear hb5
    have ⟨p0, p1, _, _, pl⟩ := P7.out
    have ⟨q0, q1, _, _, ql⟩ := P8.out
    have ⟨r0, r1, r2, r3, f0, f1, f2, f3, rl⟩ := KR.out
    go_wp2
    exact post_f1 Tryz.results82 rfl rfl (KR.out.set (.bool nN) (.slice A3 n3 c3) (.bool false) (.slice A8 n8 c8)) ⟨A3, n3, c3, A8, n8, c8, by rw [HD1.out, Int.ediv_one, Int.ediv_one, HNN.out, DPQ.out], by rw [HD1.out, Int.ediv_one]; exact L7.out.put4 KR.out _ _ _ _, by rw [HD1.out, Int.ediv_one]; exact L8.out.put4 KR.out _ _ _ _, below_put4 BB.out (by omega) _ _ _ _⟩
  · have HN1 : Hid (false = true ∨ digs G ≠ [1]) := .inr fun e => hone (by rw [← digs_val G, e]; rfl)
    clear hone
    refine (isOne_no _ false A9 n9 c9 (digs G) L9.out HN1.out).mono ?_
    rintro e w5 ⟨rfl, hb5⟩
    have KR' := Lib.hid (KR.out.via hb5)
    have P7' := Lib.hid (P7.out.via hb5)
    have L7' := Lib.hid (L7.out.via hb5)
    have BB' := Lib.hid ((btr BB.out hb5))
    have P8' := Lib.hid (P8.out.via hb5)
    have L8' := Lib.hid (L8.out.via hb5)
    have L9' := Lib.hid (L9.out.via hb5)
    have P9' := Lib.hid (P9.out.via hb5)
    clear KR
    have KR := KR'
    clear KR'
    clear P7
    have P7 := P7'
    clear P7'
    clear L7
    have L7 := L7'
    clear L7'
    clear BB
    have BB := BB'
    clear BB'
    clear P8
    have P8 := P8'
    clear P8'
    clear L8
    have L8 := L8'
    clear L8'
    clear L9
    have L9 := L9'
    clear L9'
    clear P9
    have P9 := P9'
    clear P9'
    clear hb5
    have DG : Hid (decide ((G : Int) < 0) = false) := by show _ = _; simp
    have DG2 : Hid (decide ((Nat.gcd t.natAbs G : Int) < 0) = false) := by show _ = _; simp
    have HSG2 : Hid (Sz 2000 (Nat.gcd t.natAbs G : Int)) := by
      show Nat.gcd t.natAbs G < _
      have h1 : Nat.gcd t.natAbs G ≤ G := Nat.gcd_le_right _ HG0.out
      exact Nat.lt_of_le_of_lt h1 SG.out
    have HDV2 : Hid ((G : Int) * (Nat.gcd t.natAbs G : Int) = dvr N (P * Q)) := by show _ = _; rw [HDV.out]; simp
    have DD : Hid (decide (dvr N (P * Q) < 0) = false) := by show _ = _; rw [HDV.out]; exact decide_eq_false (by omega)
    have ⟨p0, p1, _, _, pl⟩ := P7.out
    have ⟨s0, s1, _, _, sl⟩ := P9.out
    go_wp2_with fail
    refine (quotient_x _ A3 A9 n3 n9 c3 c9 2000 N (G : Int) t L7.out L9.out SZN.out SG.out (by omega) (by have := HG0.out; omega) HT.out HNN.out DG.out).mono ?_
    rintro e w6 ⟨A10, n10, c10, g10, A11, n11, c11, rfl, hL10, hb6⟩
    obtain ⟨nt, hnt⟩ : ∃ b, decide (t < 0) = b := ⟨_, rfl⟩
    rw [hnt]
    have HNt := Lib.hid hnt
    clear hnt p0 p1 pl s0 s1 sl
    have hg10 : g9 < w6.heap.size := (P9.out.via hb6).lt
    have KR' := Lib.hid (((KR.out.via hb6).alloc (.cells #[.bool nt, .slice A10 n10 c10] 24)).alloc (.cells #[.bool g10, .slice A11 n11 c11] 24))
    have P7' := Lib.hid (((P7.out.via hb6).alloc (.cells #[.bool nt, .slice A10 n10 c10] 24)).alloc (.cells #[.bool g10, .slice A11 n11 c11] 24))
    have L7' := Lib.hid (((L7.out.via hb6).box (.cells #[.bool nt, .slice A10 n10 c10] 24)).box (.cells #[.bool g10, .slice A11 n11 c11] 24))
    have BB' := Lib.hid ((below_alloc (below_alloc (btr BB.out hb6) (.cells #[.bool nt, .slice A10 n10 c10] 24)) (.cells #[.bool g10, .slice A11 n11 c11] 24)))
    have P8' := Lib.hid (((P8.out.via hb6).alloc (.cells #[.bool nt, .slice A10 n10 c10] 24)).alloc (.cells #[.bool g10, .slice A11 n11 c11] 24))
    have L8' := Lib.hid (((L8.out.via hb6).box (.cells #[.bool nt, .slice A10 n10 c10] 24)).box (.cells #[.bool g10, .slice A11 n11 c11] 24))
    have L9' := Lib.hid (((L9.out.via hb6).box (.cells #[.bool nt, .slice A10 n10 c10] 24)).box (.cells #[.bool g10, .slice A11 n11 c11] 24))
    have P9' := Lib.hid (((P9.out.via hb6).alloc (.cells #[.bool nt, .slice A10 n10 c10] 24)).alloc (.cells #[.bool g10, .slice A11 n11 c11] 24))
    clear KR
    have KR := KR'
    clear KR'
    clear P7
    have P7 := P7'
    clear P7'
    clear L7
    have L7 := L7'
    clear L7'
    clear BB
    have BB := BB'
    clear BB'
    clear P8
    have P8 := P8'
    clear P8'
    clear L8
    have L8 := L8'
    clear L8'
    clear L9
    have L9 := L9'
    clear L9'
    clear P9
    have P9 := P9'
    clear P9'
    have P10 := Lib.hid ((Pr.new w6 _ rfl (.bool nt) (.slice A10 n10 c10) 24).alloc (.cells #[.bool g10, .slice A11 n11 c11] 24))
    have L10 := Lib.hid ((hL10.box (.cells #[.bool nt, .slice A10 n10 c10] 24)).box (.cells #[.bool g10, .slice A11 n11 c11] 24))
    clear hL10 hb6
    have ⟨s0, s1, _, _, sl⟩ := P9.out
    have ⟨u0, u1, _, _, ul⟩ := P10.out
    go_wp2_with fail
    generalize (w6.alloc (.cells #[.bool nt, .slice A10 n10 c10] 24)).alloc (.cells #[.bool g10, .slice A11 n11 c11] 24) = W6 at *
    generalize w6.heap.size = g10' at *
    have HKS : Hid (∀ X : World, Below W6.heap.size W6 X → X.cell? ⟨g9, 0, none⟩ = some (.bool false) ∧ X.cell? ⟨g9, 1, none⟩ = some (.slice A9 n9 c9) ∧ X.cell? ⟨g10', 0, none⟩ = some (.bool nt) ∧ X.cell? ⟨g10', 1, none⟩ = some (.slice A10 n10 c10)) := fun X h => ⟨(P9.out.via h).c0, (P9.out.via h).c1, (P10.out.via h).c0, (P10.out.via h).c1⟩
    have STG : Hid (Sz 2000 t) := by
      show t.natAbs < _
      refine Nat.lt_of_le_of_lt ?_ SZN.out
      rw [HT.out, Int.natAbs_mul]
      exact Nat.le_mul_of_pos_right _ (by have := HG0.out; omega)
    clear s0 s1 sl u0 u1 ul
    have ⟨s0, s1, _, _, sl⟩ := P9.out
    have ⟨u0, u1, _, _, ul⟩ := P10.out
    go_cut [12] (fun sl wx => ∃ g A3 n3 c3, sl = .pointer (some ⟨g, 0, none⟩) ∧ Pr wx g (.bool false) (.slice A3 n3 c3) ∧ Lm wx wx.heap.size A3 n3 c3 (digs (dvr N (P * Q)).natAbs) ∧ W6.heap.size ≤ g ∧ Below W6.heap.size W6 wx)
    case first =>
      go_region_held3 (fun w' => w'.cell? ⟨g9, 0, none⟩ = some (.bool false) ∧ w'.cell? ⟨g9, 1, none⟩ = some (.slice A9 n9 c9) ∧ w'.cell? ⟨g10', 0, none⟩ = some (.bool nt) ∧ w'.cell? ⟨g10', 1, none⟩ = some (.slice A10 n10 c10))
        (first | (refine HKS.out _ ?_; (repeat' (first | exact Bd | exact Bc | exact B1 | exact (Below.refl _ _).drew | exact Below.refl _ _ | refine below_alloc ?_ _ | refine Below.drew ?_ | refine Below.setCell ?_ ?_ _)); all_goals (first | omega | (simp; done) | (simp; omega))))
        (first
         | (go_at_call 66; refine (gcd_n2 _ A10 A9 n10 n9 c10 c9 2000 t (G : Int) (by first | exact L10.out.drew | exact (L10.out.box _).drew | exact L10.out | exact L10.out.box _) (by first | exact L9.out.drew | exact (L9.out.box _).drew | exact L9.out | exact L9.out.box _) STG.out SG.out (by omega) HNt.out DG.out).mono ?_; rintro e wa ⟨A1, n1, c1, rfl, hL1, hb1⟩; have B1 : Below W6.heap.size W6 wa := (by first | exact (Below.refl _ _).drew.trans hb1 | exact b_one_d hb1 | exact hb1 | exact bbox hb1); have B1s := B1.size; (try (have F0 : Pr _ W6.heap.size (.bool false) (.slice none 0 0) := (by first | exact (Pr.new W6 _ rfl _ _ 24).via hb1 | exact (Pr.new W6 _ rfl _ _ 24).drew.via hb1))); (try (have ⟨F0a, F0b, F0c, F0d, F0e⟩ := F0)))
         | (go_at_call 64; refine (must_ok _ _ _ _ _).mono ?_; rintro e wb ⟨rfl, hb2⟩; have Bc : Below W6.heap.size W6 wb := (by first | exact btr B1 hb2 | exact btr B1 (bbox hb2) | exact (Below.refl _ _).drew.trans hb2 | exact b_one_d hb2 | exact hb2 | exact bbox hb2); have Bcs := Bc.size; have hL2 := (by first | exact hL1.via hb2 | exact (hL1.box _).via hb2); (try (have F0 := (by first | exact F0.via hb2 | exact (F0.alloc _).via hb2))); (try (have F1 : Pr _ wa.heap.size (.bool false) (.slice none 0 0) := (by first | exact (Pr.new wa _ rfl _ _ 24).via hb2 | exact (Pr.new wa _ rfl _ _ 24).drew.via hb2))); (try (have ⟨F0a, F0b, F0c, F0d, F0e⟩ := F0)); (try (have ⟨F1a, F1b, F1c, F1d, F1e⟩ := F1)))
         | (go_at_call 70; refine (prod_n _ A9 A1 n9 n1 c9 c1 2000 (G : Int) (Nat.gcd t.natAbs G : Int) (by first | exact L9.out.via Bc | exact (L9.out.via Bc).box _ | exact L9.out.drew | exact (L9.out.box _).drew | exact L9.out | exact L9.out.box _) (by first | exact hL2 | exact hL2.box _) SG.out HSG2.out (by omega) DG.out DG2.out).mono ?_; rw [HDV2.out]; rintro e wc ⟨A3', n3', c3', rfl, hL3', hb3⟩; rw [DD.out]; have Bd : Below W6.heap.size W6 wc := (by first | exact btr Bc hb3 | exact btr Bc (bbox hb3) | exact (Below.refl _ _).drew.trans hb3 | exact b_one_d hb3 | exact hb3 | exact bbox hb3); have Bds := Bd.size; (try (have F0 := (by first | exact F0.via hb3 | exact (F0.alloc _).via hb3))); (try (have F1 := (by first | exact F1.via hb3 | exact (F1.alloc _).via hb3))); (try (have F2 : Pr _ wb.heap.size (.bool false) (.slice none 0 0) := (by first | exact (Pr.new wb _ rfl _ _ 24).via hb3 | exact (Pr.new wb _ rfl _ _ 24).drew.via hb3))); (try (have ⟨F0a, F0b, F0c, F0d, F0e⟩ := F0)); (try (have ⟨F1a, F1b, F1c, F1d, F1e⟩ := F1)); (try (have ⟨F2a, F2b, F2c, F2d, F2e⟩ := F2)))
         | fail)
      all_goals
        go_wp2_with fail
        go_meet
        first
          | exact ⟨_, A3', n3', c3', rfl, Pr.new _ _ rfl _ _ _, hL3'.box _, Bd.size, below_alloc Bd _⟩
          | exact ⟨_, A3', n3', c3', rfl, F0.set _ _, hL3'.setP F0 _ _, (by first | exact Nat.le_refl _ | exact B1s | exact Bcs), below_set2 Bd (by first | exact Nat.le_refl _ | exact B1s | exact Bcs) _ _⟩
          | exact ⟨_, A3', n3', c3', rfl, F1.set _ _, hL3'.setP F1 _ _, (by first | exact Nat.le_refl _ | exact B1s | exact Bcs), below_set2 Bd (by first | exact Nat.le_refl _ | exact B1s | exact Bcs) _ _⟩
          | exact ⟨_, A3', n3', c3', rfl, F2.set _ _, hL3'.setP F2 _ _, (by first | exact Nat.le_refl _ | exact B1s | exact Bcs), below_set2 Bd (by first | exact Nat.le_refl _ | exact B1s | exact Bcs) _ _⟩
    case rest =>
    obtain ⟨g12, A12, n12, c12, rfl, hP12, hL12, hg12, hbx⟩ := hcut
    have P12 := Lib.hid hP12
    have L12 := Lib.hid hL12
    clear hP12 hL12
    have KR' := Lib.hid (KR.out.via hbx)
    have P7' := Lib.hid (P7.out.via hbx)
    have L7' := Lib.hid (L7.out.via hbx)
    have BB' := Lib.hid ((btr BB.out hbx))
    have P8' := Lib.hid (P8.out.via hbx)
    have L8' := Lib.hid (L8.out.via hbx)
    have L9' := Lib.hid (L9.out.via hbx)
    have P9' := Lib.hid (P9.out.via hbx)
    have P10' := Lib.hid (P10.out.via hbx)
    have L10' := Lib.hid (L10.out.via hbx)
    clear KR
    have KR := KR'
    clear KR'
    clear P7
    have P7 := P7'
    clear P7'
    clear L7
    have L7 := L7'
    clear L7'
    clear BB
    have BB := BB'
    clear BB'
    clear P8
    have P8 := P8'
    clear P8'
    clear L8
    have L8 := L8'
    clear L8'
    clear L9
    have L9 := L9'
    clear L9'
    clear P9
    have P9 := P9'
    clear P9'
    clear P10
    have P10 := P10'
    clear P10'
    clear L10
    have L10 := L10'
    clear L10'
    clear hbx s0 s1 sl u0 u1 ul
    have ⟨p0, p1, _, _, pl⟩ := P7.out
    have ⟨q0, q1, _, _, ql⟩ := P8.out
    have ⟨x0, x1, _, _, xl⟩ := P12.out
    go_wp2_with fail
    refine (divided_x _ A3 A8 A12 n3 n8 n12 c3 c8 c12 2000 N (P * Q) (dvr N (P * Q)) (N / dvr N (P * Q)) (P * Q / dvr N (P * Q)) L7.out L8.out L12.out SZN.out SZD.out (sz_dvr SZD.out (by have := HPQ.out; omega)) (by omega) (dvr_ne (by have := HPQ.out; omega)) (dvr_left _ _) (dvr_right _ _) HNN.out DPQ.out (by rw [HDV.out]; exact decide_eq_false (by omega))).mono ?_
    rintro e w13 ⟨A13, n13, c13, B13, m13, d13, rfl, hL13, hM13, hb13⟩
    obtain ⟨np, hnp⟩ : ∃ b, decide (N / dvr N (P * Q) < 0) = b := ⟨_, rfl⟩
    obtain ⟨nq, hnq⟩ : ∃ b, decide (P * Q / dvr N (P * Q) < 0) = b := ⟨_, rfl⟩
    rw [hnp, hnq]
    have HNp := Lib.hid hnp
    have HNq := Lib.hid hnq
    have K13 := KR.out.via hb13
    have L13 := Lib.hid hL13
    have M13 := Lib.hid hM13
    have BE := Lib.hid (btr BB.out hb13)
    have ⟨r0, r1, r2, r3, f0, f1, f2, f3, rl⟩ := K13
    clear hnp hnq hL13 hM13 hb13 p0 p1 pl q0 q1 ql x0 x1 xl
    go_wp2
    exact post_f1 Tryz.results82 rfl rfl (K13.set (.bool np) (.slice A13 n13 c13) (.bool nq) (.slice B13 m13 d13)) ⟨A13, n13, c13, B13, m13, d13, by rw [HNp.out, HNq.out], L13.out.put4 K13 _ _ _ _, M13.out.put4 K13 _ _ _ _, below_put4 BE.out (by omega) _ _ _ _⟩
end Go.Proofs.YtkendkbicafdgaaGreatDoor

/- Package frac: the closures of join and change, where a fraction is not valid. -/
namespace Go.Proofs.YtkendkbicafdgaaGreatDoor
open Go.RowKit

/-- A closure's variable that holds a function. -/
structure Fb (w : World) (g : Nat) (f : FuncId) : Prop where
  c0 : w.cell? ⟨g, 0, none⟩ = some (.func (.func f) #[] #[])
  lt : g < w.heap.size
theorem Fb.via {w w' : World} {g : Nat} {f : FuncId} (h : Fb w g f) (hb : Below w.heap.size w w') : Fb w' g f := ⟨(hb.cell (p := ⟨g, 0, none⟩) h.lt).trans h.c0, Nat.lt_of_lt_of_le h.lt hb.size⟩

set_option maxRecDepth 100000 in
set_option maxHeartbeats 4000000 in
theorem joinf_bad (w : World) (g0 ga gb : Nat) (f : FuncId) (na da nb db : Bool) (A B C D : Option Addr) (n m r s ca cb cc cd : Nat) (xs ys us vs : List Nat) (hf : Fb w g0 f) (qa : Qd w ga (.bool na) (.slice A n ca) (.bool da) (.slice B m cb)) (qb : Qd w gb (.bool nb) (.slice C r cc) (.bool db) (.slice D s cd))
    (hA : Lm w w.heap.size A n ca xs) (hB : Lm w w.heap.size B m cb ys) (hC : Lm w w.heap.size C r cc us) (hD : Lm w w.heap.size D s cd vs) (hbad : fchk na xs da ys = 8 ∨ fchk nb us db vs = 8) :
    Calls Tryz.prog 81 #[.pointer (some ⟨g0, 0, none⟩), .pointer (some ⟨ga, 0, none⟩), .pointer (some ⟨gb, 0, none⟩)] w (fun e w' => e = Pan 8 ∧ Below w.heap.size w w') := by
  have HF := Lib.hid hf
  have QA := Lib.hid qa
  have QB := Lib.hid qb
  have LA := Lib.hid hA
  have LB := Lib.hid hB
  have LC := Lib.hid hC
  have LD := Lib.hid hD
  have W0B : Hid (Below w.heap.size w (w.alloc (.cells #[.bool false, .slice none 0 0, .bool false, .slice none 0 0] 26))) := below_alloc (Below.refl _ _) _
  have ⟨f0, fl⟩ := hf
  have ⟨a0, a1, a2, a3, _, _, _, _, al⟩ := qa
  have ⟨b0, b1, b2, b3, _, _, _, _, bl⟩ := qb
  have HBAD : Hid (fchk na xs da ys = 0 ∨ fchk na xs da ys = 8) := by
    show _ ∨ _
    unfold fchk
    split
    · exact .inl rfl
    · exact .inr rfl
  have HBAD2 : Hid (fchk nb us db vs = 0 ∨ fchk nb us db vs = 8) := by
    show _ ∨ _
    unfold fchk
    split
    · exact .inl rfl
    · exact .inr rfl
  have HB0 := Lib.hid hbad
  clear hA hB hC hD hbad hf qa qb
  go_enter Tryz.func81, Tryz.ntmps81
  go_wp2_with fail
  have HF := Lib.hid (HF.out.via W0B.out)
  have QA := Lib.hid (QA.out.via W0B.out)
  have QB := Lib.hid (QB.out.via W0B.out)
  have LA := Lib.hid (LA.out.via W0B.out)
  have LB := Lib.hid (LB.out.via W0B.out)
  have LC := Lib.hid (LC.out.via W0B.out)
  have LD := Lib.hid (LD.out.via W0B.out)
  generalize w.alloc (.cells #[.bool false, .slice none 0 0, .bool false, .slice none 0 0] 26) = W0 at *
  clear f0 fl a0 a1 a2 a3 al b0 b1 b2 b3 bl
  refine wp_region_held_drew (S := fun w' => w'.cell? ⟨g0, 0, none⟩ = some (.func (.func f) #[] #[]) ∧ w'.cell? ⟨ga, 0, none⟩ = some (.bool na) ∧ w'.cell? ⟨ga, 1, none⟩ = some (.slice A n ca) ∧ w'.cell? ⟨ga, 2, none⟩ = some (.bool da) ∧ w'.cell? ⟨ga, 3, none⟩ = some (.slice B m cb) ∧ w'.cell? ⟨gb, 0, none⟩ = some (.bool nb) ∧ w'.cell? ⟨gb, 1, none⟩ = some (.slice C r cc) ∧ w'.cell? ⟨gb, 2, none⟩ = some (.bool db) ∧ w'.cell? ⟨gb, 3, none⟩ = some (.slice D s cd)) (by kernel_rfl) ?_ (fun hHeld => ?_)
  · exact ⟨HF.out.c0, QA.out.c0, QA.out.c1, QA.out.c2, QA.out.c3, QB.out.c0, QB.out.c1, QB.out.c2, QB.out.c3⟩
  refine wpAnyH_take (i := 0) (v := ?_) rfl (by kernel_rfl) (by kernel_rfl) (by kernel_rfl) (fun _ _ _ h => h) (Or.inl ⟨by rfl, ?_⟩) (by assumption) ?_
  rotate_left
  · (intro w hSw; (try dsimp only at hSw); go_simp; try with_reducible rfl)
  try simp only [Act.put, List.setIfInBounds_toArray]
  refine wpAnyH_take (i := 1) (v := ?_) rfl (by kernel_rfl) (by kernel_rfl) (by kernel_rfl) (fun _ _ _ h => h) (Or.inl ⟨by rfl, ?_⟩) (by assumption) ?_
  rotate_left
  · (intro w hSw; (try dsimp only at hSw); go_simp; try with_reducible rfl)
  try simp only [Act.put]
  refine wpAnyH_take (i := 3) (v := ?_) rfl (by kernel_rfl) (by kernel_rfl) (by kernel_rfl) (fun _ _ _ h => h) (Or.inl ⟨by rfl, ?_⟩) (by assumption) ?_
  rotate_left
  · (intro w hSw; (try dsimp only at hSw); go_simp; try with_reducible rfl)
  try simp only [Act.put]
  refine wpAnyH_ready (rs := [2]) (by kernel_rfl) (by simp) ?_
  refine AllReadyH.cons rfl (fun K hK => ?_) (AllReadyH.nil)
  · go_simp
    rcases HBAD.out with hk | hk
    · have Hak := Lib.hid hk
      have Hbn : Hid (fchk nb us db vs = 8) := by
        show _ = _
        rcases HB0.out with h | h
        · omega
        · exact h
      clear hk
      refine (known_ok _ na da A B n m ca cb xs ys LA.out.drew LB.out.drew Hak.out).mono ?_
      rintro e wc ⟨rfl, hbc⟩
      have Bc : Below W0.heap.size W0 wc := (Below.refl _ _).drew.trans hbc
      go_wp2_with fail
      refine hK.out _ _ ?_ (fun hHeld => ?_)
      · exact ⟨(HF.out.via Bc).c0, (QA.out.via Bc).c0, (QA.out.via Bc).c1, (QA.out.via Bc).c2, (QA.out.via Bc).c3, (QB.out.via Bc).c0, (QB.out.via Bc).c1, (QB.out.via Bc).c2, (QB.out.via Bc).c3⟩
      clear hK K
      try simp only [Act.put, List.setIfInBounds_toArray, List.set_cons_zero, List.set_cons_succ]
      refine wpAnyH_ready (rs := [4]) (by kernel_rfl) (by simp) ?_
      refine AllReadyH.cons rfl (fun K hK => ?_) (AllReadyH.nil)
      go_simp
      refine (known_no _ nb db C D r s cc cd us vs (by first | exact LC.out.via Bc | exact LC.out.drew) (by first | exact LD.out.via Bc | exact LD.out.drew) Hbn.out).mono ?_
      rintro e wp ⟨rfl, hbp⟩
      unfold Pan
      exact ⟨rfl, rfl, (btr W0B.out (btr Bc hbp))⟩
    · have Han := Lib.hid hk
      clear hk
      refine (known_no _ na da A B n m ca cb xs ys LA.out.drew LB.out.drew Han.out).mono ?_
      rintro e wp ⟨rfl, hbp⟩
      unfold Pan
      exact ⟨rfl, rfl, (btr W0B.out ((Below.refl _ _).drew.trans hbp))⟩

end Go.Proofs.YtkendkbicafdgaaGreatDoor

/- Package frac: the closures of join and change, where the fractions are valid. -/
namespace Go.Proofs.YtkendkbicafdgaaGreatDoor
open Go.RowKit

set_option maxRecDepth 100000 in
set_option maxHeartbeats 4000000 in
theorem joinf_ok (w : World) (g0 ga gb : Nat) (f : FuncId) (na da nb db : Bool) (A B C D : Option Addr) (n m r s ca cb cc cd : Nat) (xs ys us vs : List Nat) (hf : Fb w g0 f) (qa : Qd w ga (.bool na) (.slice A n ca) (.bool da) (.slice B m cb)) (qb : Qd w gb (.bool nb) (.slice C r cc) (.bool db) (.slice D s cd))
    (hA : Lm w w.heap.size A n ca xs) (hB : Lm w w.heap.size B m cb ys) (hC : Lm w w.heap.size C r cc us) (hD : Lm w w.heap.size D s cd vs) (hva : fchk na xs da ys = 0) (hvb : fchk nb us db vs = 0) (p q : Int)
    (hcf : ∀ (u v : Value) (W : World), (callFunc f #[u, v]).run Tryz.prog W = .ok (.enter f #[u, v]) W)
    (H : ∀ W, Lm W W.heap.size A n ca xs → Lm W W.heap.size B m cb ys → Lm W W.heap.size C r cc us → Lm W W.heap.size D s cd vs → Calls Tryz.prog f #[fv na A n ca da B m cb, fv nb C r cc db D s cd] W (RFr W p q)) :
    Calls Tryz.prog 81 #[.pointer (some ⟨g0, 0, none⟩), .pointer (some ⟨ga, 0, none⟩), .pointer (some ⟨gb, 0, none⟩)] w (RFr w p q) := by
  have HF := Lib.hid hf
  have QA := Lib.hid qa
  have QB := Lib.hid qb
  have LA := Lib.hid hA
  have LB := Lib.hid hB
  have LC := Lib.hid hC
  have LD := Lib.hid hD
  have HVA := Lib.hid hva
  have HVB := Lib.hid hvb
  have HH := Lib.hid H
  have QR := Lib.hid (Qd.new w _ rfl (.bool false) (.slice none 0 0) (.bool false) (.slice none 0 0) 26)
  have W0B : Hid (Below w.heap.size w (w.alloc (.cells #[.bool false, .slice none 0 0, .bool false, .slice none 0 0] 26))) := below_alloc (Below.refl _ _) _
  have ⟨f0, fl⟩ := hf
  have ⟨a0, a1, a2, a3, _, _, _, _, al⟩ := qa
  have ⟨b0, b1, b2, b3, _, _, _, _, bl⟩ := qb
  clear hA hB hC hD hva hvb H hf qa qb
  go_enter Tryz.func81, Tryz.ntmps81
  go_wp2_with fail
  have HF := Lib.hid (HF.out.via W0B.out)
  have QA := Lib.hid (QA.out.via W0B.out)
  have QB := Lib.hid (QB.out.via W0B.out)
  have LA := Lib.hid (LA.out.via W0B.out)
  have LB := Lib.hid (LB.out.via W0B.out)
  have LC := Lib.hid (LC.out.via W0B.out)
  have LD := Lib.hid (LD.out.via W0B.out)
  have hg0 : g0 < w.heap.size := fl
  have hga : ga < w.heap.size := al
  have hgb : gb < w.heap.size := bl
  clear f0 fl a0 a1 a2 a3 al b0 b1 b2 b3 bl
  generalize w.alloc (.cells #[.bool false, .slice none 0 0, .bool false, .slice none 0 0] 26) = W0 at *
  have HKS : Hid (∀ X : World, Below w.heap.size W0 X → X.cell? ⟨g0, 0, none⟩ = some (.func (.func f) #[] #[]) ∧ X.cell? ⟨ga, 0, none⟩ = some (.bool na) ∧ X.cell? ⟨ga, 1, none⟩ = some (.slice A n ca) ∧ X.cell? ⟨ga, 2, none⟩ = some (.bool da) ∧ X.cell? ⟨ga, 3, none⟩ = some (.slice B m cb) ∧ X.cell? ⟨gb, 0, none⟩ = some (.bool nb) ∧ X.cell? ⟨gb, 1, none⟩ = some (.slice C r cc) ∧ X.cell? ⟨gb, 2, none⟩ = some (.bool db) ∧ X.cell? ⟨gb, 3, none⟩ = some (.slice D s cd)) := fun X h => ⟨(h.cell (p := ⟨g0, 0, none⟩) hg0).trans HF.out.c0, (QA.out.below h hga).c0, (QA.out.below h hga).c1, (QA.out.below h hga).c2, (QA.out.below h hga).c3, (QB.out.below h hgb).c0, (QB.out.below h hgb).c1, (QB.out.below h hgb).c2, (QB.out.below h hgb).c3⟩
  have hw0 : w.heap.size ≤ W0.heap.size := W0B.out.size
  go_region_held3 (fun w' => w'.cell? ⟨g0, 0, none⟩ = some (.func (.func f) #[] #[]) ∧ w'.cell? ⟨ga, 0, none⟩ = some (.bool na) ∧ w'.cell? ⟨ga, 1, none⟩ = some (.slice A n ca) ∧ w'.cell? ⟨ga, 2, none⟩ = some (.bool da) ∧ w'.cell? ⟨ga, 3, none⟩ = some (.slice B m cb) ∧ w'.cell? ⟨gb, 0, none⟩ = some (.bool nb) ∧ w'.cell? ⟨gb, 1, none⟩ = some (.slice C r cc) ∧ w'.cell? ⟨gb, 2, none⟩ = some (.bool db) ∧ w'.cell? ⟨gb, 3, none⟩ = some (.slice D s cd))
    (first | (refine HKS.out _ ?_; (repeat' (first | exact Be.mono hw0 | exact Bd.mono hw0 | exact Bc.mono hw0 | exact (Below.refl _ _).drew | exact Below.refl _ _ | refine Below.setCell ?_ ?_ _)); all_goals (first | omega | (simp; done) | (simp; omega))))
    (first
     | (go_at_call_of 57 (Value.agg #[Value.bool na, Value.slice A n ca, Value.bool da, Value.slice B m cb]); refine (known_ok _ na da A B n m ca cb xs ys LA.out.drew LB.out.drew HVA.out).mono ?_; rintro e wc ⟨rfl, hbc⟩; have Bc : Below W0.heap.size W0 wc := (by first | exact (Below.refl _ _).drew.trans hbc | exact hbc))
     | (go_at_call_of 57 (Value.agg #[Value.bool nb, Value.slice C r cc, Value.bool db, Value.slice D s cd]); refine (known_ok _ nb db C D r s cc cd us vs (by first | exact LC.out.via Bc | exact LC.out.drew) (by first | exact LD.out.via Bc | exact LD.out.drew) HVB.out).mono ?_; rintro e wd ⟨rfl, hbd⟩; have Bd : Below W0.heap.size W0 wd := btr Bc hbd)
     | (refine (HH.out _ (LA.out.via Bd) (LB.out.via Bd) (LC.out.via Bd) (LD.out.via Bd)).mono ?_; rintro e we ⟨A5, n5, c5, B5, m5, d5, rfl, hL5, hM5, hbe⟩; have Be : Below W0.heap.size W0 we := btr Bd hbe; have KR := QR.out.via Be; have ⟨r0, r1, r2, r3, rf0, rf1, rf2, rf3, rl⟩ := KR)
     | fail)
  all_goals
    obtain ⟨np, hnp⟩ : ∃ b, decide (p < 0) = b := ⟨_, rfl⟩
    obtain ⟨nq, hnq⟩ : ∃ b, decide (q < 0) = b := ⟨_, rfl⟩
    rw [hnp, hnq]
    have HNp := Lib.hid hnp
    have HNq := Lib.hid hnq
    have HL5 := Lib.hid hL5
    have HM5 := Lib.hid hM5
    have BE := Lib.hid (btr W0B.out Be)
    clear hnp hnq hL5 hM5
    go_wp2
    exact post_f1 Tryz.results81 rfl rfl (KR.set (.bool np) (.slice A5 n5 c5) (.bool nq) (.slice B5 m5 d5)) ⟨A5, n5, c5, B5, m5, d5, by rw [HNp.out, HNq.out], HL5.out.put4 KR _ _ _ _, HM5.out.put4 KR _ _ _ _, below_put4 BE.out (Nat.le_refl _) _ _ _ _⟩

set_option maxRecDepth 100000 in
set_option maxHeartbeats 4000000 in
theorem joinf_pan (w : World) (g0 ga gb : Nat) (f : FuncId) (na da nb db : Bool) (A B C D : Option Addr) (n m r s ca cb cc cd : Nat) (xs ys us vs : List Nat) (hf : Fb w g0 f) (qa : Qd w ga (.bool na) (.slice A n ca) (.bool da) (.slice B m cb)) (qb : Qd w gb (.bool nb) (.slice C r cc) (.bool db) (.slice D s cd))
    (hA : Lm w w.heap.size A n ca xs) (hB : Lm w w.heap.size B m cb ys) (hC : Lm w w.heap.size C r cc us) (hD : Lm w w.heap.size D s cd vs) (hva : fchk na xs da ys = 0) (hvb : fchk nb us db vs = 0) (x : Int)
    (hcf : ∀ (u v : Value) (W : World), (callFunc f #[u, v]).run Tryz.prog W = .ok (.enter f #[u, v]) W)
    (H : ∀ W, Lm W W.heap.size A n ca xs → Lm W W.heap.size B m cb ys → Lm W W.heap.size C r cc us → Lm W W.heap.size D s cd vs → Calls Tryz.prog f #[fv na A n ca da B m cb, fv nb C r cc db D s cd] W (fun e w' => e = Pan x ∧ Below W.heap.size W w')) :
    Calls Tryz.prog 81 #[.pointer (some ⟨g0, 0, none⟩), .pointer (some ⟨ga, 0, none⟩), .pointer (some ⟨gb, 0, none⟩)] w (fun e w' => e = Pan x ∧ Below w.heap.size w w') := by
  have HF := Lib.hid hf
  have QA := Lib.hid qa
  have QB := Lib.hid qb
  have LA := Lib.hid hA
  have LB := Lib.hid hB
  have LC := Lib.hid hC
  have LD := Lib.hid hD
  have HVA := Lib.hid hva
  have HVB := Lib.hid hvb
  have HH := Lib.hid H
  have QR := Lib.hid (Qd.new w _ rfl (.bool false) (.slice none 0 0) (.bool false) (.slice none 0 0) 26)
  have W0B : Hid (Below w.heap.size w (w.alloc (.cells #[.bool false, .slice none 0 0, .bool false, .slice none 0 0] 26))) := below_alloc (Below.refl _ _) _
  have ⟨f0, fl⟩ := hf
  have ⟨a0, a1, a2, a3, _, _, _, _, al⟩ := qa
  have ⟨b0, b1, b2, b3, _, _, _, _, bl⟩ := qb
  clear hA hB hC hD hva hvb H hf qa qb
  go_enter Tryz.func81, Tryz.ntmps81
  go_wp2_with fail
  have HF := Lib.hid (HF.out.via W0B.out)
  have QA := Lib.hid (QA.out.via W0B.out)
  have QB := Lib.hid (QB.out.via W0B.out)
  have LA := Lib.hid (LA.out.via W0B.out)
  have LB := Lib.hid (LB.out.via W0B.out)
  have LC := Lib.hid (LC.out.via W0B.out)
  have LD := Lib.hid (LD.out.via W0B.out)
  have hg0 : g0 < w.heap.size := fl
  have hga : ga < w.heap.size := al
  have hgb : gb < w.heap.size := bl
  clear f0 fl a0 a1 a2 a3 al b0 b1 b2 b3 bl
  generalize w.alloc (.cells #[.bool false, .slice none 0 0, .bool false, .slice none 0 0] 26) = W0 at *
  refine wp_region_held_drew (S := fun w' => w'.cell? ⟨g0, 0, none⟩ = some (.func (.func f) #[] #[]) ∧ w'.cell? ⟨ga, 0, none⟩ = some (.bool na) ∧ w'.cell? ⟨ga, 1, none⟩ = some (.slice A n ca) ∧ w'.cell? ⟨ga, 2, none⟩ = some (.bool da) ∧ w'.cell? ⟨ga, 3, none⟩ = some (.slice B m cb) ∧ w'.cell? ⟨gb, 0, none⟩ = some (.bool nb) ∧ w'.cell? ⟨gb, 1, none⟩ = some (.slice C r cc) ∧ w'.cell? ⟨gb, 2, none⟩ = some (.bool db) ∧ w'.cell? ⟨gb, 3, none⟩ = some (.slice D s cd)) (by kernel_rfl) ?_ (fun hHeld => ?_)
  · exact ⟨HF.out.c0, QA.out.c0, QA.out.c1, QA.out.c2, QA.out.c3, QB.out.c0, QB.out.c1, QB.out.c2, QB.out.c3⟩
  refine wpAnyH_take (i := 0) (v := ?_) rfl (by kernel_rfl) (by kernel_rfl) (by kernel_rfl) (fun _ _ _ h => h) (Or.inl ⟨by rfl, ?_⟩) (by assumption) ?_
  rotate_left
  · (intro w hSw; (try dsimp only at hSw); go_simp; try with_reducible rfl)
  try simp only [Act.put, List.setIfInBounds_toArray]
  refine wpAnyH_take (i := 1) (v := ?_) rfl (by kernel_rfl) (by kernel_rfl) (by kernel_rfl) (fun _ _ _ h => h) (Or.inl ⟨by rfl, ?_⟩) (by assumption) ?_
  rotate_left
  · (intro w hSw; (try dsimp only at hSw); go_simp; try with_reducible rfl)
  try simp only [Act.put]
  refine wpAnyH_take (i := 3) (v := ?_) rfl (by kernel_rfl) (by kernel_rfl) (by kernel_rfl) (fun _ _ _ h => h) (Or.inl ⟨by rfl, ?_⟩) (by assumption) ?_
  rotate_left
  · (intro w hSw; (try dsimp only at hSw); go_simp; try with_reducible rfl)
  try simp only [Act.put]
  refine wpAnyH_ready (rs := [2]) (by kernel_rfl) (by simp) ?_
  refine AllReadyH.cons rfl (fun K hK => ?_) (AllReadyH.nil)
  go_simp
  refine (known_ok _ na da A B n m ca cb xs ys LA.out.drew LB.out.drew HVA.out).mono ?_
  rintro e wc ⟨rfl, hbc⟩
  have Bc : Below W0.heap.size W0 wc := (Below.refl _ _).drew.trans hbc
  go_wp2_with fail
  refine hK.out _ _ ?_ (fun hHeld => ?_)
  · exact ⟨(HF.out.via Bc).c0, (QA.out.via Bc).c0, (QA.out.via Bc).c1, (QA.out.via Bc).c2, (QA.out.via Bc).c3, (QB.out.via Bc).c0, (QB.out.via Bc).c1, (QB.out.via Bc).c2, (QB.out.via Bc).c3⟩
  clear hK K
  try simp only [Act.put, List.setIfInBounds_toArray, List.set_cons_zero, List.set_cons_succ]
  refine wpAnyH_ready (rs := [4]) (by kernel_rfl) (by simp) ?_
  refine AllReadyH.cons rfl (fun K hK => ?_) (AllReadyH.nil)
  go_simp
  refine (known_ok _ nb db C D r s cc cd us vs (by first | exact LC.out.via Bc | exact LC.out.drew) (by first | exact LD.out.via Bc | exact LD.out.drew) HVB.out).mono ?_
  rintro e wd ⟨rfl, hbd⟩
  have Bd : Below W0.heap.size W0 wd := btr Bc hbd
  go_wp2_with fail
  refine hK.out _ _ ?_ (fun hHeld => ?_)
  · exact ⟨(HF.out.via Bd).c0, (QA.out.via Bd).c0, (QA.out.via Bd).c1, (QA.out.via Bd).c2, (QA.out.via Bd).c3, (QB.out.via Bd).c0, (QB.out.via Bd).c1, (QB.out.via Bd).c2, (QB.out.via Bd).c3⟩
  clear hK K
  try simp only [Act.put, List.setIfInBounds_toArray, List.set_cons_zero, List.set_cons_succ]
  refine wpAnyH_ready (rs := [5]) (by kernel_rfl) (by simp) ?_
  refine AllReadyH.cons rfl (fun K hK => ?_) (AllReadyH.nil)
  go_simp
  refine (HH.out _ (LA.out.via Bd) (LB.out.via Bd) (LC.out.via Bd) (LD.out.via Bd)).mono ?_
  rintro e wp ⟨rfl, hbp⟩
  unfold Pan
  exact ⟨rfl, rfl, btr W0B.out (btr Bd hbp)⟩

end Go.Proofs.YtkendkbicafdgaaGreatDoor

/- Package frac: times and over. -/
namespace Go.Proofs.YtkendkbicafdgaaGreatDoor
open Go.RowKit

end Go.Proofs.YtkendkbicafdgaaGreatDoor

/- Package frac: over by 0, compare. -/
namespace Go.Proofs.YtkendkbicafdgaaGreatDoor
open Go.RowKit

theorem toI_z (x : Int) : toI (decide (x < 0)) x.natAbs = x := by
  unfold toI
  by_cases h : x < 0
  · simp [h]; omega
  · simp [h]; omega
theorem cmp_n2 (w : World) (A B : Option Addr) (n m ca cb k : Nat) (x y : Int) (hA : Lm w w.heap.size A n ca (digs x.natAbs)) (hB : Lm w w.heap.size B m cb (digs y.natAbs)) (hx : Sz k x) (hy : Sz k y) (hk : k ≤ 2000) {na nb : Bool} (ha : decide (x < 0) = na) (hb : decide (y < 0) = nb) :
    Calls Tryz.prog 88 #[.agg #[.bool na, .slice A n ca], .agg #[.bool nb, .slice B m cb]] w fun e w' => e = .returned (.tuple #[.int .i64 (cmpZ x y), .int .i64 0]) ∧ Below w.heap.size w w' := by
  subst ha hb
  have h := cmp_ok w _ _ A B n m ca cb _ _ hA hB (chkB_z hx (by omega) hy (by omega))
  rw [toI_z, toI_z] at h
  exact h

end Go.Proofs.YtkendkbicafdgaaGreatDoor

/- Package frac: negative. -/
namespace Go.Proofs.YtkendkbicafdgaaGreatDoor
open Go.RowKit

end Go.Proofs.YtkendkbicafdgaaGreatDoor

/- Package frac: change, Neg. -/
namespace Go.Proofs.YtkendkbicafdgaaGreatDoor
open Go.RowKit

end Go.Proofs.YtkendkbicafdgaaGreatDoor

/- Package frac: attempt of an int. -/
namespace Go.Proofs.YtkendkbicafdgaaGreatDoor
open Go.RowKit

/-- A call returns an int and an error. -/
def RIE (w : World) (x err : Int) (e : Ending) (w' : World) : Prop := e = .returned (.tuple #[.int .i64 x, .int .i64 err]) ∧ Below w.heap.size w w'
/-- The world in which attempt[int] calls: with the box of the error. -/
def Wai (w : World) : World := w.alloc (.cells #[.int .i64 0] 30)
theorem wai_below (w : World) : Below w.heap.size w (Wai w) := (Below.refl _ _).alloc (Nat.le_refl _) _
theorem wai_c (w : World) : (Wai w).cell? ⟨w.heap.size, 0, none⟩ = some (.int .i64 0) ∧ (Wai w).frozen? ⟨w.heap.size, 0, none⟩ = false := by unfold Wai; constructor <;> go_simp
theorem wai_size (w : World) : (Wai w).heap.size = w.heap.size + 1 := by unfold Wai; simp
theorem res_ie {fn : Func} {r s : Nat} (hr : fn.results = #[.tmp s, .cell r 30]) {tmps : Array Value} {w : World} {h : Nat} {x y : Value} (ht : tmps.getD s undef = x)
    (hs : tmps.getD r undef = .pointer (some ⟨h, 0, none⟩)) (hy : w.cell? ⟨h, 0, none⟩ = some y) : (results fn tmps).run Tryz.prog w = .ok (.tuple #[x, y]) w := by
  rw [Array.getD_eq_getD_getElem?] at ht hs
  simp [results, hr, go_sem, ht, hs, hy]

end Go.Proofs.YtkendkbicafdgaaGreatDoor

/- Package frac: join, and the functions of two fractions. -/
namespace Go.Proofs.YtkendkbicafdgaaGreatDoor
open Go.RowKit

set_option maxRecDepth 100000 in
set_option maxHeartbeats 1000000 in
theorem join_g (w : World) (f : FuncId) (na da nb db : Bool) (A B C D : Option Addr) (n m r s ca cb cc cd : Nat) (xs ys us vs : List Nat) (hA : Lm w w.heap.size A n ca xs) (hB : Lm w w.heap.size B m cb ys) (hC : Lm w w.heap.size C r cc us) (hD : Lm w w.heap.size D s cd vs) (np nq : Bool) (l1 l2 : List Nat) (err : Int)
    (H : ∀ W g0 ga gb, Fb W g0 f → Qd W ga (.bool na) (.slice A n ca) (.bool da) (.slice B m cb) → Qd W gb (.bool nb) (.slice C r cc) (.bool db) (.slice D s cd) → Lm W W.heap.size A n ca xs → Lm W W.heap.size B m cb ys → Lm W W.heap.size C r cc us → Lm W W.heap.size D s cd vs → Calls Tryz.prog 30 #[.func (.func 81) #[] #[.pointer (some ⟨g0, 0, none⟩), .pointer (some ⟨ga, 0, none⟩), .pointer (some ⟨gb, 0, none⟩)]] W (RG W np l1 nq l2 err)) :
    Calls Tryz.prog 47 #[fv na A n ca da B m cb, fv nb C r cc db D s cd, .func (.func f) #[] #[]] w (RG w np l1 nq l2 err) := by
  have hmf : ∀ (fn : Fn) (first cap : Array Value) (w : World), (Instr.makeFunc fn first cap).run Tryz.prog w = .ok (.func fn first cap) w := fun _ _ _ _ => rfl
  have HH := Lib.hid H
  have HA := Lib.hid hA
  have HB := Lib.hid hB
  have HC := Lib.hid hC
  have HD := Lib.hid hD
  clear H hA hB hC hD
  go_enter Tryz.func47, Tryz.ntmps47
  have QA := Lib.hid ((((Qd.new w _ rfl (.bool na) (.slice A n ca) (.bool da) (.slice B m cb) 26).alloc (.cells #[.bool nb, .slice C r cc, .bool db, .slice D s cd] 26)).alloc (.cells #[.func (.func f) #[] #[]] 78)).alloc (.cells #[.bool false, .slice none 0 0, .bool false, .slice none 0 0] 26))
  have QB := Lib.hid (((Qd.new (w.alloc (.cells #[.bool na, .slice A n ca, .bool da, .slice B m cb] 26)) (w.heap.size + 1) (by simp) (.bool nb) (.slice C r cc) (.bool db) (.slice D s cd) 26).alloc (.cells #[.func (.func f) #[] #[]] 78)).alloc (.cells #[.bool false, .slice none 0 0, .bool false, .slice none 0 0] 26))
  have QF : Hid (Fb ((((w.alloc (.cells #[.bool na, .slice A n ca, .bool da, .slice B m cb] 26)).alloc (.cells #[.bool nb, .slice C r cc, .bool db, .slice D s cd] 26)).alloc (.cells #[.func (.func f) #[] #[]] 78)).alloc (.cells #[.bool false, .slice none 0 0, .bool false, .slice none 0 0] 26)) (w.heap.size + 1 + 1) f) := ⟨by go_simp, by simp⟩
  have QR := Lib.hid (Qd.new (((w.alloc (.cells #[.bool na, .slice A n ca, .bool da, .slice B m cb] 26)).alloc (.cells #[.bool nb, .slice C r cc, .bool db, .slice D s cd] 26)).alloc (.cells #[.func (.func f) #[] #[]] 78)) (w.heap.size + 1 + 1 + 1) (by simp) (.bool false) (.slice none 0 0) (.bool false) (.slice none 0 0) 26)
  have BW : Hid (Below w.heap.size w ((((w.alloc (.cells #[.bool na, .slice A n ca, .bool da, .slice B m cb] 26)).alloc (.cells #[.bool nb, .slice C r cc, .bool db, .slice D s cd] 26)).alloc (.cells #[.func (.func f) #[] #[]] 78)).alloc (.cells #[.bool false, .slice none 0 0, .bool false, .slice none 0 0] 26))) := below_alloc (below_alloc (below_alloc (below_alloc (Below.refl _ _) _) _) _) _
  have LA : Hid (Lm ((((w.alloc (.cells #[.bool na, .slice A n ca, .bool da, .slice B m cb] 26)).alloc (.cells #[.bool nb, .slice C r cc, .bool db, .slice D s cd] 26)).alloc (.cells #[.func (.func f) #[] #[]] 78)).alloc (.cells #[.bool false, .slice none 0 0, .bool false, .slice none 0 0] 26)) ((((w.alloc (.cells #[.bool na, .slice A n ca, .bool da, .slice B m cb] 26)).alloc (.cells #[.bool nb, .slice C r cc, .bool db, .slice D s cd] 26)).alloc (.cells #[.func (.func f) #[] #[]] 78)).alloc (.cells #[.bool false, .slice none 0 0, .bool false, .slice none 0 0] 26)).heap.size A n ca xs) := (((HA.out.box _).box _).box _).box _
  have LB : Hid (Lm ((((w.alloc (.cells #[.bool na, .slice A n ca, .bool da, .slice B m cb] 26)).alloc (.cells #[.bool nb, .slice C r cc, .bool db, .slice D s cd] 26)).alloc (.cells #[.func (.func f) #[] #[]] 78)).alloc (.cells #[.bool false, .slice none 0 0, .bool false, .slice none 0 0] 26)) ((((w.alloc (.cells #[.bool na, .slice A n ca, .bool da, .slice B m cb] 26)).alloc (.cells #[.bool nb, .slice C r cc, .bool db, .slice D s cd] 26)).alloc (.cells #[.func (.func f) #[] #[]] 78)).alloc (.cells #[.bool false, .slice none 0 0, .bool false, .slice none 0 0] 26)).heap.size B m cb ys) := (((HB.out.box _).box _).box _).box _
  have LC : Hid (Lm ((((w.alloc (.cells #[.bool na, .slice A n ca, .bool da, .slice B m cb] 26)).alloc (.cells #[.bool nb, .slice C r cc, .bool db, .slice D s cd] 26)).alloc (.cells #[.func (.func f) #[] #[]] 78)).alloc (.cells #[.bool false, .slice none 0 0, .bool false, .slice none 0 0] 26)) ((((w.alloc (.cells #[.bool na, .slice A n ca, .bool da, .slice B m cb] 26)).alloc (.cells #[.bool nb, .slice C r cc, .bool db, .slice D s cd] 26)).alloc (.cells #[.func (.func f) #[] #[]] 78)).alloc (.cells #[.bool false, .slice none 0 0, .bool false, .slice none 0 0] 26)).heap.size C r cc us) := (((HC.out.box _).box _).box _).box _
  have LD : Hid (Lm ((((w.alloc (.cells #[.bool na, .slice A n ca, .bool da, .slice B m cb] 26)).alloc (.cells #[.bool nb, .slice C r cc, .bool db, .slice D s cd] 26)).alloc (.cells #[.func (.func f) #[] #[]] 78)).alloc (.cells #[.bool false, .slice none 0 0, .bool false, .slice none 0 0] 26)) ((((w.alloc (.cells #[.bool na, .slice A n ca, .bool da, .slice B m cb] 26)).alloc (.cells #[.bool nb, .slice C r cc, .bool db, .slice D s cd] 26)).alloc (.cells #[.func (.func f) #[] #[]] 78)).alloc (.cells #[.bool false, .slice none 0 0, .bool false, .slice none 0 0] 26)).heap.size D s cd vs) := (((HD.out.box _).box _).box _).box _
  clear HA HB HC HD
  go_wp2_with fail
  refine (HH.out _ (w.heap.size + 1 + 1) w.heap.size (w.heap.size + 1) QF.out QA.out QB.out LA.out LB.out LC.out LD.out).mono ?_
  rintro e w1 ⟨A1, n1, c1, B1, m1, d1, rfl, hL, hM, hb⟩
  have Q := Lib.hid (QR.out.via hb)
  have L1 := Lib.hid hL
  have M1 := Lib.hid hM
  have BB := Lib.hid (btr BW.out hb)
  have ⟨q0, q1, q2, q3, f0, f1, f2, f3, ql⟩ := Q.out
  clear hL hM hb
  go_wp2
  exact post_f Tryz.results47 rfl rfl (Q.out.set (.bool np) (.slice A1 n1 c1) (.bool nq) (.slice B1 m1 d1)) ⟨A1, n1, c1, B1, m1, d1, rfl, L1.out.put4 Q.out _ _ _ _, M1.out.put4 Q.out _ _ _ _, below_put4 BB.out (by omega) _ _ _ _⟩

set_option maxRecDepth 100000 in
set_option maxHeartbeats 1000000 in
theorem fadd_g (w : World) (na da nb db : Bool) (A B C D : Option Addr) (n m r s ca cb cc cd : Nat) (xs ys us vs : List Nat) (hA : Lm w w.heap.size A n ca xs) (hB : Lm w w.heap.size B m cb ys) (hC : Lm w w.heap.size C r cc us) (hD : Lm w w.heap.size D s cd vs) (np nq : Bool) (l1 l2 : List Nat) (err : Int)
    (H : ∀ W, Lm W W.heap.size A n ca xs → Lm W W.heap.size B m cb ys → Lm W W.heap.size C r cc us → Lm W W.heap.size D s cd vs → Calls Tryz.prog 47 #[fv na A n ca da B m cb, fv nb C r cc db D s cd, .func (.func 48) #[] #[]] W (RG W np l1 nq l2 err)) :
    Calls Tryz.prog 20 #[fv na A n ca da B m cb, fv nb C r cc db D s cd] w (RG w np l1 nq l2 err) := by
  have HH := Lib.hid H
  have HA := Lib.hid hA
  have HB := Lib.hid hB
  have HC := Lib.hid hC
  have HD := Lib.hid hD
  clear H hA hB hC hD
  go_enter Tryz.func20, Tryz.ntmps20
  have QR := Lib.hid (Qd.new ((w.alloc (.cells #[.bool na, .slice A n ca, .bool da, .slice B m cb] 26)).alloc (.cells #[.bool nb, .slice C r cc, .bool db, .slice D s cd] 26)) (w.heap.size + 1 + 1) (by simp) (.bool false) (.slice none 0 0) (.bool false) (.slice none 0 0) 26)
  have BW : Hid (Below w.heap.size w (((w.alloc (.cells #[.bool na, .slice A n ca, .bool da, .slice B m cb] 26)).alloc (.cells #[.bool nb, .slice C r cc, .bool db, .slice D s cd] 26)).alloc (.cells #[.bool false, .slice none 0 0, .bool false, .slice none 0 0] 26))) := below_alloc (below_alloc (below_alloc (Below.refl _ _) _) _) _
  have LA : Hid (Lm (((w.alloc (.cells #[.bool na, .slice A n ca, .bool da, .slice B m cb] 26)).alloc (.cells #[.bool nb, .slice C r cc, .bool db, .slice D s cd] 26)).alloc (.cells #[.bool false, .slice none 0 0, .bool false, .slice none 0 0] 26)) (((w.alloc (.cells #[.bool na, .slice A n ca, .bool da, .slice B m cb] 26)).alloc (.cells #[.bool nb, .slice C r cc, .bool db, .slice D s cd] 26)).alloc (.cells #[.bool false, .slice none 0 0, .bool false, .slice none 0 0] 26)).heap.size A n ca xs) := ((HA.out.box _).box _).box _
  have LB : Hid (Lm (((w.alloc (.cells #[.bool na, .slice A n ca, .bool da, .slice B m cb] 26)).alloc (.cells #[.bool nb, .slice C r cc, .bool db, .slice D s cd] 26)).alloc (.cells #[.bool false, .slice none 0 0, .bool false, .slice none 0 0] 26)) (((w.alloc (.cells #[.bool na, .slice A n ca, .bool da, .slice B m cb] 26)).alloc (.cells #[.bool nb, .slice C r cc, .bool db, .slice D s cd] 26)).alloc (.cells #[.bool false, .slice none 0 0, .bool false, .slice none 0 0] 26)).heap.size B m cb ys) := ((HB.out.box _).box _).box _
  have LC : Hid (Lm (((w.alloc (.cells #[.bool na, .slice A n ca, .bool da, .slice B m cb] 26)).alloc (.cells #[.bool nb, .slice C r cc, .bool db, .slice D s cd] 26)).alloc (.cells #[.bool false, .slice none 0 0, .bool false, .slice none 0 0] 26)) (((w.alloc (.cells #[.bool na, .slice A n ca, .bool da, .slice B m cb] 26)).alloc (.cells #[.bool nb, .slice C r cc, .bool db, .slice D s cd] 26)).alloc (.cells #[.bool false, .slice none 0 0, .bool false, .slice none 0 0] 26)).heap.size C r cc us) := ((HC.out.box _).box _).box _
  have LD : Hid (Lm (((w.alloc (.cells #[.bool na, .slice A n ca, .bool da, .slice B m cb] 26)).alloc (.cells #[.bool nb, .slice C r cc, .bool db, .slice D s cd] 26)).alloc (.cells #[.bool false, .slice none 0 0, .bool false, .slice none 0 0] 26)) (((w.alloc (.cells #[.bool na, .slice A n ca, .bool da, .slice B m cb] 26)).alloc (.cells #[.bool nb, .slice C r cc, .bool db, .slice D s cd] 26)).alloc (.cells #[.bool false, .slice none 0 0, .bool false, .slice none 0 0] 26)).heap.size D s cd vs) := ((HD.out.box _).box _).box _
  clear HA HB HC HD
  go_wp2_with fail
  refine (HH.out _ LA.out LB.out LC.out LD.out).mono ?_
  rintro e w1 ⟨A1, n1, c1, B1, m1, d1, rfl, hL, hM, hb⟩
  have Q := Lib.hid (QR.out.via hb)
  have L1 := Lib.hid hL
  have M1 := Lib.hid hM
  have BB := Lib.hid (btr BW.out hb)
  have ⟨q0, q1, q2, q3, f0, f1, f2, f3, ql⟩ := Q.out
  clear hL hM hb
  go_wp2
  exact post_f Tryz.results20 rfl rfl (Q.out.set (.bool np) (.slice A1 n1 c1) (.bool nq) (.slice B1 m1 d1)) ⟨A1, n1, c1, B1, m1, d1, rfl, L1.out.put4 Q.out _ _ _ _, M1.out.put4 Q.out _ _ _ _, below_put4 BB.out (by omega) _ _ _ _⟩

end Go.Proofs.YtkendkbicafdgaaGreatDoor

/- Package frac: ratio.add, with differences. -/
namespace Go.Proofs.YtkendkbicafdgaaGreatDoor
open Go.RowKit

set_option maxRecDepth 100000 in
set_option maxHeartbeats 4000000 in
theorem add_minus (w : World) (A B C D : Option Addr) (n m r s ca cb cc cd k : Nat) (x y P Q : Int) (hA : Lm w w.heap.size A n ca (digs x.natAbs)) (hB : Lm w w.heap.size B m cb (digs P.natAbs)) (hC : Lm w w.heap.size C r cc (digs y.natAbs)) (hD : Lm w w.heap.size D s cd (digs Q.natAbs))
    (hx : Sz k x) (hP : Sz k P) (hy : Sz k y) (hQ : Sz k Q) (hk : k ≤ 300) {na nb : Bool} (ha : decide (x < 0) = na) (hb : decide (y < 0) = nb) (hP0 : 0 < P) (hQ0 : 0 < Q) (t : Int) (ht : x * Q - y * P = t * (Nat.gcd P.natAbs Q.natAbs : Int))
    (hg : Nat.gcd (x * Q - y * P).natAbs (P * Q).natAbs = Nat.gcd P.natAbs Q.natAbs * Nat.gcd t.natAbs (Nat.gcd P.natAbs Q.natAbs)) :
    Calls Tryz.prog 82 #[fv na A n ca false B m cb, fv nb C r cc false D s cd, .func (.func 87) #[] #[]] w (RFr w ((x * Q - y * P) / dvr (x * Q - y * P) (P * Q)) ((P * Q) / dvr (x * Q - y * P) (P * Q))) := by
  have SX := Lib.hid hx
  have SP := Lib.hid hP
  have SY := Lib.hid hy
  have SQ := Lib.hid hQ
  have HNa := Lib.hid ha
  have HNb := Lib.hid hb
  have HP0 := Lib.hid hP0
  have HQ0 := Lib.hid hQ0
  have DP : Hid (decide (P < 0) = false) := decide_eq_false (by omega)
  have DQ : Hid (decide (Q < 0) = false) := decide_eq_false (by omega)
  have XQ := Lib.hid (hx.mul hQ)
  have YP := Lib.hid (hy.mul hP)
  have PQ := Lib.hid (hP.mul hQ)
  have SN := Lib.hid ((hx.mul hQ).sub (hy.mul hP))
  have DPQ : Hid (decide (P * Q < 0) = false) := decide_eq_false (by have := Int.mul_pos hP0 hQ0; omega)
  have HPQ : Hid (0 < P * Q) := Int.mul_pos hP0 hQ0
  have HT := Lib.hid ht
  have HGG := Lib.hid hg
  have HA := Lib.hid hA
  have HB := Lib.hid hB
  have HC := Lib.hid hC
  have HD := Lib.hid hD
  have HPn : Hid (0 < P.natAbs) := by show _ < _; omega
  clear hx hP hy hQ ha hb hP0 hQ0 ht hg hA hB hC hD
  obtain ⟨N, hN⟩ : ∃ N, x * Q - y * P = N := ⟨_, rfl⟩
  rw [hN] at HT HGG SN ⊢
  have HN := Lib.hid hN
  clear hN
  go_enter Tryz.func82, Tryz.ntmps82
  have Q3 := Lib.hid (((Qd.new w _ rfl (.bool na) (.slice A n ca) (.bool false) (.slice B m cb) 59).alloc (.cells #[.bool nb, .slice C r cc, .bool false, .slice D s cd] 59)).alloc (.cells #[.bool false, .slice none 0 0, .bool false, .slice none 0 0] 26))
  have Q4 := Lib.hid ((Qd.new (w.alloc (.cells #[.bool na, .slice A n ca, .bool false, .slice B m cb] 59)) (w.heap.size + 1) (by simp) (.bool nb) (.slice C r cc) (.bool false) (.slice D s cd) 59).alloc (.cells #[.bool false, .slice none 0 0, .bool false, .slice none 0 0] 26))
  have QR := Lib.hid (Qd.new ((w.alloc (.cells #[.bool na, .slice A n ca, .bool false, .slice B m cb] 59)).alloc (.cells #[.bool nb, .slice C r cc, .bool false, .slice D s cd] 59)) (w.heap.size + 1 + 1) (by simp) (.bool false) (.slice none 0 0) (.bool false) (.slice none 0 0) 26)
  have LA := Lib.hid (((HA.out.box (.cells #[.bool na, .slice A n ca, .bool false, .slice B m cb] 59)).box (.cells #[.bool nb, .slice C r cc, .bool false, .slice D s cd] 59)).box (.cells #[.bool false, .slice none 0 0, .bool false, .slice none 0 0] 26))
  have LB := Lib.hid (((HB.out.box (.cells #[.bool na, .slice A n ca, .bool false, .slice B m cb] 59)).box (.cells #[.bool nb, .slice C r cc, .bool false, .slice D s cd] 59)).box (.cells #[.bool false, .slice none 0 0, .bool false, .slice none 0 0] 26))
  have LC := Lib.hid (((HC.out.box (.cells #[.bool na, .slice A n ca, .bool false, .slice B m cb] 59)).box (.cells #[.bool nb, .slice C r cc, .bool false, .slice D s cd] 59)).box (.cells #[.bool false, .slice none 0 0, .bool false, .slice none 0 0] 26))
  have LD := Lib.hid (((HD.out.box (.cells #[.bool na, .slice A n ca, .bool false, .slice B m cb] 59)).box (.cells #[.bool nb, .slice C r cc, .bool false, .slice D s cd] 59)).box (.cells #[.bool false, .slice none 0 0, .bool false, .slice none 0 0] 26))
  have BW : Hid (Below w.heap.size w (((w.alloc (.cells #[.bool na, .slice A n ca, .bool false, .slice B m cb] 59)).alloc (.cells #[.bool nb, .slice C r cc, .bool false, .slice D s cd] 59)).alloc (.cells #[.bool false, .slice none 0 0, .bool false, .slice none 0 0] 26))) := below_alloc (below_alloc (below_alloc (Below.refl _ _) _) _) _
  clear HA HB HC HD
  go_wp2_with fail
  generalize ((w.alloc (.cells #[.bool na, .slice A n ca, .bool false, .slice B m cb] 59)).alloc (.cells #[.bool nb, .slice C r cc, .bool false, .slice D s cd] 59)).alloc (.cells #[.bool false, .slice none 0 0, .bool false, .slice none 0 0] 26) = W0 at *
  have hrl := QR.out.lt
  have HKS : Hid (∀ X : World, Below W0.heap.size W0 X → X.cell? ⟨w.heap.size, 0, none⟩ = some (.bool na) ∧ X.cell? ⟨w.heap.size, 1, none⟩ = some (.slice A n ca) ∧ X.cell? ⟨w.heap.size, 2, none⟩ = some (.bool false) ∧ X.cell? ⟨w.heap.size, 3, none⟩ = some (.slice B m cb) ∧ X.cell? ⟨w.heap.size + 1, 0, none⟩ = some (.bool nb) ∧ X.cell? ⟨w.heap.size + 1, 1, none⟩ = some (.slice C r cc) ∧ X.cell? ⟨w.heap.size + 1, 2, none⟩ = some (.bool false) ∧ X.cell? ⟨w.heap.size + 1, 3, none⟩ = some (.slice D s cd)) := fun X h => ⟨(Q3.out.via h).c0, (Q3.out.via h).c1, (Q3.out.via h).c2, (Q3.out.via h).c3, (Q4.out.via h).c0, (Q4.out.via h).c1, (Q4.out.via h).c2, (Q4.out.via h).c3⟩
  go_cut [7] (fun sl wx => ∃ g A3 n3 c3, sl = .pointer (some ⟨g, 0, none⟩) ∧ Pr wx g (.bool (decide (N < 0))) (.slice A3 n3 c3) ∧ Lm wx wx.heap.size A3 n3 c3 (digs N.natAbs) ∧ W0.heap.size ≤ g ∧ Below W0.heap.size W0 wx)
  case first =>
    go_region_held3 (fun w' => w'.cell? ⟨w.heap.size, 0, none⟩ = some (.bool na) ∧ w'.cell? ⟨w.heap.size, 1, none⟩ = some (.slice A n ca) ∧ w'.cell? ⟨w.heap.size, 2, none⟩ = some (.bool false) ∧ w'.cell? ⟨w.heap.size, 3, none⟩ = some (.slice B m cb) ∧ w'.cell? ⟨w.heap.size + 1, 0, none⟩ = some (.bool nb) ∧ w'.cell? ⟨w.heap.size + 1, 1, none⟩ = some (.slice C r cc) ∧ w'.cell? ⟨w.heap.size + 1, 2, none⟩ = some (.bool false) ∧ w'.cell? ⟨w.heap.size + 1, 3, none⟩ = some (.slice D s cd))
      (first | (refine HKS.out _ ?_; (repeat' (first | exact Bd | exact Bc | exact B2 | exact B1 | exact (Below.refl _ _).drew | exact Below.refl _ _ | refine below_alloc ?_ _ | refine Below.drew ?_ | refine Below.setCell ?_ ?_ _)); all_goals (first | omega | (simp; done) | (simp; omega))))
      (first
       | (go_at_call_of 70 (Value.agg #[Value.bool na, Value.slice A n ca]); refine (prod_n _ A D n s ca cd k x Q (by first | exact LA.out.via B2 | exact (LA.out.via B2).box _ | exact LA.out.drew | exact (LA.out.box _).drew | exact LA.out | exact LA.out.box _) (by first | exact LD.out.via B2 | exact (LD.out.via B2).box _ | exact LD.out.drew | exact (LD.out.box _).drew | exact LD.out | exact LD.out.box _) SX.out SQ.out (by omega) HNa.out DQ.out).mono ?_; rintro e wa ⟨A1, n1, c1, rfl, hL1, hb1⟩; have B1 : Below W0.heap.size W0 wa := (by first | exact btr B2 hb1 | exact btr B2 (bbox hb1) | exact (Below.refl _ _).drew.trans hb1 | exact b_one_d hb1 | exact hb1 | exact bbox hb1); have B1s := B1.size; (try (have F0 : Pr _ W0.heap.size (.bool false) (.slice none 0 0) := (by first | exact (Pr.new W0 _ rfl _ _ 24).via hb1 | exact (Pr.new W0 _ rfl _ _ 24).drew.via hb1))); (try (have ⟨F0a, F0b, F0c, F0d, F0e⟩ := F0)); (try (have F0 := (by first | exact F0.via hb1 | exact (F0.alloc _).via hb1))); (try (have F1 : Pr _ wb.heap.size (.bool false) (.slice none 0 0) := (by first | exact (Pr.new wb _ rfl _ _ 24).via hb1))); (try (have ⟨F0a, F0b, F0c, F0d, F0e⟩ := F0)); (try (have ⟨F1a, F1b, F1c, F1d, F1e⟩ := F1)))
       | (go_at_call_of 70 (Value.agg #[Value.bool nb, Value.slice C r cc]); refine (prod_n _ C B r m cc cb k y P (by first | exact LC.out.via B1 | exact (LC.out.via B1).box _ | exact LC.out.drew | exact (LC.out.box _).drew | exact LC.out | exact LC.out.box _) (by first | exact LB.out.via B1 | exact (LB.out.via B1).box _ | exact LB.out.drew | exact (LB.out.box _).drew | exact LB.out | exact LB.out.box _) SY.out SP.out (by omega) HNb.out DP.out).mono ?_; rintro e wb ⟨A2, n2, c2, rfl, hL2, hb2⟩; have B2 : Below W0.heap.size W0 wb := (by first | exact btr B1 hb2 | exact btr B1 (bbox hb2) | exact (Below.refl _ _).drew.trans hb2 | exact b_one_d hb2 | exact hb2 | exact bbox hb2); have B2s := B2.size; (try (have F0 : Pr _ W0.heap.size (.bool false) (.slice none 0 0) := (by first | exact (Pr.new W0 _ rfl _ _ 24).via hb2 | exact (Pr.new W0 _ rfl _ _ 24).drew.via hb2))); (try (have ⟨F0a, F0b, F0c, F0d, F0e⟩ := F0)); (try (have F0 := (by first | exact F0.via hb2 | exact (F0.alloc _).via hb2))); (try (have F1 : Pr _ wa.heap.size (.bool false) (.slice none 0 0) := (by first | exact (Pr.new wa _ rfl _ _ 24).via hb2))); (try (have ⟨F0a, F0b, F0c, F0d, F0e⟩ := F0)); (try (have ⟨F1a, F1b, F1c, F1d, F1e⟩ := F1)))
       | (go_at_call 87; refine (sub_n _ A1 A2 n1 n2 c1 c2 (k + k) (x * Q) (y * P) (by first | exact hL1 | exact hL1.box _ | exact hL1.via hb2 | exact (hL1.via hb2).box _ | exact (hL1.box _).via hb2 | exact ((hL1.box _).via hb2).box _) (by first | exact hL2 | exact hL2.box _ | exact hL2.via hb1 | exact (hL2.via hb1).box _ | exact (hL2.box _).via hb1 | exact ((hL2.box _).via hb1).box _) XQ.out YP.out (by omega) rfl rfl).mono ?_; rw [HN.out]; rintro e wc ⟨A3, n3, c3, rfl, hL3, hb3⟩; have Bc : Below W0.heap.size W0 wc := (by first | exact btr B2 hb3 | exact btr B2 (bbox hb3) | exact btr B1 hb3 | exact btr B1 (bbox hb3) | exact (Below.refl _ _).drew.trans hb3 | exact b_one_d hb3 | exact hb3 | exact bbox hb3); have Bcs := Bc.size; (try (have F0 := (by first | exact F0.via hb3 | exact (F0.alloc _).via hb3))); (try (have F1 := (by first | exact F1.via hb3 | exact (F1.alloc _).via hb3))); (try (have F2 : Pr _ wb.heap.size (.bool false) (.slice none 0 0) := (by first | exact (Pr.new wb _ rfl _ _ 24).via hb3))); (try (have F2 : Pr _ wa.heap.size (.bool false) (.slice none 0 0) := (by first | exact (Pr.new wa _ rfl _ _ 24).via hb3))); (try (have ⟨F0a, F0b, F0c, F0d, F0e⟩ := F0)); (try (have ⟨F1a, F1b, F1c, F1d, F1e⟩ := F1)); (try (have ⟨F2a, F2b, F2c, F2d, F2e⟩ := F2)))
       | (go_at_call 64; refine (must_ok _ _ _ _ _).mono ?_; rintro e wd ⟨rfl, hb4⟩; have Bd : Below W0.heap.size W0 wd := (by first | exact btr Bc hb4 | exact btr Bc (bbox hb4) | exact (Below.refl _ _).drew.trans hb4 | exact b_one_d hb4 | exact hb4 | exact bbox hb4); have Bds := Bd.size; have hL4 := (by first | exact hL3.via hb4 | exact (hL3.box _).via hb4); (try (have F0 := (by first | exact F0.via hb4 | exact (F0.alloc _).via hb4))); (try (have F1 := (by first | exact F1.via hb4 | exact (F1.alloc _).via hb4))); (try (have F2 := (by first | exact F2.via hb4 | exact (F2.alloc _).via hb4))); (try (have F3 : Pr _ wc.heap.size (.bool false) (.slice none 0 0) := (by first | exact (Pr.new wc _ rfl _ _ 24).via hb4))); (try (have ⟨F0a, F0b, F0c, F0d, F0e⟩ := F0)); (try (have ⟨F1a, F1b, F1c, F1d, F1e⟩ := F1)); (try (have ⟨F2a, F2b, F2c, F2d, F2e⟩ := F2)); (try (have ⟨F3a, F3b, F3c, F3d, F3e⟩ := F3)))
       | fail)
    all_goals
      go_wp2_with fail
      go_meet
      first
        | exact ⟨_, A3, n3, c3, rfl, Pr.new _ _ rfl _ _ _, hL4.box _, Bd.size, below_alloc Bd _⟩
        | exact ⟨_, A3, n3, c3, rfl, F0.set _ _, hL4.setP F0 _ _, (by first | exact Nat.le_refl _ | exact B1s | exact B2s | exact Bcs), below_set2 Bd (by first | exact Nat.le_refl _ | exact B1s | exact B2s | exact Bcs) _ _⟩
        | exact ⟨_, A3, n3, c3, rfl, F1.set _ _, hL4.setP F1 _ _, (by first | exact Nat.le_refl _ | exact B1s | exact B2s | exact Bcs), below_set2 Bd (by first | exact Nat.le_refl _ | exact B1s | exact B2s | exact Bcs) _ _⟩
        | exact ⟨_, A3, n3, c3, rfl, F2.set _ _, hL4.setP F2 _ _, (by first | exact Nat.le_refl _ | exact B1s | exact B2s | exact Bcs), below_set2 Bd (by first | exact Nat.le_refl _ | exact B1s | exact B2s | exact Bcs) _ _⟩
        | exact ⟨_, A3, n3, c3, rfl, F3.set _ _, hL4.setP F3 _ _, (by first | exact Nat.le_refl _ | exact B1s | exact B2s | exact Bcs), below_set2 Bd (by first | exact Nat.le_refl _ | exact B1s | exact B2s | exact Bcs) _ _⟩
  case rest =>
  obtain ⟨g7, A3, n3, c3, rfl, hP7, hL3, hg7, hbx⟩ := hcut
  obtain ⟨nN, hnN⟩ : ∃ b, decide (N < 0) = b := ⟨_, rfl⟩
  rw [hnN] at hP7
  have HNN := Lib.hid hnN
  have KA := Lib.hid (Q3.out.via hbx)
  have KB := Lib.hid (Q4.out.via hbx)
  have KR := Lib.hid (QR.out.via hbx)
  have MB := Lib.hid (LB.out.via hbx)
  have MD := Lib.hid (LD.out.via hbx)
  have P7 := Lib.hid hP7
  have L7 := Lib.hid hL3
  have BB := Lib.hid (BW.out.trans (hbx.mono BW.out.size))
  clear hnN hP7 hL3 hbx HKS Q3 Q4 QR LA LB LC LD BW XQ YP
  have ⟨_, _, a2, a3, _, _, _, _, al⟩ := KA.out
  have ⟨_, _, b2, b3, _, _, _, _, bl⟩ := KB.out
  go_wp2_with fail
  refine (prod_n _ B D m s cb cd k P Q MB.out MD.out SP.out SQ.out (by omega) DP.out DQ.out).mono ?_
  rintro e w2 ⟨A8, n8, c8, rfl, hL8, hb8⟩
  rw [DPQ.out]
  clear a2 a3 al b2 b3 bl
  have ⟨_, _, a2, a3, _, _, _, _, al⟩ := KA.out.via hb8
  have ⟨_, _, b2, b3, _, _, _, _, bl⟩ := KB.out.via hb8
  have hg8 : g7 < w2.heap.size := (P7.out.via hb8).lt
  have KA' := Lib.hid ((KA.out.via hb8).alloc (.cells #[.bool false, .slice A8 n8 c8] 24))
  have KB' := Lib.hid ((KB.out.via hb8).alloc (.cells #[.bool false, .slice A8 n8 c8] 24))
  have KR' := Lib.hid ((KR.out.via hb8).alloc (.cells #[.bool false, .slice A8 n8 c8] 24))
  have MB' := Lib.hid ((MB.out.via hb8).box (.cells #[.bool false, .slice A8 n8 c8] 24))
  have MD' := Lib.hid ((MD.out.via hb8).box (.cells #[.bool false, .slice A8 n8 c8] 24))
  have P7' := Lib.hid ((P7.out.via hb8).alloc (.cells #[.bool false, .slice A8 n8 c8] 24))
  have L7' := Lib.hid ((L7.out.via hb8).box (.cells #[.bool false, .slice A8 n8 c8] 24))
  have BB' := Lib.hid ((below_alloc (btr BB.out hb8) (.cells #[.bool false, .slice A8 n8 c8] 24)))
  clear KA
  have KA := KA'
  clear KA'
  clear KB
  have KB := KB'
  clear KB'
  clear KR
  have KR := KR'
  clear KR'
  clear MB
  have MB := MB'
  clear MB'
  clear MD
  have MD := MD'
  clear MD'
  clear P7
  have P7 := P7'
  clear P7'
  clear L7
  have L7 := L7'
  clear L7'
  clear BB
  have BB := BB'
  clear BB'
  have P8 := Lib.hid (Pr.new w2 _ rfl (.bool false) (.slice A8 n8 c8) 24)
  have L8 := Lib.hid (hL8.box (.cells #[.bool false, .slice A8 n8 c8] 24))
  clear hL8 hb8
  go_wp2_with fail
  clear a2 a3 al b2 b3 bl
  generalize w2.alloc (.cells #[.bool false, .slice A8 n8 c8] 24) = W2 at *
  generalize w2.heap.size = g8 at *
  refine (gcd_n2 _ B D m s cb cd k P Q MB.out MD.out SP.out SQ.out (by omega) DP.out DQ.out).mono ?_
  rintro e w3 ⟨A9, n9, c9, rfl, hL9, hb9⟩
  have KA' := Lib.hid (KA.out.via hb9)
  have KB' := Lib.hid (KB.out.via hb9)
  have KR' := Lib.hid (KR.out.via hb9)
  have MB' := Lib.hid (MB.out.via hb9)
  have MD' := Lib.hid (MD.out.via hb9)
  have P7' := Lib.hid (P7.out.via hb9)
  have L7' := Lib.hid (L7.out.via hb9)
  have BB' := Lib.hid ((btr BB.out hb9))
  have P8' := Lib.hid (P8.out.via hb9)
  have L8' := Lib.hid (L8.out.via hb9)
  clear KA
  have KA := KA'
  clear KA'
  clear KB
  have KB := KB'
  clear KB'
  clear KR
  have KR := KR'
  clear KR'
  clear MB
  have MB := MB'
  clear MB'
  clear MD
  have MD := MD'
  clear MD'
  clear P7
  have P7 := P7'
  clear P7'
  clear L7
  have L7 := L7'
  clear L7'
  clear BB
  have BB := BB'
  clear BB'
  clear P8
  have P8 := P8'
  clear P8'
  clear L8
  have L8 := L8'
  clear L8'
  have L9 := Lib.hid (hL9)
  clear hL9 hb9
  go_wp2_with fail
  refine (must_ok _ _ _ _ _).mono ?_
  rintro e w4 ⟨rfl, hb10⟩
  have hg9 : g8 < w4.heap.size := (P8.out.via hb10).lt
  have KA' := Lib.hid ((KA.out.via hb10).alloc (.cells #[.bool false, .slice A9 n9 c9] 24))
  have KB' := Lib.hid ((KB.out.via hb10).alloc (.cells #[.bool false, .slice A9 n9 c9] 24))
  have KR' := Lib.hid ((KR.out.via hb10).alloc (.cells #[.bool false, .slice A9 n9 c9] 24))
  have MB' := Lib.hid ((MB.out.via hb10).box (.cells #[.bool false, .slice A9 n9 c9] 24))
  have MD' := Lib.hid ((MD.out.via hb10).box (.cells #[.bool false, .slice A9 n9 c9] 24))
  have P7' := Lib.hid ((P7.out.via hb10).alloc (.cells #[.bool false, .slice A9 n9 c9] 24))
  have L7' := Lib.hid ((L7.out.via hb10).box (.cells #[.bool false, .slice A9 n9 c9] 24))
  have BB' := Lib.hid ((below_alloc (btr BB.out hb10) (.cells #[.bool false, .slice A9 n9 c9] 24)))
  have P8' := Lib.hid ((P8.out.via hb10).alloc (.cells #[.bool false, .slice A9 n9 c9] 24))
  have L8' := Lib.hid ((L8.out.via hb10).box (.cells #[.bool false, .slice A9 n9 c9] 24))
  have L9' := Lib.hid ((L9.out.via hb10).box (.cells #[.bool false, .slice A9 n9 c9] 24))
  clear KA
  have KA := KA'
  clear KA'
  clear KB
  have KB := KB'
  clear KB'
  clear KR
  have KR := KR'
  clear KR'
  clear MB
  have MB := MB'
  clear MB'
  clear MD
  have MD := MD'
  clear MD'
  clear P7
  have P7 := P7'
  clear P7'
  clear L7
  have L7 := L7'
  clear L7'
  clear BB
  have BB := BB'
  clear BB'
  clear P8
  have P8 := P8'
  clear P8'
  clear L8
  have L8 := L8'
  clear L8'
  clear L9
  have L9 := L9'
  clear L9'
  have P9 := Lib.hid (Pr.new w4 _ rfl (.bool false) (.slice A9 n9 c9) 24)
  clear KA
  clear KB
  clear MB
  clear MD
  clear hb10
  have SG := Lib.hid ((sz_gcd2 (x := P) SQ.out (by have := HQ0.out; omega)).mono (show k ≤ 2000 by omega))
  generalize hG : Nat.gcd P.natAbs Q.natAbs = G at *
  have HG0 : Hid (0 < G) := by show _ < _; rw [← hG]; exact Nat.gcd_pos_of_pos_left _ HPn.out
  clear hG
  go_wp2_with fail
  generalize w4.alloc (.cells #[.bool false, .slice A9 n9 c9] 24) = W4 at *
  generalize w4.heap.size = g9 at *
  have SZN : Hid (Sz 2000 N) := SN.out.mono (by omega)
  have SZD : Hid (Sz 2000 (P * Q)) := PQ.out.mono (by omega)
  have HDV : Hid (dvr N (P * Q) = (G * Nat.gcd t.natAbs G : Nat)) := by show _ = _; rw [dvr_pos HPQ.out, HGG.out]
  by_cases hone : G = 1
  · have HD1 : Hid (dvr N (P * Q) = 1) := by show _ = _; rw [HDV.out, hone, Nat.gcd_one_right]; rfl
    subst hone
    refine (isOne_yes _ A9 n9 c9 L9.out).mono ?_
    rintro e w5 ⟨rfl, hb5⟩
    have KR' := Lib.hid (KR.out.via hb5)
    have P7' := Lib.hid (P7.out.via hb5)
    have L7' := Lib.hid (L7.out.via hb5)
    have BB' := Lib.hid ((btr BB.out hb5))
    have P8' := Lib.hid (P8.out.via hb5)
    have L8' := Lib.hid (L8.out.via hb5)
    have L9' := Lib.hid (L9.out.via hb5)
    have P9' := Lib.hid (P9.out.via hb5)
    clear KR
    have KR := KR'
    clear KR'
    clear P7
    have P7 := P7'
    clear P7'
    clear L7
    have L7 := L7'
    clear L7'
    clear BB
    have BB := BB'
    clear BB'
    clear P8
    have P8 := P8'
    clear P8'
    clear L8
    have L8 := L8'
    clear L8'
    clear L9
    have L9 := L9'
    clear L9'
    clear P9
    have P9 := P9'
    clear P9'
    clear hb5
    have ⟨p0, p1, _, _, pl⟩ := P7.out
    have ⟨q0, q1, _, _, ql⟩ := P8.out
    have ⟨r0, r1, r2, r3, f0, f1, f2, f3, rl⟩ := KR.out
    go_wp2
    exact post_f1 Tryz.results82 rfl rfl (KR.out.set (.bool nN) (.slice A3 n3 c3) (.bool false) (.slice A8 n8 c8)) ⟨A3, n3, c3, A8, n8, c8, by rw [HD1.out, Int.ediv_one, Int.ediv_one, HNN.out, DPQ.out], by rw [HD1.out, Int.ediv_one]; exact L7.out.put4 KR.out _ _ _ _, by rw [HD1.out, Int.ediv_one]; exact L8.out.put4 KR.out _ _ _ _, below_put4 BB.out (by omega) _ _ _ _⟩
  · have HN1 : Hid (false = true ∨ digs G ≠ [1]) := .inr fun e => hone (by rw [← digs_val G, e]; rfl)
    clear hone
    refine (isOne_no _ false A9 n9 c9 (digs G) L9.out HN1.out).mono ?_
    rintro e w5 ⟨rfl, hb5⟩
    have KR' := Lib.hid (KR.out.via hb5)
    have P7' := Lib.hid (P7.out.via hb5)
    have L7' := Lib.hid (L7.out.via hb5)
    have BB' := Lib.hid ((btr BB.out hb5))
    have P8' := Lib.hid (P8.out.via hb5)
    have L8' := Lib.hid (L8.out.via hb5)
    have L9' := Lib.hid (L9.out.via hb5)
    have P9' := Lib.hid (P9.out.via hb5)
    clear KR
    have KR := KR'
    clear KR'
    clear P7
    have P7 := P7'
    clear P7'
    clear L7
    have L7 := L7'
    clear L7'
    clear BB
    have BB := BB'
    clear BB'
    clear P8
    have P8 := P8'
    clear P8'
    clear L8
    have L8 := L8'
    clear L8'
    clear L9
    have L9 := L9'
    clear L9'
    clear P9
    have P9 := P9'
    clear P9'
    clear hb5
    have DG : Hid (decide ((G : Int) < 0) = false) := by show _ = _; simp
    have DG2 : Hid (decide ((Nat.gcd t.natAbs G : Int) < 0) = false) := by show _ = _; simp
    have HSG2 : Hid (Sz 2000 (Nat.gcd t.natAbs G : Int)) := by
      show Nat.gcd t.natAbs G < _
      have h1 : Nat.gcd t.natAbs G ≤ G := Nat.gcd_le_right _ HG0.out
      exact Nat.lt_of_le_of_lt h1 SG.out
    have HDV2 : Hid ((G : Int) * (Nat.gcd t.natAbs G : Int) = dvr N (P * Q)) := by show _ = _; rw [HDV.out]; simp
    have DD : Hid (decide (dvr N (P * Q) < 0) = false) := by show _ = _; rw [HDV.out]; exact decide_eq_false (by omega)
    have ⟨p0, p1, _, _, pl⟩ := P7.out
    have ⟨s0, s1, _, _, sl⟩ := P9.out
    go_wp2_with fail
    refine (quotient_x _ A3 A9 n3 n9 c3 c9 2000 N (G : Int) t L7.out L9.out SZN.out SG.out (by omega) (by have := HG0.out; omega) HT.out HNN.out DG.out).mono ?_
    rintro e w6 ⟨A10, n10, c10, g10, A11, n11, c11, rfl, hL10, hb6⟩
    obtain ⟨nt, hnt⟩ : ∃ b, decide (t < 0) = b := ⟨_, rfl⟩
    rw [hnt]
    have HNt := Lib.hid hnt
    clear hnt p0 p1 pl s0 s1 sl
    have hg10 : g9 < w6.heap.size := (P9.out.via hb6).lt
    have KR' := Lib.hid (((KR.out.via hb6).alloc (.cells #[.bool nt, .slice A10 n10 c10] 24)).alloc (.cells #[.bool g10, .slice A11 n11 c11] 24))
    have P7' := Lib.hid (((P7.out.via hb6).alloc (.cells #[.bool nt, .slice A10 n10 c10] 24)).alloc (.cells #[.bool g10, .slice A11 n11 c11] 24))
    have L7' := Lib.hid (((L7.out.via hb6).box (.cells #[.bool nt, .slice A10 n10 c10] 24)).box (.cells #[.bool g10, .slice A11 n11 c11] 24))
    have BB' := Lib.hid ((below_alloc (below_alloc (btr BB.out hb6) (.cells #[.bool nt, .slice A10 n10 c10] 24)) (.cells #[.bool g10, .slice A11 n11 c11] 24)))
    have P8' := Lib.hid (((P8.out.via hb6).alloc (.cells #[.bool nt, .slice A10 n10 c10] 24)).alloc (.cells #[.bool g10, .slice A11 n11 c11] 24))
    have L8' := Lib.hid (((L8.out.via hb6).box (.cells #[.bool nt, .slice A10 n10 c10] 24)).box (.cells #[.bool g10, .slice A11 n11 c11] 24))
    have L9' := Lib.hid (((L9.out.via hb6).box (.cells #[.bool nt, .slice A10 n10 c10] 24)).box (.cells #[.bool g10, .slice A11 n11 c11] 24))
    have P9' := Lib.hid (((P9.out.via hb6).alloc (.cells #[.bool nt, .slice A10 n10 c10] 24)).alloc (.cells #[.bool g10, .slice A11 n11 c11] 24))
    clear KR
    have KR := KR'
    clear KR'
    clear P7
    have P7 := P7'
    clear P7'
    clear L7
    have L7 := L7'
    clear L7'
    clear BB
    have BB := BB'
    clear BB'
    clear P8
    have P8 := P8'
    clear P8'
    clear L8
    have L8 := L8'
    clear L8'
    clear L9
    have L9 := L9'
    clear L9'
    clear P9
    have P9 := P9'
    clear P9'
    have P10 := Lib.hid ((Pr.new w6 _ rfl (.bool nt) (.slice A10 n10 c10) 24).alloc (.cells #[.bool g10, .slice A11 n11 c11] 24))
    have L10 := Lib.hid ((hL10.box (.cells #[.bool nt, .slice A10 n10 c10] 24)).box (.cells #[.bool g10, .slice A11 n11 c11] 24))
    clear hL10 hb6
    have ⟨s0, s1, _, _, sl⟩ := P9.out
    have ⟨u0, u1, _, _, ul⟩ := P10.out
    go_wp2_with fail
    generalize (w6.alloc (.cells #[.bool nt, .slice A10 n10 c10] 24)).alloc (.cells #[.bool g10, .slice A11 n11 c11] 24) = W6 at *
    generalize w6.heap.size = g10' at *
    have HKS : Hid (∀ X : World, Below W6.heap.size W6 X → X.cell? ⟨g9, 0, none⟩ = some (.bool false) ∧ X.cell? ⟨g9, 1, none⟩ = some (.slice A9 n9 c9) ∧ X.cell? ⟨g10', 0, none⟩ = some (.bool nt) ∧ X.cell? ⟨g10', 1, none⟩ = some (.slice A10 n10 c10)) := fun X h => ⟨(P9.out.via h).c0, (P9.out.via h).c1, (P10.out.via h).c0, (P10.out.via h).c1⟩
    have STG : Hid (Sz 2000 t) := by
      show t.natAbs < _
      refine Nat.lt_of_le_of_lt ?_ SZN.out
      rw [HT.out, Int.natAbs_mul]
      exact Nat.le_mul_of_pos_right _ (by have := HG0.out; omega)
    clear s0 s1 sl u0 u1 ul
    have ⟨s0, s1, _, _, sl⟩ := P9.out
    have ⟨u0, u1, _, _, ul⟩ := P10.out
    go_cut [12] (fun sl wx => ∃ g A3 n3 c3, sl = .pointer (some ⟨g, 0, none⟩) ∧ Pr wx g (.bool false) (.slice A3 n3 c3) ∧ Lm wx wx.heap.size A3 n3 c3 (digs (dvr N (P * Q)).natAbs) ∧ W6.heap.size ≤ g ∧ Below W6.heap.size W6 wx)
    case first =>
      go_region_held3 (fun w' => w'.cell? ⟨g9, 0, none⟩ = some (.bool false) ∧ w'.cell? ⟨g9, 1, none⟩ = some (.slice A9 n9 c9) ∧ w'.cell? ⟨g10', 0, none⟩ = some (.bool nt) ∧ w'.cell? ⟨g10', 1, none⟩ = some (.slice A10 n10 c10))
        (first | (refine HKS.out _ ?_; (repeat' (first | exact Bd | exact Bc | exact B1 | exact (Below.refl _ _).drew | exact Below.refl _ _ | refine below_alloc ?_ _ | refine Below.drew ?_ | refine Below.setCell ?_ ?_ _)); all_goals (first | omega | (simp; done) | (simp; omega))))
        (first
         | (go_at_call 66; refine (gcd_n2 _ A10 A9 n10 n9 c10 c9 2000 t (G : Int) (by first | exact L10.out.drew | exact (L10.out.box _).drew | exact L10.out | exact L10.out.box _) (by first | exact L9.out.drew | exact (L9.out.box _).drew | exact L9.out | exact L9.out.box _) STG.out SG.out (by omega) HNt.out DG.out).mono ?_; rintro e wa ⟨A1, n1, c1, rfl, hL1, hb1⟩; have B1 : Below W6.heap.size W6 wa := (by first | exact (Below.refl _ _).drew.trans hb1 | exact b_one_d hb1 | exact hb1 | exact bbox hb1); have B1s := B1.size; (try (have F0 : Pr _ W6.heap.size (.bool false) (.slice none 0 0) := (by first | exact (Pr.new W6 _ rfl _ _ 24).via hb1 | exact (Pr.new W6 _ rfl _ _ 24).drew.via hb1))); (try (have ⟨F0a, F0b, F0c, F0d, F0e⟩ := F0)))
         | (go_at_call 64; refine (must_ok _ _ _ _ _).mono ?_; rintro e wb ⟨rfl, hb2⟩; have Bc : Below W6.heap.size W6 wb := (by first | exact btr B1 hb2 | exact btr B1 (bbox hb2) | exact (Below.refl _ _).drew.trans hb2 | exact b_one_d hb2 | exact hb2 | exact bbox hb2); have Bcs := Bc.size; have hL2 := (by first | exact hL1.via hb2 | exact (hL1.box _).via hb2); (try (have F0 := (by first | exact F0.via hb2 | exact (F0.alloc _).via hb2))); (try (have F1 : Pr _ wa.heap.size (.bool false) (.slice none 0 0) := (by first | exact (Pr.new wa _ rfl _ _ 24).via hb2 | exact (Pr.new wa _ rfl _ _ 24).drew.via hb2))); (try (have ⟨F0a, F0b, F0c, F0d, F0e⟩ := F0)); (try (have ⟨F1a, F1b, F1c, F1d, F1e⟩ := F1)))
         | (go_at_call 70; refine (prod_n _ A9 A1 n9 n1 c9 c1 2000 (G : Int) (Nat.gcd t.natAbs G : Int) (by first | exact L9.out.via Bc | exact (L9.out.via Bc).box _ | exact L9.out.drew | exact (L9.out.box _).drew | exact L9.out | exact L9.out.box _) (by first | exact hL2 | exact hL2.box _) SG.out HSG2.out (by omega) DG.out DG2.out).mono ?_; rw [HDV2.out]; rintro e wc ⟨A3', n3', c3', rfl, hL3', hb3⟩; rw [DD.out]; have Bd : Below W6.heap.size W6 wc := (by first | exact btr Bc hb3 | exact btr Bc (bbox hb3) | exact (Below.refl _ _).drew.trans hb3 | exact b_one_d hb3 | exact hb3 | exact bbox hb3); have Bds := Bd.size; (try (have F0 := (by first | exact F0.via hb3 | exact (F0.alloc _).via hb3))); (try (have F1 := (by first | exact F1.via hb3 | exact (F1.alloc _).via hb3))); (try (have F2 : Pr _ wb.heap.size (.bool false) (.slice none 0 0) := (by first | exact (Pr.new wb _ rfl _ _ 24).via hb3 | exact (Pr.new wb _ rfl _ _ 24).drew.via hb3))); (try (have ⟨F0a, F0b, F0c, F0d, F0e⟩ := F0)); (try (have ⟨F1a, F1b, F1c, F1d, F1e⟩ := F1)); (try (have ⟨F2a, F2b, F2c, F2d, F2e⟩ := F2)))
         | fail)
      all_goals
        go_wp2_with fail
        go_meet
        first
          | exact ⟨_, A3', n3', c3', rfl, Pr.new _ _ rfl _ _ _, hL3'.box _, Bd.size, below_alloc Bd _⟩
          | exact ⟨_, A3', n3', c3', rfl, F0.set _ _, hL3'.setP F0 _ _, (by first | exact Nat.le_refl _ | exact B1s | exact Bcs), below_set2 Bd (by first | exact Nat.le_refl _ | exact B1s | exact Bcs) _ _⟩
          | exact ⟨_, A3', n3', c3', rfl, F1.set _ _, hL3'.setP F1 _ _, (by first | exact Nat.le_refl _ | exact B1s | exact Bcs), below_set2 Bd (by first | exact Nat.le_refl _ | exact B1s | exact Bcs) _ _⟩
          | exact ⟨_, A3', n3', c3', rfl, F2.set _ _, hL3'.setP F2 _ _, (by first | exact Nat.le_refl _ | exact B1s | exact Bcs), below_set2 Bd (by first | exact Nat.le_refl _ | exact B1s | exact Bcs) _ _⟩
    case rest =>
    obtain ⟨g12, A12, n12, c12, rfl, hP12, hL12, hg12, hbx⟩ := hcut
    have P12 := Lib.hid hP12
    have L12 := Lib.hid hL12
    clear hP12 hL12
    have KR' := Lib.hid (KR.out.via hbx)
    have P7' := Lib.hid (P7.out.via hbx)
    have L7' := Lib.hid (L7.out.via hbx)
    have BB' := Lib.hid ((btr BB.out hbx))
    have P8' := Lib.hid (P8.out.via hbx)
    have L8' := Lib.hid (L8.out.via hbx)
    have L9' := Lib.hid (L9.out.via hbx)
    have P9' := Lib.hid (P9.out.via hbx)
    have P10' := Lib.hid (P10.out.via hbx)
    have L10' := Lib.hid (L10.out.via hbx)
    clear KR
    have KR := KR'
    clear KR'
    clear P7
    have P7 := P7'
    clear P7'
    clear L7
    have L7 := L7'
    clear L7'
    clear BB
    have BB := BB'
    clear BB'
    clear P8
    have P8 := P8'
    clear P8'
    clear L8
    have L8 := L8'
    clear L8'
    clear L9
    have L9 := L9'
    clear L9'
    clear P9
    have P9 := P9'
    clear P9'
    clear P10
    have P10 := P10'
    clear P10'
    clear L10
    have L10 := L10'
    clear L10'
    clear hbx s0 s1 sl u0 u1 ul
    have ⟨p0, p1, _, _, pl⟩ := P7.out
    have ⟨q0, q1, _, _, ql⟩ := P8.out
    have ⟨x0, x1, _, _, xl⟩ := P12.out
    go_wp2_with fail
    refine (divided_x _ A3 A8 A12 n3 n8 n12 c3 c8 c12 2000 N (P * Q) (dvr N (P * Q)) (N / dvr N (P * Q)) (P * Q / dvr N (P * Q)) L7.out L8.out L12.out SZN.out SZD.out (sz_dvr SZD.out (by have := HPQ.out; omega)) (by omega) (dvr_ne (by have := HPQ.out; omega)) (dvr_left _ _) (dvr_right _ _) HNN.out DPQ.out (by rw [HDV.out]; exact decide_eq_false (by omega))).mono ?_
    rintro e w13 ⟨A13, n13, c13, B13, m13, d13, rfl, hL13, hM13, hb13⟩
    obtain ⟨np, hnp⟩ : ∃ b, decide (N / dvr N (P * Q) < 0) = b := ⟨_, rfl⟩
    obtain ⟨nq, hnq⟩ : ∃ b, decide (P * Q / dvr N (P * Q) < 0) = b := ⟨_, rfl⟩
    rw [hnp, hnq]
    have HNp := Lib.hid hnp
    have HNq := Lib.hid hnq
    have K13 := KR.out.via hb13
    have L13 := Lib.hid hL13
    have M13 := Lib.hid hM13
    have BE := Lib.hid (btr BB.out hb13)
    have ⟨r0, r1, r2, r3, f0, f1, f2, f3, rl⟩ := K13
    clear hnp hnq hL13 hM13 hb13 p0 p1 pl q0 q1 ql x0 x1 xl
    go_wp2
    exact post_f1 Tryz.results82 rfl rfl (K13.set (.bool np) (.slice A13 n13 c13) (.bool nq) (.slice B13 m13 d13)) ⟨A13, n13, c13, B13, m13, d13, by rw [HNp.out, HNq.out], L13.out.put4 K13 _ _ _ _, M13.out.put4 K13 _ _ _ _, below_put4 BE.out (by omega) _ _ _ _⟩
end Go.Proofs.YtkendkbicafdgaaGreatDoor

/- Package frac: plus and minus. -/
namespace Go.Proofs.YtkendkbicafdgaaGreatDoor
open Go.RowKit

set_option maxRecDepth 100000 in
set_option maxHeartbeats 4000000 in
theorem plus_n (w : World) (na nb nc nd : Bool) (A B C D : Option Addr) (n m r s ca cb cc cd : Nat) (xs ys us vs : List Nat) (hA : Lm w w.heap.size A n ca xs) (hB : Lm w w.heap.size B m cb ys) (hC : Lm w w.heap.size C r cc us) (hD : Lm w w.heap.size D s cd vs) (p q : Int)
    (H : ∀ W, Lm W W.heap.size A n ca xs → Lm W W.heap.size B m cb ys → Lm W W.heap.size C r cc us → Lm W W.heap.size D s cd vs → Calls Tryz.prog 82 #[fv na A n ca nb B m cb, fv nc C r cc nd D s cd, .func (.func 83) #[] #[]] W (RFr W p q)) :
    Calls Tryz.prog 48 #[fv na A n ca nb B m cb, fv nc C r cc nd D s cd] w (RFr w p q) := by
  have HA := Lib.hid hA
  have HB := Lib.hid hB
  have HC := Lib.hid hC
  have HD := Lib.hid hD
  clear hA hB hC hD
  have HH := Lib.hid H
  clear H
  go_enter Tryz.func48, Tryz.ntmps48
  have QA := Lib.hid (((Qd.new w (w.heap.size) rfl (.bool na) (.slice A n ca) (.bool nb) (.slice B m cb) 59).alloc (.cells #[.bool nc, .slice C r cc, .bool nd, .slice D s cd] 59)).alloc (.cells #[.bool false, .slice none 0 0, .bool false, .slice none 0 0] 26))
  have QB := Lib.hid ((Qd.new (w.alloc (.cells #[.bool na, .slice A n ca, .bool nb, .slice B m cb] 59)) (w.heap.size + 1) (by simp) (.bool nc) (.slice C r cc) (.bool nd) (.slice D s cd) 59).alloc (.cells #[.bool false, .slice none 0 0, .bool false, .slice none 0 0] 26))
  have QR := Lib.hid (Qd.new ((w.alloc (.cells #[.bool na, .slice A n ca, .bool nb, .slice B m cb] 59)).alloc (.cells #[.bool nc, .slice C r cc, .bool nd, .slice D s cd] 59)) (w.heap.size + 1 + 1) (by simp) (.bool false) (.slice none 0 0) (.bool false) (.slice none 0 0) 26)
  have LA := Lib.hid (((HA.out.box (.cells #[.bool na, .slice A n ca, .bool nb, .slice B m cb] 59)).box (.cells #[.bool nc, .slice C r cc, .bool nd, .slice D s cd] 59)).box (.cells #[.bool false, .slice none 0 0, .bool false, .slice none 0 0] 26))
  have LB := Lib.hid (((HB.out.box (.cells #[.bool na, .slice A n ca, .bool nb, .slice B m cb] 59)).box (.cells #[.bool nc, .slice C r cc, .bool nd, .slice D s cd] 59)).box (.cells #[.bool false, .slice none 0 0, .bool false, .slice none 0 0] 26))
  have LC := Lib.hid (((HC.out.box (.cells #[.bool na, .slice A n ca, .bool nb, .slice B m cb] 59)).box (.cells #[.bool nc, .slice C r cc, .bool nd, .slice D s cd] 59)).box (.cells #[.bool false, .slice none 0 0, .bool false, .slice none 0 0] 26))
  have LD := Lib.hid (((HD.out.box (.cells #[.bool na, .slice A n ca, .bool nb, .slice B m cb] 59)).box (.cells #[.bool nc, .slice C r cc, .bool nd, .slice D s cd] 59)).box (.cells #[.bool false, .slice none 0 0, .bool false, .slice none 0 0] 26))
  have BW : Hid (Below w.heap.size w (((w.alloc (.cells #[.bool na, .slice A n ca, .bool nb, .slice B m cb] 59)).alloc (.cells #[.bool nc, .slice C r cc, .bool nd, .slice D s cd] 59)).alloc (.cells #[.bool false, .slice none 0 0, .bool false, .slice none 0 0] 26))) := (below_alloc (below_alloc (below_alloc (Below.refl _ _) _) _) _)
  clear HA HB HC HD
  go_wp2_with fail
  generalize ((w.alloc (.cells #[.bool na, .slice A n ca, .bool nb, .slice B m cb] 59)).alloc (.cells #[.bool nc, .slice C r cc, .bool nd, .slice D s cd] 59)).alloc (.cells #[.bool false, .slice none 0 0, .bool false, .slice none 0 0] 26) = W0 at *
  refine (HH.out _ LA.out LB.out LC.out LD.out).mono ?_
  rintro e w1 ⟨A5, n5, c5, A6, n6, c6, rfl, hL5, hL6, hb⟩
  clear LA
  clear LB
  clear LC
  clear LD
  clear QA
  clear QB
  replace QR := Lib.hid (QR.out.via hb)
  replace BW := Lib.hid (btr BW.out hb)
  have L5 := Lib.hid hL5
  have L6 := Lib.hid hL6
  clear hb hL5 hL6
  obtain ⟨z5, hz5⟩ : ∃ b, decide (p < 0) = b := ⟨_, rfl⟩
  rw [hz5]
  have Hz5 := Lib.hid hz5
  clear hz5
  obtain ⟨z6, hz6⟩ : ∃ b, decide (q < 0) = b := ⟨_, rfl⟩
  rw [hz6]
  have Hz6 := Lib.hid hz6
  clear hz6
  have ⟨rQR0, rQR1, rQR2, rQR3, rQR4, rQR5, rQR6, rQR7, rQRl⟩ := QR.out
  go_wp2
  exact post_f1 Tryz.results48 rfl rfl (QR.out.set (.bool z5) (.slice A5 n5 c5) (.bool z6) (.slice A6 n6 c6)) ⟨A5, n5, c5, A6, n6, c6, by rw [Hz5.out, Hz6.out], L5.out.put4 QR.out _ _ _ _, L6.out.put4 QR.out _ _ _ _, below_put4 BW.out (by omega) _ _ _ _⟩

end Go.Proofs.YtkendkbicafdgaaGreatDoor

