/- Lemmas, part 8. -/
import Derived.Deep.RegionLaw
import Derived.Laws.OwnMore
import Derived.Deep.DeepCutAuto
import Derived.Deep.RegionHeld3
import Derived.Test.YtkendkbicafdgaaGreatDoorFBack7
/- The reference of frac: product, added. -/
namespace Go.Proofs.YtkendkbicafdgaaGreatDoor
open Go.RowKit

section
variable (w : World) (A B : Option Addr) (n m ca cb k : Nat) (x y : Int) (hA : Lm w w.heap.size A n ca (digs x.natAbs)) (hB : Lm w w.heap.size B m cb (digs y.natAbs)) (hx : Sz k x) (hy : Sz k y) (hk : k ≤ 2000)
include hA hB hx hy hk
theorem rsub_n {na nb : Bool} (ha : decide (x < 0) = na) (hb : decide (y < 0) = nb) : Calls Tryz.prog 75 #[.agg #[.bool na, .slice A n ca], .agg #[.bool nb, .slice B m cb]] w (RN w (x - y)) := by
  subst ha hb
  have h := rsub_ok w _ _ A B n m ca cb _ _ hA hB (chkB_z hx (by omega) hy (by omega))
  rw [toI_self, toI_self] at h
  exact h.mono fun e w' hr => rz_rn (hx.sub hy) (by omega) hr
end

set_option maxRecDepth 100000 in
set_option maxHeartbeats 4000000 in
theorem rprod_pos (w : World) (A B C D : Option Addr) (n m r s ca cb cc cd k : Nat) (x u P v : Int) (hA : Lm w w.heap.size A n ca (digs x.natAbs)) (hsx : Sz k x) {na : Bool} (hna : decide (x < 0) = na) (hC : Lm w w.heap.size C r cc (digs u.natAbs)) (hsu : Sz k u) {nc : Bool} (hnc : decide (u < 0) = nc) (hB : Lm w w.heap.size B m cb (digs P.natAbs)) (hsP : Sz k P) {nb : Bool} (hnb : decide (P < 0) = nb) (hD : Lm w w.heap.size D s cd (digs v.natAbs)) (hsv : Sz k v) {nd : Bool} (hnd : decide (v < 0) = nd) (hk : k ≤ 300) (hs : 0 < P * v) :
    Calls Tryz.prog 42 #[.agg #[.bool na, .slice A n ca], .agg #[.bool nc, .slice C r cc], .agg #[.bool nb, .slice B m cb], .agg #[.bool nd, .slice D s cd]] w (RFE w (x * u / dvr (x * u) (P * v)) (P * v / dvr (x * u) (P * v))) := by
  have HA := Lib.hid hA
  have Sx := Lib.hid hsx
  have Hna := Lib.hid hna
  have HC := Lib.hid hC
  have Su := Lib.hid hsu
  have Hnc := Lib.hid hnc
  have HB := Lib.hid hB
  have SP := Lib.hid hsP
  have Hnb := Lib.hid hnb
  have HD := Lib.hid hD
  have Sv := Lib.hid hsv
  have Hnd := Lib.hid hnd
  clear hA hsx hna hC hsu hnc hB hsP hnb hD hsv hnd
  have HS := Lib.hid hs
  clear hs
  go_enter Tryz.func42, Tryz.ntmps42
  have PA := Lib.hid (((((Pr.new w (w.heap.size) rfl (.bool na) (.slice A n ca) 24).alloc (.cells #[.bool nc, .slice C r cc] 24)).alloc (.cells #[.bool nb, .slice B m cb] 24)).alloc (.cells #[.bool nd, .slice D s cd] 24)).alloc (.cells #[.bool false, .slice none 0 0, .bool false, .slice none 0 0] 26))
  have PC := Lib.hid ((((Pr.new (w.alloc (.cells #[.bool na, .slice A n ca] 24)) (w.heap.size + 1) (by simp) (.bool nc) (.slice C r cc) 24).alloc (.cells #[.bool nb, .slice B m cb] 24)).alloc (.cells #[.bool nd, .slice D s cd] 24)).alloc (.cells #[.bool false, .slice none 0 0, .bool false, .slice none 0 0] 26))
  have PB := Lib.hid (((Pr.new ((w.alloc (.cells #[.bool na, .slice A n ca] 24)).alloc (.cells #[.bool nc, .slice C r cc] 24)) (w.heap.size + 1 + 1) (by simp) (.bool nb) (.slice B m cb) 24).alloc (.cells #[.bool nd, .slice D s cd] 24)).alloc (.cells #[.bool false, .slice none 0 0, .bool false, .slice none 0 0] 26))
  have PD := Lib.hid ((Pr.new (((w.alloc (.cells #[.bool na, .slice A n ca] 24)).alloc (.cells #[.bool nc, .slice C r cc] 24)).alloc (.cells #[.bool nb, .slice B m cb] 24)) (w.heap.size + 1 + 1 + 1) (by simp) (.bool nd) (.slice D s cd) 24).alloc (.cells #[.bool false, .slice none 0 0, .bool false, .slice none 0 0] 26))
  have QR := Lib.hid (Qd.new ((((w.alloc (.cells #[.bool na, .slice A n ca] 24)).alloc (.cells #[.bool nc, .slice C r cc] 24)).alloc (.cells #[.bool nb, .slice B m cb] 24)).alloc (.cells #[.bool nd, .slice D s cd] 24)) (w.heap.size + 1 + 1 + 1 + 1) (by simp) (.bool false) (.slice none 0 0) (.bool false) (.slice none 0 0) 26)
  have LA := Lib.hid (((((HA.out.box (.cells #[.bool na, .slice A n ca] 24)).box (.cells #[.bool nc, .slice C r cc] 24)).box (.cells #[.bool nb, .slice B m cb] 24)).box (.cells #[.bool nd, .slice D s cd] 24)).box (.cells #[.bool false, .slice none 0 0, .bool false, .slice none 0 0] 26))
  have LC := Lib.hid (((((HC.out.box (.cells #[.bool na, .slice A n ca] 24)).box (.cells #[.bool nc, .slice C r cc] 24)).box (.cells #[.bool nb, .slice B m cb] 24)).box (.cells #[.bool nd, .slice D s cd] 24)).box (.cells #[.bool false, .slice none 0 0, .bool false, .slice none 0 0] 26))
  have LB := Lib.hid (((((HB.out.box (.cells #[.bool na, .slice A n ca] 24)).box (.cells #[.bool nc, .slice C r cc] 24)).box (.cells #[.bool nb, .slice B m cb] 24)).box (.cells #[.bool nd, .slice D s cd] 24)).box (.cells #[.bool false, .slice none 0 0, .bool false, .slice none 0 0] 26))
  have LD := Lib.hid (((((HD.out.box (.cells #[.bool na, .slice A n ca] 24)).box (.cells #[.bool nc, .slice C r cc] 24)).box (.cells #[.bool nb, .slice B m cb] 24)).box (.cells #[.bool nd, .slice D s cd] 24)).box (.cells #[.bool false, .slice none 0 0, .bool false, .slice none 0 0] 26))
  have BW : Hid (Below w.heap.size w (((((w.alloc (.cells #[.bool na, .slice A n ca] 24)).alloc (.cells #[.bool nc, .slice C r cc] 24)).alloc (.cells #[.bool nb, .slice B m cb] 24)).alloc (.cells #[.bool nd, .slice D s cd] 24)).alloc (.cells #[.bool false, .slice none 0 0, .bool false, .slice none 0 0] 26))) := (below_alloc (below_alloc (below_alloc (below_alloc (below_alloc (Below.refl _ _) _) _) _) _) _)
  clear HA HC HB HD
  go_wp2_with fail
  generalize ((((w.alloc (.cells #[.bool na, .slice A n ca] 24)).alloc (.cells #[.bool nc, .slice C r cc] 24)).alloc (.cells #[.bool nb, .slice B m cb] 24)).alloc (.cells #[.bool nd, .slice D s cd] 24)).alloc (.cells #[.bool false, .slice none 0 0, .bool false, .slice none 0 0] 26) = W0 at *
  refine (rmul_n _ A C n r ca cc k x u LA.out LC.out Sx.out Su.out (by omega) Hna.out Hnc.out).mono ?_
  rintro e w1 ⟨A1, n1, c1, rfl, hL1, hb⟩
  clear PA
  clear PC
  clear LA
  clear LC
  replace PB := Lib.hid (PB.out.via hb)
  replace PD := Lib.hid (PD.out.via hb)
  replace QR := Lib.hid (QR.out.via hb)
  replace LB := Lib.hid (LB.out.via hb)
  replace LD := Lib.hid (LD.out.via hb)
  replace BW := Lib.hid (btr BW.out hb)
  have L1 := Lib.hid hL1
  clear hb hL1
  obtain ⟨z1, hz1⟩ : ∃ b, decide (x * u < 0) = b := ⟨_, rfl⟩
  rw [hz1]
  have Hz1 := Lib.hid hz1
  clear hz1
  have ⟨rPB0, rPB1, rPB2, rPB3, rPBl⟩ := PB.out
  have ⟨rPD0, rPD1, rPD2, rPD3, rPDl⟩ := PD.out
  go_wp2_with fail
  clear rPB0 rPB1 rPB2 rPB3 rPBl rPD0 rPD1 rPD2 rPD3 rPDl
  replace PB := Lib.hid (PB.out.alloc (.cells #[.bool z1, .slice A1 n1 c1] 24))
  replace PD := Lib.hid (PD.out.alloc (.cells #[.bool z1, .slice A1 n1 c1] 24))
  replace QR := Lib.hid (QR.out.alloc (.cells #[.bool z1, .slice A1 n1 c1] 24))
  replace LB := Lib.hid (LB.out.box (.cells #[.bool z1, .slice A1 n1 c1] 24))
  replace LD := Lib.hid (LD.out.box (.cells #[.bool z1, .slice A1 n1 c1] 24))
  replace L1 := Lib.hid (L1.out.box (.cells #[.bool z1, .slice A1 n1 c1] 24))
  have M1 := Lib.hid (Pr.new w1 _ rfl (.bool z1) (.slice A1 n1 c1) 24)
  replace BW := Lib.hid (below_alloc BW.out (.cells #[.bool z1, .slice A1 n1 c1] 24))
  generalize w1.alloc (.cells #[.bool z1, .slice A1 n1 c1] 24) = W1 at *
  generalize w1.heap.size = g1 at *
  refine (rmul_n _ B D m s cb cd k P v LB.out LD.out SP.out Sv.out (by omega) Hnb.out Hnd.out).mono ?_
  rintro e w2 ⟨A2, n2, c2, rfl, hL2, hb⟩
  clear PB
  clear PD
  clear LB
  clear LD
  replace QR := Lib.hid (QR.out.via hb)
  replace L1 := Lib.hid (L1.out.via hb)
  replace M1 := Lib.hid (M1.out.via hb)
  replace BW := Lib.hid (btr BW.out hb)
  have L2 := Lib.hid hL2
  clear hb hL2
  obtain ⟨z2, hz2⟩ : ∃ b, decide (P * v < 0) = b := ⟨_, rfl⟩
  rw [hz2]
  have Hz2 := Lib.hid hz2
  clear hz2
  have ⟨rM10, rM11, rM12, rM13, rM1l⟩ := M1.out
  go_wp2_with fail
  clear rM10 rM11 rM12 rM13 rM1l
  replace QR := Lib.hid (QR.out.alloc (.cells #[.bool z2, .slice A2 n2 c2] 24))
  replace L1 := Lib.hid (L1.out.box (.cells #[.bool z2, .slice A2 n2 c2] 24))
  replace M1 := Lib.hid (M1.out.alloc (.cells #[.bool z2, .slice A2 n2 c2] 24))
  replace L2 := Lib.hid (L2.out.box (.cells #[.bool z2, .slice A2 n2 c2] 24))
  have M2 := Lib.hid (Pr.new w2 _ rfl (.bool z2) (.slice A2 n2 c2) 24)
  replace BW := Lib.hid (below_alloc BW.out (.cells #[.bool z2, .slice A2 n2 c2] 24))
  generalize w2.alloc (.cells #[.bool z2, .slice A2 n2 c2] 24) = W2 at *
  generalize w2.heap.size = g2 at *
  refine (rreduced_pos _ A1 A2 n1 n2 c1 c2 (k + k) (x * u) (P * v) L1.out L2.out (Sx.out.mul Su.out) (SP.out.mul Sv.out) (by omega) Hz1.out Hz2.out HS.out).mono ?_
  rintro e w3 ⟨A5, n5, c5, A6, n6, c6, rfl, hL5, hL6, hb⟩
  clear M1
  clear M2
  clear L1
  clear L2
  replace QR := Lib.hid (QR.out.via hb)
  replace BW := Lib.hid (btr BW.out hb)
  have L5 := Lib.hid hL5
  have L6 := Lib.hid hL6
  clear hb hL5 hL6
  obtain ⟨z5, hz5⟩ : ∃ b, decide (x * u / dvr (x * u) (P * v) < 0) = b := ⟨_, rfl⟩
  rw [hz5]
  have Hz5 := Lib.hid hz5
  clear hz5
  obtain ⟨z6, hz6⟩ : ∃ b, decide (P * v / dvr (x * u) (P * v) < 0) = b := ⟨_, rfl⟩
  rw [hz6]
  have Hz6 := Lib.hid hz6
  clear hz6
  have ⟨rQR0, rQR1, rQR2, rQR3, rQR4, rQR5, rQR6, rQR7, rQRl⟩ := QR.out
  go_wp2
  exact post_f Tryz.results42 rfl rfl (QR.out.set (.bool z5) (.slice A5 n5 c5) (.bool z6) (.slice A6 n6 c6)) ⟨A5, n5, c5, A6, n6, c6, by rw [Hz5.out, Hz6.out]; rfl, L5.out.put4 QR.out _ _ _ _, L6.out.put4 QR.out _ _ _ _, below_put4 BW.out (by omega) _ _ _ _⟩

set_option maxRecDepth 100000 in
set_option maxHeartbeats 4000000 in
theorem rprod_neg (w : World) (A B C D : Option Addr) (n m r s ca cb cc cd k : Nat) (x u P v : Int) (hA : Lm w w.heap.size A n ca (digs x.natAbs)) (hsx : Sz k x) {na : Bool} (hna : decide (x < 0) = na) (hC : Lm w w.heap.size C r cc (digs u.natAbs)) (hsu : Sz k u) {nc : Bool} (hnc : decide (u < 0) = nc) (hB : Lm w w.heap.size B m cb (digs P.natAbs)) (hsP : Sz k P) {nb : Bool} (hnb : decide (P < 0) = nb) (hD : Lm w w.heap.size D s cd (digs v.natAbs)) (hsv : Sz k v) {nd : Bool} (hnd : decide (v < 0) = nd) (hk : k ≤ 300) (hs : P * v < 0) :
    Calls Tryz.prog 42 #[.agg #[.bool na, .slice A n ca], .agg #[.bool nc, .slice C r cc], .agg #[.bool nb, .slice B m cb], .agg #[.bool nd, .slice D s cd]] w (RFE w (x * u / dvr (x * u) (P * v)) (P * v / dvr (x * u) (P * v))) := by
  have HA := Lib.hid hA
  have Sx := Lib.hid hsx
  have Hna := Lib.hid hna
  have HC := Lib.hid hC
  have Su := Lib.hid hsu
  have Hnc := Lib.hid hnc
  have HB := Lib.hid hB
  have SP := Lib.hid hsP
  have Hnb := Lib.hid hnb
  have HD := Lib.hid hD
  have Sv := Lib.hid hsv
  have Hnd := Lib.hid hnd
  clear hA hsx hna hC hsu hnc hB hsP hnb hD hsv hnd
  have HS := Lib.hid hs
  clear hs
  go_enter Tryz.func42, Tryz.ntmps42
  have PA := Lib.hid (((((Pr.new w (w.heap.size) rfl (.bool na) (.slice A n ca) 24).alloc (.cells #[.bool nc, .slice C r cc] 24)).alloc (.cells #[.bool nb, .slice B m cb] 24)).alloc (.cells #[.bool nd, .slice D s cd] 24)).alloc (.cells #[.bool false, .slice none 0 0, .bool false, .slice none 0 0] 26))
  have PC := Lib.hid ((((Pr.new (w.alloc (.cells #[.bool na, .slice A n ca] 24)) (w.heap.size + 1) (by simp) (.bool nc) (.slice C r cc) 24).alloc (.cells #[.bool nb, .slice B m cb] 24)).alloc (.cells #[.bool nd, .slice D s cd] 24)).alloc (.cells #[.bool false, .slice none 0 0, .bool false, .slice none 0 0] 26))
  have PB := Lib.hid (((Pr.new ((w.alloc (.cells #[.bool na, .slice A n ca] 24)).alloc (.cells #[.bool nc, .slice C r cc] 24)) (w.heap.size + 1 + 1) (by simp) (.bool nb) (.slice B m cb) 24).alloc (.cells #[.bool nd, .slice D s cd] 24)).alloc (.cells #[.bool false, .slice none 0 0, .bool false, .slice none 0 0] 26))
  have PD := Lib.hid ((Pr.new (((w.alloc (.cells #[.bool na, .slice A n ca] 24)).alloc (.cells #[.bool nc, .slice C r cc] 24)).alloc (.cells #[.bool nb, .slice B m cb] 24)) (w.heap.size + 1 + 1 + 1) (by simp) (.bool nd) (.slice D s cd) 24).alloc (.cells #[.bool false, .slice none 0 0, .bool false, .slice none 0 0] 26))
  have QR := Lib.hid (Qd.new ((((w.alloc (.cells #[.bool na, .slice A n ca] 24)).alloc (.cells #[.bool nc, .slice C r cc] 24)).alloc (.cells #[.bool nb, .slice B m cb] 24)).alloc (.cells #[.bool nd, .slice D s cd] 24)) (w.heap.size + 1 + 1 + 1 + 1) (by simp) (.bool false) (.slice none 0 0) (.bool false) (.slice none 0 0) 26)
  have LA := Lib.hid (((((HA.out.box (.cells #[.bool na, .slice A n ca] 24)).box (.cells #[.bool nc, .slice C r cc] 24)).box (.cells #[.bool nb, .slice B m cb] 24)).box (.cells #[.bool nd, .slice D s cd] 24)).box (.cells #[.bool false, .slice none 0 0, .bool false, .slice none 0 0] 26))
  have LC := Lib.hid (((((HC.out.box (.cells #[.bool na, .slice A n ca] 24)).box (.cells #[.bool nc, .slice C r cc] 24)).box (.cells #[.bool nb, .slice B m cb] 24)).box (.cells #[.bool nd, .slice D s cd] 24)).box (.cells #[.bool false, .slice none 0 0, .bool false, .slice none 0 0] 26))
  have LB := Lib.hid (((((HB.out.box (.cells #[.bool na, .slice A n ca] 24)).box (.cells #[.bool nc, .slice C r cc] 24)).box (.cells #[.bool nb, .slice B m cb] 24)).box (.cells #[.bool nd, .slice D s cd] 24)).box (.cells #[.bool false, .slice none 0 0, .bool false, .slice none 0 0] 26))
  have LD := Lib.hid (((((HD.out.box (.cells #[.bool na, .slice A n ca] 24)).box (.cells #[.bool nc, .slice C r cc] 24)).box (.cells #[.bool nb, .slice B m cb] 24)).box (.cells #[.bool nd, .slice D s cd] 24)).box (.cells #[.bool false, .slice none 0 0, .bool false, .slice none 0 0] 26))
  have BW : Hid (Below w.heap.size w (((((w.alloc (.cells #[.bool na, .slice A n ca] 24)).alloc (.cells #[.bool nc, .slice C r cc] 24)).alloc (.cells #[.bool nb, .slice B m cb] 24)).alloc (.cells #[.bool nd, .slice D s cd] 24)).alloc (.cells #[.bool false, .slice none 0 0, .bool false, .slice none 0 0] 26))) := (below_alloc (below_alloc (below_alloc (below_alloc (below_alloc (Below.refl _ _) _) _) _) _) _)
  clear HA HC HB HD
  go_wp2_with fail
  generalize ((((w.alloc (.cells #[.bool na, .slice A n ca] 24)).alloc (.cells #[.bool nc, .slice C r cc] 24)).alloc (.cells #[.bool nb, .slice B m cb] 24)).alloc (.cells #[.bool nd, .slice D s cd] 24)).alloc (.cells #[.bool false, .slice none 0 0, .bool false, .slice none 0 0] 26) = W0 at *
  refine (rmul_n _ A C n r ca cc k x u LA.out LC.out Sx.out Su.out (by omega) Hna.out Hnc.out).mono ?_
  rintro e w1 ⟨A1, n1, c1, rfl, hL1, hb⟩
  clear PA
  clear PC
  clear LA
  clear LC
  replace PB := Lib.hid (PB.out.via hb)
  replace PD := Lib.hid (PD.out.via hb)
  replace QR := Lib.hid (QR.out.via hb)
  replace LB := Lib.hid (LB.out.via hb)
  replace LD := Lib.hid (LD.out.via hb)
  replace BW := Lib.hid (btr BW.out hb)
  have L1 := Lib.hid hL1
  clear hb hL1
  obtain ⟨z1, hz1⟩ : ∃ b, decide (x * u < 0) = b := ⟨_, rfl⟩
  rw [hz1]
  have Hz1 := Lib.hid hz1
  clear hz1
  have ⟨rPB0, rPB1, rPB2, rPB3, rPBl⟩ := PB.out
  have ⟨rPD0, rPD1, rPD2, rPD3, rPDl⟩ := PD.out
  go_wp2_with fail
  clear rPB0 rPB1 rPB2 rPB3 rPBl rPD0 rPD1 rPD2 rPD3 rPDl
  replace PB := Lib.hid (PB.out.alloc (.cells #[.bool z1, .slice A1 n1 c1] 24))
  replace PD := Lib.hid (PD.out.alloc (.cells #[.bool z1, .slice A1 n1 c1] 24))
  replace QR := Lib.hid (QR.out.alloc (.cells #[.bool z1, .slice A1 n1 c1] 24))
  replace LB := Lib.hid (LB.out.box (.cells #[.bool z1, .slice A1 n1 c1] 24))
  replace LD := Lib.hid (LD.out.box (.cells #[.bool z1, .slice A1 n1 c1] 24))
  replace L1 := Lib.hid (L1.out.box (.cells #[.bool z1, .slice A1 n1 c1] 24))
  have M1 := Lib.hid (Pr.new w1 _ rfl (.bool z1) (.slice A1 n1 c1) 24)
  replace BW := Lib.hid (below_alloc BW.out (.cells #[.bool z1, .slice A1 n1 c1] 24))
  generalize w1.alloc (.cells #[.bool z1, .slice A1 n1 c1] 24) = W1 at *
  generalize w1.heap.size = g1 at *
  refine (rmul_n _ B D m s cb cd k P v LB.out LD.out SP.out Sv.out (by omega) Hnb.out Hnd.out).mono ?_
  rintro e w2 ⟨A2, n2, c2, rfl, hL2, hb⟩
  clear PB
  clear PD
  clear LB
  clear LD
  replace QR := Lib.hid (QR.out.via hb)
  replace L1 := Lib.hid (L1.out.via hb)
  replace M1 := Lib.hid (M1.out.via hb)
  replace BW := Lib.hid (btr BW.out hb)
  have L2 := Lib.hid hL2
  clear hb hL2
  obtain ⟨z2, hz2⟩ : ∃ b, decide (P * v < 0) = b := ⟨_, rfl⟩
  rw [hz2]
  have Hz2 := Lib.hid hz2
  clear hz2
  have ⟨rM10, rM11, rM12, rM13, rM1l⟩ := M1.out
  go_wp2_with fail
  clear rM10 rM11 rM12 rM13 rM1l
  replace QR := Lib.hid (QR.out.alloc (.cells #[.bool z2, .slice A2 n2 c2] 24))
  replace L1 := Lib.hid (L1.out.box (.cells #[.bool z2, .slice A2 n2 c2] 24))
  replace M1 := Lib.hid (M1.out.alloc (.cells #[.bool z2, .slice A2 n2 c2] 24))
  replace L2 := Lib.hid (L2.out.box (.cells #[.bool z2, .slice A2 n2 c2] 24))
  have M2 := Lib.hid (Pr.new w2 _ rfl (.bool z2) (.slice A2 n2 c2) 24)
  replace BW := Lib.hid (below_alloc BW.out (.cells #[.bool z2, .slice A2 n2 c2] 24))
  generalize w2.alloc (.cells #[.bool z2, .slice A2 n2 c2] 24) = W2 at *
  generalize w2.heap.size = g2 at *
  refine (rreduced_neg _ A1 A2 n1 n2 c1 c2 (k + k) (x * u) (P * v) L1.out L2.out (Sx.out.mul Su.out) (SP.out.mul Sv.out) (by omega) Hz1.out Hz2.out HS.out).mono ?_
  rintro e w3 ⟨A5, n5, c5, A6, n6, c6, rfl, hL5, hL6, hb⟩
  clear M1
  clear M2
  clear L1
  clear L2
  replace QR := Lib.hid (QR.out.via hb)
  replace BW := Lib.hid (btr BW.out hb)
  have L5 := Lib.hid hL5
  have L6 := Lib.hid hL6
  clear hb hL5 hL6
  obtain ⟨z5, hz5⟩ : ∃ b, decide (x * u / dvr (x * u) (P * v) < 0) = b := ⟨_, rfl⟩
  rw [hz5]
  have Hz5 := Lib.hid hz5
  clear hz5
  obtain ⟨z6, hz6⟩ : ∃ b, decide (P * v / dvr (x * u) (P * v) < 0) = b := ⟨_, rfl⟩
  rw [hz6]
  have Hz6 := Lib.hid hz6
  clear hz6
  have ⟨rQR0, rQR1, rQR2, rQR3, rQR4, rQR5, rQR6, rQR7, rQRl⟩ := QR.out
  go_wp2
  exact post_f Tryz.results42 rfl rfl (QR.out.set (.bool z5) (.slice A5 n5 c5) (.bool z6) (.slice A6 n6 c6)) ⟨A5, n5, c5, A6, n6, c6, by rw [Hz5.out, Hz6.out]; rfl, L5.out.put4 QR.out _ _ _ _, L6.out.put4 QR.out _ _ _ _, below_put4 BW.out (by omega) _ _ _ _⟩

set_option maxRecDepth 100000 in
set_option maxHeartbeats 4000000 in
theorem radded_add (w : World) (A B C D : Option Addr) (n m r s ca cb cc cd k : Nat) (x u P v : Int) (hA : Lm w w.heap.size A n ca (digs x.natAbs)) (hsx : Sz k x) {na : Bool} (hna : decide (x < 0) = na) (hC : Lm w w.heap.size C r cc (digs u.natAbs)) (hsu : Sz k u) {nc : Bool} (hnc : decide (u < 0) = nc) (hB : Lm w w.heap.size B m cb (digs P.natAbs)) (hsP : Sz k P) {nb : Bool} (hnb : decide (P < 0) = nb) (hD : Lm w w.heap.size D s cd (digs v.natAbs)) (hsv : Sz k v) {nd : Bool} (hnd : decide (v < 0) = nd) (hk : k ≤ 300) (hP0 : 0 < P) (hv0 : 0 < v) :
    Calls Tryz.prog 37 #[fv na A n ca nb B m cb, fv nc C r cc nd D s cd, .bool false] w (RFE w ((x * v + u * P) / dvr (x * v + u * P) (P * v)) (P * v / dvr (x * v + u * P) (P * v))) := by
  have HA := Lib.hid hA
  have Sx := Lib.hid hsx
  have Hna := Lib.hid hna
  have HC := Lib.hid hC
  have Su := Lib.hid hsu
  have Hnc := Lib.hid hnc
  have HB := Lib.hid hB
  have SP := Lib.hid hsP
  have Hnb := Lib.hid hnb
  have HD := Lib.hid hD
  have Sv := Lib.hid hsv
  have Hnd := Lib.hid hnd
  clear hA hsx hna hC hsu hnc hB hsP hnb hD hsv hnd
  have HS : Hid (0 < P * v) := Int.mul_pos hP0 hv0
  clear hP0 hv0
  go_enter Tryz.func37, Tryz.ntmps37
  have QA := Lib.hid (((Qd.new w (w.heap.size) rfl (.bool na) (.slice A n ca) (.bool nb) (.slice B m cb) 26).alloc (.cells #[.bool nc, .slice C r cc, .bool nd, .slice D s cd] 26)).alloc (.cells #[.bool false, .slice none 0 0, .bool false, .slice none 0 0] 26))
  have QB := Lib.hid ((Qd.new (w.alloc (.cells #[.bool na, .slice A n ca, .bool nb, .slice B m cb] 26)) (w.heap.size + 1) (by simp) (.bool nc) (.slice C r cc) (.bool nd) (.slice D s cd) 26).alloc (.cells #[.bool false, .slice none 0 0, .bool false, .slice none 0 0] 26))
  have QR := Lib.hid (Qd.new ((w.alloc (.cells #[.bool na, .slice A n ca, .bool nb, .slice B m cb] 26)).alloc (.cells #[.bool nc, .slice C r cc, .bool nd, .slice D s cd] 26)) (w.heap.size + 1 + 1) (by simp) (.bool false) (.slice none 0 0) (.bool false) (.slice none 0 0) 26)
  have LA := Lib.hid (((HA.out.box (.cells #[.bool na, .slice A n ca, .bool nb, .slice B m cb] 26)).box (.cells #[.bool nc, .slice C r cc, .bool nd, .slice D s cd] 26)).box (.cells #[.bool false, .slice none 0 0, .bool false, .slice none 0 0] 26))
  have LC := Lib.hid (((HC.out.box (.cells #[.bool na, .slice A n ca, .bool nb, .slice B m cb] 26)).box (.cells #[.bool nc, .slice C r cc, .bool nd, .slice D s cd] 26)).box (.cells #[.bool false, .slice none 0 0, .bool false, .slice none 0 0] 26))
  have LB := Lib.hid (((HB.out.box (.cells #[.bool na, .slice A n ca, .bool nb, .slice B m cb] 26)).box (.cells #[.bool nc, .slice C r cc, .bool nd, .slice D s cd] 26)).box (.cells #[.bool false, .slice none 0 0, .bool false, .slice none 0 0] 26))
  have LD := Lib.hid (((HD.out.box (.cells #[.bool na, .slice A n ca, .bool nb, .slice B m cb] 26)).box (.cells #[.bool nc, .slice C r cc, .bool nd, .slice D s cd] 26)).box (.cells #[.bool false, .slice none 0 0, .bool false, .slice none 0 0] 26))
  have BW : Hid (Below w.heap.size w (((w.alloc (.cells #[.bool na, .slice A n ca, .bool nb, .slice B m cb] 26)).alloc (.cells #[.bool nc, .slice C r cc, .bool nd, .slice D s cd] 26)).alloc (.cells #[.bool false, .slice none 0 0, .bool false, .slice none 0 0] 26))) := (below_alloc (below_alloc (below_alloc (Below.refl _ _) _) _) _)
  clear HA HC HB HD
  go_wp2_with fail
  generalize ((w.alloc (.cells #[.bool na, .slice A n ca, .bool nb, .slice B m cb] 26)).alloc (.cells #[.bool nc, .slice C r cc, .bool nd, .slice D s cd] 26)).alloc (.cells #[.bool false, .slice none 0 0, .bool false, .slice none 0 0] 26) = W0 at *
  refine (rmul_n _ A D n s ca cd k x v LA.out LD.out Sx.out Sv.out (by omega) Hna.out Hnd.out).mono ?_
  rintro e w1 ⟨A1, n1, c1, rfl, hL1, hb⟩
  clear LA
  replace QA := Lib.hid (QA.out.via hb)
  replace QB := Lib.hid (QB.out.via hb)
  replace QR := Lib.hid (QR.out.via hb)
  replace LC := Lib.hid (LC.out.via hb)
  replace LB := Lib.hid (LB.out.via hb)
  replace LD := Lib.hid (LD.out.via hb)
  replace BW := Lib.hid (btr BW.out hb)
  have L1 := Lib.hid hL1
  clear hb hL1
  obtain ⟨z1, hz1⟩ : ∃ b, decide (x * v < 0) = b := ⟨_, rfl⟩
  rw [hz1]
  have Hz1 := Lib.hid hz1
  clear hz1
  have ⟨rQA0, rQA1, rQA2, rQA3, rQA4, rQA5, rQA6, rQA7, rQAl⟩ := QA.out
  have ⟨rQB0, rQB1, rQB2, rQB3, rQB4, rQB5, rQB6, rQB7, rQBl⟩ := QB.out
  go_wp2_with fail
  clear rQA0 rQA1 rQA2 rQA3 rQA4 rQA5 rQA6 rQA7 rQAl rQB0 rQB1 rQB2 rQB3 rQB4 rQB5 rQB6 rQB7 rQBl
  replace QA := Lib.hid (QA.out.alloc (.cells #[.bool z1, .slice A1 n1 c1] 24))
  replace QB := Lib.hid (QB.out.alloc (.cells #[.bool z1, .slice A1 n1 c1] 24))
  replace QR := Lib.hid (QR.out.alloc (.cells #[.bool z1, .slice A1 n1 c1] 24))
  replace LC := Lib.hid (LC.out.box (.cells #[.bool z1, .slice A1 n1 c1] 24))
  replace LB := Lib.hid (LB.out.box (.cells #[.bool z1, .slice A1 n1 c1] 24))
  replace LD := Lib.hid (LD.out.box (.cells #[.bool z1, .slice A1 n1 c1] 24))
  replace L1 := Lib.hid (L1.out.box (.cells #[.bool z1, .slice A1 n1 c1] 24))
  have M1 := Lib.hid (Pr.new w1 _ rfl (.bool z1) (.slice A1 n1 c1) 24)
  replace BW := Lib.hid (below_alloc BW.out (.cells #[.bool z1, .slice A1 n1 c1] 24))
  generalize w1.alloc (.cells #[.bool z1, .slice A1 n1 c1] 24) = W1 at *
  generalize w1.heap.size = g1 at *
  refine (rmul_n _ C B r m cc cb k u P LC.out LB.out Su.out SP.out (by omega) Hnc.out Hnb.out).mono ?_
  rintro e w2 ⟨A2, n2, c2, rfl, hL2, hb⟩
  clear LC
  replace QA := Lib.hid (QA.out.via hb)
  replace QB := Lib.hid (QB.out.via hb)
  replace QR := Lib.hid (QR.out.via hb)
  replace LB := Lib.hid (LB.out.via hb)
  replace LD := Lib.hid (LD.out.via hb)
  replace L1 := Lib.hid (L1.out.via hb)
  replace M1 := Lib.hid (M1.out.via hb)
  replace BW := Lib.hid (btr BW.out hb)
  have L2 := Lib.hid hL2
  clear hb hL2
  obtain ⟨z2, hz2⟩ : ∃ b, decide (u * P < 0) = b := ⟨_, rfl⟩
  rw [hz2]
  have Hz2 := Lib.hid hz2
  clear hz2
  have ⟨rQA0, rQA1, rQA2, rQA3, rQA4, rQA5, rQA6, rQA7, rQAl⟩ := QA.out
  have ⟨rQB0, rQB1, rQB2, rQB3, rQB4, rQB5, rQB6, rQB7, rQBl⟩ := QB.out
  go_wp2_with fail
  clear rQA0 rQA1 rQA2 rQA3 rQA4 rQA5 rQA6 rQA7 rQAl rQB0 rQB1 rQB2 rQB3 rQB4 rQB5 rQB6 rQB7 rQBl
  replace QA := Lib.hid (QA.out.alloc (.cells #[.bool z2, .slice A2 n2 c2] 24))
  replace QB := Lib.hid (QB.out.alloc (.cells #[.bool z2, .slice A2 n2 c2] 24))
  replace QR := Lib.hid (QR.out.alloc (.cells #[.bool z2, .slice A2 n2 c2] 24))
  replace LB := Lib.hid (LB.out.box (.cells #[.bool z2, .slice A2 n2 c2] 24))
  replace LD := Lib.hid (LD.out.box (.cells #[.bool z2, .slice A2 n2 c2] 24))
  replace L1 := Lib.hid (L1.out.box (.cells #[.bool z2, .slice A2 n2 c2] 24))
  replace M1 := Lib.hid (M1.out.alloc (.cells #[.bool z2, .slice A2 n2 c2] 24))
  replace L2 := Lib.hid (L2.out.box (.cells #[.bool z2, .slice A2 n2 c2] 24))
  have M2 := Lib.hid (Pr.new w2 _ rfl (.bool z2) (.slice A2 n2 c2) 24)
  replace BW := Lib.hid (below_alloc BW.out (.cells #[.bool z2, .slice A2 n2 c2] 24))
  generalize w2.alloc (.cells #[.bool z2, .slice A2 n2 c2] 24) = W2 at *
  generalize w2.heap.size = g2 at *
  refine (rmul_n _ B D m s cb cd k P v LB.out LD.out SP.out Sv.out (by omega) Hnb.out Hnd.out).mono ?_
  rintro e w3 ⟨A3, n3, c3, rfl, hL3, hb⟩
  clear LB
  clear LD
  clear QA
  clear QB
  replace QR := Lib.hid (QR.out.via hb)
  replace L1 := Lib.hid (L1.out.via hb)
  replace M1 := Lib.hid (M1.out.via hb)
  replace L2 := Lib.hid (L2.out.via hb)
  replace M2 := Lib.hid (M2.out.via hb)
  replace BW := Lib.hid (btr BW.out hb)
  have L3 := Lib.hid hL3
  clear hb hL3
  obtain ⟨z3, hz3⟩ : ∃ b, decide (P * v < 0) = b := ⟨_, rfl⟩
  rw [hz3]
  have Hz3 := Lib.hid hz3
  clear hz3
  have ⟨rM10, rM11, rM12, rM13, rM1l⟩ := M1.out
  have ⟨rM20, rM21, rM22, rM23, rM2l⟩ := M2.out
  go_wp2_with fail
  clear rM10 rM11 rM12 rM13 rM1l rM20 rM21 rM22 rM23 rM2l
  replace QR := Lib.hid (QR.out.alloc (.cells #[.bool z3, .slice A3 n3 c3] 24))
  replace L1 := Lib.hid (L1.out.box (.cells #[.bool z3, .slice A3 n3 c3] 24))
  replace M1 := Lib.hid (M1.out.alloc (.cells #[.bool z3, .slice A3 n3 c3] 24))
  replace L2 := Lib.hid (L2.out.box (.cells #[.bool z3, .slice A3 n3 c3] 24))
  replace M2 := Lib.hid (M2.out.alloc (.cells #[.bool z3, .slice A3 n3 c3] 24))
  replace L3 := Lib.hid (L3.out.box (.cells #[.bool z3, .slice A3 n3 c3] 24))
  have M3 := Lib.hid (Pr.new w3 _ rfl (.bool z3) (.slice A3 n3 c3) 24)
  replace BW := Lib.hid (below_alloc BW.out (.cells #[.bool z3, .slice A3 n3 c3] 24))
  generalize w3.alloc (.cells #[.bool z3, .slice A3 n3 c3] 24) = W3 at *
  generalize w3.heap.size = g3 at *
  refine (radd_n _ A1 A2 n1 n2 c1 c2 (k + k) (x * v) (u * P) L1.out L2.out (Sx.out.mul Sv.out) (Su.out.mul SP.out) (by omega) Hz1.out Hz2.out).mono ?_
  rintro e w4 ⟨A4, n4, c4, rfl, hL4, hb⟩
  clear L1
  clear L2
  clear M1
  clear M2
  replace QR := Lib.hid (QR.out.via hb)
  replace L3 := Lib.hid (L3.out.via hb)
  replace M3 := Lib.hid (M3.out.via hb)
  replace BW := Lib.hid (btr BW.out hb)
  have L4 := Lib.hid hL4
  clear hb hL4
  obtain ⟨z4, hz4⟩ : ∃ b, decide (x * v + u * P < 0) = b := ⟨_, rfl⟩
  rw [hz4]
  have Hz4 := Lib.hid hz4
  clear hz4
  have ⟨rM30, rM31, rM32, rM33, rM3l⟩ := M3.out
  go_wp2_with fail
  clear rM30 rM31 rM32 rM33 rM3l
  replace QR := Lib.hid (QR.out.alloc (.cells #[.bool z4, .slice A4 n4 c4] 24))
  replace L3 := Lib.hid (L3.out.box (.cells #[.bool z4, .slice A4 n4 c4] 24))
  replace M3 := Lib.hid (M3.out.alloc (.cells #[.bool z4, .slice A4 n4 c4] 24))
  replace L4 := Lib.hid (L4.out.box (.cells #[.bool z4, .slice A4 n4 c4] 24))
  have M4 := Lib.hid (Pr.new w4 _ rfl (.bool z4) (.slice A4 n4 c4) 24)
  replace BW := Lib.hid (below_alloc BW.out (.cells #[.bool z4, .slice A4 n4 c4] 24))
  generalize w4.alloc (.cells #[.bool z4, .slice A4 n4 c4] 24) = W4 at *
  generalize w4.heap.size = g4 at *
  refine (rreduced_pos _ A4 A3 n4 n3 c4 c3 (k + k + 1) (x * v + u * P) (P * v) L4.out L3.out ((Sx.out.mul Sv.out).add (Su.out.mul SP.out)) ((SP.out.mul Sv.out).mono (by omega)) (by omega) Hz4.out Hz3.out HS.out).mono ?_
  rintro e w5 ⟨A5, n5, c5, A6, n6, c6, rfl, hL5, hL6, hb⟩
  clear L4
  clear L3
  clear M3
  clear M4
  replace QR := Lib.hid (QR.out.via hb)
  replace BW := Lib.hid (btr BW.out hb)
  have L5 := Lib.hid hL5
  have L6 := Lib.hid hL6
  clear hb hL5 hL6
  obtain ⟨z5, hz5⟩ : ∃ b, decide ((x * v + u * P) / dvr (x * v + u * P) (P * v) < 0) = b := ⟨_, rfl⟩
  rw [hz5]
  have Hz5 := Lib.hid hz5
  clear hz5
  obtain ⟨z6, hz6⟩ : ∃ b, decide (P * v / dvr (x * v + u * P) (P * v) < 0) = b := ⟨_, rfl⟩
  rw [hz6]
  have Hz6 := Lib.hid hz6
  clear hz6
  have ⟨rQR0, rQR1, rQR2, rQR3, rQR4, rQR5, rQR6, rQR7, rQRl⟩ := QR.out
  go_wp2
  exact post_f Tryz.results37 rfl rfl (QR.out.set (.bool z5) (.slice A5 n5 c5) (.bool z6) (.slice A6 n6 c6)) ⟨A5, n5, c5, A6, n6, c6, by rw [Hz5.out, Hz6.out]; rfl, L5.out.put4 QR.out _ _ _ _, L6.out.put4 QR.out _ _ _ _, below_put4 BW.out (by omega) _ _ _ _⟩

set_option maxRecDepth 100000 in
set_option maxHeartbeats 4000000 in
theorem radded_sub (w : World) (A B C D : Option Addr) (n m r s ca cb cc cd k : Nat) (x u P v : Int) (hA : Lm w w.heap.size A n ca (digs x.natAbs)) (hsx : Sz k x) {na : Bool} (hna : decide (x < 0) = na) (hC : Lm w w.heap.size C r cc (digs u.natAbs)) (hsu : Sz k u) {nc : Bool} (hnc : decide (u < 0) = nc) (hB : Lm w w.heap.size B m cb (digs P.natAbs)) (hsP : Sz k P) {nb : Bool} (hnb : decide (P < 0) = nb) (hD : Lm w w.heap.size D s cd (digs v.natAbs)) (hsv : Sz k v) {nd : Bool} (hnd : decide (v < 0) = nd) (hk : k ≤ 300) (hP0 : 0 < P) (hv0 : 0 < v) :
    Calls Tryz.prog 37 #[fv na A n ca nb B m cb, fv nc C r cc nd D s cd, .bool true] w (RFE w ((x * v - u * P) / dvr (x * v - u * P) (P * v)) (P * v / dvr (x * v - u * P) (P * v))) := by
  have HA := Lib.hid hA
  have Sx := Lib.hid hsx
  have Hna := Lib.hid hna
  have HC := Lib.hid hC
  have Su := Lib.hid hsu
  have Hnc := Lib.hid hnc
  have HB := Lib.hid hB
  have SP := Lib.hid hsP
  have Hnb := Lib.hid hnb
  have HD := Lib.hid hD
  have Sv := Lib.hid hsv
  have Hnd := Lib.hid hnd
  clear hA hsx hna hC hsu hnc hB hsP hnb hD hsv hnd
  have HS : Hid (0 < P * v) := Int.mul_pos hP0 hv0
  clear hP0 hv0
  go_enter Tryz.func37, Tryz.ntmps37
  have QA := Lib.hid (((Qd.new w (w.heap.size) rfl (.bool na) (.slice A n ca) (.bool nb) (.slice B m cb) 26).alloc (.cells #[.bool nc, .slice C r cc, .bool nd, .slice D s cd] 26)).alloc (.cells #[.bool false, .slice none 0 0, .bool false, .slice none 0 0] 26))
  have QB := Lib.hid ((Qd.new (w.alloc (.cells #[.bool na, .slice A n ca, .bool nb, .slice B m cb] 26)) (w.heap.size + 1) (by simp) (.bool nc) (.slice C r cc) (.bool nd) (.slice D s cd) 26).alloc (.cells #[.bool false, .slice none 0 0, .bool false, .slice none 0 0] 26))
  have QR := Lib.hid (Qd.new ((w.alloc (.cells #[.bool na, .slice A n ca, .bool nb, .slice B m cb] 26)).alloc (.cells #[.bool nc, .slice C r cc, .bool nd, .slice D s cd] 26)) (w.heap.size + 1 + 1) (by simp) (.bool false) (.slice none 0 0) (.bool false) (.slice none 0 0) 26)
  have LA := Lib.hid (((HA.out.box (.cells #[.bool na, .slice A n ca, .bool nb, .slice B m cb] 26)).box (.cells #[.bool nc, .slice C r cc, .bool nd, .slice D s cd] 26)).box (.cells #[.bool false, .slice none 0 0, .bool false, .slice none 0 0] 26))
  have LC := Lib.hid (((HC.out.box (.cells #[.bool na, .slice A n ca, .bool nb, .slice B m cb] 26)).box (.cells #[.bool nc, .slice C r cc, .bool nd, .slice D s cd] 26)).box (.cells #[.bool false, .slice none 0 0, .bool false, .slice none 0 0] 26))
  have LB := Lib.hid (((HB.out.box (.cells #[.bool na, .slice A n ca, .bool nb, .slice B m cb] 26)).box (.cells #[.bool nc, .slice C r cc, .bool nd, .slice D s cd] 26)).box (.cells #[.bool false, .slice none 0 0, .bool false, .slice none 0 0] 26))
  have LD := Lib.hid (((HD.out.box (.cells #[.bool na, .slice A n ca, .bool nb, .slice B m cb] 26)).box (.cells #[.bool nc, .slice C r cc, .bool nd, .slice D s cd] 26)).box (.cells #[.bool false, .slice none 0 0, .bool false, .slice none 0 0] 26))
  have BW : Hid (Below w.heap.size w (((w.alloc (.cells #[.bool na, .slice A n ca, .bool nb, .slice B m cb] 26)).alloc (.cells #[.bool nc, .slice C r cc, .bool nd, .slice D s cd] 26)).alloc (.cells #[.bool false, .slice none 0 0, .bool false, .slice none 0 0] 26))) := (below_alloc (below_alloc (below_alloc (Below.refl _ _) _) _) _)
  clear HA HC HB HD
  go_wp2_with fail
  generalize ((w.alloc (.cells #[.bool na, .slice A n ca, .bool nb, .slice B m cb] 26)).alloc (.cells #[.bool nc, .slice C r cc, .bool nd, .slice D s cd] 26)).alloc (.cells #[.bool false, .slice none 0 0, .bool false, .slice none 0 0] 26) = W0 at *
  refine (rmul_n _ A D n s ca cd k x v LA.out LD.out Sx.out Sv.out (by omega) Hna.out Hnd.out).mono ?_
  rintro e w1 ⟨A1, n1, c1, rfl, hL1, hb⟩
  clear LA
  replace QA := Lib.hid (QA.out.via hb)
  replace QB := Lib.hid (QB.out.via hb)
  replace QR := Lib.hid (QR.out.via hb)
  replace LC := Lib.hid (LC.out.via hb)
  replace LB := Lib.hid (LB.out.via hb)
  replace LD := Lib.hid (LD.out.via hb)
  replace BW := Lib.hid (btr BW.out hb)
  have L1 := Lib.hid hL1
  clear hb hL1
  obtain ⟨z1, hz1⟩ : ∃ b, decide (x * v < 0) = b := ⟨_, rfl⟩
  rw [hz1]
  have Hz1 := Lib.hid hz1
  clear hz1
  have ⟨rQA0, rQA1, rQA2, rQA3, rQA4, rQA5, rQA6, rQA7, rQAl⟩ := QA.out
  have ⟨rQB0, rQB1, rQB2, rQB3, rQB4, rQB5, rQB6, rQB7, rQBl⟩ := QB.out
  go_wp2_with fail
  clear rQA0 rQA1 rQA2 rQA3 rQA4 rQA5 rQA6 rQA7 rQAl rQB0 rQB1 rQB2 rQB3 rQB4 rQB5 rQB6 rQB7 rQBl
  replace QA := Lib.hid (QA.out.alloc (.cells #[.bool z1, .slice A1 n1 c1] 24))
  replace QB := Lib.hid (QB.out.alloc (.cells #[.bool z1, .slice A1 n1 c1] 24))
  replace QR := Lib.hid (QR.out.alloc (.cells #[.bool z1, .slice A1 n1 c1] 24))
  replace LC := Lib.hid (LC.out.box (.cells #[.bool z1, .slice A1 n1 c1] 24))
  replace LB := Lib.hid (LB.out.box (.cells #[.bool z1, .slice A1 n1 c1] 24))
  replace LD := Lib.hid (LD.out.box (.cells #[.bool z1, .slice A1 n1 c1] 24))
  replace L1 := Lib.hid (L1.out.box (.cells #[.bool z1, .slice A1 n1 c1] 24))
  have M1 := Lib.hid (Pr.new w1 _ rfl (.bool z1) (.slice A1 n1 c1) 24)
  replace BW := Lib.hid (below_alloc BW.out (.cells #[.bool z1, .slice A1 n1 c1] 24))
  generalize w1.alloc (.cells #[.bool z1, .slice A1 n1 c1] 24) = W1 at *
  generalize w1.heap.size = g1 at *
  refine (rmul_n _ C B r m cc cb k u P LC.out LB.out Su.out SP.out (by omega) Hnc.out Hnb.out).mono ?_
  rintro e w2 ⟨A2, n2, c2, rfl, hL2, hb⟩
  clear LC
  replace QA := Lib.hid (QA.out.via hb)
  replace QB := Lib.hid (QB.out.via hb)
  replace QR := Lib.hid (QR.out.via hb)
  replace LB := Lib.hid (LB.out.via hb)
  replace LD := Lib.hid (LD.out.via hb)
  replace L1 := Lib.hid (L1.out.via hb)
  replace M1 := Lib.hid (M1.out.via hb)
  replace BW := Lib.hid (btr BW.out hb)
  have L2 := Lib.hid hL2
  clear hb hL2
  obtain ⟨z2, hz2⟩ : ∃ b, decide (u * P < 0) = b := ⟨_, rfl⟩
  rw [hz2]
  have Hz2 := Lib.hid hz2
  clear hz2
  have ⟨rQA0, rQA1, rQA2, rQA3, rQA4, rQA5, rQA6, rQA7, rQAl⟩ := QA.out
  have ⟨rQB0, rQB1, rQB2, rQB3, rQB4, rQB5, rQB6, rQB7, rQBl⟩ := QB.out
  go_wp2_with fail
  clear rQA0 rQA1 rQA2 rQA3 rQA4 rQA5 rQA6 rQA7 rQAl rQB0 rQB1 rQB2 rQB3 rQB4 rQB5 rQB6 rQB7 rQBl
  replace QA := Lib.hid (QA.out.alloc (.cells #[.bool z2, .slice A2 n2 c2] 24))
  replace QB := Lib.hid (QB.out.alloc (.cells #[.bool z2, .slice A2 n2 c2] 24))
  replace QR := Lib.hid (QR.out.alloc (.cells #[.bool z2, .slice A2 n2 c2] 24))
  replace LB := Lib.hid (LB.out.box (.cells #[.bool z2, .slice A2 n2 c2] 24))
  replace LD := Lib.hid (LD.out.box (.cells #[.bool z2, .slice A2 n2 c2] 24))
  replace L1 := Lib.hid (L1.out.box (.cells #[.bool z2, .slice A2 n2 c2] 24))
  replace M1 := Lib.hid (M1.out.alloc (.cells #[.bool z2, .slice A2 n2 c2] 24))
  replace L2 := Lib.hid (L2.out.box (.cells #[.bool z2, .slice A2 n2 c2] 24))
  have M2 := Lib.hid (Pr.new w2 _ rfl (.bool z2) (.slice A2 n2 c2) 24)
  replace BW := Lib.hid (below_alloc BW.out (.cells #[.bool z2, .slice A2 n2 c2] 24))
  generalize w2.alloc (.cells #[.bool z2, .slice A2 n2 c2] 24) = W2 at *
  generalize w2.heap.size = g2 at *
  refine (rmul_n _ B D m s cb cd k P v LB.out LD.out SP.out Sv.out (by omega) Hnb.out Hnd.out).mono ?_
  rintro e w3 ⟨A3, n3, c3, rfl, hL3, hb⟩
  clear LB
  clear LD
  clear QA
  clear QB
  replace QR := Lib.hid (QR.out.via hb)
  replace L1 := Lib.hid (L1.out.via hb)
  replace M1 := Lib.hid (M1.out.via hb)
  replace L2 := Lib.hid (L2.out.via hb)
  replace M2 := Lib.hid (M2.out.via hb)
  replace BW := Lib.hid (btr BW.out hb)
  have L3 := Lib.hid hL3
  clear hb hL3
  obtain ⟨z3, hz3⟩ : ∃ b, decide (P * v < 0) = b := ⟨_, rfl⟩
  rw [hz3]
  have Hz3 := Lib.hid hz3
  clear hz3
  have ⟨rM10, rM11, rM12, rM13, rM1l⟩ := M1.out
  have ⟨rM20, rM21, rM22, rM23, rM2l⟩ := M2.out
  go_wp2_with fail
  clear rM10 rM11 rM12 rM13 rM1l rM20 rM21 rM22 rM23 rM2l
  replace QR := Lib.hid (QR.out.alloc (.cells #[.bool z3, .slice A3 n3 c3] 24))
  replace L1 := Lib.hid (L1.out.box (.cells #[.bool z3, .slice A3 n3 c3] 24))
  replace M1 := Lib.hid (M1.out.alloc (.cells #[.bool z3, .slice A3 n3 c3] 24))
  replace L2 := Lib.hid (L2.out.box (.cells #[.bool z3, .slice A3 n3 c3] 24))
  replace M2 := Lib.hid (M2.out.alloc (.cells #[.bool z3, .slice A3 n3 c3] 24))
  replace L3 := Lib.hid (L3.out.box (.cells #[.bool z3, .slice A3 n3 c3] 24))
  have M3 := Lib.hid (Pr.new w3 _ rfl (.bool z3) (.slice A3 n3 c3) 24)
  replace BW := Lib.hid (below_alloc BW.out (.cells #[.bool z3, .slice A3 n3 c3] 24))
  generalize w3.alloc (.cells #[.bool z3, .slice A3 n3 c3] 24) = W3 at *
  generalize w3.heap.size = g3 at *
  refine (radd_n _ A1 A2 n1 n2 c1 c2 (k + k) (x * v) (u * P) L1.out L2.out (Sx.out.mul Sv.out) (Su.out.mul SP.out) (by omega) Hz1.out Hz2.out).mono ?_
  rintro e w4 ⟨A4, n4, c4, rfl, hL4, hb⟩
  replace QR := Lib.hid (QR.out.via hb)
  replace L1 := Lib.hid (L1.out.via hb)
  replace M1 := Lib.hid (M1.out.via hb)
  replace L2 := Lib.hid (L2.out.via hb)
  replace M2 := Lib.hid (M2.out.via hb)
  replace L3 := Lib.hid (L3.out.via hb)
  replace M3 := Lib.hid (M3.out.via hb)
  replace BW := Lib.hid (btr BW.out hb)
  have L4 := Lib.hid hL4
  clear hb hL4
  obtain ⟨z4, hz4⟩ : ∃ b, decide (x * v + u * P < 0) = b := ⟨_, rfl⟩
  rw [hz4]
  have Hz4 := Lib.hid hz4
  clear hz4
  have HGQ : Hid (w.heap.size + 1 + 1 < w4.heap.size) := QR.out.lt
  have hg3 : Hid (g3 < w4.heap.size) := M3.out.lt
  have ⟨rM10, rM11, rM12, rM13, rM1l⟩ := M1.out
  have ⟨rM20, rM21, rM22, rM23, rM2l⟩ := M2.out
  go_wp2_with fail
  clear rM10 rM11 rM12 rM13 rM1l rM20 rM21 rM22 rM23 rM2l
  replace QR := Lib.hid (QR.out.alloc (.cells #[.bool z4, .slice A4 n4 c4] 24))
  replace L1 := Lib.hid (L1.out.box (.cells #[.bool z4, .slice A4 n4 c4] 24))
  replace M1 := Lib.hid (M1.out.alloc (.cells #[.bool z4, .slice A4 n4 c4] 24))
  replace L2 := Lib.hid (L2.out.box (.cells #[.bool z4, .slice A4 n4 c4] 24))
  replace M2 := Lib.hid (M2.out.alloc (.cells #[.bool z4, .slice A4 n4 c4] 24))
  replace L3 := Lib.hid (L3.out.box (.cells #[.bool z4, .slice A4 n4 c4] 24))
  replace M3 := Lib.hid (M3.out.alloc (.cells #[.bool z4, .slice A4 n4 c4] 24))
  replace L4 := Lib.hid (L4.out.box (.cells #[.bool z4, .slice A4 n4 c4] 24))
  have M4 := Lib.hid (Pr.new w4 _ rfl (.bool z4) (.slice A4 n4 c4) 24)
  replace BW := Lib.hid (below_alloc BW.out (.cells #[.bool z4, .slice A4 n4 c4] 24))
  generalize w4.alloc (.cells #[.bool z4, .slice A4 n4 c4] 24) = W4 at *
  generalize w4.heap.size = g4 at *
  refine (rsub_n _ A1 A2 n1 n2 c1 c2 (k + k) (x * v) (u * P) L1.out L2.out (Sx.out.mul Sv.out) (Su.out.mul SP.out) (by omega) Hz1.out Hz2.out).mono ?_
  rintro e w5 ⟨A7, n7, c7, rfl, hL7, hb⟩
  clear L1
  clear L2
  clear M1
  clear M2
  clear L4
  replace QR := Lib.hid (QR.out.via hb)
  replace L3 := Lib.hid (L3.out.via hb)
  replace M3 := Lib.hid (M3.out.via hb)
  replace M4 := Lib.hid (M4.out.via hb)
  replace BW := Lib.hid (btr BW.out hb)
  have L7 := Lib.hid hL7
  clear hb hL7
  obtain ⟨z7, hz7⟩ : ∃ b, decide (x * v - u * P < 0) = b := ⟨_, rfl⟩
  rw [hz7]
  have Hz7 := Lib.hid hz7
  clear hz7
  have hgq : Hid (w.heap.size + 1 + 1 < g4) := HGQ.out
  have ⟨rM40, rM41, rM42, rM43, rM4l⟩ := M4.out
  have q3 := M3.out.far (h := g4) (by have := hg3.out; omega) (.bool z7) (.slice A7 n7 c7)
  have ⟨q30, q31, q32, q33, q3l⟩ := q3
  go_wp2_with fail
  clear rM40 rM41 rM42 rM43 rM4l q3 q30 q31 q32 q33 q3l
  replace L3 := Lib.hid (L3.out.setP M4.out (.bool z7) (.slice A7 n7 c7))
  replace L7 := Lib.hid (L7.out.setP M4.out (.bool z7) (.slice A7 n7 c7))
  replace QR := Lib.hid ((QR.out.far1 (h := g4) (by have := hgq.out; omega) 0 (.bool z7)).far1 (h := g4) (by have := hgq.out; omega) 1 (.slice A7 n7 c7))
  replace BW := Lib.hid (below_set2 (g := g4) BW.out (by have := hgq.out; omega) (.bool z7) (.slice A7 n7 c7))
  clear M3 M4
  generalize (w5.setCell ⟨g4, 0, none⟩ (.bool z7)).setCell ⟨g4, 1, none⟩ (.slice A7 n7 c7) = W5 at *
  refine (rreduced_pos _ A7 A3 n7 n3 c7 c3 (k + k + 1) (x * v - u * P) (P * v) L7.out L3.out ((Sx.out.mul Sv.out).sub (Su.out.mul SP.out)) ((SP.out.mul Sv.out).mono (by omega)) (by omega) Hz7.out Hz3.out HS.out).mono ?_
  rintro e w6 ⟨A5, n5, c5, A6, n6, c6, rfl, hL5, hL6, hb⟩
  clear L7
  clear L3
  replace QR := Lib.hid (QR.out.via hb)
  replace BW := Lib.hid (btr BW.out hb)
  have L5 := Lib.hid hL5
  have L6 := Lib.hid hL6
  clear hb hL5 hL6
  obtain ⟨z5, hz5⟩ : ∃ b, decide ((x * v - u * P) / dvr (x * v - u * P) (P * v) < 0) = b := ⟨_, rfl⟩
  rw [hz5]
  have Hz5 := Lib.hid hz5
  clear hz5
  obtain ⟨z6, hz6⟩ : ∃ b, decide (P * v / dvr (x * v - u * P) (P * v) < 0) = b := ⟨_, rfl⟩
  rw [hz6]
  have Hz6 := Lib.hid hz6
  clear hz6
  have ⟨rQR0, rQR1, rQR2, rQR3, rQR4, rQR5, rQR6, rQR7, rQRl⟩ := QR.out
  go_wp2
  exact post_f Tryz.results37 rfl rfl (QR.out.set (.bool z5) (.slice A5 n5 c5) (.bool z6) (.slice A6 n6 c6)) ⟨A5, n5, c5, A6, n6, c6, by rw [Hz5.out, Hz6.out]; rfl, L5.out.put4 QR.out _ _ _ _, L6.out.put4 QR.out _ _ _ _, below_put4 BW.out (by omega) _ _ _ _⟩

end Go.Proofs.YtkendkbicafdgaaGreatDoor

/- The reference of frac: both, Add, Sub, Mul, Div, Neg, Cmp, Twin. -/
namespace Go.Proofs.YtkendkbicafdgaaGreatDoor
open Go.RowKit

set_option maxRecDepth 100000 in
set_option maxHeartbeats 4000000 in
theorem rboth_ok (w : World) (na nb nc nd : Bool) (A B C D : Option Addr) (n m r s ca cb cc cd : Nat) (xs ys us vs : List Nat) (hA : Lm w w.heap.size A n ca xs) (hB : Lm w w.heap.size B m cb ys) (hC : Lm w w.heap.size C r cc us) (hD : Lm w w.heap.size D s cd vs) (h1 : fchk na xs nb ys = 0) (h2 : fchk nc us nd vs = 0) :
    Calls Tryz.prog 36 #[fv na A n ca nb B m cb, fv nc C r cc nd D s cd] w fun e w' => e = .returned (.int .i64 0) ∧ Below w.heap.size w w' := by
  have HA := Lib.hid hA
  have HB := Lib.hid hB
  have HC := Lib.hid hC
  have HD := Lib.hid hD
  clear hA hB hC hD
  have H1 := Lib.hid h1
  clear h1
  have H2 := Lib.hid h2
  clear h2
  go_enter Tryz.func36, Tryz.ntmps36
  have QA := Lib.hid ((Qd.new w (w.heap.size) rfl (.bool na) (.slice A n ca) (.bool nb) (.slice B m cb) 26).alloc (.cells #[.bool nc, .slice C r cc, .bool nd, .slice D s cd] 26))
  have QB := Lib.hid (Qd.new (w.alloc (.cells #[.bool na, .slice A n ca, .bool nb, .slice B m cb] 26)) (w.heap.size + 1) (by simp) (.bool nc) (.slice C r cc) (.bool nd) (.slice D s cd) 26)
  have LA := Lib.hid ((HA.out.box (.cells #[.bool na, .slice A n ca, .bool nb, .slice B m cb] 26)).box (.cells #[.bool nc, .slice C r cc, .bool nd, .slice D s cd] 26))
  have LB := Lib.hid ((HB.out.box (.cells #[.bool na, .slice A n ca, .bool nb, .slice B m cb] 26)).box (.cells #[.bool nc, .slice C r cc, .bool nd, .slice D s cd] 26))
  have LC := Lib.hid ((HC.out.box (.cells #[.bool na, .slice A n ca, .bool nb, .slice B m cb] 26)).box (.cells #[.bool nc, .slice C r cc, .bool nd, .slice D s cd] 26))
  have LD := Lib.hid ((HD.out.box (.cells #[.bool na, .slice A n ca, .bool nb, .slice B m cb] 26)).box (.cells #[.bool nc, .slice C r cc, .bool nd, .slice D s cd] 26))
  have BW : Hid (Below w.heap.size w ((w.alloc (.cells #[.bool na, .slice A n ca, .bool nb, .slice B m cb] 26)).alloc (.cells #[.bool nc, .slice C r cc, .bool nd, .slice D s cd] 26))) := (below_alloc (below_alloc (Below.refl _ _) _) _)
  clear HA HB HC HD
  go_wp2_with fail
  generalize (w.alloc (.cells #[.bool na, .slice A n ca, .bool nb, .slice B m cb] 26)).alloc (.cells #[.bool nc, .slice C r cc, .bool nd, .slice D s cd] 26) = W0 at *
  refine (rfcheck_any _ na nb A B n m ca cb xs ys LA.out LB.out).mono ?_
  rintro e w1 ⟨rfl, hb⟩
  replace QA := Lib.hid (QA.out.via hb)
  replace QB := Lib.hid (QB.out.via hb)
  replace LA := Lib.hid (LA.out.via hb)
  replace LB := Lib.hid (LB.out.via hb)
  replace LC := Lib.hid (LC.out.via hb)
  replace LD := Lib.hid (LD.out.via hb)
  replace BW := Lib.hid (btr BW.out hb)
  clear hb
  rw [H1.out]
  have ⟨rQB0, rQB1, rQB2, rQB3, rQB4, rQB5, rQB6, rQB7, rQBl⟩ := QB.out
  go_wp2_with fail
  clear rQB0 rQB1 rQB2 rQB3 rQB4 rQB5 rQB6 rQB7 rQBl
  refine (rfcheck_any _ nc nd C D r s cc cd us vs LC.out LD.out).mono ?_
  rintro e w2 ⟨rfl, hb⟩
  replace QA := Lib.hid (QA.out.via hb)
  replace QB := Lib.hid (QB.out.via hb)
  replace LA := Lib.hid (LA.out.via hb)
  replace LB := Lib.hid (LB.out.via hb)
  replace LC := Lib.hid (LC.out.via hb)
  replace LD := Lib.hid (LD.out.via hb)
  replace BW := Lib.hid (btr BW.out hb)
  clear hb
  rw [H2.out]
  go_wp2
  go_ret
  exact ⟨rfl, BW.out⟩

set_option maxRecDepth 100000 in
set_option maxHeartbeats 4000000 in
theorem rboth_a (w : World) (na nb nc nd : Bool) (A B C D : Option Addr) (n m r s ca cb cc cd : Nat) (xs ys us vs : List Nat) (hA : Lm w w.heap.size A n ca xs) (hB : Lm w w.heap.size B m cb ys) (hC : Lm w w.heap.size C r cc us) (hD : Lm w w.heap.size D s cd vs) (h1 : fchk na xs nb ys = 8) :
    Calls Tryz.prog 36 #[fv na A n ca nb B m cb, fv nc C r cc nd D s cd] w fun e w' => e = .returned (.int .i64 8) ∧ Below w.heap.size w w' := by
  have HA := Lib.hid hA
  have HB := Lib.hid hB
  have HC := Lib.hid hC
  have HD := Lib.hid hD
  clear hA hB hC hD
  have H1 := Lib.hid h1
  clear h1
  go_enter Tryz.func36, Tryz.ntmps36
  have QA := Lib.hid ((Qd.new w (w.heap.size) rfl (.bool na) (.slice A n ca) (.bool nb) (.slice B m cb) 26).alloc (.cells #[.bool nc, .slice C r cc, .bool nd, .slice D s cd] 26))
  have QB := Lib.hid (Qd.new (w.alloc (.cells #[.bool na, .slice A n ca, .bool nb, .slice B m cb] 26)) (w.heap.size + 1) (by simp) (.bool nc) (.slice C r cc) (.bool nd) (.slice D s cd) 26)
  have LA := Lib.hid ((HA.out.box (.cells #[.bool na, .slice A n ca, .bool nb, .slice B m cb] 26)).box (.cells #[.bool nc, .slice C r cc, .bool nd, .slice D s cd] 26))
  have LB := Lib.hid ((HB.out.box (.cells #[.bool na, .slice A n ca, .bool nb, .slice B m cb] 26)).box (.cells #[.bool nc, .slice C r cc, .bool nd, .slice D s cd] 26))
  have LC := Lib.hid ((HC.out.box (.cells #[.bool na, .slice A n ca, .bool nb, .slice B m cb] 26)).box (.cells #[.bool nc, .slice C r cc, .bool nd, .slice D s cd] 26))
  have LD := Lib.hid ((HD.out.box (.cells #[.bool na, .slice A n ca, .bool nb, .slice B m cb] 26)).box (.cells #[.bool nc, .slice C r cc, .bool nd, .slice D s cd] 26))
  have BW : Hid (Below w.heap.size w ((w.alloc (.cells #[.bool na, .slice A n ca, .bool nb, .slice B m cb] 26)).alloc (.cells #[.bool nc, .slice C r cc, .bool nd, .slice D s cd] 26))) := (below_alloc (below_alloc (Below.refl _ _) _) _)
  clear HA HB HC HD
  go_wp2_with fail
  generalize (w.alloc (.cells #[.bool na, .slice A n ca, .bool nb, .slice B m cb] 26)).alloc (.cells #[.bool nc, .slice C r cc, .bool nd, .slice D s cd] 26) = W0 at *
  refine (rfcheck_any _ na nb A B n m ca cb xs ys LA.out LB.out).mono ?_
  rintro e w1 ⟨rfl, hb⟩
  replace QA := Lib.hid (QA.out.via hb)
  replace QB := Lib.hid (QB.out.via hb)
  replace LA := Lib.hid (LA.out.via hb)
  replace LB := Lib.hid (LB.out.via hb)
  replace LC := Lib.hid (LC.out.via hb)
  replace LD := Lib.hid (LD.out.via hb)
  replace BW := Lib.hid (btr BW.out hb)
  clear hb
  rw [H1.out]
  have ⟨rQA0, rQA1, rQA2, rQA3, rQA4, rQA5, rQA6, rQA7, rQAl⟩ := QA.out
  go_wp2_with fail
  clear rQA0 rQA1 rQA2 rQA3 rQA4 rQA5 rQA6 rQA7 rQAl
  refine (rfcheck_any _ na nb A B n m ca cb xs ys LA.out LB.out).mono ?_
  rintro e w2 ⟨rfl, hb⟩
  replace QA := Lib.hid (QA.out.via hb)
  replace QB := Lib.hid (QB.out.via hb)
  replace LA := Lib.hid (LA.out.via hb)
  replace LB := Lib.hid (LB.out.via hb)
  replace LC := Lib.hid (LC.out.via hb)
  replace LD := Lib.hid (LD.out.via hb)
  replace BW := Lib.hid (btr BW.out hb)
  clear hb
  rw [H1.out]
  go_wp2
  go_ret
  exact ⟨rfl, BW.out⟩

set_option maxRecDepth 100000 in
set_option maxHeartbeats 4000000 in
theorem rboth_b (w : World) (na nb nc nd : Bool) (A B C D : Option Addr) (n m r s ca cb cc cd : Nat) (xs ys us vs : List Nat) (hA : Lm w w.heap.size A n ca xs) (hB : Lm w w.heap.size B m cb ys) (hC : Lm w w.heap.size C r cc us) (hD : Lm w w.heap.size D s cd vs) (h1 : fchk na xs nb ys = 0) (h2 : fchk nc us nd vs = 8) :
    Calls Tryz.prog 36 #[fv na A n ca nb B m cb, fv nc C r cc nd D s cd] w fun e w' => e = .returned (.int .i64 8) ∧ Below w.heap.size w w' := by
  have HA := Lib.hid hA
  have HB := Lib.hid hB
  have HC := Lib.hid hC
  have HD := Lib.hid hD
  clear hA hB hC hD
  have H1 := Lib.hid h1
  clear h1
  have H2 := Lib.hid h2
  clear h2
  go_enter Tryz.func36, Tryz.ntmps36
  have QA := Lib.hid ((Qd.new w (w.heap.size) rfl (.bool na) (.slice A n ca) (.bool nb) (.slice B m cb) 26).alloc (.cells #[.bool nc, .slice C r cc, .bool nd, .slice D s cd] 26))
  have QB := Lib.hid (Qd.new (w.alloc (.cells #[.bool na, .slice A n ca, .bool nb, .slice B m cb] 26)) (w.heap.size + 1) (by simp) (.bool nc) (.slice C r cc) (.bool nd) (.slice D s cd) 26)
  have LA := Lib.hid ((HA.out.box (.cells #[.bool na, .slice A n ca, .bool nb, .slice B m cb] 26)).box (.cells #[.bool nc, .slice C r cc, .bool nd, .slice D s cd] 26))
  have LB := Lib.hid ((HB.out.box (.cells #[.bool na, .slice A n ca, .bool nb, .slice B m cb] 26)).box (.cells #[.bool nc, .slice C r cc, .bool nd, .slice D s cd] 26))
  have LC := Lib.hid ((HC.out.box (.cells #[.bool na, .slice A n ca, .bool nb, .slice B m cb] 26)).box (.cells #[.bool nc, .slice C r cc, .bool nd, .slice D s cd] 26))
  have LD := Lib.hid ((HD.out.box (.cells #[.bool na, .slice A n ca, .bool nb, .slice B m cb] 26)).box (.cells #[.bool nc, .slice C r cc, .bool nd, .slice D s cd] 26))
  have BW : Hid (Below w.heap.size w ((w.alloc (.cells #[.bool na, .slice A n ca, .bool nb, .slice B m cb] 26)).alloc (.cells #[.bool nc, .slice C r cc, .bool nd, .slice D s cd] 26))) := (below_alloc (below_alloc (Below.refl _ _) _) _)
  clear HA HB HC HD
  go_wp2_with fail
  generalize (w.alloc (.cells #[.bool na, .slice A n ca, .bool nb, .slice B m cb] 26)).alloc (.cells #[.bool nc, .slice C r cc, .bool nd, .slice D s cd] 26) = W0 at *
  refine (rfcheck_any _ na nb A B n m ca cb xs ys LA.out LB.out).mono ?_
  rintro e w1 ⟨rfl, hb⟩
  replace QA := Lib.hid (QA.out.via hb)
  replace QB := Lib.hid (QB.out.via hb)
  replace LA := Lib.hid (LA.out.via hb)
  replace LB := Lib.hid (LB.out.via hb)
  replace LC := Lib.hid (LC.out.via hb)
  replace LD := Lib.hid (LD.out.via hb)
  replace BW := Lib.hid (btr BW.out hb)
  clear hb
  rw [H1.out]
  have ⟨rQB0, rQB1, rQB2, rQB3, rQB4, rQB5, rQB6, rQB7, rQBl⟩ := QB.out
  go_wp2_with fail
  clear rQB0 rQB1 rQB2 rQB3 rQB4 rQB5 rQB6 rQB7 rQBl
  refine (rfcheck_any _ nc nd C D r s cc cd us vs LC.out LD.out).mono ?_
  rintro e w2 ⟨rfl, hb⟩
  replace QA := Lib.hid (QA.out.via hb)
  replace QB := Lib.hid (QB.out.via hb)
  replace LA := Lib.hid (LA.out.via hb)
  replace LB := Lib.hid (LB.out.via hb)
  replace LC := Lib.hid (LC.out.via hb)
  replace LD := Lib.hid (LD.out.via hb)
  replace BW := Lib.hid (btr BW.out hb)
  clear hb
  rw [H2.out]
  go_wp2
  go_ret
  exact ⟨rfl, BW.out⟩

theorem rboth_bad (w : World) (na nb nc nd : Bool) (A B C D : Option Addr) (n m r s ca cb cc cd : Nat) (xs ys us vs : List Nat) (hA : Lm w w.heap.size A n ca xs) (hB : Lm w w.heap.size B m cb ys) (hC : Lm w w.heap.size C r cc us) (hD : Lm w w.heap.size D s cd vs) (h : fchk na xs nb ys = 8 ∨ fchk nc us nd vs = 8) :
    Calls Tryz.prog 36 #[fv na A n ca nb B m cb, fv nc C r cc nd D s cd] w fun e w' => e = .returned (.int .i64 8) ∧ Below w.heap.size w w' := by
  have h0 : fchk na xs nb ys = 0 ∨ fchk na xs nb ys = 8 := by
    unfold fchk
    split
    · exact .inl rfl
    · exact .inr rfl
  rcases h0 with h1 | h1
  · exact rboth_b w na nb nc nd A B C D n m r s ca cb cc cd xs ys us vs hA hB hC hD h1 (by rcases h with h | h <;> omega)
  · exact rboth_a w na nb nc nd A B C D n m r s ca cb cc cd xs ys us vs hA hB hC hD h1

set_option maxRecDepth 100000 in
set_option maxHeartbeats 4000000 in
theorem rsub_bad2 (w : World) (na nb nc nd : Bool) (A B C D : Option Addr) (n m r s ca cb cc cd : Nat) (xs ys us vs : List Nat) (hA : Lm w w.heap.size A n ca xs) (hB : Lm w w.heap.size B m cb ys) (hC : Lm w w.heap.size C r cc us) (hD : Lm w w.heap.size D s cd vs) (h1 : fchk na xs nb ys = 8 ∨ fchk nc us nd vs = 8) :
    Calls Tryz.prog 12 #[fv na A n ca nb B m cb, fv nc C r cc nd D s cd] w (RG w false [] false [] 8) := by
  have HA := Lib.hid hA
  have HB := Lib.hid hB
  have HC := Lib.hid hC
  have HD := Lib.hid hD
  clear hA hB hC hD
  have H1 := Lib.hid h1
  clear h1
  go_enter Tryz.func12, Tryz.ntmps12
  have QA := Lib.hid (((Qd.new w (w.heap.size) rfl (.bool na) (.slice A n ca) (.bool nb) (.slice B m cb) 26).alloc (.cells #[.bool nc, .slice C r cc, .bool nd, .slice D s cd] 26)).alloc (.cells #[.bool false, .slice none 0 0, .bool false, .slice none 0 0] 26))
  have QB := Lib.hid ((Qd.new (w.alloc (.cells #[.bool na, .slice A n ca, .bool nb, .slice B m cb] 26)) (w.heap.size + 1) (by simp) (.bool nc) (.slice C r cc) (.bool nd) (.slice D s cd) 26).alloc (.cells #[.bool false, .slice none 0 0, .bool false, .slice none 0 0] 26))
  have QR := Lib.hid (Qd.new ((w.alloc (.cells #[.bool na, .slice A n ca, .bool nb, .slice B m cb] 26)).alloc (.cells #[.bool nc, .slice C r cc, .bool nd, .slice D s cd] 26)) (w.heap.size + 1 + 1) (by simp) (.bool false) (.slice none 0 0) (.bool false) (.slice none 0 0) 26)
  have LA := Lib.hid (((HA.out.box (.cells #[.bool na, .slice A n ca, .bool nb, .slice B m cb] 26)).box (.cells #[.bool nc, .slice C r cc, .bool nd, .slice D s cd] 26)).box (.cells #[.bool false, .slice none 0 0, .bool false, .slice none 0 0] 26))
  have LB := Lib.hid (((HB.out.box (.cells #[.bool na, .slice A n ca, .bool nb, .slice B m cb] 26)).box (.cells #[.bool nc, .slice C r cc, .bool nd, .slice D s cd] 26)).box (.cells #[.bool false, .slice none 0 0, .bool false, .slice none 0 0] 26))
  have LC := Lib.hid (((HC.out.box (.cells #[.bool na, .slice A n ca, .bool nb, .slice B m cb] 26)).box (.cells #[.bool nc, .slice C r cc, .bool nd, .slice D s cd] 26)).box (.cells #[.bool false, .slice none 0 0, .bool false, .slice none 0 0] 26))
  have LD := Lib.hid (((HD.out.box (.cells #[.bool na, .slice A n ca, .bool nb, .slice B m cb] 26)).box (.cells #[.bool nc, .slice C r cc, .bool nd, .slice D s cd] 26)).box (.cells #[.bool false, .slice none 0 0, .bool false, .slice none 0 0] 26))
  have BW : Hid (Below w.heap.size w (((w.alloc (.cells #[.bool na, .slice A n ca, .bool nb, .slice B m cb] 26)).alloc (.cells #[.bool nc, .slice C r cc, .bool nd, .slice D s cd] 26)).alloc (.cells #[.bool false, .slice none 0 0, .bool false, .slice none 0 0] 26))) := (below_alloc (below_alloc (below_alloc (Below.refl _ _) _) _) _)
  clear HA HB HC HD
  go_wp2_with fail
  generalize ((w.alloc (.cells #[.bool na, .slice A n ca, .bool nb, .slice B m cb] 26)).alloc (.cells #[.bool nc, .slice C r cc, .bool nd, .slice D s cd] 26)).alloc (.cells #[.bool false, .slice none 0 0, .bool false, .slice none 0 0] 26) = W0 at *
  refine (rboth_bad _ na nb nc nd A B C D n m r s ca cb cc cd xs ys us vs LA.out LB.out LC.out LD.out H1.out).mono ?_
  rintro e w1 ⟨rfl, hb⟩
  replace QA := Lib.hid (QA.out.via hb)
  replace QB := Lib.hid (QB.out.via hb)
  replace QR := Lib.hid (QR.out.via hb)
  replace LA := Lib.hid (LA.out.via hb)
  replace LB := Lib.hid (LB.out.via hb)
  replace LC := Lib.hid (LC.out.via hb)
  replace LD := Lib.hid (LD.out.via hb)
  replace BW := Lib.hid (btr BW.out hb)
  clear hb
  have ⟨rQA0, rQA1, rQA2, rQA3, rQA4, rQA5, rQA6, rQA7, rQAl⟩ := QA.out
  have ⟨rQB0, rQB1, rQB2, rQB3, rQB4, rQB5, rQB6, rQB7, rQBl⟩ := QB.out
  go_wp2_with fail
  clear rQA0 rQA1 rQA2 rQA3 rQA4 rQA5 rQA6 rQA7 rQAl rQB0 rQB1 rQB2 rQB3 rQB4 rQB5 rQB6 rQB7 rQBl
  refine (rboth_bad _ na nb nc nd A B C D n m r s ca cb cc cd xs ys us vs LA.out LB.out LC.out LD.out H1.out).mono ?_
  rintro e w2 ⟨rfl, hb⟩
  replace QA := Lib.hid (QA.out.via hb)
  replace QB := Lib.hid (QB.out.via hb)
  replace QR := Lib.hid (QR.out.via hb)
  replace LA := Lib.hid (LA.out.via hb)
  replace LB := Lib.hid (LB.out.via hb)
  replace LC := Lib.hid (LC.out.via hb)
  replace LD := Lib.hid (LD.out.via hb)
  replace BW := Lib.hid (btr BW.out hb)
  clear hb
  have ⟨rQR0, rQR1, rQR2, rQR3, rQR4, rQR5, rQR6, rQR7, rQRl⟩ := QR.out
  go_wp2
  exact post_f Tryz.results12 rfl rfl (QR.out.set (.bool false) (.slice none 0 0) (.bool false) (.slice none 0 0)) ⟨none, 0, 0, none, 0, 0, rfl, Lm.nil _ _, Lm.nil _ _, below_put4 BW.out (by omega) _ _ _ _⟩

set_option maxRecDepth 100000 in
set_option maxHeartbeats 4000000 in
theorem rmul_bad2 (w : World) (na nb nc nd : Bool) (A B C D : Option Addr) (n m r s ca cb cc cd : Nat) (xs ys us vs : List Nat) (hA : Lm w w.heap.size A n ca xs) (hB : Lm w w.heap.size B m cb ys) (hC : Lm w w.heap.size C r cc us) (hD : Lm w w.heap.size D s cd vs) (h1 : fchk na xs nb ys = 8 ∨ fchk nc us nd vs = 8) :
    Calls Tryz.prog 16 #[fv na A n ca nb B m cb, fv nc C r cc nd D s cd] w (RG w false [] false [] 8) := by
  have HA := Lib.hid hA
  have HB := Lib.hid hB
  have HC := Lib.hid hC
  have HD := Lib.hid hD
  clear hA hB hC hD
  have H1 := Lib.hid h1
  clear h1
  go_enter Tryz.func16, Tryz.ntmps16
  have QA := Lib.hid (((Qd.new w (w.heap.size) rfl (.bool na) (.slice A n ca) (.bool nb) (.slice B m cb) 26).alloc (.cells #[.bool nc, .slice C r cc, .bool nd, .slice D s cd] 26)).alloc (.cells #[.bool false, .slice none 0 0, .bool false, .slice none 0 0] 26))
  have QB := Lib.hid ((Qd.new (w.alloc (.cells #[.bool na, .slice A n ca, .bool nb, .slice B m cb] 26)) (w.heap.size + 1) (by simp) (.bool nc) (.slice C r cc) (.bool nd) (.slice D s cd) 26).alloc (.cells #[.bool false, .slice none 0 0, .bool false, .slice none 0 0] 26))
  have QR := Lib.hid (Qd.new ((w.alloc (.cells #[.bool na, .slice A n ca, .bool nb, .slice B m cb] 26)).alloc (.cells #[.bool nc, .slice C r cc, .bool nd, .slice D s cd] 26)) (w.heap.size + 1 + 1) (by simp) (.bool false) (.slice none 0 0) (.bool false) (.slice none 0 0) 26)
  have LA := Lib.hid (((HA.out.box (.cells #[.bool na, .slice A n ca, .bool nb, .slice B m cb] 26)).box (.cells #[.bool nc, .slice C r cc, .bool nd, .slice D s cd] 26)).box (.cells #[.bool false, .slice none 0 0, .bool false, .slice none 0 0] 26))
  have LB := Lib.hid (((HB.out.box (.cells #[.bool na, .slice A n ca, .bool nb, .slice B m cb] 26)).box (.cells #[.bool nc, .slice C r cc, .bool nd, .slice D s cd] 26)).box (.cells #[.bool false, .slice none 0 0, .bool false, .slice none 0 0] 26))
  have LC := Lib.hid (((HC.out.box (.cells #[.bool na, .slice A n ca, .bool nb, .slice B m cb] 26)).box (.cells #[.bool nc, .slice C r cc, .bool nd, .slice D s cd] 26)).box (.cells #[.bool false, .slice none 0 0, .bool false, .slice none 0 0] 26))
  have LD := Lib.hid (((HD.out.box (.cells #[.bool na, .slice A n ca, .bool nb, .slice B m cb] 26)).box (.cells #[.bool nc, .slice C r cc, .bool nd, .slice D s cd] 26)).box (.cells #[.bool false, .slice none 0 0, .bool false, .slice none 0 0] 26))
  have BW : Hid (Below w.heap.size w (((w.alloc (.cells #[.bool na, .slice A n ca, .bool nb, .slice B m cb] 26)).alloc (.cells #[.bool nc, .slice C r cc, .bool nd, .slice D s cd] 26)).alloc (.cells #[.bool false, .slice none 0 0, .bool false, .slice none 0 0] 26))) := (below_alloc (below_alloc (below_alloc (Below.refl _ _) _) _) _)
  clear HA HB HC HD
  go_wp2_with fail
  generalize ((w.alloc (.cells #[.bool na, .slice A n ca, .bool nb, .slice B m cb] 26)).alloc (.cells #[.bool nc, .slice C r cc, .bool nd, .slice D s cd] 26)).alloc (.cells #[.bool false, .slice none 0 0, .bool false, .slice none 0 0] 26) = W0 at *
  refine (rboth_bad _ na nb nc nd A B C D n m r s ca cb cc cd xs ys us vs LA.out LB.out LC.out LD.out H1.out).mono ?_
  rintro e w1 ⟨rfl, hb⟩
  replace QA := Lib.hid (QA.out.via hb)
  replace QB := Lib.hid (QB.out.via hb)
  replace QR := Lib.hid (QR.out.via hb)
  replace LA := Lib.hid (LA.out.via hb)
  replace LB := Lib.hid (LB.out.via hb)
  replace LC := Lib.hid (LC.out.via hb)
  replace LD := Lib.hid (LD.out.via hb)
  replace BW := Lib.hid (btr BW.out hb)
  clear hb
  have ⟨rQA0, rQA1, rQA2, rQA3, rQA4, rQA5, rQA6, rQA7, rQAl⟩ := QA.out
  have ⟨rQB0, rQB1, rQB2, rQB3, rQB4, rQB5, rQB6, rQB7, rQBl⟩ := QB.out
  go_wp2_with fail
  clear rQA0 rQA1 rQA2 rQA3 rQA4 rQA5 rQA6 rQA7 rQAl rQB0 rQB1 rQB2 rQB3 rQB4 rQB5 rQB6 rQB7 rQBl
  refine (rboth_bad _ na nb nc nd A B C D n m r s ca cb cc cd xs ys us vs LA.out LB.out LC.out LD.out H1.out).mono ?_
  rintro e w2 ⟨rfl, hb⟩
  replace QA := Lib.hid (QA.out.via hb)
  replace QB := Lib.hid (QB.out.via hb)
  replace QR := Lib.hid (QR.out.via hb)
  replace LA := Lib.hid (LA.out.via hb)
  replace LB := Lib.hid (LB.out.via hb)
  replace LC := Lib.hid (LC.out.via hb)
  replace LD := Lib.hid (LD.out.via hb)
  replace BW := Lib.hid (btr BW.out hb)
  clear hb
  have ⟨rQR0, rQR1, rQR2, rQR3, rQR4, rQR5, rQR6, rQR7, rQRl⟩ := QR.out
  go_wp2
  exact post_f Tryz.results16 rfl rfl (QR.out.set (.bool false) (.slice none 0 0) (.bool false) (.slice none 0 0)) ⟨none, 0, 0, none, 0, 0, rfl, Lm.nil _ _, Lm.nil _ _, below_put4 BW.out (by omega) _ _ _ _⟩

set_option maxRecDepth 100000 in
set_option maxHeartbeats 4000000 in
theorem rcmp_bad2 (w : World) (na nb nc nd : Bool) (A B C D : Option Addr) (n m r s ca cb cc cd : Nat) (xs ys us vs : List Nat) (hA : Lm w w.heap.size A n ca xs) (hB : Lm w w.heap.size B m cb ys) (hC : Lm w w.heap.size C r cc us) (hD : Lm w w.heap.size D s cd vs) (h1 : fchk na xs nb ys = 8 ∨ fchk nc us nd vs = 8) :
    Calls Tryz.prog 18 #[fv na A n ca nb B m cb, fv nc C r cc nd D s cd] w (RIE w 0 8) := by
  have HA := Lib.hid hA
  have HB := Lib.hid hB
  have HC := Lib.hid hC
  have HD := Lib.hid hD
  clear hA hB hC hD
  have H1 := Lib.hid h1
  clear h1
  go_enter Tryz.func18, Tryz.ntmps18
  have QA := Lib.hid ((Qd.new w (w.heap.size) rfl (.bool na) (.slice A n ca) (.bool nb) (.slice B m cb) 26).alloc (.cells #[.bool nc, .slice C r cc, .bool nd, .slice D s cd] 26))
  have QB := Lib.hid (Qd.new (w.alloc (.cells #[.bool na, .slice A n ca, .bool nb, .slice B m cb] 26)) (w.heap.size + 1) (by simp) (.bool nc) (.slice C r cc) (.bool nd) (.slice D s cd) 26)
  have LA := Lib.hid ((HA.out.box (.cells #[.bool na, .slice A n ca, .bool nb, .slice B m cb] 26)).box (.cells #[.bool nc, .slice C r cc, .bool nd, .slice D s cd] 26))
  have LB := Lib.hid ((HB.out.box (.cells #[.bool na, .slice A n ca, .bool nb, .slice B m cb] 26)).box (.cells #[.bool nc, .slice C r cc, .bool nd, .slice D s cd] 26))
  have LC := Lib.hid ((HC.out.box (.cells #[.bool na, .slice A n ca, .bool nb, .slice B m cb] 26)).box (.cells #[.bool nc, .slice C r cc, .bool nd, .slice D s cd] 26))
  have LD := Lib.hid ((HD.out.box (.cells #[.bool na, .slice A n ca, .bool nb, .slice B m cb] 26)).box (.cells #[.bool nc, .slice C r cc, .bool nd, .slice D s cd] 26))
  have BW : Hid (Below w.heap.size w ((w.alloc (.cells #[.bool na, .slice A n ca, .bool nb, .slice B m cb] 26)).alloc (.cells #[.bool nc, .slice C r cc, .bool nd, .slice D s cd] 26))) := (below_alloc (below_alloc (Below.refl _ _) _) _)
  clear HA HB HC HD
  go_wp2_with fail
  generalize (w.alloc (.cells #[.bool na, .slice A n ca, .bool nb, .slice B m cb] 26)).alloc (.cells #[.bool nc, .slice C r cc, .bool nd, .slice D s cd] 26) = W0 at *
  refine (rboth_bad _ na nb nc nd A B C D n m r s ca cb cc cd xs ys us vs LA.out LB.out LC.out LD.out H1.out).mono ?_
  rintro e w1 ⟨rfl, hb⟩
  replace QA := Lib.hid (QA.out.via hb)
  replace QB := Lib.hid (QB.out.via hb)
  replace LA := Lib.hid (LA.out.via hb)
  replace LB := Lib.hid (LB.out.via hb)
  replace LC := Lib.hid (LC.out.via hb)
  replace LD := Lib.hid (LD.out.via hb)
  replace BW := Lib.hid (btr BW.out hb)
  clear hb
  have ⟨rQA0, rQA1, rQA2, rQA3, rQA4, rQA5, rQA6, rQA7, rQAl⟩ := QA.out
  have ⟨rQB0, rQB1, rQB2, rQB3, rQB4, rQB5, rQB6, rQB7, rQBl⟩ := QB.out
  go_wp2_with fail
  clear rQA0 rQA1 rQA2 rQA3 rQA4 rQA5 rQA6 rQA7 rQAl rQB0 rQB1 rQB2 rQB3 rQB4 rQB5 rQB6 rQB7 rQBl
  refine (rboth_bad _ na nb nc nd A B C D n m r s ca cb cc cd xs ys us vs LA.out LB.out LC.out LD.out H1.out).mono ?_
  rintro e w2 ⟨rfl, hb⟩
  replace QA := Lib.hid (QA.out.via hb)
  replace QB := Lib.hid (QB.out.via hb)
  replace LA := Lib.hid (LA.out.via hb)
  replace LB := Lib.hid (LB.out.via hb)
  replace LC := Lib.hid (LC.out.via hb)
  replace LD := Lib.hid (LD.out.via hb)
  replace BW := Lib.hid (btr BW.out hb)
  clear hb
  go_wp2
  go_ret2
  exact ⟨rfl, BW.out⟩

set_option maxRecDepth 100000 in
set_option maxHeartbeats 4000000 in
theorem rsub_g (w : World) (na nb nc nd : Bool) (A B C D : Option Addr) (n m r s ca cb cc cd : Nat) (xs ys us vs : List Nat) (hA : Lm w w.heap.size A n ca xs) (hB : Lm w w.heap.size B m cb ys) (hC : Lm w w.heap.size C r cc us) (hD : Lm w w.heap.size D s cd vs) (h1 : fchk na xs nb ys = 0) (h2 : fchk nc us nd vs = 0) (p q : Int)
    (H : ∀ W, Lm W W.heap.size A n ca xs → Lm W W.heap.size B m cb ys → Lm W W.heap.size C r cc us → Lm W W.heap.size D s cd vs → Calls Tryz.prog 37 #[fv na A n ca nb B m cb, fv nc C r cc nd D s cd, .bool true] W (RFE W p q)) :
    Calls Tryz.prog 12 #[fv na A n ca nb B m cb, fv nc C r cc nd D s cd] w (RFE w p q) := by
  have HA := Lib.hid hA
  have HB := Lib.hid hB
  have HC := Lib.hid hC
  have HD := Lib.hid hD
  clear hA hB hC hD
  have H1 := Lib.hid h1
  have H2 := Lib.hid h2
  have HH := Lib.hid H
  clear h1 h2 H
  go_enter Tryz.func12, Tryz.ntmps12
  have QA := Lib.hid (((Qd.new w (w.heap.size) rfl (.bool na) (.slice A n ca) (.bool nb) (.slice B m cb) 26).alloc (.cells #[.bool nc, .slice C r cc, .bool nd, .slice D s cd] 26)).alloc (.cells #[.bool false, .slice none 0 0, .bool false, .slice none 0 0] 26))
  have QB := Lib.hid ((Qd.new (w.alloc (.cells #[.bool na, .slice A n ca, .bool nb, .slice B m cb] 26)) (w.heap.size + 1) (by simp) (.bool nc) (.slice C r cc) (.bool nd) (.slice D s cd) 26).alloc (.cells #[.bool false, .slice none 0 0, .bool false, .slice none 0 0] 26))
  have QR := Lib.hid (Qd.new ((w.alloc (.cells #[.bool na, .slice A n ca, .bool nb, .slice B m cb] 26)).alloc (.cells #[.bool nc, .slice C r cc, .bool nd, .slice D s cd] 26)) (w.heap.size + 1 + 1) (by simp) (.bool false) (.slice none 0 0) (.bool false) (.slice none 0 0) 26)
  have LA := Lib.hid (((HA.out.box (.cells #[.bool na, .slice A n ca, .bool nb, .slice B m cb] 26)).box (.cells #[.bool nc, .slice C r cc, .bool nd, .slice D s cd] 26)).box (.cells #[.bool false, .slice none 0 0, .bool false, .slice none 0 0] 26))
  have LB := Lib.hid (((HB.out.box (.cells #[.bool na, .slice A n ca, .bool nb, .slice B m cb] 26)).box (.cells #[.bool nc, .slice C r cc, .bool nd, .slice D s cd] 26)).box (.cells #[.bool false, .slice none 0 0, .bool false, .slice none 0 0] 26))
  have LC := Lib.hid (((HC.out.box (.cells #[.bool na, .slice A n ca, .bool nb, .slice B m cb] 26)).box (.cells #[.bool nc, .slice C r cc, .bool nd, .slice D s cd] 26)).box (.cells #[.bool false, .slice none 0 0, .bool false, .slice none 0 0] 26))
  have LD := Lib.hid (((HD.out.box (.cells #[.bool na, .slice A n ca, .bool nb, .slice B m cb] 26)).box (.cells #[.bool nc, .slice C r cc, .bool nd, .slice D s cd] 26)).box (.cells #[.bool false, .slice none 0 0, .bool false, .slice none 0 0] 26))
  have BW : Hid (Below w.heap.size w (((w.alloc (.cells #[.bool na, .slice A n ca, .bool nb, .slice B m cb] 26)).alloc (.cells #[.bool nc, .slice C r cc, .bool nd, .slice D s cd] 26)).alloc (.cells #[.bool false, .slice none 0 0, .bool false, .slice none 0 0] 26))) := (below_alloc (below_alloc (below_alloc (Below.refl _ _) _) _) _)
  clear HA HB HC HD
  go_wp2_with fail
  generalize ((w.alloc (.cells #[.bool na, .slice A n ca, .bool nb, .slice B m cb] 26)).alloc (.cells #[.bool nc, .slice C r cc, .bool nd, .slice D s cd] 26)).alloc (.cells #[.bool false, .slice none 0 0, .bool false, .slice none 0 0] 26) = W0 at *
  refine (rboth_ok _ na nb nc nd A B C D n m r s ca cb cc cd xs ys us vs LA.out LB.out LC.out LD.out H1.out H2.out).mono ?_
  rintro e w1 ⟨rfl, hb⟩
  replace QA := Lib.hid (QA.out.via hb)
  replace QB := Lib.hid (QB.out.via hb)
  replace QR := Lib.hid (QR.out.via hb)
  replace LA := Lib.hid (LA.out.via hb)
  replace LB := Lib.hid (LB.out.via hb)
  replace LC := Lib.hid (LC.out.via hb)
  replace LD := Lib.hid (LD.out.via hb)
  replace BW := Lib.hid (btr BW.out hb)
  clear hb
  have ⟨rQA0, rQA1, rQA2, rQA3, rQA4, rQA5, rQA6, rQA7, rQAl⟩ := QA.out
  have ⟨rQB0, rQB1, rQB2, rQB3, rQB4, rQB5, rQB6, rQB7, rQBl⟩ := QB.out
  go_wp2_with fail
  clear rQA0 rQA1 rQA2 rQA3 rQA4 rQA5 rQA6 rQA7 rQAl rQB0 rQB1 rQB2 rQB3 rQB4 rQB5 rQB6 rQB7 rQBl
  refine (HH.out _ LA.out LB.out LC.out LD.out).mono ?_
  rintro e w2 ⟨A5, n5, c5, A6, n6, c6, rfl, hL5, hL6, hb⟩
  clear LA
  clear LB
  clear LC
  clear LD
  clear QA
  clear QB
  replace QR := Lib.hid (QR.out.via hb)
  replace BW := Lib.hid (btr BW.out hb)
  have L5 := Lib.hid hL5
  have L6 := Lib.hid hL6
  clear hb hL5 hL6
  obtain ⟨z5, hz5⟩ : ∃ b, decide (p < 0) = b := ⟨_, rfl⟩
  rw [hz5]
  have Hz5 := Lib.hid hz5
  clear hz5
  obtain ⟨z6, hz6⟩ : ∃ b, decide (q < 0) = b := ⟨_, rfl⟩
  rw [hz6]
  have Hz6 := Lib.hid hz6
  clear hz6
  have ⟨rQR0, rQR1, rQR2, rQR3, rQR4, rQR5, rQR6, rQR7, rQRl⟩ := QR.out
  go_wp2
  exact post_f Tryz.results12 rfl rfl (QR.out.set (.bool z5) (.slice A5 n5 c5) (.bool z6) (.slice A6 n6 c6)) ⟨A5, n5, c5, A6, n6, c6, by rw [Hz5.out, Hz6.out]; rfl, L5.out.put4 QR.out _ _ _ _, L6.out.put4 QR.out _ _ _ _, below_put4 BW.out (by omega) _ _ _ _⟩

set_option maxRecDepth 100000 in
set_option maxHeartbeats 4000000 in
theorem rmul_g (w : World) (na nb nc nd : Bool) (A B C D : Option Addr) (n m r s ca cb cc cd : Nat) (xs ys us vs : List Nat) (hA : Lm w w.heap.size A n ca xs) (hB : Lm w w.heap.size B m cb ys) (hC : Lm w w.heap.size C r cc us) (hD : Lm w w.heap.size D s cd vs) (h1 : fchk na xs nb ys = 0) (h2 : fchk nc us nd vs = 0) (p q : Int)
    (H : ∀ W, Lm W W.heap.size A n ca xs → Lm W W.heap.size B m cb ys → Lm W W.heap.size C r cc us → Lm W W.heap.size D s cd vs → Calls Tryz.prog 42 #[.agg #[.bool na, .slice A n ca], .agg #[.bool nc, .slice C r cc], .agg #[.bool nb, .slice B m cb], .agg #[.bool nd, .slice D s cd]] W (RFE W p q)) :
    Calls Tryz.prog 16 #[fv na A n ca nb B m cb, fv nc C r cc nd D s cd] w (RFE w p q) := by
  have HA := Lib.hid hA
  have HB := Lib.hid hB
  have HC := Lib.hid hC
  have HD := Lib.hid hD
  clear hA hB hC hD
  have H1 := Lib.hid h1
  have H2 := Lib.hid h2
  have HH := Lib.hid H
  clear h1 h2 H
  go_enter Tryz.func16, Tryz.ntmps16
  have QA := Lib.hid (((Qd.new w (w.heap.size) rfl (.bool na) (.slice A n ca) (.bool nb) (.slice B m cb) 26).alloc (.cells #[.bool nc, .slice C r cc, .bool nd, .slice D s cd] 26)).alloc (.cells #[.bool false, .slice none 0 0, .bool false, .slice none 0 0] 26))
  have QB := Lib.hid ((Qd.new (w.alloc (.cells #[.bool na, .slice A n ca, .bool nb, .slice B m cb] 26)) (w.heap.size + 1) (by simp) (.bool nc) (.slice C r cc) (.bool nd) (.slice D s cd) 26).alloc (.cells #[.bool false, .slice none 0 0, .bool false, .slice none 0 0] 26))
  have QR := Lib.hid (Qd.new ((w.alloc (.cells #[.bool na, .slice A n ca, .bool nb, .slice B m cb] 26)).alloc (.cells #[.bool nc, .slice C r cc, .bool nd, .slice D s cd] 26)) (w.heap.size + 1 + 1) (by simp) (.bool false) (.slice none 0 0) (.bool false) (.slice none 0 0) 26)
  have LA := Lib.hid (((HA.out.box (.cells #[.bool na, .slice A n ca, .bool nb, .slice B m cb] 26)).box (.cells #[.bool nc, .slice C r cc, .bool nd, .slice D s cd] 26)).box (.cells #[.bool false, .slice none 0 0, .bool false, .slice none 0 0] 26))
  have LB := Lib.hid (((HB.out.box (.cells #[.bool na, .slice A n ca, .bool nb, .slice B m cb] 26)).box (.cells #[.bool nc, .slice C r cc, .bool nd, .slice D s cd] 26)).box (.cells #[.bool false, .slice none 0 0, .bool false, .slice none 0 0] 26))
  have LC := Lib.hid (((HC.out.box (.cells #[.bool na, .slice A n ca, .bool nb, .slice B m cb] 26)).box (.cells #[.bool nc, .slice C r cc, .bool nd, .slice D s cd] 26)).box (.cells #[.bool false, .slice none 0 0, .bool false, .slice none 0 0] 26))
  have LD := Lib.hid (((HD.out.box (.cells #[.bool na, .slice A n ca, .bool nb, .slice B m cb] 26)).box (.cells #[.bool nc, .slice C r cc, .bool nd, .slice D s cd] 26)).box (.cells #[.bool false, .slice none 0 0, .bool false, .slice none 0 0] 26))
  have BW : Hid (Below w.heap.size w (((w.alloc (.cells #[.bool na, .slice A n ca, .bool nb, .slice B m cb] 26)).alloc (.cells #[.bool nc, .slice C r cc, .bool nd, .slice D s cd] 26)).alloc (.cells #[.bool false, .slice none 0 0, .bool false, .slice none 0 0] 26))) := (below_alloc (below_alloc (below_alloc (Below.refl _ _) _) _) _)
  clear HA HB HC HD
  go_wp2_with fail
  generalize ((w.alloc (.cells #[.bool na, .slice A n ca, .bool nb, .slice B m cb] 26)).alloc (.cells #[.bool nc, .slice C r cc, .bool nd, .slice D s cd] 26)).alloc (.cells #[.bool false, .slice none 0 0, .bool false, .slice none 0 0] 26) = W0 at *
  refine (rboth_ok _ na nb nc nd A B C D n m r s ca cb cc cd xs ys us vs LA.out LB.out LC.out LD.out H1.out H2.out).mono ?_
  rintro e w1 ⟨rfl, hb⟩
  replace QA := Lib.hid (QA.out.via hb)
  replace QB := Lib.hid (QB.out.via hb)
  replace QR := Lib.hid (QR.out.via hb)
  replace LA := Lib.hid (LA.out.via hb)
  replace LB := Lib.hid (LB.out.via hb)
  replace LC := Lib.hid (LC.out.via hb)
  replace LD := Lib.hid (LD.out.via hb)
  replace BW := Lib.hid (btr BW.out hb)
  clear hb
  have ⟨rQA0, rQA1, rQA2, rQA3, rQA4, rQA5, rQA6, rQA7, rQAl⟩ := QA.out
  have ⟨rQB0, rQB1, rQB2, rQB3, rQB4, rQB5, rQB6, rQB7, rQBl⟩ := QB.out
  go_wp2_with fail
  clear rQA0 rQA1 rQA2 rQA3 rQA4 rQA5 rQA6 rQA7 rQAl rQB0 rQB1 rQB2 rQB3 rQB4 rQB5 rQB6 rQB7 rQBl
  refine (HH.out _ LA.out LB.out LC.out LD.out).mono ?_
  rintro e w2 ⟨A5, n5, c5, A6, n6, c6, rfl, hL5, hL6, hb⟩
  clear LA
  clear LB
  clear LC
  clear LD
  clear QA
  clear QB
  replace QR := Lib.hid (QR.out.via hb)
  replace BW := Lib.hid (btr BW.out hb)
  have L5 := Lib.hid hL5
  have L6 := Lib.hid hL6
  clear hb hL5 hL6
  obtain ⟨z5, hz5⟩ : ∃ b, decide (p < 0) = b := ⟨_, rfl⟩
  rw [hz5]
  have Hz5 := Lib.hid hz5
  clear hz5
  obtain ⟨z6, hz6⟩ : ∃ b, decide (q < 0) = b := ⟨_, rfl⟩
  rw [hz6]
  have Hz6 := Lib.hid hz6
  clear hz6
  have ⟨rQR0, rQR1, rQR2, rQR3, rQR4, rQR5, rQR6, rQR7, rQRl⟩ := QR.out
  go_wp2
  exact post_f Tryz.results16 rfl rfl (QR.out.set (.bool z5) (.slice A5 n5 c5) (.bool z6) (.slice A6 n6 c6)) ⟨A5, n5, c5, A6, n6, c6, by rw [Hz5.out, Hz6.out]; rfl, L5.out.put4 QR.out _ _ _ _, L6.out.put4 QR.out _ _ _ _, below_put4 BW.out (by omega) _ _ _ _⟩

end Go.Proofs.YtkendkbicafdgaaGreatDoor

/- The reference Twin: a copy of a number. -/
namespace Go.Proofs.YtkendkbicafdgaaGreatDoor
open Go.RowKit

/-- 'append(out, xs...)' where out is the call's own, and xs reads as limbs, inside a region that draws. -/
theorem step_append_lm {P : Program} {ops : Array Oper} {o : Oper} {a : Act} {w : World} {K : Act → World → Prop} {Q : Exit → Act → World → Prop} {E : Prop}
    (hg : o.guard = none) (s x : Operand) (t : TypeId) (hop : o.op = Op.call { callee := Callee.builtin Builtin.append, args := #[s, x], argTypes := #[t, t] })
    (base : Nat) (e : TypeId) (i : TypeInfo) (ht : P.underlying t = some (.slice e)) (hi : P.info? e = some i) (hz : i.zero = some (.int .u32 0)) (hsize : i.size = 1) (hby : i.bytes = 4)
    (v : Value) (n : Nat) (ts : List Value) (hs : a.eval s = v) (hown : w.ownsRow base e 1 v n ts)
    (B : Nat) (A : Option Addr) (m c : Nat) (xs : List Nat) (hx : a.eval x = .slice A m c) (hr : Lm w B A m c xs)
    (h63 : n + m ≤ maxLen) (hbytes : (n + m) * 4 ≤ 140737488355328) (hbase : base ≤ w.heap.size)
    (hK : ∀ v' w', w'.ownsRow base e 1 v' (n + m) (ts ++ xs.map u32c) → w.grownBy w' v.ownBlock → K (a.put o.dst v') w') :
    if Region.wanted o (yielded ops a.tmps) = true then Oper.wp P o a w K Q else E := by
  have hw : Region.wanted o (yielded ops a.tmps) = true := by simp [Region.wanted, hg]
  rw [if_pos hw]
  rcases A with _ | ad
  · have hm : m = 0 := by
      rcases Nat.eq_zero_or_pos m with h0 | h0
      · exact h0
      · obtain ⟨b, off, e, _⟩ := hr.at_ h0
        cases e
    subst hm
    obtain rfl := hr.nil_ rfl
    obtain rfl : xs = [] := List.eq_nil_of_length_eq_zero hr.len
    have hrun := run_append_owned_none (P := P) (w := w) base t o.type e i 1 ht hi v n ts hown
    unfold Oper.wp
    simp [execOp, hop, resolve, invoke, builtin, hs, hx, hrun, Result.andThen]
    exact hK v w (by simpa using hown) (World.grownBy.refl w _)
  · obtain ⟨v', w', hrun, r1, r2, _⟩ := run_append_own (P := P) w base t o.type e i (.int .u32 0) 1 4 ht hi hz hsize hby rfl (by decide) v n ts hown ad m c (xs.map u32c) (by simp [hr.len]) hr.cells (u32c_one xs) h63 hbytes hbase
    unfold Oper.wp
    simp [execOp, hop, resolve, invoke, builtin, hs, hx, hrun, Result.andThen]
    exact hK v' w' r1 r2

theorem own_empty (w : World) (k : Nat) (hk : w.heap.size = k) : ((w.alloc (.cells #[] 68)).drew).ownsRow k 68 1 (.slice (some ⟨k, 0, none⟩) 0 0) 0 [] := by
  subst hk
  have h : (w.alloc (.cells #[] 68)).ownsRow w.heap.size 68 1 (.slice (some ⟨w.heap.size, 0, none⟩) 0 0) 0 [] := World.ownsRow_made w #[] _ (Nat.le_refl _) (by simp [maxLen]) rfl
  exact h

end Go.Proofs.YtkendkbicafdgaaGreatDoor

/- The reference of frac: Cmp of valid fractions, Twin. -/
namespace Go.Proofs.YtkendkbicafdgaaGreatDoor
open Go.RowKit

set_option maxRecDepth 100000 in
set_option maxHeartbeats 4000000 in
theorem rcmp_g (w : World) (na nc : Bool) (A B C D : Option Addr) (n m r s ca cb cc cd k : Nat) (x P u v : Int) (hA : Lm w w.heap.size A n ca (digs x.natAbs)) (hsx : Sz k x) (hB : Lm w w.heap.size B m cb (digs P.natAbs)) (hsP : Sz k P) (hC : Lm w w.heap.size C r cc (digs u.natAbs)) (hsu : Sz k u) (hD : Lm w w.heap.size D s cd (digs v.natAbs)) (hsv : Sz k v) (hk : k ≤ 300) (ha : decide (x < 0) = na) (hc : decide (u < 0) = nc) (hP0 : 0 < P) (hv0 : 0 < v) (h1 : fchk na (digs x.natAbs) false (digs P.natAbs) = 0) (h2 : fchk nc (digs u.natAbs) false (digs v.natAbs) = 0) :
    Calls Tryz.prog 18 #[fv na A n ca false B m cb, fv nc C r cc false D s cd] w (RIE w (cmpZ (x * v) (u * P)) 0) := by
  have HA := Lib.hid hA
  have HB := Lib.hid hB
  have HC := Lib.hid hC
  have HD := Lib.hid hD
  clear hA hB hC hD
  have Sx := Lib.hid hsx
  have SP := Lib.hid hsP
  have Su := Lib.hid hsu
  have Sv := Lib.hid hsv
  have Hna := Lib.hid ha
  have Hnc := Lib.hid hc
  have HP : Hid (decide (P < 0) = false) := decide_eq_false (by omega)
  have Hv : Hid (decide (v < 0) = false) := decide_eq_false (by omega)
  have H1 := Lib.hid h1
  have H2 := Lib.hid h2
  clear h1 h2 ha hc hP0 hv0 hsx hsP hsu hsv
  go_enter Tryz.func18, Tryz.ntmps18
  have QA := Lib.hid ((Qd.new w (w.heap.size) rfl (.bool na) (.slice A n ca) (.bool false) (.slice B m cb) 26).alloc (.cells #[.bool nc, .slice C r cc, .bool false, .slice D s cd] 26))
  have QB := Lib.hid (Qd.new (w.alloc (.cells #[.bool na, .slice A n ca, .bool false, .slice B m cb] 26)) (w.heap.size + 1) (by simp) (.bool nc) (.slice C r cc) (.bool false) (.slice D s cd) 26)
  have LA := Lib.hid ((HA.out.box (.cells #[.bool na, .slice A n ca, .bool false, .slice B m cb] 26)).box (.cells #[.bool nc, .slice C r cc, .bool false, .slice D s cd] 26))
  have LB := Lib.hid ((HB.out.box (.cells #[.bool na, .slice A n ca, .bool false, .slice B m cb] 26)).box (.cells #[.bool nc, .slice C r cc, .bool false, .slice D s cd] 26))
  have LC := Lib.hid ((HC.out.box (.cells #[.bool na, .slice A n ca, .bool false, .slice B m cb] 26)).box (.cells #[.bool nc, .slice C r cc, .bool false, .slice D s cd] 26))
  have LD := Lib.hid ((HD.out.box (.cells #[.bool na, .slice A n ca, .bool false, .slice B m cb] 26)).box (.cells #[.bool nc, .slice C r cc, .bool false, .slice D s cd] 26))
  have BW : Hid (Below w.heap.size w ((w.alloc (.cells #[.bool na, .slice A n ca, .bool false, .slice B m cb] 26)).alloc (.cells #[.bool nc, .slice C r cc, .bool false, .slice D s cd] 26))) := (below_alloc (below_alloc (Below.refl _ _) _) _)
  clear HA HB HC HD
  go_wp2_with fail
  generalize (w.alloc (.cells #[.bool na, .slice A n ca, .bool false, .slice B m cb] 26)).alloc (.cells #[.bool nc, .slice C r cc, .bool false, .slice D s cd] 26) = W0 at *
  refine (rboth_ok _ na false nc false A B C D n m r s ca cb cc cd (digs x.natAbs) (digs P.natAbs) (digs u.natAbs) (digs v.natAbs) LA.out LB.out LC.out LD.out H1.out H2.out).mono ?_
  rintro e w1 ⟨rfl, hb⟩
  replace QA := Lib.hid (QA.out.via hb)
  replace QB := Lib.hid (QB.out.via hb)
  replace LA := Lib.hid (LA.out.via hb)
  replace LB := Lib.hid (LB.out.via hb)
  replace LC := Lib.hid (LC.out.via hb)
  replace LD := Lib.hid (LD.out.via hb)
  replace BW := Lib.hid (btr BW.out hb)
  clear hb
  have ⟨rQA0, rQA1, rQA2, rQA3, rQA4, rQA5, rQA6, rQA7, rQAl⟩ := QA.out
  have ⟨rQB0, rQB1, rQB2, rQB3, rQB4, rQB5, rQB6, rQB7, rQBl⟩ := QB.out
  go_wp2_with fail
  clear rQA0 rQA1 rQA2 rQA3 rQA4 rQA5 rQA6 rQA7 rQAl rQB0 rQB1 rQB2 rQB3 rQB4 rQB5 rQB6 rQB7 rQBl
  refine (rmul_n _ A D n s ca cd k x v LA.out LD.out Sx.out Sv.out (by omega) Hna.out Hv.out).mono ?_
  rintro e w2 ⟨A1, n1, c1, rfl, hL1, hb⟩
  clear LA
  clear LD
  replace QA := Lib.hid (QA.out.via hb)
  replace QB := Lib.hid (QB.out.via hb)
  replace LB := Lib.hid (LB.out.via hb)
  replace LC := Lib.hid (LC.out.via hb)
  replace BW := Lib.hid (btr BW.out hb)
  have L1 := Lib.hid hL1
  clear hb hL1
  obtain ⟨z1, hz1⟩ : ∃ b, decide (x * v < 0) = b := ⟨_, rfl⟩
  rw [hz1]
  have Hz1 := Lib.hid hz1
  clear hz1
  have ⟨rQA0, rQA1, rQA2, rQA3, rQA4, rQA5, rQA6, rQA7, rQAl⟩ := QA.out
  have ⟨rQB0, rQB1, rQB2, rQB3, rQB4, rQB5, rQB6, rQB7, rQBl⟩ := QB.out
  go_wp2_with fail
  clear rQA0 rQA1 rQA2 rQA3 rQA4 rQA5 rQA6 rQA7 rQAl rQB0 rQB1 rQB2 rQB3 rQB4 rQB5 rQB6 rQB7 rQBl
  replace QA := Lib.hid (QA.out.alloc (.cells #[.bool z1, .slice A1 n1 c1] 24))
  replace QB := Lib.hid (QB.out.alloc (.cells #[.bool z1, .slice A1 n1 c1] 24))
  replace LB := Lib.hid (LB.out.box (.cells #[.bool z1, .slice A1 n1 c1] 24))
  replace LC := Lib.hid (LC.out.box (.cells #[.bool z1, .slice A1 n1 c1] 24))
  replace L1 := Lib.hid (L1.out.box (.cells #[.bool z1, .slice A1 n1 c1] 24))
  have M1 := Lib.hid (Pr.new w2 _ rfl (.bool z1) (.slice A1 n1 c1) 24)
  replace BW := Lib.hid (below_alloc BW.out (.cells #[.bool z1, .slice A1 n1 c1] 24))
  generalize w2.alloc (.cells #[.bool z1, .slice A1 n1 c1] 24) = W2 at *
  generalize w2.heap.size = g2 at *
  refine (rmul_n _ C B r m cc cb k u P LC.out LB.out Su.out SP.out (by omega) Hnc.out HP.out).mono ?_
  rintro e w3 ⟨A2, n2, c2, rfl, hL2, hb⟩
  clear LC
  clear LB
  replace QA := Lib.hid (QA.out.via hb)
  replace QB := Lib.hid (QB.out.via hb)
  replace L1 := Lib.hid (L1.out.via hb)
  replace M1 := Lib.hid (M1.out.via hb)
  replace BW := Lib.hid (btr BW.out hb)
  have L2 := Lib.hid hL2
  clear hb hL2
  obtain ⟨z2, hz2⟩ : ∃ b, decide (u * P < 0) = b := ⟨_, rfl⟩
  rw [hz2]
  have Hz2 := Lib.hid hz2
  clear hz2
  have ⟨rM10, rM11, rM12, rM13, rM1l⟩ := M1.out
  go_wp2_with fail
  clear rM10 rM11 rM12 rM13 rM1l
  replace QA := Lib.hid (QA.out.alloc (.cells #[.bool z2, .slice A2 n2 c2] 24))
  replace QB := Lib.hid (QB.out.alloc (.cells #[.bool z2, .slice A2 n2 c2] 24))
  replace L1 := Lib.hid (L1.out.box (.cells #[.bool z2, .slice A2 n2 c2] 24))
  replace M1 := Lib.hid (M1.out.alloc (.cells #[.bool z2, .slice A2 n2 c2] 24))
  replace L2 := Lib.hid (L2.out.box (.cells #[.bool z2, .slice A2 n2 c2] 24))
  have M2 := Lib.hid (Pr.new w3 _ rfl (.bool z2) (.slice A2 n2 c2) 24)
  replace BW := Lib.hid (below_alloc BW.out (.cells #[.bool z2, .slice A2 n2 c2] 24))
  generalize w3.alloc (.cells #[.bool z2, .slice A2 n2 c2] 24) = W3 at *
  generalize w3.heap.size = g3 at *
  refine (rcompared_n _ A1 A2 n1 n2 c1 c2 (k + k) (x * v) (u * P) L1.out L2.out (Sx.out.mul Sv.out) (Su.out.mul SP.out) (by omega) Hz1.out Hz2.out).mono ?_
  rintro e w4 ⟨rfl, hb⟩
  replace QA := Lib.hid (QA.out.via hb)
  replace QB := Lib.hid (QB.out.via hb)
  replace L1 := Lib.hid (L1.out.via hb)
  replace M1 := Lib.hid (M1.out.via hb)
  replace L2 := Lib.hid (L2.out.via hb)
  replace M2 := Lib.hid (M2.out.via hb)
  replace BW := Lib.hid (btr BW.out hb)
  clear hb
  go_wp2
  go_ret2
  exact ⟨rfl, BW.out⟩

end Go.Proofs.YtkendkbicafdgaaGreatDoor

/- Both sides: Add, Sub, Mul, Div, Neg, Cmp. -/
namespace Go.Proofs.YtkendkbicafdgaaGreatDoor
open Go.RowKit

theorem fchk_cases (na : Bool) (xs : List Nat) (nb : Bool) (ys : List Nat) : fchk na xs nb ys = 0 ∨ fchk na xs nb ys = 8 := by
  unfold fchk
  split
  · exact .inl rfl
  · exact .inr rfl
theorem of_fchk {nn dn : Bool} {xs ys : List Nat} (h : fchk nn xs dn ys = 0) (gx : Good xs) (gy : Good ys) {k : Nat} (lx : xs.length ≤ k) (ly : ys.length ≤ k) :
    ∃ x P : Int, nn = decide (x < 0) ∧ xs = digs x.natAbs ∧ Sz k x ∧ dn = false ∧ ys = digs P.natAbs ∧ Sz k P ∧ 0 < P ∧ Nat.gcd x.natAbs P.natAbs = 1 := by
  unfold fchk at h
  split at h
  · rename_i hh
    obtain ⟨h1, h2, h3, h4, h5⟩ := hh
    obtain ⟨x, hx1, hx2, hx3⟩ := of_chk h1 gx lx
    obtain ⟨P, hP1, hP2, hP3⟩ := of_chk h2 gy ly
    have e0 : ¬ P < 0 := by rw [h3] at hP1; simpa using hP1.symm
    have e1 : P.natAbs ≠ 0 := by rw [hP2, Ne, digs_nil] at h4; exact h4
    refine ⟨x, P, hx1, hx2, hx3, h3, hP2, hP3, by omega, ?_⟩
    rw [hx2, hP2, digs_val, digs_val] at h5
    exact h5
  · cases h

end Go.Proofs.YtkendkbicafdgaaGreatDoor

/- Both sides of Neg; the law FracReckons where a fraction is great. -/
namespace Go.Proofs.YtkendkbicafdgaaGreatDoor
open Go.RowKit

end Go.Proofs.YtkendkbicafdgaaGreatDoor

/- Package frac: attempt and change where the result is a number; Floor. -/
namespace Go.Proofs.YtkendkbicafdgaaGreatDoor
open Go.RowKit

theorem catchw_idle (p : Addr) (w : World) :
    CallsD Tryz.prog 117 #[.pointer (some p)] .returning w fun e u' w' => e = .returned (.tuple #[]) ∧ u' = .returning ∧ w' = w := by
  refine callsD_of_wpS Tryz.func117 rfl fun c₀ cs hu => ?_
  apply wpS_seq
  apply wpS_region
  simp [wpOpsS, go_sem, recoverD, hu, Tryz.ntmps117, Exit.thenS]
  apply wpS_seq
  apply wpS_region
  simp [wpOpsS, go_sem, Exit.thenS]
  refine wpS_cond (t := false) (by simp [Act.eval, Array.replicate]) ?_
  simp only [Bool.false_eq_true, if_false]
  refine wpS_of_wp (wp_skip ?_)
  cases c₀
  simp_all [bodyPostS, results, Tryz.results117]
theorem res_we {fn : Func} {r s : Nat} (hr : fn.results = #[.cell r 24, .cell s 30]) {tmps : Array Value} {w : World} {g h : Nat} {x0 x1 y : Value} (ht : tmps.getD r undef = .pointer (some ⟨g, 0, none⟩))
    (hs : tmps.getD s undef = .pointer (some ⟨h, 0, none⟩)) (d : Pr w g x0 x1) (hy : w.cell? ⟨h, 0, none⟩ = some y) : (results fn tmps).run Tryz.prog w = .ok (.tuple #[.agg #[x0, x1], y]) w := by
  have h0 := d.c0; have h1 := d.c1
  rw [Array.getD_eq_getD_getElem?] at ht hs
  simp [results, hr, go_sem, ht, hs, h0, h1, hy]
theorem Pr.farE {w : World} {g h : Nat} {x y : Value} (p : Pr w g x y) (hne : g ≠ h) (i : Nat) (z : Value) : Pr (w.setCell ⟨h, i, none⟩ z) g x y := by
  have e : ∀ j, (⟨h, i, none⟩ : Addr) ≠ ⟨g, j, none⟩ := fun j e => hne (congrArg Addr.block e).symm
  exact ⟨(World.cell?_setCell_other _ _ _ _ (e 0)).trans p.c0, (World.cell?_setCell_other _ _ _ _ (e 1)).trans p.c1, by have := p.f0; simpa using this, by have := p.f1; simpa using this, by rw [World.size_setCell]; exact p.lt⟩
/-- The world in which attempt calls: with the boxes of its two results. -/
def Waw (w : World) : World := (w.alloc (.cells #[.bool false, .slice none 0 0] 24)).alloc (.cells #[.int .i64 0] 30)
theorem waw_below (w : World) : Below w.heap.size w (Waw w) := ((Below.refl _ _).alloc (Nat.le_refl _) _).alloc (by simp) _
theorem waw_pr (w : World) : Pr (Waw w) w.heap.size (.bool false) (.slice none 0 0) := (Pr.new w _ rfl _ _ _).alloc _
theorem waw_c (w : World) : (Waw w).cell? ⟨w.heap.size + 1, 0, none⟩ = some (.int .i64 0) ∧ (Waw w).frozen? ⟨w.heap.size + 1, 0, none⟩ = false := by unfold Waw; constructor <;> go_simp
theorem waw_size (w : World) : (Waw w).heap.size = w.heap.size + 1 + 1 := by unfold Waw; simp

set_option maxRecDepth 100000 in
set_option maxHeartbeats 1000000 in
theorem attemptw_ok (w : World) (f : FuncId) (first cap : Array Value) (z : Int) (hcf : ∀ W, (callFunc f (first ++ cap)).run Tryz.prog W = .ok (.enter f (first ++ cap)) W)
    (H : Calls Tryz.prog f (first ++ cap) (Waw w) (RVz (Waw w) z)) :
    Calls Tryz.prog 84 #[.func (.func f) first cap] w (RN w z) := by
  have hmf : ∀ (fn : Fn) (first cap : Array Value) (w : World), (Instr.makeFunc fn first cap).run Tryz.prog w = .ok (.func fn first cap) w := fun _ _ _ _ => rfl
  have HH := Lib.hid H
  clear H
  go_enter_defers Tryz.func84, Tryz.ntmps84
  go_wp2_with fail
  refine HH.out.mono ?_
  rintro e w1 ⟨A, n, c, rfl, hL, hb⟩
  have QD := (waw_pr w).via hb
  have hz := hb.size
  rw [waw_size] at hz
  have hc : w1.cell? ⟨w.heap.size + 1, 0, none⟩ = some (.int .i64 0) := (hb.cell (p := ⟨w.heap.size + 1, 0, none⟩) (by rw [waw_size]; simp)).trans (waw_c w).1
  have hf : w1.frozen? ⟨w.heap.size + 1, 0, none⟩ = false := (hb.frozen (p := ⟨w.heap.size + 1, 0, none⟩) (by rw [waw_size]; simp)).trans (waw_c w).2
  obtain ⟨np, hnp⟩ : ∃ b, decide (z < 0) = b := ⟨_, rfl⟩
  rw [hnp]
  have HNp := Lib.hid hnp
  have HQ := Lib.hid QD
  have HL := Lib.hid hL
  have HB := Lib.hid ((waw_below w).trans (hb.mono (waw_below w).size))
  clear hnp hL hb hz
  have ⟨d0, d1, g0, g1, dl⟩ := QD
  clear QD
  go_wp2
  clear d0 d1 g0 g1 dl
  refine leaves_cons (f := 117) (args := #[.pointer (some ⟨w.heap.size + 1, 0, none⟩)]) (by simp) (by simp [go_sem]) ?_
  refine (catchw_idle _ _).mono ?_
  rintro e u' w'' ⟨rfl, rfl, rfl⟩
  have hP := HQ.out.set (.bool np) (.slice A n c)
  have hc2 : ((w1.setCell ⟨w.heap.size, 0, none⟩ (.bool np)).setCell ⟨w.heap.size, 1, none⟩ (.slice A n c)).cell? ⟨w.heap.size + 1, 0, none⟩ = some (.int .i64 0) := by
    rw [World.cell?_setCell_other _ _ _ _ (by simp), World.cell?_setCell_other _ _ _ _ (by simp)]; exact hc
  exact ⟨_, res_we Tryz.results84 rfl rfl (hP.farE (h := w.heap.size + 1) (by omega) 0 (.int .i64 0)) (World.cell?_setCell_same _ _ _ hc2),
    A, n, c, by rw [HNp.out], (HL.out.setP HQ.out _ _).err hc2 _, (below_set2 HB.out (Nat.le_refl _) _ _).setCell (p := ⟨w.heap.size + 1, 0, none⟩) (by show w.heap.size ≤ w.heap.size + 1; omega) _⟩

set_option maxRecDepth 100000 in
set_option maxHeartbeats 2000000 in
theorem changew_ok (w : World) (g0 ga : Nat) (f : FuncId) (na da : Bool) (A B : Option Addr) (n m ca cb : Nat) (xs ys : List Nat) (hf : Fb w g0 f) (qa : Qd w ga (.bool na) (.slice A n ca) (.bool da) (.slice B m cb)) (hA : Lm w w.heap.size A n ca xs) (hB : Lm w w.heap.size B m cb ys) (hv : fchk na xs da ys = 0) (z : Int)
    (hcf : ∀ (u : Value) (W : World), (callFunc f #[u]).run Tryz.prog W = .ok (.enter f #[u]) W)
    (H : ∀ W, Lm W W.heap.size A n ca xs → Lm W W.heap.size B m cb ys → Calls Tryz.prog f #[fv na A n ca da B m cb] W (RVz W z)) :
    Calls Tryz.prog 85 #[.pointer (some ⟨g0, 0, none⟩), .pointer (some ⟨ga, 0, none⟩)] w (RVz w z) := by
  have HF := Lib.hid hf
  have QA := Lib.hid qa
  have LA := Lib.hid hA
  have LB := Lib.hid hB
  have HV := Lib.hid hv
  have HH := Lib.hid H
  have QR := Lib.hid (Pr.new w _ rfl (.bool false) (.slice none 0 0) 24)
  have W0B : Hid (Below w.heap.size w (w.alloc (.cells #[.bool false, .slice none 0 0] 24))) := below_alloc (Below.refl _ _) _
  have ⟨f0, fl⟩ := hf
  have ⟨a0, a1, a2, a3, _, _, _, _, al⟩ := qa
  clear hA hB hv hf qa H
  go_enter Tryz.func85, Tryz.ntmps85
  go_wp2_with fail
  have HF := Lib.hid (HF.out.via W0B.out)
  have QA := Lib.hid (QA.out.via W0B.out)
  have LA := Lib.hid (LA.out.via W0B.out)
  have LB := Lib.hid (LB.out.via W0B.out)
  have hg0 : g0 < w.heap.size := fl
  have hga : ga < w.heap.size := al
  clear f0 fl a0 a1 a2 a3 al
  generalize w.alloc (.cells #[.bool false, .slice none 0 0] 24) = W0 at *
  have HKS : Hid (∀ X : World, Below w.heap.size W0 X → X.cell? ⟨g0, 0, none⟩ = some (.func (.func f) #[] #[]) ∧ X.cell? ⟨ga, 0, none⟩ = some (.bool na) ∧ X.cell? ⟨ga, 1, none⟩ = some (.slice A n ca) ∧ X.cell? ⟨ga, 2, none⟩ = some (.bool da) ∧ X.cell? ⟨ga, 3, none⟩ = some (.slice B m cb)) := fun X h => ⟨(h.cell (p := ⟨g0, 0, none⟩) hg0).trans HF.out.c0, (QA.out.below h hga).c0, (QA.out.below h hga).c1, (QA.out.below h hga).c2, (QA.out.below h hga).c3⟩
  have hw0 : w.heap.size ≤ W0.heap.size := W0B.out.size
  go_region_held3 (fun w' => w'.cell? ⟨g0, 0, none⟩ = some (.func (.func f) #[] #[]) ∧ w'.cell? ⟨ga, 0, none⟩ = some (.bool na) ∧ w'.cell? ⟨ga, 1, none⟩ = some (.slice A n ca) ∧ w'.cell? ⟨ga, 2, none⟩ = some (.bool da) ∧ w'.cell? ⟨ga, 3, none⟩ = some (.slice B m cb))
    (first | (refine HKS.out _ ?_; (repeat' (first | exact Be.mono hw0 | exact Bc.mono hw0 | exact (Below.refl _ _).drew | exact Below.refl _ _ | refine Below.setCell ?_ ?_ _)); all_goals (first | omega | (simp; done) | (simp; omega))))
    (first
     | (go_at_call 57; refine (known_ok _ na da A B n m ca cb xs ys (by first | exact LA.out.drew | exact LA.out) (by first | exact LB.out.drew | exact LB.out) HV.out).mono ?_; rintro e wc ⟨rfl, hbc⟩; have Bc : Below W0.heap.size W0 wc := (by first | exact (Below.refl _ _).drew.trans hbc | exact hbc))
     | (refine (HH.out _ (LA.out.via Bc) (LB.out.via Bc)).mono ?_; rintro e we ⟨A5, n5, c5, rfl, hL5, hbe⟩; have Be : Below W0.heap.size W0 we := btr Bc hbe; have KR := QR.out.via Be; have ⟨r0, r1, rf0, rf1, rl⟩ := KR)
     | fail)
  all_goals
    obtain ⟨np, hnp⟩ : ∃ b, decide (z < 0) = b := ⟨_, rfl⟩
    rw [hnp]
    have HNp := Lib.hid hnp
    have HL5 := Lib.hid hL5
    have BE := Lib.hid (btr W0B.out Be)
    clear hnp hL5
    go_wp2
    have KS := KR.set (.bool np) (.slice A5 n5 c5)
    exact post_w1 Tryz.results85 rfl rfl KS.c0 KS.c1 ⟨A5, n5, c5, by rw [HNp.out], HL5.out.setP KR _ _, below_set2 BE.out (Nat.le_refl _) _ _⟩

set_option maxRecDepth 100000 in
set_option maxHeartbeats 2000000 in
theorem changew_g (w : World) (f : FuncId) (na da : Bool) (A B : Option Addr) (n m ca cb : Nat) (xs ys : List Nat) (hA : Lm w w.heap.size A n ca xs) (hB : Lm w w.heap.size B m cb ys) (z : Int)
    (H : ∀ W g0 ga, Fb W g0 f → Qd W ga (.bool na) (.slice A n ca) (.bool da) (.slice B m cb) → Lm W W.heap.size A n ca xs → Lm W W.heap.size B m cb ys → Calls Tryz.prog 84 #[.func (.func 85) #[] #[.pointer (some ⟨g0, 0, none⟩), .pointer (some ⟨ga, 0, none⟩)]] W (RN W z)) :
    Calls Tryz.prog 49 #[fv na A n ca da B m cb, .func (.func f) #[] #[]] w (RN w z) := by
  have hmf : ∀ (fn : Fn) (first cap : Array Value) (w : World), (Instr.makeFunc fn first cap).run Tryz.prog w = .ok (.func fn first cap) w := fun _ _ _ _ => rfl
  have HH := Lib.hid H
  have HA := Lib.hid hA
  have HB := Lib.hid hB
  clear H hA hB
  go_enter Tryz.func49, Tryz.ntmps49
  have QA := Lib.hid (((Qd.new w _ rfl (.bool na) (.slice A n ca) (.bool da) (.slice B m cb) 26).alloc (.cells #[.func (.func f) #[] #[]] 81)).alloc (.cells #[.bool false, .slice none 0 0] 24))
  have QF : Hid (Fb (((w.alloc (.cells #[.bool na, .slice A n ca, .bool da, .slice B m cb] 26)).alloc (.cells #[.func (.func f) #[] #[]] 81)).alloc (.cells #[.bool false, .slice none 0 0] 24)) (w.heap.size + 1) f) := ⟨by go_simp, by simp⟩
  have QR := Lib.hid (Pr.new ((w.alloc (.cells #[.bool na, .slice A n ca, .bool da, .slice B m cb] 26)).alloc (.cells #[.func (.func f) #[] #[]] 81)) (w.heap.size + 1 + 1) (by simp) (.bool false) (.slice none 0 0) 24)
  have BW : Hid (Below w.heap.size w (((w.alloc (.cells #[.bool na, .slice A n ca, .bool da, .slice B m cb] 26)).alloc (.cells #[.func (.func f) #[] #[]] 81)).alloc (.cells #[.bool false, .slice none 0 0] 24))) := below_alloc (below_alloc (below_alloc (Below.refl _ _) _) _) _
  have LA : Hid (Lm (((w.alloc (.cells #[.bool na, .slice A n ca, .bool da, .slice B m cb] 26)).alloc (.cells #[.func (.func f) #[] #[]] 81)).alloc (.cells #[.bool false, .slice none 0 0] 24)) (((w.alloc (.cells #[.bool na, .slice A n ca, .bool da, .slice B m cb] 26)).alloc (.cells #[.func (.func f) #[] #[]] 81)).alloc (.cells #[.bool false, .slice none 0 0] 24)).heap.size A n ca xs) := (((HA.out.box _).box _).box _)
  have LB : Hid (Lm (((w.alloc (.cells #[.bool na, .slice A n ca, .bool da, .slice B m cb] 26)).alloc (.cells #[.func (.func f) #[] #[]] 81)).alloc (.cells #[.bool false, .slice none 0 0] 24)) (((w.alloc (.cells #[.bool na, .slice A n ca, .bool da, .slice B m cb] 26)).alloc (.cells #[.func (.func f) #[] #[]] 81)).alloc (.cells #[.bool false, .slice none 0 0] 24)).heap.size B m cb ys) := (((HB.out.box _).box _).box _)
  clear HA HB
  go_wp2_with fail
  refine (HH.out _ (w.heap.size + 1) w.heap.size QF.out QA.out LA.out LB.out).mono ?_
  rintro e w1 ⟨A1, n1, c1, rfl, hL, hb⟩
  have Q := Lib.hid (QR.out.via hb)
  have L1 := Lib.hid hL
  have BB := Lib.hid (btr BW.out hb)
  obtain ⟨np, hnp⟩ : ∃ b, decide (z < 0) = b := ⟨_, rfl⟩
  rw [hnp]
  have HNp := Lib.hid hnp
  have ⟨q0, q1, f0, f1, ql⟩ := Q.out
  clear hL hb hnp
  go_wp2
  exact post_ws Tryz.results49 rfl rfl Q.out.c0 Q.out.c1 ⟨A1, n1, c1, by rw [HNp.out]; rfl, L1.out.setP Q.out _ _, below_set2 BB.out (by omega) _ _⟩

/-- A world and a ratio: Floor. -/
def flr (x P : Int) : Int := x / P
theorem flr_of {x P q r : Int} (hP : 0 < P) (h1 : x = q * P + r) (h2 : r.natAbs < P.natAbs) (h3 : r = 0 ∨ decide (r < 0) = decide (P < 0)) : q = x / P ∧ r = x % P := by
  have h0 : 0 ≤ r := by
    rcases h3 with h | h
    · omega
    · have : ¬ P < 0 := by omega
      simp [this] at h
      omega
  have e := Int.ediv_emod_unique (a := x) (b := P) (r := r) (q := q) hP
  have := e.2 ⟨by rw [h1, Int.mul_comm]; omega, h0, by omega⟩
  exact ⟨this.1.symm, this.2.symm⟩

set_option maxRecDepth 100000 in
set_option maxHeartbeats 2000000 in
theorem floor_n (w : World) (A B : Option Addr) (n m ca cb k : Nat) (x P : Int) (hA : Lm w w.heap.size A n ca (digs x.natAbs)) (hB : Lm w w.heap.size B m cb (digs P.natAbs)) (hx : Sz k x) (hP : Sz k P) (hk : k ≤ 2000) {na : Bool} (ha : decide (x < 0) = na) (hP0 : 0 < P) :
    Calls Tryz.prog 50 #[fv na A n ca false B m cb] w (RVz w (x / P)) := by
  have HA := Lib.hid hA
  have HB := Lib.hid hB
  have HX := Lib.hid hx
  have HP := Lib.hid hP
  have HNa := Lib.hid ha
  have H0 := Lib.hid hP0
  clear hA hB hx hP ha hP0
  go_enter Tryz.func50, Tryz.ntmps50
  go_wp2_with fail
  refine (quotient_n _ A B n m ca cb k x P ((HA.out.box _).box _) ((HB.out.box _).box _) HX.out HP.out hk (by have := H0.out; omega) HNa.out (by simp; have := H0.out; omega)).mono ?_
  rintro e w1 ⟨q, r, h1, h2, h3, _, A1, n1, c1, A2, n2, c2, rfl, hL1, hL2, hb⟩
  obtain rfl := (flr_of H0.out h1 h2 h3).1
  have QR := Lib.hid ((Pr.new (w.alloc (.cells #[.bool na, .slice A n ca, .bool false, .slice B m cb] 59)) (w.heap.size + 1) (by simp) (.bool false) (.slice none 0 0) 24).via hb)
  have L1 := Lib.hid hL1
  have BB := Lib.hid (btr (below_alloc (below_alloc (Below.refl w.heap.size w) _) _) hb)
  obtain ⟨np, hnp⟩ : ∃ b, decide (x / P < 0) = b := ⟨_, rfl⟩
  obtain ⟨nr, hnr⟩ : ∃ b, decide (r < 0) = b := ⟨_, rfl⟩
  rw [hnp, hnr]
  have HNp := Lib.hid hnp
  clear hL1 hL2 hb hnp hnr h1 h2 h3
  go_upto_region 2 with (fail)
  have Q3 := Lib.hid ((QR.out.alloc (.cells #[.bool np, .slice A1 n1 c1] 24)).alloc (.cells #[.bool nr, .slice A2 n2 c2] 24))
  have P3 := Lib.hid ((Pr.new w1 _ rfl (.bool np) (.slice A1 n1 c1) 24).alloc (.cells #[.bool nr, .slice A2 n2 c2] 24))
  have L3 := Lib.hid ((L1.out.box (.cells #[.bool np, .slice A1 n1 c1] 24)).box (.cells #[.bool nr, .slice A2 n2 c2] 24))
  have B3 := Lib.hid (below_alloc (below_alloc BB.out (.cells #[.bool np, .slice A1 n1 c1] 24)) (.cells #[.bool nr, .slice A2 n2 c2] 24))
  clear QR L1 BB
  generalize w1.heap.size = g at *
  generalize (w1.alloc (.cells #[.bool np, .slice A1 n1 c1] 24)).alloc (.cells #[.bool nr, .slice A2 n2 c2] 24) = W3 at *
  have ⟨q0, q1, f0, f1, ql⟩ := Q3.out
  have ⟨p0, p1, _, _, _⟩ := P3.out
  go_wp2
  have KS := Q3.out.set (.bool np) (.slice A1 n1 c1)
  exact post_w1 Tryz.results50 rfl rfl KS.c0 KS.c1 ⟨A1, n1, c1, by rw [HNp.out], L3.out.setP Q3.out _ _, below_set2 B3.out (by omega) _ _⟩
end Go.Proofs.YtkendkbicafdgaaGreatDoor

/- Package frac: isEven, next, Round. -/
namespace Go.Proofs.YtkendkbicafdgaaGreatDoor
open Go.RowKit

theorem digs_head (z : Nat) : (digs z)[0]?.getD 0 % 2 = z % 2 := by
  have h := digs_val z
  cases hd : digs z with
  | nil => rw [hd] at h; rw [← h]; rfl
  | cons x r =>
    rw [hd, val_cons] at h
    show x % 2 = z % 2
    omega
set_option maxRecDepth 100000 in
set_option maxHeartbeats 1000000 in
theorem iseven_any (w : World) (neg : Bool) (A : Option Addr) (n c z : Nat) (h : Lm w w.heap.size A n c (digs z)) :
    Calls Tryz.prog 89 #[.agg #[.bool neg, .slice A n c]] w fun e w' => e = .returned (.bool (decide (z % 2 = 0))) ∧ Below w.heap.size w w' := by
  have hln := h.len
  have hcn := h.cap
  have hmx := h.max
  have HH := digs_head z
  have BB : Hid (Below w.heap.size w (w.alloc (.cells #[.bool neg, .slice A n c] 24))) := below_alloc (Below.refl _ _) _
  by_cases hn : n = 0
  · subst hn
    have hz : z = 0 := by
      have := digs_val z
      rw [List.length_eq_zero_iff.1 hln] at this
      exact this.symm
    subst hz
    clear HH h hln
    go_enter Tryz.func89, Tryz.ntmps89
    go_wp2
    go_ret
    exact ⟨rfl, BB.out⟩
  · have hb := h.box (.cells #[.bool neg, .slice A n c] 24)
    obtain ⟨b, off, rfl, hbb, hck⟩ := hb.cell (k := 0) (by omega)
    obtain ⟨x, hx⟩ : ∃ x, (digs z)[0]?.getD 0 = x := ⟨_, rfl⟩
    rw [hx] at hck HH
    rw [Nat.add_zero] at hck
    have k1 : decide ((n : Int) = 0) = false := decide_eq_false (by omega)
    have k2 : ((n : Int) == 0) = false := by simp [hn]
    have hg : x < 4294967296 := by rw [← hx]; exact h.good.get 0
    clear hb h hx hln
    go_enter Tryz.func89, Tryz.ntmps89
    go_wp2
    have e : (((x : Int) % 2 == 0)) = decide (z % 2 = 0) := by
      rw [← HH]
      rcases Nat.mod_two_eq_zero_or_one x with h | h
      · have : (x : Int) % 2 = 0 := by omega
        simp [this, h]
      · have : (x : Int) % 2 = 1 := by omega
        simp [this, h]
    rw [e]
    go_ret
    exact ⟨rfl, BB.out⟩

theorem sz1 {k : Nat} (h : 1 ≤ k) : Sz k 1 := Sz.mono (k := 1) (by unfold Sz; decide) h
set_option maxRecDepth 100000 in
set_option maxHeartbeats 2000000 in
theorem next_n (w : World) (A : Option Addr) (n ca k : Nat) (x : Int) (hA : Lm w w.heap.size A n ca (digs x.natAbs)) (hx : Sz k x) (hk : k ≤ 2000) (hk1 : 1 ≤ k) {na : Bool} (ha : decide (x < 0) = na) :
    Calls Tryz.prog 90 #[.agg #[.bool na, .slice A n ca]] w (RVz w (x + 1)) := by
  have SX := Lib.hid hx
  have HNa := Lib.hid ha
  have HA := Lib.hid hA
  clear hx ha hA
  go_enter Tryz.func90, Tryz.ntmps90
  have Q3 := Lib.hid ((Pr.new w _ rfl (.bool na) (.slice A n ca) 24).alloc (.cells #[.bool false, .slice none 0 0] 24))
  have QR := Lib.hid (Pr.new (w.alloc (.cells #[.bool na, .slice A n ca] 24)) (w.heap.size + 1) (by simp) (.bool false) (.slice none 0 0) 24)
  have LA := Lib.hid ((HA.out.box (.cells #[.bool na, .slice A n ca] 24)).box (.cells #[.bool false, .slice none 0 0] 24))
  have BW : Hid (Below w.heap.size w ((w.alloc (.cells #[.bool na, .slice A n ca] 24)).alloc (.cells #[.bool false, .slice none 0 0] 24))) := below_alloc (below_alloc (Below.refl _ _) _) _
  clear HA
  go_wp2_with fail
  generalize (w.alloc (.cells #[.bool na, .slice A n ca] 24)).alloc (.cells #[.bool false, .slice none 0 0] 24) = W0 at *
  have hrl := QR.out.lt
  have HW2 : Hid (w.heap.size + 1 ≤ W0.heap.size) := by show _ ≤ _; omega
  have HKS : Hid (∀ X : World, Below (w.heap.size + 1) W0 X → X.cell? ⟨w.heap.size, 0, none⟩ = some (.bool na) ∧ X.cell? ⟨w.heap.size, 1, none⟩ = some (.slice A n ca)) := fun X h => ⟨(Q3.out.below h (by omega)).c0, (Q3.out.below h (by omega)).c1⟩
  go_region_held3 (fun w' => w'.cell? ⟨w.heap.size, 0, none⟩ = some (.bool na) ∧ w'.cell? ⟨w.heap.size, 1, none⟩ = some (.slice A n ca))
    (first | (refine HKS.out _ ?_; (repeat' (first | exact Bd.mono HW2.out | exact B2.mono HW2.out | exact B1.mono HW2.out | exact (Below.refl _ _).drew | exact Below.refl _ _ | refine Below.setCell ?_ ?_ _)); all_goals (first | omega | (simp; done) | (simp; omega))))
    (first
     | (go_at_call 64; refine (must_ok _ _ _ _ _).mono ?_; rintro e wd ⟨rfl, hb4⟩; have Bd : Below W0.heap.size W0 wd := btr B2 hb4; have KR := QR.out.via Bd; have ⟨r0, r1, rf0, rf1, rl⟩ := KR)
     | (go_at_call 83; refine (add_n _ A A1 n n1 ca c1 k x 1 (LA.out.via B1) hL1 SX.out (sz1 hk1) hk HNa.out rfl).mono ?_; rintro e wb ⟨A2, n2, c2, rfl, hL2, hb2⟩; obtain ⟨np, hnp⟩ : ∃ b, decide (x + 1 < 0) = b := ⟨_, rfl⟩; rw [hnp]; have B2 : Below W0.heap.size W0 wb := btr B1 hb2)
     | (go_at_call 46; refine (from_any _ 1 (by omega) (by omega)).mono ?_; rintro e wa ⟨A1, n1, c1, rfl, hL1, hb1⟩; have B1 : Below W0.heap.size W0 wa := (by first | exact (Below.refl _ _).drew.trans hb1 | exact hb1))
     | fail)
  all_goals
    have HNp := Lib.hid hnp
    have HL5 := Lib.hid (hL2.via hb4)
    have BE := Lib.hid (btr BW.out Bd)
    clear hnp hL2
    go_wp2
    have KS := KR.set (.bool np) (.slice A2 n2 c2)
    exact post_w1 Tryz.results90 rfl rfl KS.c0 KS.c1 ⟨A2, n2, c2, by rw [HNp.out], HL5.out.setP KR _ _, below_set2 BE.out (by omega) _ _⟩

end Go.Proofs.YtkendkbicafdgaaGreatDoor

/- Package frac: ratio.round. -/
namespace Go.Proofs.YtkendkbicafdgaaGreatDoor
open Go.RowKit

/-- The nearest whole number, half to even. -/
def rndZ (x P : Int) : Int := if 2 * (x % P) < P then x / P else if 2 * (x % P) = P ∧ x / P % 2 = 0 then x / P else x / P + 1
set_option maxRecDepth 100000 in
set_option maxHeartbeats 4000000 in
theorem round_n (w : World) (A B : Option Addr) (n m ca cb k : Nat) (x P : Int) (hA : Lm w w.heap.size A n ca (digs x.natAbs)) (hB : Lm w w.heap.size B m cb (digs P.natAbs)) (hx : Sz k x) (hP : Sz k P) (hk : k ≤ 1999) (hk1 : 1 ≤ k) {na : Bool} (ha : decide (x < 0) = na) (hP0 : 0 < P) :
    Calls Tryz.prog 51 #[fv na A n ca false B m cb] w (RVz w (rndZ x P)) := by
  have HA := Lib.hid hA
  have HB := Lib.hid hB
  have HX := Lib.hid hx
  have HP := Lib.hid hP
  have HNa := Lib.hid ha
  have H0 := Lib.hid hP0
  clear hA hB hx hP ha hP0
  go_enter Tryz.func51, Tryz.ntmps51
  go_wp2_with fail
  refine (quotient_n _ A B n m ca cb k x P ((HA.out.box _).box _) ((HB.out.box _).box _) HX.out HP.out (by omega) (by have := H0.out; omega) HNa.out (by simp; have := H0.out; omega)).mono ?_
  rintro e w1 ⟨q, r, h1, h2, h3, hqx, A1, n1, c1, A2, n2, c2, rfl, hL1, hL2, hb⟩
  have HQ : Hid (q = x / P ∧ r = x % P) := flr_of H0.out h1 h2 h3
  have HRR : Hid (0 ≤ r ∧ r < P) := by
    have e := HQ.out.2
    have := Int.emod_nonneg x (show P ≠ 0 by have := H0.out; omega)
    have := Int.emod_lt_of_pos x H0.out
    show _ ∧ _
    omega
  have HSq : Hid (Sz k q) := by
    have := HX.out
    show _ < _
    unfold Sz at this
    omega
  have HSr : Hid (Sz k r) := by
    have := HP.out
    have := HRR.out
    show _ < _
    unfold Sz at *
    omega
  have QR := Lib.hid ((Pr.new (w.alloc (.cells #[.bool na, .slice A n ca, .bool false, .slice B m cb] 59)) (w.heap.size + 1) (by simp) (.bool false) (.slice none 0 0) 24).via hb)
  have QF := Lib.hid (((Qd.new w _ rfl (.bool na) (.slice A n ca) (.bool false) (.slice B m cb) 59).alloc (.cells #[.bool false, .slice none 0 0] 24)).via hb)
  have LB := Lib.hid (((HB.out.box (.cells #[.bool na, .slice A n ca, .bool false, .slice B m cb] 59)).box (.cells #[.bool false, .slice none 0 0] 24)).via hb)
  have L1 := Lib.hid hL1
  have L2 := Lib.hid hL2
  have BB := Lib.hid (btr (below_alloc (below_alloc (Below.refl w.heap.size w) _) _) hb)
  obtain ⟨np, hnp⟩ : ∃ b, decide (q < 0) = b := ⟨_, rfl⟩
  obtain ⟨nr, hnr⟩ : ∃ b, decide (r < 0) = b := ⟨_, rfl⟩
  rw [hnp, hnr]
  have HNp := Lib.hid hnp
  have HNr := Lib.hid hnr
  clear hL1 hL2 hb hnp hnr h1 h2 h3 hqx HA HB HX HNa
  go_upto_region 2 with (fail)
  replace QR := Lib.hid ((QR.out.alloc (.cells #[.bool np, .slice A1 n1 c1] 24)).alloc (.cells #[.bool nr, .slice A2 n2 c2] 24))
  replace QF := Lib.hid ((QF.out.alloc (.cells #[.bool np, .slice A1 n1 c1] 24)).alloc (.cells #[.bool nr, .slice A2 n2 c2] 24))
  have P3 := Lib.hid ((Pr.new w1 _ rfl (.bool np) (.slice A1 n1 c1) 24).alloc (.cells #[.bool nr, .slice A2 n2 c2] 24))
  have P4 := Lib.hid (Pr.new (w1.alloc (.cells #[.bool np, .slice A1 n1 c1] 24)) (w1.heap.size + 1) (by simp) (.bool nr) (.slice A2 n2 c2) 24)
  replace LB := Lib.hid ((LB.out.box (.cells #[.bool np, .slice A1 n1 c1] 24)).box (.cells #[.bool nr, .slice A2 n2 c2] 24))
  replace L1 := Lib.hid ((L1.out.box (.cells #[.bool np, .slice A1 n1 c1] 24)).box (.cells #[.bool nr, .slice A2 n2 c2] 24))
  replace L2 := Lib.hid ((L2.out.box (.cells #[.bool np, .slice A1 n1 c1] 24)).box (.cells #[.bool nr, .slice A2 n2 c2] 24))
  replace BB := Lib.hid (below_alloc (below_alloc BB.out (.cells #[.bool np, .slice A1 n1 c1] 24)) (.cells #[.bool nr, .slice A2 n2 c2] 24))
  generalize w1.heap.size = g at *
  generalize (w1.alloc (.cells #[.bool np, .slice A1 n1 c1] 24)).alloc (.cells #[.bool nr, .slice A2 n2 c2] 24) = W3 at *
  have ⟨f0, f1, f2, f3, _, _, _, _, _⟩ := QF.out
  have ⟨s0, s1, _, _, _⟩ := P4.out
  go_wp2_with fail
  clear f0 f1 f2 f3 s0 s1 QF
  refine (sub_n _ B A2 m n2 cb c2 k P r LB.out L2.out HP.out HSr.out (by omega) (by simp; have := H0.out; omega) HNr.out).mono ?_
  rintro e w2 ⟨A3, n3, c3, rfl, hL, hb⟩
  obtain ⟨nm, hnm⟩ : ∃ b, decide (P - r < 0) = b := ⟨_, rfl⟩
  rw [hnm]
  have HNm := Lib.hid hnm
  have L3 := Lib.hid hL
  replace QR := Lib.hid (QR.out.via hb)
  replace P3 := Lib.hid (P3.out.via hb)
  replace P4 := Lib.hid (P4.out.via hb)
  replace L1 := Lib.hid (L1.out.via hb)
  replace L2 := Lib.hid (L2.out.via hb)
  replace BB := Lib.hid (btr BB.out hb)
  clear hb hL hnm LB
  go_wp2_with fail
  refine (must_ok _ _ _ _ _).mono ?_
  rintro e w3 ⟨rfl, hb⟩
  replace QR := Lib.hid (QR.out.via hb)
  replace P3 := Lib.hid (P3.out.via hb)
  replace P4 := Lib.hid (P4.out.via hb)
  replace L1 := Lib.hid (L1.out.via hb)
  replace L2 := Lib.hid (L2.out.via hb)
  replace L3 := Lib.hid (L3.out.via hb)
  replace BB := Lib.hid (btr BB.out hb)
  clear hb
  go_upto_region 3 with (fail)
  replace QR := Lib.hid (QR.out.alloc (.cells #[.bool nm, .slice A3 n3 c3] 24))
  replace P3 := Lib.hid (P3.out.alloc (.cells #[.bool nm, .slice A3 n3 c3] 24))
  replace P4 := Lib.hid (P4.out.alloc (.cells #[.bool nm, .slice A3 n3 c3] 24))
  have P5 := Lib.hid (Pr.new w3 _ rfl (.bool nm) (.slice A3 n3 c3) 24)
  replace L1 := Lib.hid (L1.out.box (.cells #[.bool nm, .slice A3 n3 c3] 24))
  replace L2 := Lib.hid (L2.out.box (.cells #[.bool nm, .slice A3 n3 c3] 24))
  replace L3 := Lib.hid (L3.out.box (.cells #[.bool nm, .slice A3 n3 c3] 24))
  replace BB := Lib.hid (below_alloc BB.out (.cells #[.bool nm, .slice A3 n3 c3] 24))
  generalize w3.heap.size = g5 at *
  generalize w3.alloc (.cells #[.bool nm, .slice A3 n3 c3] 24) = W4 at *
  have ⟨s0, s1, _, _, _⟩ := P4.out
  have ⟨t0, t1, _, _, _⟩ := P5.out
  go_wp2_with fail
  clear s0 s1 t0 t1 P4 P5
  refine (cmp_n2 _ A2 A3 n2 n3 c2 c3 (k + 1) r (P - r) L2.out L3.out (HSr.out.mono (by omega)) (HP.out.sub HSr.out) (by omega) HNr.out HNm.out).mono ?_
  rintro e w4 ⟨rfl, hb⟩
  replace QR := Lib.hid (QR.out.via hb)
  replace P3 := Lib.hid (P3.out.via hb)
  replace L1 := Lib.hid (L1.out.via hb)
  replace BB := Lib.hid (btr BB.out hb)
  clear hb L2 L3 HNr HNm HSr HP
  obtain ⟨cz, hcz⟩ : ∃ c, cmpZ r (P - r) = c := ⟨_, rfl⟩
  rw [hcz]
  have HC : Hid ((r < P - r → cz = -1) ∧ (r = P - r → cz = 0) ∧ (P - r < r → cz = 1)) := by
    show _ ∧ _ ∧ _
    rw [← hcz]
    unfold cmpZ
    refine ⟨fun h => ?_, fun h => ?_, fun h => ?_⟩ <;> (repeat' split) <;> omega
  clear hcz
  go_wp2_with fail
  refine (musti_ok _ _).mono ?_
  rintro e w5 ⟨rfl, rfl⟩
  rcases Int.lt_trichotomy r (P - r) with hlt | heq | hgt
  · obtain rfl : cz = -1 := HC.out.1 hlt
    have HZ : Hid (rndZ x P = q) := by
      obtain ⟨e1, e2⟩ := HQ.out
      show _ = _
      unfold rndZ
      rw [← e2, ← e1, if_pos (by omega)]
    clear hlt HC HRR H0 HQ
    have ⟨p0, p1, _, _, _⟩ := P3.out
    have ⟨q0, q1, f0, f1, ql⟩ := QR.out
    go_wp2
    have KS := QR.out.set (.bool np) (.slice A1 n1 c1)
    exact post_w1 Tryz.results51 rfl rfl KS.c0 KS.c1 ⟨A1, n1, c1, by rw [HZ.out, HNp.out], by rw [HZ.out]; exact L1.out.setP QR.out _ _, below_set2 BB.out (by omega) _ _⟩
  · obtain rfl : cz = 0 := HC.out.2.1 heq
    have ⟨p0, p1, _, _, _⟩ := P3.out
    have HE := Lib.hid heq
    clear heq HC
    go_wp2_with fail
    clear p0 p1
    refine (iseven_any _ np A1 n1 c1 q.natAbs L1.out).mono ?_
    rintro e w6 ⟨rfl, hb⟩
    replace QR := Lib.hid (QR.out.via hb)
    replace P3 := Lib.hid (P3.out.via hb)
    replace L1 := Lib.hid (L1.out.via hb)
    replace BB := Lib.hid (btr BB.out hb)
    clear hb
    by_cases hev : q.natAbs % 2 = 0
    · have HZ : Hid (rndZ x P = q) := by
        obtain ⟨e1, e2⟩ := HQ.out
        have := HE.out
        show _ = _
        unfold rndZ
        rw [← e2, ← e1, if_neg (by omega), if_pos (by omega)]
      rw [decide_eq_true hev]
      clear hev HE HRR H0 HQ
      have ⟨p0, p1, _, _, _⟩ := P3.out
      have ⟨q0, q1, f0, f1, ql⟩ := QR.out
      go_wp2
      have KS := QR.out.set (.bool np) (.slice A1 n1 c1)
      exact post_w1 Tryz.results51 rfl rfl KS.c0 KS.c1 ⟨A1, n1, c1, by rw [HZ.out, HNp.out], by rw [HZ.out]; exact L1.out.setP QR.out _ _, below_set2 BB.out (by omega) _ _⟩
    · have HZ : Hid (rndZ x P = q + 1) := by
        obtain ⟨e1, e2⟩ := HQ.out
        have := HE.out
        show _ = _
        unfold rndZ
        rw [← e2, ← e1, if_neg (by omega), if_neg (by omega)]
      rw [decide_eq_false hev]
      clear hev HE HRR H0 HQ
      have ⟨p0, p1, _, _, _⟩ := P3.out
      go_wp2_with fail
      clear p0 p1
      refine (next_n _ A1 n1 c1 k q L1.out HSq.out (by omega) hk1 HNp.out).mono ?_
      rintro e w6 ⟨A6, n6, c6, rfl, hL, hb⟩
      obtain ⟨ns, hns⟩ : ∃ b, decide (q + 1 < 0) = b := ⟨_, rfl⟩
      rw [hns]
      have HNs := Lib.hid hns
      have L6 := Lib.hid hL
      replace QR := Lib.hid (QR.out.via hb)
      replace BB := Lib.hid (btr BB.out hb)
      clear hL hb hns
      have ⟨q0, q1, f0, f1, ql⟩ := QR.out
      go_wp2
      have KS := QR.out.set (.bool ns) (.slice A6 n6 c6)
      exact post_w1 Tryz.results51 rfl rfl KS.c0 KS.c1 ⟨A6, n6, c6, by rw [HZ.out, HNs.out], by rw [HZ.out]; exact L6.out.setP QR.out _ _, below_set2 BB.out (by omega) _ _⟩
  · obtain rfl : cz = 1 := HC.out.2.2 hgt
    have HZ : Hid (rndZ x P = q + 1) := by
      obtain ⟨e1, e2⟩ := HQ.out
      show _ = _
      unfold rndZ
      rw [← e2, ← e1, if_neg (by omega), if_neg (by omega)]
    clear hgt HC HRR H0 HQ
    have ⟨p0, p1, _, _, _⟩ := P3.out
    go_wp2_with fail
    clear p0 p1
    refine (next_n _ A1 n1 c1 k q L1.out HSq.out (by omega) hk1 HNp.out).mono ?_
    rintro e w6 ⟨A6, n6, c6, rfl, hL, hb⟩
    obtain ⟨ns, hns⟩ : ∃ b, decide (q + 1 < 0) = b := ⟨_, rfl⟩
    rw [hns]
    have HNs := Lib.hid hns
    have L6 := Lib.hid hL
    replace QR := Lib.hid (QR.out.via hb)
    replace BB := Lib.hid (btr BB.out hb)
    clear hL hb hns
    have ⟨q0, q1, f0, f1, ql⟩ := QR.out
    go_wp2
    have KS := QR.out.set (.bool ns) (.slice A6 n6 c6)
    exact post_w1 Tryz.results51 rfl rfl KS.c0 KS.c1 ⟨A6, n6, c6, by rw [HZ.out, HNs.out], by rw [HZ.out]; exact L6.out.setP QR.out _ _, below_set2 BB.out (by omega) _ _⟩

end Go.Proofs.YtkendkbicafdgaaGreatDoor

/- Package frac: Floor, Ceil, Round. -/
namespace Go.Proofs.YtkendkbicafdgaaGreatDoor
open Go.RowKit

/-- The least whole number that is not less. -/
def ceilZ (x P : Int) : Int := if x % P = 0 then x / P else x / P + 1
set_option maxRecDepth 100000 in
set_option maxHeartbeats 2000000 in
theorem ffloor_g (w : World) (na da : Bool) (A B : Option Addr) (n m ca cb : Nat) (xs ys : List Nat) (hA : Lm w w.heap.size A n ca xs) (hB : Lm w w.heap.size B m cb ys) (z : Int)
    (H : ∀ W, Lm W W.heap.size A n ca xs → Lm W W.heap.size B m cb ys → Calls Tryz.prog 49 #[fv na A n ca da B m cb, .func (.func 50) #[] #[]] W (RN W z)) :
    Calls Tryz.prog 21 #[fv na A n ca da B m cb] w (RN w z) := by
  have HH := Lib.hid H
  have HA := Lib.hid hA
  have HB := Lib.hid hB
  clear H hA hB
  go_enter Tryz.func21, Tryz.ntmps21
  have QR := Lib.hid (Pr.new (w.alloc (.cells #[.bool na, .slice A n ca, .bool da, .slice B m cb] 26)) (w.heap.size + 1) (by simp) (.bool false) (.slice none 0 0) 24)
  have BW : Hid (Below w.heap.size w ((w.alloc (.cells #[.bool na, .slice A n ca, .bool da, .slice B m cb] 26)).alloc (.cells #[.bool false, .slice none 0 0] 24))) := below_alloc (below_alloc (Below.refl _ _) _) _
  have LA : Hid (Lm ((w.alloc (.cells #[.bool na, .slice A n ca, .bool da, .slice B m cb] 26)).alloc (.cells #[.bool false, .slice none 0 0] 24)) ((w.alloc (.cells #[.bool na, .slice A n ca, .bool da, .slice B m cb] 26)).alloc (.cells #[.bool false, .slice none 0 0] 24)).heap.size A n ca xs) := ((HA.out.box _).box _)
  have LB : Hid (Lm ((w.alloc (.cells #[.bool na, .slice A n ca, .bool da, .slice B m cb] 26)).alloc (.cells #[.bool false, .slice none 0 0] 24)) ((w.alloc (.cells #[.bool na, .slice A n ca, .bool da, .slice B m cb] 26)).alloc (.cells #[.bool false, .slice none 0 0] 24)).heap.size B m cb ys) := ((HB.out.box _).box _)
  clear HA HB
  go_wp2_with fail
  refine (HH.out _ LA.out LB.out).mono ?_
  rintro e w1 ⟨A1, n1, c1, rfl, hL, hb⟩
  have Q := Lib.hid (QR.out.via hb)
  have L1 := Lib.hid hL
  have BB := Lib.hid (btr BW.out hb)
  obtain ⟨np, hnp⟩ : ∃ b, decide (z < 0) = b := ⟨_, rfl⟩
  rw [hnp]
  have HNp := Lib.hid hnp
  have ⟨q0, q1, f0, f1, ql⟩ := Q.out
  clear hL hb hnp
  go_wp2
  exact post_ws Tryz.results21 rfl rfl Q.out.c0 Q.out.c1 ⟨A1, n1, c1, by rw [HNp.out]; rfl, L1.out.setP Q.out _ _, below_set2 BB.out (by omega) _ _⟩
theorem ffloor_n (w : World) (A B : Option Addr) (n m ca cb k : Nat) (x P : Int) (hA : Lm w w.heap.size A n ca (digs x.natAbs)) (hB : Lm w w.heap.size B m cb (digs P.natAbs)) (hx : Sz k x) (hP : Sz k P) (hk : k ≤ 1999) (hk1 : 1 ≤ k) {na : Bool} (ha : decide (x < 0) = na) (hP0 : 0 < P) (hv : fchk na (digs x.natAbs) false (digs P.natAbs) = 0) :
    Calls Tryz.prog 21 #[fv na A n ca false B m cb] w (RN w (x / P)) := by
  have hcf2 : ∀ (u : Value) (W : World), (callFunc 50 #[u]).run Tryz.prog W = .ok (.enter 50 #[u]) W := fun u W => by go_simp
  have hcf3 : ∀ (u v : Value) (W : World), (callFunc 85 (#[] ++ #[u, v])).run Tryz.prog W = .ok (.enter 85 (#[] ++ #[u, v])) W := fun u v W => by go_simp
  exact ffloor_g w na false A B n m ca cb _ _ hA hB _ fun W h1 h2 => changew_g W 50 na false A B n m ca cb _ _ h1 h2 _ fun W g0 ga qf qa i1 i2 =>
    attemptw_ok W 85 #[] #[_, _] (x / P) (hcf3 _ _) (changew_ok (Waw W) g0 ga 50 na false A B n m ca cb _ _ (qf.via (waw_below W)) (qa.via (waw_below W)) (i1.via (waw_below W)) (i2.via (waw_below W)) hv (x / P) hcf2 fun W j1 j2 => floor_n W A B n m ca cb k x P j1 j2 hx hP (by omega) ha hP0)

set_option maxRecDepth 100000 in
set_option maxHeartbeats 2000000 in
theorem fround_g (w : World) (na da : Bool) (A B : Option Addr) (n m ca cb : Nat) (xs ys : List Nat) (hA : Lm w w.heap.size A n ca xs) (hB : Lm w w.heap.size B m cb ys) (z : Int)
    (H : ∀ W, Lm W W.heap.size A n ca xs → Lm W W.heap.size B m cb ys → Calls Tryz.prog 49 #[fv na A n ca da B m cb, .func (.func 51) #[] #[]] W (RN W z)) :
    Calls Tryz.prog 22 #[fv na A n ca da B m cb] w (RN w z) := by
  have HH := Lib.hid H
  have HA := Lib.hid hA
  have HB := Lib.hid hB
  clear H hA hB
  go_enter Tryz.func22, Tryz.ntmps22
  have QR := Lib.hid (Pr.new (w.alloc (.cells #[.bool na, .slice A n ca, .bool da, .slice B m cb] 26)) (w.heap.size + 1) (by simp) (.bool false) (.slice none 0 0) 24)
  have BW : Hid (Below w.heap.size w ((w.alloc (.cells #[.bool na, .slice A n ca, .bool da, .slice B m cb] 26)).alloc (.cells #[.bool false, .slice none 0 0] 24))) := below_alloc (below_alloc (Below.refl _ _) _) _
  have LA : Hid (Lm ((w.alloc (.cells #[.bool na, .slice A n ca, .bool da, .slice B m cb] 26)).alloc (.cells #[.bool false, .slice none 0 0] 24)) ((w.alloc (.cells #[.bool na, .slice A n ca, .bool da, .slice B m cb] 26)).alloc (.cells #[.bool false, .slice none 0 0] 24)).heap.size A n ca xs) := ((HA.out.box _).box _)
  have LB : Hid (Lm ((w.alloc (.cells #[.bool na, .slice A n ca, .bool da, .slice B m cb] 26)).alloc (.cells #[.bool false, .slice none 0 0] 24)) ((w.alloc (.cells #[.bool na, .slice A n ca, .bool da, .slice B m cb] 26)).alloc (.cells #[.bool false, .slice none 0 0] 24)).heap.size B m cb ys) := ((HB.out.box _).box _)
  clear HA HB
  go_wp2_with fail
  refine (HH.out _ LA.out LB.out).mono ?_
  rintro e w1 ⟨A1, n1, c1, rfl, hL, hb⟩
  have Q := Lib.hid (QR.out.via hb)
  have L1 := Lib.hid hL
  have BB := Lib.hid (btr BW.out hb)
  obtain ⟨np, hnp⟩ : ∃ b, decide (z < 0) = b := ⟨_, rfl⟩
  rw [hnp]
  have HNp := Lib.hid hnp
  have ⟨q0, q1, f0, f1, ql⟩ := Q.out
  clear hL hb hnp
  go_wp2
  exact post_ws Tryz.results22 rfl rfl Q.out.c0 Q.out.c1 ⟨A1, n1, c1, by rw [HNp.out]; rfl, L1.out.setP Q.out _ _, below_set2 BB.out (by omega) _ _⟩
theorem fround_n (w : World) (A B : Option Addr) (n m ca cb k : Nat) (x P : Int) (hA : Lm w w.heap.size A n ca (digs x.natAbs)) (hB : Lm w w.heap.size B m cb (digs P.natAbs)) (hx : Sz k x) (hP : Sz k P) (hk : k ≤ 1999) (hk1 : 1 ≤ k) {na : Bool} (ha : decide (x < 0) = na) (hP0 : 0 < P) (hv : fchk na (digs x.natAbs) false (digs P.natAbs) = 0) :
    Calls Tryz.prog 22 #[fv na A n ca false B m cb] w (RN w (rndZ x P)) := by
  have hcf2 : ∀ (u : Value) (W : World), (callFunc 51 #[u]).run Tryz.prog W = .ok (.enter 51 #[u]) W := fun u W => by go_simp
  have hcf3 : ∀ (u v : Value) (W : World), (callFunc 85 (#[] ++ #[u, v])).run Tryz.prog W = .ok (.enter 85 (#[] ++ #[u, v])) W := fun u v W => by go_simp
  exact fround_g w na false A B n m ca cb _ _ hA hB _ fun W h1 h2 => changew_g W 51 na false A B n m ca cb _ _ h1 h2 _ fun W g0 ga qf qa i1 i2 =>
    attemptw_ok W 85 #[] #[_, _] (rndZ x P) (hcf3 _ _) (changew_ok (Waw W) g0 ga 51 na false A B n m ca cb _ _ (qf.via (waw_below W)) (qa.via (waw_below W)) (i1.via (waw_below W)) (i2.via (waw_below W)) hv (rndZ x P) hcf2 fun W j1 j2 => round_n W A B n m ca cb k x P j1 j2 hx hP (by omega) hk1 ha hP0)

end Go.Proofs.YtkendkbicafdgaaGreatDoor

/- Package frac: Add, Sub, Mul, Div, Cmp, Neg, Of, Floor, Ceil, Round at valid fractions, by what these are worth. -/
namespace Go.Proofs.YtkendkbicafdgaaGreatDoor
open Go.RowKit

/-- A fraction in lowest terms that is worth u / v, by its numbers' limbs. -/
def Fw (w : World) (k : Nat) (u v : Int) (z : Bool) (A : Option Addr) (n c : Nat) (B : Option Addr) (m cb : Nat) : Prop := ∃ p q, decide (p < 0) = z ∧ FrV k p q u v ∧ Lm w w.heap.size A n c (digs p.natAbs) ∧ Lm w w.heap.size B m cb (digs q.natAbs)
/-- A call returns such a fraction without an error. -/
def RFw (w : World) (k : Nat) (u v : Int) (e : Ending) (w' : World) : Prop := ∃ z A n c B m cb, e = .returned (.tuple #[fv z A n c false B m cb, .int .i64 0]) ∧ Fw w' k u v z A n c B m cb ∧ Below w.heap.size w w'
section
variable {w w' : World} {k : Nat} {u v : Int} {z : Bool} {A : Option Addr} {n c : Nat} {B : Option Addr} {m cb : Nat}
theorem Fw.via (h : Fw w k u v z A n c B m cb) (hb : Below w.heap.size w w') : Fw w' k u v z A n c B m cb := by
  obtain ⟨p, q, h1, h2, h3, h4⟩ := h
  exact ⟨p, q, h1, h2, h3.via hb, h4.via hb⟩
theorem Fw.alloc (h : Fw w k u v z A n c B m cb) (o : Obj) : Fw (w.alloc o) k u v z A n c B m cb := h.via ((Below.refl _ _).alloc (Nat.le_refl _) o)
theorem Fw.drew (h : Fw w k u v z A n c B m cb) : Fw w.drew k u v z A n c B m cb := h.via (Below.refl _ _).drew
theorem Fw.mono {l : Nat} (h : Fw w k u v z A n c B m cb) (hl : k ≤ l) : Fw w l u v z A n c B m cb := by
  obtain ⟨p, q, h1, h2, h3, h4⟩ := h
  exact ⟨p, q, h1, h2.mono hl, h3, h4⟩
theorem Fw.to (h : Fw w k u v z A n c B m cb) (hv : v ≠ 0) {u' v' : Int} (e : u * v' = u' * v) : Fw w k u' v' z A n c B m cb := by
  obtain ⟨p, q, h1, h2, h3, h4⟩ := h
  exact ⟨p, q, h1, frv_to h2 hv e, h3, h4⟩
theorem Fw.put4 (h : Fw w k u v z A n c B m cb) {g n0 c0 n1 c1 : Nat} {b b' : Bool} {A0 A1 : Option Addr} (p : Qd w g (.bool b) (.slice A0 n0 c0) (.bool b') (.slice A1 n1 c1)) (y0 y1 y2 y3 : Value) : Fw (Proofs.YtkendkbicafdgaaGreatDoor.put4 w g y0 y1 y2 y3) k u v z A n c B m cb := by
  obtain ⟨p1, q1, h1, h2, h3, h4⟩ := h
  exact ⟨p1, q1, h1, h2, h3.put4 p _ _ _ _, h4.put4 p _ _ _ _⟩
theorem rfe_rfw {p q : Int} (h : FrV k p q u v) {e : Ending} (hr : RFE w p q e w') : RFw w k u v e w' := by
  obtain ⟨A, n, c, B, m, cb, he, h1, h2, h3⟩ := hr
  refine ⟨decide (p < 0), A, n, c, B, m, cb, ?_, ⟨p, q, rfl, h, h1, h2⟩, h3⟩
  rw [he, decide_eq_false (show ¬ q < 0 by have := h.pos; omega)]
end
theorem fr_gcd {k : Nat} {p q u v : Int} (h : FrV k p q u v) : Nat.gcd p.natAbs q.natAbs = 1 := by
  have h1 := h.ok
  unfold fchk at h1
  split at h1
  · rename_i hh
    have := hh.2.2.2.2
    rw [digs_val, digs_val] at this
    exact this
  · cases h1
/-- Two fractions in lowest terms that are worth the same are the same. -/
theorem frv_uniq {k l : Nat} {p q r s u v a b : Int} (h1 : FrV k p q u v) (h2 : FrV l r s a b) (hv : v ≠ 0) (hb : b ≠ 0) (e : u * b = a * v) : p = r ∧ q = s := by
  have g1 := fr_gcd h1
  have g2 := fr_gcd h2
  have e1 : p * s = r * q := by
    have a1 := h1.eq
    have a2 := h2.eq
    refine Int.eq_of_mul_eq_mul_right (a := v * b) (Int.mul_ne_zero hv hb) ?_
    have x1 : p * s * (v * b) = p * v * (s * b) := by grind
    have x2 : r * q * (v * b) = r * b * (q * v) := by grind
    rw [x1, x2, a1, a2]
    have x3 : u * q * (s * b) = u * b * (q * s) := by grind
    have x4 : a * s * (q * v) = a * v * (q * s) := by grind
    rw [x3, x4, e]
  have hq := h1.pos
  have hs := h2.pos
  have n1 : p.natAbs * s.natAbs = r.natAbs * q.natAbs := by rw [← Int.natAbs_mul, ← Int.natAbs_mul, e1]
  have d1 : q.natAbs ∣ s.natAbs := by
    have : q.natAbs ∣ p.natAbs * s.natAbs := by rw [n1]; exact Nat.dvd_mul_left _ _
    exact (Nat.Coprime.dvd_of_dvd_mul_left (Nat.Coprime.symm g1) this)
  have d2 : s.natAbs ∣ q.natAbs := by
    have : s.natAbs ∣ r.natAbs * q.natAbs := by rw [← n1]; exact Nat.dvd_mul_left _ _
    exact (Nat.Coprime.dvd_of_dvd_mul_left (Nat.Coprime.symm g2) this)
  have n2 : q.natAbs = s.natAbs := Nat.dvd_antisymm d1 d2
  have e2 : q = s := by omega
  subst e2
  exact ⟨Int.eq_of_mul_eq_mul_right (by omega) e1, rfl⟩
theorem frw_neg {k : Nat} {p q u v : Int} (h : FrV k p q u v) (hk : k ≤ 2000) : FrV k (-p) q (-u) v := by
  have sp : Sz k (-p) := by have := h.sp; unfold Sz at *; omega
  refine ⟨h.pos, by rw [Int.neg_mul, Int.neg_mul, h.eq], ?_, sp, h.sq⟩
  have hc := h.ok
  have c1 := chk_z sp (show k ≤ 4096 by omega)
  have e : (-p).natAbs = p.natAbs := by omega
  unfold fchk at hc ⊢
  split at hc
  · rename_i h0
    rw [e] at c1 ⊢
    rw [if_pos ⟨c1, h0.2⟩]
  · exact absurd hc (by decide)
theorem fadd_w {w : World} {k : Nat} {u v a b : Int} {z1 z2 : Bool} {A B C D : Option Addr} {n m r s ca cb cc cd : Nat} (X : Fw w k u v z1 A n ca B m cb) (Y : Fw w k a b z2 C r cc D s cd) (hk : k ≤ 300) :
    Calls Tryz.prog 20 #[fv z1 A n ca false B m cb, fv z2 C r cc false D s cd] w (RFw w (2 * k + 1) (u * b + a * v) (v * b)) := by
  have hcf2 : ∀ (u v : Value) (W : World), (callFunc 48 #[u, v]).run Tryz.prog W = .ok (.enter 48 #[u, v]) W := fun u v W => by go_simp
  have hcf3 : ∀ (u v z : Value) (W : World), (callFunc 81 (#[] ++ #[u, v, z])).run Tryz.prog W = .ok (.enter 81 (#[] ++ #[u, v, z])) W := fun u v z W => by go_simp
  obtain ⟨x, P, e1, f1, hA, hB⟩ := X
  obtain ⟨y, Q, e2, f2, hC, hD⟩ := Y
  subst e1 e2
  have hv1 := f1.ok
  have hv2 := f2.ok
  have sx := f1.sp
  have sP := f1.sq
  have sy := f2.sp
  have sQ := f2.sq
  have hP0 := f1.pos
  have hQ0 := f2.pos
  have hg1 := fr_gcd f1
  have hg2 := fr_gcd f2
  obtain ⟨t, ht, hg⟩ : ∃ t : Int, x * Q + y * P = t * (Nat.gcd P.natAbs Q.natAbs : Int) ∧ Nat.gcd (x * Q + y * P).natAbs (P * Q).natAbs = Nat.gcd P.natAbs Q.natAbs * Nat.gcd t.natAbs (Nat.gcd P.natAbs Q.natAbs) := by
    obtain ⟨t, h1, _, h2⟩ := frac_common x y P.natAbs Q.natAbs _ (by omega) hg1 hg2 rfl
    have hp : (P.natAbs : Int) = P := by omega
    have hq : (Q.natAbs : Int) = Q := by omega
    rw [hp, hq] at h1 h2
    refine ⟨t, h1, ?_⟩
    rw [Int.natAbs_mul]
    exact h2
  have hM : P * Q ≠ 0 := Int.mul_ne_zero (by omega) (by omega)
  have sN : Sz (2 * k + 1) (x * Q + y * P) := ((sx.mul sQ).add (sy.mul sP)).mono (by omega)
  have sM : Sz (2 * k + 1) (P * Q) := (sP.mul sQ).mono (by omega)
  have fr := frv_to (red_fr sN sM (by omega) hM) hM (u' := u * b + a * v) (v' := v * b) (frv_add f1.eq f2.eq)
  exact (fadd_g w (decide (x < 0)) false (decide (y < 0)) false A B C D n m r s ca cb cc cd (digs x.natAbs) (digs P.natAbs) (digs y.natAbs) (digs Q.natAbs) hA hB hC hD _ _ _ _ _ fun W h1 h2 h3 h4 => join_g W 48 (decide (x < 0)) false (decide (y < 0)) false A B C D n m r s ca cb cc cd (digs x.natAbs) (digs P.natAbs) (digs y.natAbs) (digs Q.natAbs) h1 h2 h3 h4 _ _ _ _ _ fun W g0 ga gb qf qa qb i1 i2 i3 i4 => (attempt_ok W 81 #[] #[_, _, _] ((x * Q + y * P) / dvr (x * Q + y * P) (P * Q)) ((P * Q) / dvr (x * Q + y * P) (P * Q)) (hcf3 _ _ _) (joinf_ok (Wat W) g0 ga gb 48 (decide (x < 0)) false (decide (y < 0)) false A B C D n m r s ca cb cc cd _ _ _ _ (qf.via (wat_below W)) (qa.via (wat_below W)) (qb.via (wat_below W)) (i1.via (wat_below W)) (i2.via (wat_below W)) (i3.via (wat_below W)) (i4.via (wat_below W)) hv1 hv2 ((x * Q + y * P) / dvr (x * Q + y * P) (P * Q)) ((P * Q) / dvr (x * Q + y * P) (P * Q)) hcf2 fun W j1 j2 j3 j4 => plus_n W (decide (x < 0)) false (decide (y < 0)) false A B C D n m r s ca cb cc cd _ _ _ _ j1 j2 j3 j4 _ _ fun W j1 j2 j3 j4 => add_plus W A B C D n m r s ca cb cc cd k x y P Q j1 j2 j3 j4 sx sP sy sQ (by omega) rfl rfl hP0 hQ0 t ht hg)).mono fun e w' hr => rfe_rg hr).mono fun e w' hr => rfe_rfw fr hr
theorem sz2_i {i : Int} (h1 : -9223372036854775808 ≤ i) (h2 : i ≤ 9223372036854775807) : Sz 2 i := by unfold Sz; omega
theorem of_worth {a b : Int} (ha1 : -9223372036854775808 ≤ a) (ha2 : a ≤ 9223372036854775807) (hb1 : -9223372036854775808 ≤ b) (hb2 : b ≤ 9223372036854775807) (hb : b ≠ 0) : FrV 2 (a / dvr a b) (b / dvr a b) (if b < 0 then -a else a) (b.natAbs : Int) :=
  frv_to (red_fr (k := 2) (sz2_i ha1 ha2) (sz2_i hb1 hb2) (by omega) hb) hb (u' := if b < 0 then -a else a) (v' := (b.natAbs : Int)) (by
    split
    · have : (b.natAbs : Int) = -b := by omega
      rw [this, Int.mul_neg, Int.neg_mul]
    · have : (b.natAbs : Int) = b := by omega
      rw [this])
theorem rof_w (w : World) (a b : Int) (ha1 : -9223372036854775808 ≤ a) (ha2 : a ≤ 9223372036854775807) (hb1 : -9223372036854775808 ≤ b) (hb2 : b ≤ 9223372036854775807) (hb : b ≠ 0) :
    Calls Tryz.prog 43 #[.int .i64 a, .int .i64 b] w (RFw w 2 (if b < 0 then -a else a) (b.natAbs : Int)) := by
  refine (rof_g w a b ha1 ha2 hb1 hb2 (decide (a / dvr a b < 0)) (decide (b / dvr a b < 0)) (digs (a / dvr a b).natAbs) (digs (b / dvr a b).natAbs) 0 (fun W A B n m ca cb h1 h2 => ?_)).mono fun e w' h => rfe_rfw (of_worth ha1 ha2 hb1 hb2 hb) h
  refine rmake_ok W _ _ A B n m ca cb _ _ h1 h2 (chk_z (sz2_i ha1 ha2) (by omega)) (chk_z (sz2_i hb1 hb2) (by omega)) (fun e => hb (by have := digs_nil.1 e; omega)) _ _ (fun W h1 h2 => ?_)
  rcases Int.lt_or_lt_of_ne hb with hn | hp
  · exact rreduced_neg W A B n m ca cb 2 a b h1 h2 (sz2_i ha1 ha2) (sz2_i hb1 hb2) (by omega) rfl rfl hn
  · exact rreduced_pos W A B n m ca cb 2 a b h1 h2 (sz2_i ha1 ha2) (sz2_i hb1 hb2) (by omega) rfl rfl hp
theorem of_w (w : World) (a b : Int) (ha1 : -9223372036854775808 ≤ a) (ha2 : a ≤ 9223372036854775807) (hb1 : -9223372036854775808 ≤ b) (hb2 : b ≤ 9223372036854775807) (hb : b ≠ 0) :
    Calls Tryz.prog 19 #[.int .i64 a, .int .i64 b] w (RFw w 2 (if b < 0 then -a else a) (b.natAbs : Int)) := by
  have hcf : ∀ (v : Value) (W : World), (callFunc 33 (#[v] ++ #[])).run Tryz.prog W = .ok (.enter 33 (#[v] ++ #[])) W := fun v W => by go_simp
  refine (of_g w a b ha1 ha2 hb1 hb2 (decide (a / dvr a b < 0)) (decide (b / dvr a b < 0)) (digs (a / dvr a b).natAbs) (digs (b / dvr a b).natAbs) 0 (fun W A B n m ca cb h1 h2 => ?_)).mono fun e w' h => rfe_rfw (of_worth ha1 ha2 hb1 hb2 hb) h
  refine make_g W (decide (a < 0)) (decide (b < 0)) A B n m ca cb (digs a.natAbs) (digs b.natAbs) h1 h2 _ _ _ _ _ fun W h1 h2 => (attempt_ok W 33 #[_] #[] (a / dvr a b) (b / dvr a b) (hcf _) ?_).mono fun e w' hr => rfe_rg hr
  have i1 := h1.via (wat_below W)
  have i2 := h2.via (wat_below W)
  rcases Int.lt_or_lt_of_ne hb with hn | hp
  · exact reduced_neg (Wat W) A B n m ca cb 2 a b i1 i2 (sz2_i ha1 ha2) (sz2_i hb1 hb2) (by omega) rfl rfl hn
  · exact reduced_pos (Wat W) A B n m ca cb 2 a b i1 i2 (sz2_i ha1 ha2) (sz2_i hb1 hb2) (by omega) rfl rfl hp
end Go.Proofs.YtkendkbicafdgaaGreatDoor

/- Law 02: part, same, whole. -/
namespace Go.Proofs.YtkendkbicafdgaaGreatDoor
open Go.RowKit

/-- A call returns a fraction in lowest terms that is worth u / v. -/
def RFp (w : World) (k : Nat) (u v : Int) (e : Ending) (w' : World) : Prop := ∃ z A n c B m cb, e = .returned (fv z A n c false B m cb) ∧ Fw w' k u v z A n c B m cb ∧ Below w.heap.size w w'
/-- A call returns a bool. -/
def RBw (w : World) (b : Bool) (e : Ending) (w' : World) : Prop := e = .returned (.bool b) ∧ Below w.heap.size w w'
set_option maxRecDepth 100000 in
set_option maxHeartbeats 2000000 in
theorem lpart_w (w : World) (a b : Int) (ha1 : -9223372036854775808 ≤ a) (ha2 : a ≤ 9223372036854775807) (hb1 : -9223372036854775808 ≤ b) (hb2 : b ≤ 9223372036854775807) (hb : b ≠ 0) :
    Calls Tryz.prog 17 #[.int .i64 a, .int .i64 b] w (RFp w 2 (if b < 0 then -a else a) (b.natAbs : Int)) := by
  have QR := Lib.hid (Qd.new w w.heap.size rfl (.bool false) (.slice none 0 0) (.bool false) (.slice none 0 0) 26)
  have BW : Hid (Below w.heap.size w (w.alloc (.cells #[.bool false, .slice none 0 0, .bool false, .slice none 0 0] 26))) := below_alloc (Below.refl _ _) _
  have HO := Lib.hid (fun W => rof_w W a b ha1 ha2 hb1 hb2 hb)
  clear ha1 ha2 hb1 hb2 hb
  generalize (if b < 0 then -a else a) = u at *
  generalize (b.natAbs : Int) = v at *
  go_enter Tryz.func17, Tryz.ntmps17
  go_wp2_with fail
  generalize w.alloc (.cells #[.bool false, .slice none 0 0, .bool false, .slice none 0 0] 26) = W0 at *
  refine (HO.out _).mono ?_
  rintro e w1 ⟨z, A, n, c, B, m, cb, rfl, hX, hb⟩
  have X1 := Lib.hid (hX.alloc (.cells #[.bool z, .slice A n c, .bool false, .slice B m cb] 26))
  have Q1 := Lib.hid ((QR.out.via hb).alloc (.cells #[.bool z, .slice A n c, .bool false, .slice B m cb] 26))
  have B1 := Lib.hid (below_alloc (btr BW.out hb) (.cells #[.bool z, .slice A n c, .bool false, .slice B m cb] 26))
  have Y1 := Lib.hid (Qd.new w1 _ rfl (.bool z) (.slice A n c) (.bool false) (.slice B m cb) 26)
  clear hb hX QR BW
  go_upto_region 2 with (fail)
  generalize w1.alloc (.cells #[.bool z, .slice A n c, .bool false, .slice B m cb] 26) = W1 at *
  generalize w1.heap.size = g1 at *
  have ⟨x0, x1, x2, x3, _, _, _, _, xl⟩ := Y1.out
  have ⟨q0, q1, q2, q3, q4, q5, q6, q7, ql⟩ := Q1.out
  go_wp2
  exact post_f1 Tryz.results17 rfl rfl (Q1.out.set (.bool z) (.slice A n c) (.bool false) (.slice B m cb)) ⟨z, A, n, c, B, m, cb, rfl, X1.out.put4 Q1.out _ _ _ _, below_put4 B1.out (Nat.le_refl _) _ _ _ _⟩
set_option maxRecDepth 100000 in
set_option maxHeartbeats 2000000 in
theorem lsame_w (w : World) (k : Nat) (u v a b : Int) (z : Bool) (A B : Option Addr) (n m ca cb : Nat) (X : Fw w k u v z A n ca B m cb) (ha1 : -9223372036854775808 ≤ a) (ha2 : a ≤ 9223372036854775807) (hb1 : -9223372036854775808 ≤ b) (hb2 : b ≤ 9223372036854775807) (hb : b ≠ 0) (hv : v ≠ 0) (he : u * (b.natAbs : Int) = (if b < 0 then -a else a) * v) :
    Calls Tryz.prog 23 #[fv z A n ca false B m cb, .int .i64 0, .int .i64 a, .int .i64 b] w (RBw w true) := by
  have HO := Lib.hid (fun W => lpart_w W a b ha1 ha2 hb1 hb2 hb)
  have HV : Hid ((b.natAbs : Int) ≠ 0) := by show _ ≠ _; omega
  have HE := Lib.hid he
  have HV2 := Lib.hid hv
  clear ha1 ha2 hb1 hb2 hb he hv
  generalize (if b < 0 then -a else a) = s at *
  generalize (b.natAbs : Int) = t at *
  have QF := Lib.hid (Qd.new w w.heap.size rfl (.bool z) (.slice A n ca) (.bool false) (.slice B m cb) 26)
  have BW : Hid (Below w.heap.size w (w.alloc (.cells #[.bool z, .slice A n ca, .bool false, .slice B m cb] 26))) := below_alloc (Below.refl _ _) _
  have X1 := Lib.hid (X.via BW.out)
  clear X
  go_enter Tryz.func23, Tryz.ntmps23
  go_wp2
  generalize w.alloc (.cells #[.bool z, .slice A n ca, .bool false, .slice B m cb] 26) = W0 at *
  have HKS : Hid (∀ Y : World, Below W0.heap.size W0 Y → Y.cell? ⟨w.heap.size, 0, none⟩ = some (.bool z) ∧ Y.cell? ⟨w.heap.size, 1, none⟩ = some (.slice A n ca) ∧ Y.cell? ⟨w.heap.size, 2, none⟩ = some (.bool false) ∧ Y.cell? ⟨w.heap.size, 3, none⟩ = some (.slice B m cb)) := fun Y h => ⟨(QF.out.via h).c0, (QF.out.via h).c1, (QF.out.via h).c2, (QF.out.via h).c3⟩
  go_region_held3 (fun Y => Y.cell? ⟨w.heap.size, 0, none⟩ = some (.bool z) ∧ Y.cell? ⟨w.heap.size, 1, none⟩ = some (.slice A n ca) ∧ Y.cell? ⟨w.heap.size, 2, none⟩ = some (.bool false) ∧ Y.cell? ⟨w.heap.size, 3, none⟩ = some (.slice B m cb))
    (first | exact HKS.out _ (Below.refl _ _) | exact HKS.out _ (Below.refl _ _).drew | exact HKS.out _ E1 | exact HKS.out _ E0)
    (first
     | (have _t := E0; go_at_call 10; obtain ⟨p1, q1, d1, f1, i1, i2⟩ := X1.out.via E0; obtain ⟨p2, q2, d2, f2, j1, j2⟩ := hY; obtain ⟨rfl, rfl⟩ := frv_uniq f1 f2 HV2.out HV.out HE.out; subst d1 d2; refine (fsame_self _ _ _ _ _ _ _ _ _ _ _ _ _ _ _ _ _ i1 i2 j1 j2).mono ?_; rintro e w3 ⟨rfl, hb3⟩; have E1 : Below W0.heap.size W0 w3 := btr E0 hb3)
     | (go_at_call 17; refine (HO.out _).mono ?_; rintro e w2 ⟨z2, A2, n2, c2, B2, m2, d2, rfl, hY, hb2⟩; have E0 : Below W0.heap.size W0 w2 := (by first | exact (Below.refl _ _).drew.trans hb2 | exact hb2))
     | fail)
  all_goals
    go_wp2
    go_ret
    exact ⟨rfl, btr BW.out E1⟩
set_option maxRecDepth 100000 in
set_option maxHeartbeats 2000000 in
theorem lwhole_w (w : World) (A : Option Addr) (n c : Nat) (x : Int) (hA : Lm w w.heap.size A n c (digs x.natAbs)) (h1 : -9223372036854775808 ≤ x) (h2 : x ≤ 9223372036854775807) {na : Bool} (ha : decide (x < 0) = na) :
    Calls Tryz.prog 24 #[.agg #[.bool na, .slice A n c], .int .i64 0, .int .i64 x] w (RBw w true) := by
  have HO := Lib.hid (fun W => rfrom_any W x h1 h2)
  have HNa := Lib.hid ha
  clear ha h1 h2
  have QF := Lib.hid (Pr.new w w.heap.size rfl (.bool na) (.slice A n c) 24)
  have BW : Hid (Below w.heap.size w (w.alloc (.cells #[.bool na, .slice A n c] 24))) := below_alloc (Below.refl _ _) _
  have X1 := Lib.hid (hA.via BW.out)
  clear hA
  go_enter Tryz.func24, Tryz.ntmps24
  go_wp2
  generalize w.alloc (.cells #[.bool na, .slice A n c] 24) = W0 at *
  have HKS : Hid (∀ Y : World, Below W0.heap.size W0 Y → Y.cell? ⟨w.heap.size, 0, none⟩ = some (.bool na) ∧ Y.cell? ⟨w.heap.size, 1, none⟩ = some (.slice A n c)) := fun Y h => ⟨(QF.out.via h).c0, (QF.out.via h).c1⟩
  go_region_held3 (fun Y => Y.cell? ⟨w.heap.size, 0, none⟩ = some (.bool na) ∧ Y.cell? ⟨w.heap.size, 1, none⟩ = some (.slice A n c))
    (first | exact HKS.out _ (Below.refl _ _) | exact HKS.out _ (Below.refl _ _).drew | exact HKS.out _ E1 | exact HKS.out _ E0)
    (first
     | (have _t := E0; go_at_call 27; rw [HNa.out]; refine (rsame_self _ _ _ _ _ _ _ _ _ (X1.out.via E0) hY).mono ?_; rintro e w3 ⟨rfl, hb3⟩; have E1 : Below W0.heap.size W0 w3 := btr E0 hb3)
     | (go_at_call 14; refine (HO.out _).mono ?_; rintro e w2 ⟨A2, n2, c2, rfl, hY, hb2⟩; have E0 : Below W0.heap.size W0 w2 := (by first | exact (Below.refl _ _).drew.trans hb2 | exact hb2))
     | fail)
  all_goals
    go_wp2
    go_ret
    exact ⟨rfl, btr BW.out E1⟩
end Go.Proofs.YtkendkbicafdgaaGreatDoor

/- Law 02: long; Same of two fractions that are worth the same. -/
namespace Go.Proofs.YtkendkbicafdgaaGreatDoor
open Go.RowKit

theorem fsame_w {w : World} {k l : Nat} {u v a b : Int} {z1 z2 : Bool} {A B C D : Option Addr} {n m r s ca cb cc cd : Nat} (X : Fw w k u v z1 A n ca B m cb) (Y : Fw w l a b z2 C r cc D s cd) (hv : v ≠ 0) (hb : b ≠ 0) (e : u * b = a * v) :
    Calls Tryz.prog 10 #[fv z1 A n ca false B m cb, fv z2 C r cc false D s cd] w (RBw w true) := by
  obtain ⟨p1, q1, d1, f1, i1, i2⟩ := X
  obtain ⟨p2, q2, d2, f2, j1, j2⟩ := Y
  obtain ⟨rfl, rfl⟩ := frv_uniq f1 f2 hv hb e
  subst d1 d2
  exact fsame_self _ _ _ _ _ _ _ _ _ _ _ _ _ _ _ _ _ i1 i2 j1 j2
set_option maxRecDepth 100000 in
set_option maxHeartbeats 4000000 in
theorem few_any (w : World) (na da : Bool) (A B : Option Addr) (n m ca cb : Nat) :
    Calls Tryz.prog 7 #[fv na A n ca da B m cb] w fun e w' => e = .returned (.int .i64 ((max n m : Nat) : Int)) ∧ Below w.heap.size w w' := by
  have QF := Lib.hid (Qd.new w w.heap.size rfl (.bool na) (.slice A n ca) (.bool da) (.slice B m cb) 26)
  have BW : Hid (Below w.heap.size w (w.alloc (.cells #[.bool na, .slice A n ca, .bool da, .slice B m cb] 26))) := below_alloc (Below.refl _ _) _
  go_enter Tryz.func7, Tryz.ntmps7
  go_wp2_with fail
  generalize w.alloc (.cells #[.bool na, .slice A n ca, .bool da, .slice B m cb] 26) = W0 at *
  have ⟨f0, f1, f2, f3, f4, f5, f6, f7, f8⟩ := QF.out
  go_wp2
  all_goals
    go_ret
    refine ⟨?_, BW.out⟩
    have e : ((max n m : Nat) : Int) = max (n : Int) (m : Int) := by omega
    rw [e]
    first | rfl | (simp; omega) | (congr 2; omega)
end Go.Proofs.YtkendkbicafdgaaGreatDoor

/- Memory that is as it was but for one block. -/
namespace Go.Proofs.YtkendkbicafdgaaGreatDoor
open Go.RowKit

theorem pt4_eq (w : World) (g : Nat) (a b c d : Value) : (((w.setCell ⟨g, 0, none⟩ a).setCell ⟨g, 1, none⟩ b).setCell ⟨g, 2, none⟩ c).setCell ⟨g, 3, none⟩ d = put4 w g a b c d := rfl
/-- Below B all blocks but g are as they were. -/
structure Bex (B g : Nat) (w w' : World) : Prop where
  os : w'.os = w.os
  tape : w'.tape = w.tape
  output : w'.output = w.output
  size : w.heap.size ≤ w'.heap.size
  block : ∀ k, k < B → k ≠ g → w'.heap[k]? = w.heap[k]?
section
variable {B g : Nat} {a b w w' : World}
theorem Bex.of (h : Below B w w') : Bex B g w w' := ⟨h.os, h.tape, h.output, h.size, fun k hk _ => h.block k hk⟩
theorem Bex.trans {c : World} (h : Bex B g a b) (k : Bex B g b c) : Bex B g a c := ⟨k.os.trans h.os, k.tape.trans h.tape, k.output.trans h.output, Nat.le_trans h.size k.size, fun i hi hg => (k.block i hi hg).trans (h.block i hi hg)⟩
theorem Bex.mono {B' : Nat} (h : Bex B g w w') (hB : B' ≤ B) : Bex B' g w w' := ⟨h.os, h.tape, h.output, h.size, fun k hk hg => h.block k (Nat.lt_of_lt_of_le hk hB) hg⟩
theorem Bex.below (h : Bex B g w w') {B' : Nat} (hB : B' ≤ B) (hg : B' ≤ g) : Below B' w w' := ⟨h.os, h.tape, h.output, h.size, fun k hk => h.block k (Nat.lt_of_lt_of_le hk hB) (by omega)⟩
theorem Bex.set (h : Bex B g a w) (i : Nat) (v : Value) : Bex B g a (w.setCell ⟨g, i, none⟩ v) :=
  ⟨h.os, h.tape, h.output, by rw [World.size_setCell]; exact h.size, fun k hk hg => (Below.heap_setCell w ⟨g, i, none⟩ v k hg).trans (h.block k hk hg)⟩
theorem Bex.drew (h : Bex B g a w) : Bex B g a w.drew := ⟨h.os, h.tape, h.output, h.size, h.block⟩
theorem Bex.next {c : World} (h : Bex a.heap.size g a b) (k : Bex b.heap.size g b c) : Bex a.heap.size g a c := h.trans (k.mono h.size)
theorem Bex.nextB {c : World} (h : Bex a.heap.size g a b) (k : Below b.heap.size b c) : Bex a.heap.size g a c := h.trans (Bex.of (k.mono h.size))
theorem Bex.alloc (h : Bex a.heap.size g a w) (o : Obj) : Bex a.heap.size g a (w.alloc o) := h.nextB ((Below.refl _ _).alloc (Nat.le_refl _) o)
theorem Bex.cell (h : Bex B g w w') {p : Addr} (hp : p.block < B) (hg : p.block ≠ g) : w'.cell? p = w.cell? p := World.cell?_of_block (w := w) (h.block p.block hp hg)
theorem Bex.frozen (h : Bex B g w w') {p : Addr} (hp : p.block < B) (hg : p.block ≠ g) : w'.frozen? p = w.frozen? p := World.frozen?_of_block (w := w) (h.block p.block hp hg)
theorem Pr.bex {h : Nat} {x y : Value} (p : Pr w h x y) (hb : Bex w.heap.size g w w') (hne : h ≠ g) : Pr w' h x y :=
  ⟨(hb.cell (p := ⟨h, 0, none⟩) p.lt hne).trans p.c0, (hb.cell (p := ⟨h, 1, none⟩) p.lt hne).trans p.c1, (hb.frozen (p := ⟨h, 0, none⟩) p.lt hne).trans p.f0, (hb.frozen (p := ⟨h, 1, none⟩) p.lt hne).trans p.f1, Nat.lt_of_lt_of_le p.lt hb.size⟩
theorem Qd.bex {h : Nat} {x0 x1 x2 x3 : Value} (p : Qd w h x0 x1 x2 x3) (hb : Bex w.heap.size g w w') (hne : h ≠ g) : Qd w' h x0 x1 x2 x3 :=
  ⟨(hb.cell (p := ⟨h, 0, none⟩) p.lt hne).trans p.c0, (hb.cell (p := ⟨h, 1, none⟩) p.lt hne).trans p.c1, (hb.cell (p := ⟨h, 2, none⟩) p.lt hne).trans p.c2, (hb.cell (p := ⟨h, 3, none⟩) p.lt hne).trans p.c3,
    (hb.frozen (p := ⟨h, 0, none⟩) p.lt hne).trans p.f0, (hb.frozen (p := ⟨h, 1, none⟩) p.lt hne).trans p.f1, (hb.frozen (p := ⟨h, 2, none⟩) p.lt hne).trans p.f2, (hb.frozen (p := ⟨h, 3, none⟩) p.lt hne).trans p.f3, Nat.lt_of_lt_of_le p.lt hb.size⟩
end
/-- A box of a string. -/
structure Sb (w : World) (g : Nat) (l : List UInt8) : Prop where
  o : ∃ t, w.heap[g]? = some (.cells #[.string ⟨l.toArray⟩] t (0, 0))
section
variable {g : Nat} {w w' : World} {l : List UInt8}
theorem Sb.c0 (s : Sb w g l) : w.cell? ⟨g, 0, none⟩ = some (.string ⟨l.toArray⟩) := by
  obtain ⟨t, h⟩ := s.o
  unfold World.cell?
  simp [h]
theorem Sb.f0 (s : Sb w g l) : w.frozen? ⟨g, 0, none⟩ = false := by
  obtain ⟨t, h⟩ := s.o
  unfold World.frozen?
  simp [h]
theorem Sb.lt (s : Sb w g l) : g < w.heap.size := by
  obtain ⟨t, h⟩ := s.o
  rcases Nat.lt_or_ge g w.heap.size with h1 | h1
  · exact h1
  · rw [Array.getElem?_eq_none h1] at h
    cases h
theorem Sb.new (w : World) (k : Nat) (hk : w.heap.size = k) (l : List UInt8) (t : TypeId) : Sb (w.alloc (.cells #[.string ⟨l.toArray⟩] t)) k l := by
  subst hk
  exact ⟨t, by show (w.heap.push _)[w.heap.size]? = _; simp⟩
theorem Sb.via (s : Sb w g l) (hb : Below w.heap.size w w') : Sb w' g l := by
  obtain ⟨t, h⟩ := s.o
  exact ⟨t, (hb.block g s.lt).trans h⟩
theorem Sb.drew (s : Sb w g l) : Sb w.drew g l := ⟨s.o⟩
theorem Sb.set (s : Sb w g l) (t : List UInt8) : Sb (w.setCell ⟨g, 0, none⟩ (.string ⟨t.toArray⟩)) g t := by
  obtain ⟨T, h⟩ := s.o
  exact ⟨T, by simp [World.setCell, Array.getElem?_modify, h]⟩
theorem Sb.ne (s : Sb w g l) {h : Nat} {x0 x1 x2 x3 : Value} (p : Qd w h x0 x1 x2 x3) (hx : ∀ t, x0 ≠ .string t) : h ≠ g := fun e => by
  subst e
  have h1 := p.c0
  rw [s.c0] at h1
  exact hx _ (Option.some.inj h1).symm
theorem Lm.bex {n c : Nat} {A : Option Addr} {xs : List Nat} (h : Lm w w.heap.size A n c xs) (s : Sb w g l) (hb : Bex w.heap.size g w w') : Lm w' w'.heap.size A n c xs := by
  refine ⟨h.len, h.good, h.cap, h.max, h.nil_, fun hn => ?_⟩
  obtain ⟨b, off, e, hlt, hcs⟩ := h.at_ hn
  have hbs : b ≠ g := fun e3 => by
    subst e3
    obtain ⟨t, h1⟩ := s.o
    have h2 := hcs 0 hn
    unfold World.cell? at h2
    rw [h1] at h2
    cases off with
    | zero =>
      have h3 := Option.some.inj h2
      cases h3
    | succ k => cases h2
  exact ⟨b, off, e, Nat.lt_of_lt_of_le hlt hb.size, fun j hj => (hb.cell (p := ⟨b, off + j, none⟩) hlt hbs).trans (hcs j hj)⟩
theorem Sb.farS (s : Sb w g l) {h : Nat} (hne : g ≠ h) (i : Nat) (v : Value) : Sb (w.setCell ⟨h, i, none⟩ v) g l := by
  obtain ⟨t, h1⟩ := s.o
  exact ⟨t, (Below.heap_setCell w ⟨h, i, none⟩ v g hne).trans h1⟩
theorem Sb.put4 (s : Sb w g l) {h : Nat} (hne : g ≠ h) (a b c d : Value) : Sb (Proofs.YtkendkbicafdgaaGreatDoor.put4 w h a b c d) g l := (((s.farS hne 0 a).farS hne 1 b).farS hne 2 c).farS hne 3 d
theorem Bex.setN {a : World} {B : Nat} (h : Bex B g a w) {k : Nat} (hk : B ≤ k) (i : Nat) (v : Value) : Bex B g a (w.setCell ⟨k, i, none⟩ v) :=
  ⟨h.os, h.tape, h.output, by rw [World.size_setCell]; exact h.size, fun j hj hg => (Below.heap_setCell w ⟨k, i, none⟩ v j (by show j ≠ k; omega)).trans (h.block j hj hg)⟩
theorem Bex.put4 {a : World} {B : Nat} (h : Bex B g a w) {k : Nat} (hk : B ≤ k) (x y z t : Value) : Bex B g a (Proofs.YtkendkbicafdgaaGreatDoor.put4 w k x y z t) := (((h.setN hk 0 x).setN hk 1 y).setN hk 2 z).setN hk 3 t
end
section
variable {w w' : World} {g : Nat} {x0 x1 x2 x3 : Value}
/-- One half of a fraction's box written anew. -/
theorem Qd.lo (p : Qd w g x0 x1 x2 x3) (y0 y1 : Value) : Qd ((w.setCell ⟨g, 0, none⟩ y0).setCell ⟨g, 1, none⟩ y1) g y0 y1 x2 x3 := by
  have h0 := p.c0; have h1 := p.c1; have h2 := p.c2; have h3 := p.c3; have f0 := p.f0; have f1 := p.f1; have f2 := p.f2; have f3 := p.f3; have hl := p.lt
  exact ⟨by go_simp, by go_simp, by go_simp, by go_simp, by simpa using f0, by simpa using f1, by simpa using f2, by simpa using f3, by simpa [World.size_setCell] using hl⟩
theorem Qd.hi (p : Qd w g x0 x1 x2 x3) (y2 y3 : Value) : Qd ((w.setCell ⟨g, 2, none⟩ y2).setCell ⟨g, 3, none⟩ y3) g x0 x1 y2 y3 := by
  have h0 := p.c0; have h1 := p.c1; have h2 := p.c2; have h3 := p.c3; have f0 := p.f0; have f1 := p.f1; have f2 := p.f2; have f3 := p.f3; have hl := p.lt
  exact ⟨by go_simp, by go_simp, by go_simp, by go_simp, by simpa using f0, by simpa using f1, by simpa using f2, by simpa using f3, by simpa [World.size_setCell] using hl⟩
theorem Lm.setv {n c : Nat} {A : Option Addr} {xs : List Nat} (h : Lm w w.heap.size A n c xs) {i : Nat} {v0 : Value} (hc : w.cell? ⟨g, i, none⟩ = some v0) (hv : ∀ z, v0 ≠ .int .u32 z) (v : Value) : Lm (w.setCell ⟨g, i, none⟩ v) (w.setCell ⟨g, i, none⟩ v).heap.size A n c xs := by
  rw [World.size_setCell]
  refine ⟨h.len, h.good, h.cap, h.max, h.nil_, fun hn => ?_⟩
  obtain ⟨b, off, e, hb, hcs⟩ := h.at_ hn
  refine ⟨b, off, e, hb, fun j hj => ?_⟩
  have hcj := hcs j hj
  rw [World.cell?_setCell_other]
  · exact hcj
  · intro e2
    rw [← e2, hc] at hcj
    exact hv _ (Option.some.inj hcj)
theorem Lm.lo {n c : Nat} {A : Option Addr} {xs : List Nat} (h : Lm w w.heap.size A n c xs) {p q : Bool} {A0 A1 : Option Addr} {n0 c0 n1 c1 : Nat} (d : Qd w g (.bool p) (.slice A0 n0 c0) (.bool q) (.slice A1 n1 c1)) (y0 y1 : Value) : Lm ((w.setCell ⟨g, 0, none⟩ y0).setCell ⟨g, 1, none⟩ y1) ((w.setCell ⟨g, 0, none⟩ y0).setCell ⟨g, 1, none⟩ y1).heap.size A n c xs :=
  (h.setv d.c0 (fun _ e => by cases e) y0).setv (i := 1) ((World.cell?_setCell_other _ _ _ _ (by simp)).trans d.c1) (fun _ e => by cases e) y1
theorem Lm.hi {n c : Nat} {A : Option Addr} {xs : List Nat} (h : Lm w w.heap.size A n c xs) {p q : Bool} {A0 A1 : Option Addr} {n0 c0 n1 c1 : Nat} (d : Qd w g (.bool p) (.slice A0 n0 c0) (.bool q) (.slice A1 n1 c1)) (y0 y1 : Value) : Lm ((w.setCell ⟨g, 2, none⟩ y0).setCell ⟨g, 3, none⟩ y1) ((w.setCell ⟨g, 2, none⟩ y0).setCell ⟨g, 3, none⟩ y1).heap.size A n c xs :=
  (h.setv d.c2 (fun _ e => by cases e) y0).setv (i := 3) ((World.cell?_setCell_other _ _ _ _ (by simp)).trans d.c3) (fun _ e => by cases e) y1
end
end Go.Proofs.YtkendkbicafdgaaGreatDoor

