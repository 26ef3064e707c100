/- Lemmas, part 8. -/
import Derived.Deep.RegionLaw
import Derived.Laws.OwnMore
import Derived.Test.YtioccpbohhhkpaaGreatFR7
/- The reference of frac: product, added. -/
namespace Go.Proofs.YtioccpbohhhkpaaGreat
open Go.RowKit

section
variable (w : World) (A B : Option Addr) (n m ca cb k : Nat) (x y : Int) (hA : Lm w w.heap.size A n ca (digs x.natAbs)) (hB : Lm w w.heap.size B m cb (digs y.natAbs)) (hx : Sz k x) (hy : Sz k y) (hk : k ≤ 2000)
include hA hB hx hy hk
theorem rsub_n {na nb : Bool} (ha : decide (x < 0) = na) (hb : decide (y < 0) = nb) : Calls Tryz.prog 43 #[.agg #[.bool na, .slice A n ca], .agg #[.bool nb, .slice B m cb]] w (RN w (x - y)) := by
  subst ha hb
  have h := rsub_ok w _ _ A B n m ca cb _ _ hA hB (chkB_z hx (by omega) hy (by omega))
  rw [toI_self, toI_self] at h
  exact h.mono fun e w' hr => rz_rn (hx.sub hy) (by omega) hr
end

set_option maxRecDepth 100000 in
set_option maxHeartbeats 4000000 in
theorem rprod_pos (w : World) (A B C D : Option Addr) (n m r s ca cb cc cd k : Nat) (x u P v : Int) (hA : Lm w w.heap.size A n ca (digs x.natAbs)) (hsx : Sz k x) {na : Bool} (hna : decide (x < 0) = na) (hC : Lm w w.heap.size C r cc (digs u.natAbs)) (hsu : Sz k u) {nc : Bool} (hnc : decide (u < 0) = nc) (hB : Lm w w.heap.size B m cb (digs P.natAbs)) (hsP : Sz k P) {nb : Bool} (hnb : decide (P < 0) = nb) (hD : Lm w w.heap.size D s cd (digs v.natAbs)) (hsv : Sz k v) {nd : Bool} (hnd : decide (v < 0) = nd) (hk : k ≤ 300) (hs : 0 < P * v) :
    Calls Tryz.prog 26 #[.agg #[.bool na, .slice A n ca], .agg #[.bool nc, .slice C r cc], .agg #[.bool nb, .slice B m cb], .agg #[.bool nd, .slice D s cd]] w (RFE w (x * u / dvr (x * u) (P * v)) (P * v / dvr (x * u) (P * v))) := by
  have HA := Lib.hid hA
  have Sx := Lib.hid hsx
  have Hna := Lib.hid hna
  have HC := Lib.hid hC
  have Su := Lib.hid hsu
  have Hnc := Lib.hid hnc
  have HB := Lib.hid hB
  have SP := Lib.hid hsP
  have Hnb := Lib.hid hnb
  have HD := Lib.hid hD
  have Sv := Lib.hid hsv
  have Hnd := Lib.hid hnd
  clear hA hsx hna hC hsu hnc hB hsP hnb hD hsv hnd
  have HS := Lib.hid hs
  clear hs
  go_enter Tryz.func26, Tryz.ntmps26
  have PA := Lib.hid (((((Pr.new w (w.heap.size) rfl (.bool na) (.slice A n ca) 24).alloc (.cells #[.bool nc, .slice C r cc] 24)).alloc (.cells #[.bool nb, .slice B m cb] 24)).alloc (.cells #[.bool nd, .slice D s cd] 24)).alloc (.cells #[.bool false, .slice none 0 0, .bool false, .slice none 0 0] 26))
  have PC := Lib.hid ((((Pr.new (w.alloc (.cells #[.bool na, .slice A n ca] 24)) (w.heap.size + 1) (by simp) (.bool nc) (.slice C r cc) 24).alloc (.cells #[.bool nb, .slice B m cb] 24)).alloc (.cells #[.bool nd, .slice D s cd] 24)).alloc (.cells #[.bool false, .slice none 0 0, .bool false, .slice none 0 0] 26))
  have PB := Lib.hid (((Pr.new ((w.alloc (.cells #[.bool na, .slice A n ca] 24)).alloc (.cells #[.bool nc, .slice C r cc] 24)) (w.heap.size + 1 + 1) (by simp) (.bool nb) (.slice B m cb) 24).alloc (.cells #[.bool nd, .slice D s cd] 24)).alloc (.cells #[.bool false, .slice none 0 0, .bool false, .slice none 0 0] 26))
  have PD := Lib.hid ((Pr.new (((w.alloc (.cells #[.bool na, .slice A n ca] 24)).alloc (.cells #[.bool nc, .slice C r cc] 24)).alloc (.cells #[.bool nb, .slice B m cb] 24)) (w.heap.size + 1 + 1 + 1) (by simp) (.bool nd) (.slice D s cd) 24).alloc (.cells #[.bool false, .slice none 0 0, .bool false, .slice none 0 0] 26))
  have QR := Lib.hid (Qd.new ((((w.alloc (.cells #[.bool na, .slice A n ca] 24)).alloc (.cells #[.bool nc, .slice C r cc] 24)).alloc (.cells #[.bool nb, .slice B m cb] 24)).alloc (.cells #[.bool nd, .slice D s cd] 24)) (w.heap.size + 1 + 1 + 1 + 1) (by simp) (.bool false) (.slice none 0 0) (.bool false) (.slice none 0 0) 26)
  have LA := Lib.hid (((((HA.out.box (.cells #[.bool na, .slice A n ca] 24)).box (.cells #[.bool nc, .slice C r cc] 24)).box (.cells #[.bool nb, .slice B m cb] 24)).box (.cells #[.bool nd, .slice D s cd] 24)).box (.cells #[.bool false, .slice none 0 0, .bool false, .slice none 0 0] 26))
  have LC := Lib.hid (((((HC.out.box (.cells #[.bool na, .slice A n ca] 24)).box (.cells #[.bool nc, .slice C r cc] 24)).box (.cells #[.bool nb, .slice B m cb] 24)).box (.cells #[.bool nd, .slice D s cd] 24)).box (.cells #[.bool false, .slice none 0 0, .bool false, .slice none 0 0] 26))
  have LB := Lib.hid (((((HB.out.box (.cells #[.bool na, .slice A n ca] 24)).box (.cells #[.bool nc, .slice C r cc] 24)).box (.cells #[.bool nb, .slice B m cb] 24)).box (.cells #[.bool nd, .slice D s cd] 24)).box (.cells #[.bool false, .slice none 0 0, .bool false, .slice none 0 0] 26))
  have LD := Lib.hid (((((HD.out.box (.cells #[.bool na, .slice A n ca] 24)).box (.cells #[.bool nc, .slice C r cc] 24)).box (.cells #[.bool nb, .slice B m cb] 24)).box (.cells #[.bool nd, .slice D s cd] 24)).box (.cells #[.bool false, .slice none 0 0, .bool false, .slice none 0 0] 26))
  have BW : Hid (Below w.heap.size w (((((w.alloc (.cells #[.bool na, .slice A n ca] 24)).alloc (.cells #[.bool nc, .slice C r cc] 24)).alloc (.cells #[.bool nb, .slice B m cb] 24)).alloc (.cells #[.bool nd, .slice D s cd] 24)).alloc (.cells #[.bool false, .slice none 0 0, .bool false, .slice none 0 0] 26))) := (below_alloc (below_alloc (below_alloc (below_alloc (below_alloc (Below.refl _ _) _) _) _) _) _)
  clear HA HC HB HD
  go_wp2_with fail
  generalize ((((w.alloc (.cells #[.bool na, .slice A n ca] 24)).alloc (.cells #[.bool nc, .slice C r cc] 24)).alloc (.cells #[.bool nb, .slice B m cb] 24)).alloc (.cells #[.bool nd, .slice D s cd] 24)).alloc (.cells #[.bool false, .slice none 0 0, .bool false, .slice none 0 0] 26) = W0 at *
  refine (rmul_n _ A C n r ca cc k x u LA.out LC.out Sx.out Su.out (by omega) Hna.out Hnc.out).mono ?_
  rintro e w1 ⟨A1, n1, c1, rfl, hL1, hb⟩
  clear PA
  clear PC
  clear LA
  clear LC
  replace PB := Lib.hid (PB.out.via hb)
  replace PD := Lib.hid (PD.out.via hb)
  replace QR := Lib.hid (QR.out.via hb)
  replace LB := Lib.hid (LB.out.via hb)
  replace LD := Lib.hid (LD.out.via hb)
  replace BW := Lib.hid (btr BW.out hb)
  have L1 := Lib.hid hL1
  clear hb hL1
  obtain ⟨z1, hz1⟩ : ∃ b, decide (x * u < 0) = b := ⟨_, rfl⟩
  rw [hz1]
  have Hz1 := Lib.hid hz1
  clear hz1
  have ⟨rPB0, rPB1, rPB2, rPB3, rPBl⟩ := PB.out
  have ⟨rPD0, rPD1, rPD2, rPD3, rPDl⟩ := PD.out
  go_wp2_with fail
  clear rPB0 rPB1 rPB2 rPB3 rPBl rPD0 rPD1 rPD2 rPD3 rPDl
  replace PB := Lib.hid (PB.out.alloc (.cells #[.bool z1, .slice A1 n1 c1] 24))
  replace PD := Lib.hid (PD.out.alloc (.cells #[.bool z1, .slice A1 n1 c1] 24))
  replace QR := Lib.hid (QR.out.alloc (.cells #[.bool z1, .slice A1 n1 c1] 24))
  replace LB := Lib.hid (LB.out.box (.cells #[.bool z1, .slice A1 n1 c1] 24))
  replace LD := Lib.hid (LD.out.box (.cells #[.bool z1, .slice A1 n1 c1] 24))
  replace L1 := Lib.hid (L1.out.box (.cells #[.bool z1, .slice A1 n1 c1] 24))
  have M1 := Lib.hid (Pr.new w1 _ rfl (.bool z1) (.slice A1 n1 c1) 24)
  replace BW := Lib.hid (below_alloc BW.out (.cells #[.bool z1, .slice A1 n1 c1] 24))
  generalize w1.alloc (.cells #[.bool z1, .slice A1 n1 c1] 24) = W1 at *
  generalize w1.heap.size = g1 at *
  refine (rmul_n _ B D m s cb cd k P v LB.out LD.out SP.out Sv.out (by omega) Hnb.out Hnd.out).mono ?_
  rintro e w2 ⟨A2, n2, c2, rfl, hL2, hb⟩
  clear PB
  clear PD
  clear LB
  clear LD
  replace QR := Lib.hid (QR.out.via hb)
  replace L1 := Lib.hid (L1.out.via hb)
  replace M1 := Lib.hid (M1.out.via hb)
  replace BW := Lib.hid (btr BW.out hb)
  have L2 := Lib.hid hL2
  clear hb hL2
  obtain ⟨z2, hz2⟩ : ∃ b, decide (P * v < 0) = b := ⟨_, rfl⟩
  rw [hz2]
  have Hz2 := Lib.hid hz2
  clear hz2
  have ⟨rM10, rM11, rM12, rM13, rM1l⟩ := M1.out
  go_wp2_with fail
  clear rM10 rM11 rM12 rM13 rM1l
  replace QR := Lib.hid (QR.out.alloc (.cells #[.bool z2, .slice A2 n2 c2] 24))
  replace L1 := Lib.hid (L1.out.box (.cells #[.bool z2, .slice A2 n2 c2] 24))
  replace M1 := Lib.hid (M1.out.alloc (.cells #[.bool z2, .slice A2 n2 c2] 24))
  replace L2 := Lib.hid (L2.out.box (.cells #[.bool z2, .slice A2 n2 c2] 24))
  have M2 := Lib.hid (Pr.new w2 _ rfl (.bool z2) (.slice A2 n2 c2) 24)
  replace BW := Lib.hid (below_alloc BW.out (.cells #[.bool z2, .slice A2 n2 c2] 24))
  generalize w2.alloc (.cells #[.bool z2, .slice A2 n2 c2] 24) = W2 at *
  generalize w2.heap.size = g2 at *
  refine (rreduced_pos _ A1 A2 n1 n2 c1 c2 (k + k) (x * u) (P * v) L1.out L2.out (Sx.out.mul Su.out) (SP.out.mul Sv.out) (by omega) Hz1.out Hz2.out HS.out).mono ?_
  rintro e w3 ⟨A5, n5, c5, A6, n6, c6, rfl, hL5, hL6, hb⟩
  clear M1
  clear M2
  clear L1
  clear L2
  replace QR := Lib.hid (QR.out.via hb)
  replace BW := Lib.hid (btr BW.out hb)
  have L5 := Lib.hid hL5
  have L6 := Lib.hid hL6
  clear hb hL5 hL6
  obtain ⟨z5, hz5⟩ : ∃ b, decide (x * u / dvr (x * u) (P * v) < 0) = b := ⟨_, rfl⟩
  rw [hz5]
  have Hz5 := Lib.hid hz5
  clear hz5
  obtain ⟨z6, hz6⟩ : ∃ b, decide (P * v / dvr (x * u) (P * v) < 0) = b := ⟨_, rfl⟩
  rw [hz6]
  have Hz6 := Lib.hid hz6
  clear hz6
  have ⟨rQR0, rQR1, rQR2, rQR3, rQR4, rQR5, rQR6, rQR7, rQRl⟩ := QR.out
  go_wp2
  exact post_f Tryz.results26 rfl rfl (QR.out.set (.bool z5) (.slice A5 n5 c5) (.bool z6) (.slice A6 n6 c6)) ⟨A5, n5, c5, A6, n6, c6, by rw [Hz5.out, Hz6.out]; rfl, L5.out.put4 QR.out _ _ _ _, L6.out.put4 QR.out _ _ _ _, below_put4 BW.out (by omega) _ _ _ _⟩

set_option maxRecDepth 100000 in
set_option maxHeartbeats 4000000 in
theorem rprod_neg (w : World) (A B C D : Option Addr) (n m r s ca cb cc cd k : Nat) (x u P v : Int) (hA : Lm w w.heap.size A n ca (digs x.natAbs)) (hsx : Sz k x) {na : Bool} (hna : decide (x < 0) = na) (hC : Lm w w.heap.size C r cc (digs u.natAbs)) (hsu : Sz k u) {nc : Bool} (hnc : decide (u < 0) = nc) (hB : Lm w w.heap.size B m cb (digs P.natAbs)) (hsP : Sz k P) {nb : Bool} (hnb : decide (P < 0) = nb) (hD : Lm w w.heap.size D s cd (digs v.natAbs)) (hsv : Sz k v) {nd : Bool} (hnd : decide (v < 0) = nd) (hk : k ≤ 300) (hs : P * v < 0) :
    Calls Tryz.prog 26 #[.agg #[.bool na, .slice A n ca], .agg #[.bool nc, .slice C r cc], .agg #[.bool nb, .slice B m cb], .agg #[.bool nd, .slice D s cd]] w (RFE w (x * u / dvr (x * u) (P * v)) (P * v / dvr (x * u) (P * v))) := by
  have HA := Lib.hid hA
  have Sx := Lib.hid hsx
  have Hna := Lib.hid hna
  have HC := Lib.hid hC
  have Su := Lib.hid hsu
  have Hnc := Lib.hid hnc
  have HB := Lib.hid hB
  have SP := Lib.hid hsP
  have Hnb := Lib.hid hnb
  have HD := Lib.hid hD
  have Sv := Lib.hid hsv
  have Hnd := Lib.hid hnd
  clear hA hsx hna hC hsu hnc hB hsP hnb hD hsv hnd
  have HS := Lib.hid hs
  clear hs
  go_enter Tryz.func26, Tryz.ntmps26
  have PA := Lib.hid (((((Pr.new w (w.heap.size) rfl (.bool na) (.slice A n ca) 24).alloc (.cells #[.bool nc, .slice C r cc] 24)).alloc (.cells #[.bool nb, .slice B m cb] 24)).alloc (.cells #[.bool nd, .slice D s cd] 24)).alloc (.cells #[.bool false, .slice none 0 0, .bool false, .slice none 0 0] 26))
  have PC := Lib.hid ((((Pr.new (w.alloc (.cells #[.bool na, .slice A n ca] 24)) (w.heap.size + 1) (by simp) (.bool nc) (.slice C r cc) 24).alloc (.cells #[.bool nb, .slice B m cb] 24)).alloc (.cells #[.bool nd, .slice D s cd] 24)).alloc (.cells #[.bool false, .slice none 0 0, .bool false, .slice none 0 0] 26))
  have PB := Lib.hid (((Pr.new ((w.alloc (.cells #[.bool na, .slice A n ca] 24)).alloc (.cells #[.bool nc, .slice C r cc] 24)) (w.heap.size + 1 + 1) (by simp) (.bool nb) (.slice B m cb) 24).alloc (.cells #[.bool nd, .slice D s cd] 24)).alloc (.cells #[.bool false, .slice none 0 0, .bool false, .slice none 0 0] 26))
  have PD := Lib.hid ((Pr.new (((w.alloc (.cells #[.bool na, .slice A n ca] 24)).alloc (.cells #[.bool nc, .slice C r cc] 24)).alloc (.cells #[.bool nb, .slice B m cb] 24)) (w.heap.size + 1 + 1 + 1) (by simp) (.bool nd) (.slice D s cd) 24).alloc (.cells #[.bool false, .slice none 0 0, .bool false, .slice none 0 0] 26))
  have QR := Lib.hid (Qd.new ((((w.alloc (.cells #[.bool na, .slice A n ca] 24)).alloc (.cells #[.bool nc, .slice C r cc] 24)).alloc (.cells #[.bool nb, .slice B m cb] 24)).alloc (.cells #[.bool nd, .slice D s cd] 24)) (w.heap.size + 1 + 1 + 1 + 1) (by simp) (.bool false) (.slice none 0 0) (.bool false) (.slice none 0 0) 26)
  have LA := Lib.hid (((((HA.out.box (.cells #[.bool na, .slice A n ca] 24)).box (.cells #[.bool nc, .slice C r cc] 24)).box (.cells #[.bool nb, .slice B m cb] 24)).box (.cells #[.bool nd, .slice D s cd] 24)).box (.cells #[.bool false, .slice none 0 0, .bool false, .slice none 0 0] 26))
  have LC := Lib.hid (((((HC.out.box (.cells #[.bool na, .slice A n ca] 24)).box (.cells #[.bool nc, .slice C r cc] 24)).box (.cells #[.bool nb, .slice B m cb] 24)).box (.cells #[.bool nd, .slice D s cd] 24)).box (.cells #[.bool false, .slice none 0 0, .bool false, .slice none 0 0] 26))
  have LB := Lib.hid (((((HB.out.box (.cells #[.bool na, .slice A n ca] 24)).box (.cells #[.bool nc, .slice C r cc] 24)).box (.cells #[.bool nb, .slice B m cb] 24)).box (.cells #[.bool nd, .slice D s cd] 24)).box (.cells #[.bool false, .slice none 0 0, .bool false, .slice none 0 0] 26))
  have LD := Lib.hid (((((HD.out.box (.cells #[.bool na, .slice A n ca] 24)).box (.cells #[.bool nc, .slice C r cc] 24)).box (.cells #[.bool nb, .slice B m cb] 24)).box (.cells #[.bool nd, .slice D s cd] 24)).box (.cells #[.bool false, .slice none 0 0, .bool false, .slice none 0 0] 26))
  have BW : Hid (Below w.heap.size w (((((w.alloc (.cells #[.bool na, .slice A n ca] 24)).alloc (.cells #[.bool nc, .slice C r cc] 24)).alloc (.cells #[.bool nb, .slice B m cb] 24)).alloc (.cells #[.bool nd, .slice D s cd] 24)).alloc (.cells #[.bool false, .slice none 0 0, .bool false, .slice none 0 0] 26))) := (below_alloc (below_alloc (below_alloc (below_alloc (below_alloc (Below.refl _ _) _) _) _) _) _)
  clear HA HC HB HD
  go_wp2_with fail
  generalize ((((w.alloc (.cells #[.bool na, .slice A n ca] 24)).alloc (.cells #[.bool nc, .slice C r cc] 24)).alloc (.cells #[.bool nb, .slice B m cb] 24)).alloc (.cells #[.bool nd, .slice D s cd] 24)).alloc (.cells #[.bool false, .slice none 0 0, .bool false, .slice none 0 0] 26) = W0 at *
  refine (rmul_n _ A C n r ca cc k x u LA.out LC.out Sx.out Su.out (by omega) Hna.out Hnc.out).mono ?_
  rintro e w1 ⟨A1, n1, c1, rfl, hL1, hb⟩
  clear PA
  clear PC
  clear LA
  clear LC
  replace PB := Lib.hid (PB.out.via hb)
  replace PD := Lib.hid (PD.out.via hb)
  replace QR := Lib.hid (QR.out.via hb)
  replace LB := Lib.hid (LB.out.via hb)
  replace LD := Lib.hid (LD.out.via hb)
  replace BW := Lib.hid (btr BW.out hb)
  have L1 := Lib.hid hL1
  clear hb hL1
  obtain ⟨z1, hz1⟩ : ∃ b, decide (x * u < 0) = b := ⟨_, rfl⟩
  rw [hz1]
  have Hz1 := Lib.hid hz1
  clear hz1
  have ⟨rPB0, rPB1, rPB2, rPB3, rPBl⟩ := PB.out
  have ⟨rPD0, rPD1, rPD2, rPD3, rPDl⟩ := PD.out
  go_wp2_with fail
  clear rPB0 rPB1 rPB2 rPB3 rPBl rPD0 rPD1 rPD2 rPD3 rPDl
  replace PB := Lib.hid (PB.out.alloc (.cells #[.bool z1, .slice A1 n1 c1] 24))
  replace PD := Lib.hid (PD.out.alloc (.cells #[.bool z1, .slice A1 n1 c1] 24))
  replace QR := Lib.hid (QR.out.alloc (.cells #[.bool z1, .slice A1 n1 c1] 24))
  replace LB := Lib.hid (LB.out.box (.cells #[.bool z1, .slice A1 n1 c1] 24))
  replace LD := Lib.hid (LD.out.box (.cells #[.bool z1, .slice A1 n1 c1] 24))
  replace L1 := Lib.hid (L1.out.box (.cells #[.bool z1, .slice A1 n1 c1] 24))
  have M1 := Lib.hid (Pr.new w1 _ rfl (.bool z1) (.slice A1 n1 c1) 24)
  replace BW := Lib.hid (below_alloc BW.out (.cells #[.bool z1, .slice A1 n1 c1] 24))
  generalize w1.alloc (.cells #[.bool z1, .slice A1 n1 c1] 24) = W1 at *
  generalize w1.heap.size = g1 at *
  refine (rmul_n _ B D m s cb cd k P v LB.out LD.out SP.out Sv.out (by omega) Hnb.out Hnd.out).mono ?_
  rintro e w2 ⟨A2, n2, c2, rfl, hL2, hb⟩
  clear PB
  clear PD
  clear LB
  clear LD
  replace QR := Lib.hid (QR.out.via hb)
  replace L1 := Lib.hid (L1.out.via hb)
  replace M1 := Lib.hid (M1.out.via hb)
  replace BW := Lib.hid (btr BW.out hb)
  have L2 := Lib.hid hL2
  clear hb hL2
  obtain ⟨z2, hz2⟩ : ∃ b, decide (P * v < 0) = b := ⟨_, rfl⟩
  rw [hz2]
  have Hz2 := Lib.hid hz2
  clear hz2
  have ⟨rM10, rM11, rM12, rM13, rM1l⟩ := M1.out
  go_wp2_with fail
  clear rM10 rM11 rM12 rM13 rM1l
  replace QR := Lib.hid (QR.out.alloc (.cells #[.bool z2, .slice A2 n2 c2] 24))
  replace L1 := Lib.hid (L1.out.box (.cells #[.bool z2, .slice A2 n2 c2] 24))
  replace M1 := Lib.hid (M1.out.alloc (.cells #[.bool z2, .slice A2 n2 c2] 24))
  replace L2 := Lib.hid (L2.out.box (.cells #[.bool z2, .slice A2 n2 c2] 24))
  have M2 := Lib.hid (Pr.new w2 _ rfl (.bool z2) (.slice A2 n2 c2) 24)
  replace BW := Lib.hid (below_alloc BW.out (.cells #[.bool z2, .slice A2 n2 c2] 24))
  generalize w2.alloc (.cells #[.bool z2, .slice A2 n2 c2] 24) = W2 at *
  generalize w2.heap.size = g2 at *
  refine (rreduced_neg _ A1 A2 n1 n2 c1 c2 (k + k) (x * u) (P * v) L1.out L2.out (Sx.out.mul Su.out) (SP.out.mul Sv.out) (by omega) Hz1.out Hz2.out HS.out).mono ?_
  rintro e w3 ⟨A5, n5, c5, A6, n6, c6, rfl, hL5, hL6, hb⟩
  clear M1
  clear M2
  clear L1
  clear L2
  replace QR := Lib.hid (QR.out.via hb)
  replace BW := Lib.hid (btr BW.out hb)
  have L5 := Lib.hid hL5
  have L6 := Lib.hid hL6
  clear hb hL5 hL6
  obtain ⟨z5, hz5⟩ : ∃ b, decide (x * u / dvr (x * u) (P * v) < 0) = b := ⟨_, rfl⟩
  rw [hz5]
  have Hz5 := Lib.hid hz5
  clear hz5
  obtain ⟨z6, hz6⟩ : ∃ b, decide (P * v / dvr (x * u) (P * v) < 0) = b := ⟨_, rfl⟩
  rw [hz6]
  have Hz6 := Lib.hid hz6
  clear hz6
  have ⟨rQR0, rQR1, rQR2, rQR3, rQR4, rQR5, rQR6, rQR7, rQRl⟩ := QR.out
  go_wp2
  exact post_f Tryz.results26 rfl rfl (QR.out.set (.bool z5) (.slice A5 n5 c5) (.bool z6) (.slice A6 n6 c6)) ⟨A5, n5, c5, A6, n6, c6, by rw [Hz5.out, Hz6.out]; rfl, L5.out.put4 QR.out _ _ _ _, L6.out.put4 QR.out _ _ _ _, below_put4 BW.out (by omega) _ _ _ _⟩

set_option maxRecDepth 100000 in
set_option maxHeartbeats 4000000 in
theorem radded_add (w : World) (A B C D : Option Addr) (n m r s ca cb cc cd k : Nat) (x u P v : Int) (hA : Lm w w.heap.size A n ca (digs x.natAbs)) (hsx : Sz k x) {na : Bool} (hna : decide (x < 0) = na) (hC : Lm w w.heap.size C r cc (digs u.natAbs)) (hsu : Sz k u) {nc : Bool} (hnc : decide (u < 0) = nc) (hB : Lm w w.heap.size B m cb (digs P.natAbs)) (hsP : Sz k P) {nb : Bool} (hnb : decide (P < 0) = nb) (hD : Lm w w.heap.size D s cd (digs v.natAbs)) (hsv : Sz k v) {nd : Bool} (hnd : decide (v < 0) = nd) (hk : k ≤ 300) (hP0 : 0 < P) (hv0 : 0 < v) :
    Calls Tryz.prog 23 #[fv na A n ca nb B m cb, fv nc C r cc nd D s cd, .bool false] w (RFE w ((x * v + u * P) / dvr (x * v + u * P) (P * v)) (P * v / dvr (x * v + u * P) (P * v))) := by
  have HA := Lib.hid hA
  have Sx := Lib.hid hsx
  have Hna := Lib.hid hna
  have HC := Lib.hid hC
  have Su := Lib.hid hsu
  have Hnc := Lib.hid hnc
  have HB := Lib.hid hB
  have SP := Lib.hid hsP
  have Hnb := Lib.hid hnb
  have HD := Lib.hid hD
  have Sv := Lib.hid hsv
  have Hnd := Lib.hid hnd
  clear hA hsx hna hC hsu hnc hB hsP hnb hD hsv hnd
  have HS : Hid (0 < P * v) := Int.mul_pos hP0 hv0
  clear hP0 hv0
  go_enter Tryz.func23, Tryz.ntmps23
  have QA := Lib.hid (((Qd.new w (w.heap.size) rfl (.bool na) (.slice A n ca) (.bool nb) (.slice B m cb) 26).alloc (.cells #[.bool nc, .slice C r cc, .bool nd, .slice D s cd] 26)).alloc (.cells #[.bool false, .slice none 0 0, .bool false, .slice none 0 0] 26))
  have QB := Lib.hid ((Qd.new (w.alloc (.cells #[.bool na, .slice A n ca, .bool nb, .slice B m cb] 26)) (w.heap.size + 1) (by simp) (.bool nc) (.slice C r cc) (.bool nd) (.slice D s cd) 26).alloc (.cells #[.bool false, .slice none 0 0, .bool false, .slice none 0 0] 26))
  have QR := Lib.hid (Qd.new ((w.alloc (.cells #[.bool na, .slice A n ca, .bool nb, .slice B m cb] 26)).alloc (.cells #[.bool nc, .slice C r cc, .bool nd, .slice D s cd] 26)) (w.heap.size + 1 + 1) (by simp) (.bool false) (.slice none 0 0) (.bool false) (.slice none 0 0) 26)
  have LA := Lib.hid (((HA.out.box (.cells #[.bool na, .slice A n ca, .bool nb, .slice B m cb] 26)).box (.cells #[.bool nc, .slice C r cc, .bool nd, .slice D s cd] 26)).box (.cells #[.bool false, .slice none 0 0, .bool false, .slice none 0 0] 26))
  have LC := Lib.hid (((HC.out.box (.cells #[.bool na, .slice A n ca, .bool nb, .slice B m cb] 26)).box (.cells #[.bool nc, .slice C r cc, .bool nd, .slice D s cd] 26)).box (.cells #[.bool false, .slice none 0 0, .bool false, .slice none 0 0] 26))
  have LB := Lib.hid (((HB.out.box (.cells #[.bool na, .slice A n ca, .bool nb, .slice B m cb] 26)).box (.cells #[.bool nc, .slice C r cc, .bool nd, .slice D s cd] 26)).box (.cells #[.bool false, .slice none 0 0, .bool false, .slice none 0 0] 26))
  have LD := Lib.hid (((HD.out.box (.cells #[.bool na, .slice A n ca, .bool nb, .slice B m cb] 26)).box (.cells #[.bool nc, .slice C r cc, .bool nd, .slice D s cd] 26)).box (.cells #[.bool false, .slice none 0 0, .bool false, .slice none 0 0] 26))
  have BW : Hid (Below w.heap.size w (((w.alloc (.cells #[.bool na, .slice A n ca, .bool nb, .slice B m cb] 26)).alloc (.cells #[.bool nc, .slice C r cc, .bool nd, .slice D s cd] 26)).alloc (.cells #[.bool false, .slice none 0 0, .bool false, .slice none 0 0] 26))) := (below_alloc (below_alloc (below_alloc (Below.refl _ _) _) _) _)
  clear HA HC HB HD
  go_wp2_with fail
  generalize ((w.alloc (.cells #[.bool na, .slice A n ca, .bool nb, .slice B m cb] 26)).alloc (.cells #[.bool nc, .slice C r cc, .bool nd, .slice D s cd] 26)).alloc (.cells #[.bool false, .slice none 0 0, .bool false, .slice none 0 0] 26) = W0 at *
  refine (rmul_n _ A D n s ca cd k x v LA.out LD.out Sx.out Sv.out (by omega) Hna.out Hnd.out).mono ?_
  rintro e w1 ⟨A1, n1, c1, rfl, hL1, hb⟩
  clear LA
  replace QA := Lib.hid (QA.out.via hb)
  replace QB := Lib.hid (QB.out.via hb)
  replace QR := Lib.hid (QR.out.via hb)
  replace LC := Lib.hid (LC.out.via hb)
  replace LB := Lib.hid (LB.out.via hb)
  replace LD := Lib.hid (LD.out.via hb)
  replace BW := Lib.hid (btr BW.out hb)
  have L1 := Lib.hid hL1
  clear hb hL1
  obtain ⟨z1, hz1⟩ : ∃ b, decide (x * v < 0) = b := ⟨_, rfl⟩
  rw [hz1]
  have Hz1 := Lib.hid hz1
  clear hz1
  have ⟨rQA0, rQA1, rQA2, rQA3, rQA4, rQA5, rQA6, rQA7, rQAl⟩ := QA.out
  have ⟨rQB0, rQB1, rQB2, rQB3, rQB4, rQB5, rQB6, rQB7, rQBl⟩ := QB.out
  go_wp2_with fail
  clear rQA0 rQA1 rQA2 rQA3 rQA4 rQA5 rQA6 rQA7 rQAl rQB0 rQB1 rQB2 rQB3 rQB4 rQB5 rQB6 rQB7 rQBl
  replace QA := Lib.hid (QA.out.alloc (.cells #[.bool z1, .slice A1 n1 c1] 24))
  replace QB := Lib.hid (QB.out.alloc (.cells #[.bool z1, .slice A1 n1 c1] 24))
  replace QR := Lib.hid (QR.out.alloc (.cells #[.bool z1, .slice A1 n1 c1] 24))
  replace LC := Lib.hid (LC.out.box (.cells #[.bool z1, .slice A1 n1 c1] 24))
  replace LB := Lib.hid (LB.out.box (.cells #[.bool z1, .slice A1 n1 c1] 24))
  replace LD := Lib.hid (LD.out.box (.cells #[.bool z1, .slice A1 n1 c1] 24))
  replace L1 := Lib.hid (L1.out.box (.cells #[.bool z1, .slice A1 n1 c1] 24))
  have M1 := Lib.hid (Pr.new w1 _ rfl (.bool z1) (.slice A1 n1 c1) 24)
  replace BW := Lib.hid (below_alloc BW.out (.cells #[.bool z1, .slice A1 n1 c1] 24))
  generalize w1.alloc (.cells #[.bool z1, .slice A1 n1 c1] 24) = W1 at *
  generalize w1.heap.size = g1 at *
  refine (rmul_n _ C B r m cc cb k u P LC.out LB.out Su.out SP.out (by omega) Hnc.out Hnb.out).mono ?_
  rintro e w2 ⟨A2, n2, c2, rfl, hL2, hb⟩
  clear LC
  replace QA := Lib.hid (QA.out.via hb)
  replace QB := Lib.hid (QB.out.via hb)
  replace QR := Lib.hid (QR.out.via hb)
  replace LB := Lib.hid (LB.out.via hb)
  replace LD := Lib.hid (LD.out.via hb)
  replace L1 := Lib.hid (L1.out.via hb)
  replace M1 := Lib.hid (M1.out.via hb)
  replace BW := Lib.hid (btr BW.out hb)
  have L2 := Lib.hid hL2
  clear hb hL2
  obtain ⟨z2, hz2⟩ : ∃ b, decide (u * P < 0) = b := ⟨_, rfl⟩
  rw [hz2]
  have Hz2 := Lib.hid hz2
  clear hz2
  have ⟨rQA0, rQA1, rQA2, rQA3, rQA4, rQA5, rQA6, rQA7, rQAl⟩ := QA.out
  have ⟨rQB0, rQB1, rQB2, rQB3, rQB4, rQB5, rQB6, rQB7, rQBl⟩ := QB.out
  go_wp2_with fail
  clear rQA0 rQA1 rQA2 rQA3 rQA4 rQA5 rQA6 rQA7 rQAl rQB0 rQB1 rQB2 rQB3 rQB4 rQB5 rQB6 rQB7 rQBl
  replace QA := Lib.hid (QA.out.alloc (.cells #[.bool z2, .slice A2 n2 c2] 24))
  replace QB := Lib.hid (QB.out.alloc (.cells #[.bool z2, .slice A2 n2 c2] 24))
  replace QR := Lib.hid (QR.out.alloc (.cells #[.bool z2, .slice A2 n2 c2] 24))
  replace LB := Lib.hid (LB.out.box (.cells #[.bool z2, .slice A2 n2 c2] 24))
  replace LD := Lib.hid (LD.out.box (.cells #[.bool z2, .slice A2 n2 c2] 24))
  replace L1 := Lib.hid (L1.out.box (.cells #[.bool z2, .slice A2 n2 c2] 24))
  replace M1 := Lib.hid (M1.out.alloc (.cells #[.bool z2, .slice A2 n2 c2] 24))
  replace L2 := Lib.hid (L2.out.box (.cells #[.bool z2, .slice A2 n2 c2] 24))
  have M2 := Lib.hid (Pr.new w2 _ rfl (.bool z2) (.slice A2 n2 c2) 24)
  replace BW := Lib.hid (below_alloc BW.out (.cells #[.bool z2, .slice A2 n2 c2] 24))
  generalize w2.alloc (.cells #[.bool z2, .slice A2 n2 c2] 24) = W2 at *
  generalize w2.heap.size = g2 at *
  refine (rmul_n _ B D m s cb cd k P v LB.out LD.out SP.out Sv.out (by omega) Hnb.out Hnd.out).mono ?_
  rintro e w3 ⟨A3, n3, c3, rfl, hL3, hb⟩
  clear LB
  clear LD
  clear QA
  clear QB
  replace QR := Lib.hid (QR.out.via hb)
  replace L1 := Lib.hid (L1.out.via hb)
  replace M1 := Lib.hid (M1.out.via hb)
  replace L2 := Lib.hid (L2.out.via hb)
  replace M2 := Lib.hid (M2.out.via hb)
  replace BW := Lib.hid (btr BW.out hb)
  have L3 := Lib.hid hL3
  clear hb hL3
  obtain ⟨z3, hz3⟩ : ∃ b, decide (P * v < 0) = b := ⟨_, rfl⟩
  rw [hz3]
  have Hz3 := Lib.hid hz3
  clear hz3
  have ⟨rM10, rM11, rM12, rM13, rM1l⟩ := M1.out
  have ⟨rM20, rM21, rM22, rM23, rM2l⟩ := M2.out
  go_wp2_with fail
  clear rM10 rM11 rM12 rM13 rM1l rM20 rM21 rM22 rM23 rM2l
  replace QR := Lib.hid (QR.out.alloc (.cells #[.bool z3, .slice A3 n3 c3] 24))
  replace L1 := Lib.hid (L1.out.box (.cells #[.bool z3, .slice A3 n3 c3] 24))
  replace M1 := Lib.hid (M1.out.alloc (.cells #[.bool z3, .slice A3 n3 c3] 24))
  replace L2 := Lib.hid (L2.out.box (.cells #[.bool z3, .slice A3 n3 c3] 24))
  replace M2 := Lib.hid (M2.out.alloc (.cells #[.bool z3, .slice A3 n3 c3] 24))
  replace L3 := Lib.hid (L3.out.box (.cells #[.bool z3, .slice A3 n3 c3] 24))
  have M3 := Lib.hid (Pr.new w3 _ rfl (.bool z3) (.slice A3 n3 c3) 24)
  replace BW := Lib.hid (below_alloc BW.out (.cells #[.bool z3, .slice A3 n3 c3] 24))
  generalize w3.alloc (.cells #[.bool z3, .slice A3 n3 c3] 24) = W3 at *
  generalize w3.heap.size = g3 at *
  refine (radd_n _ A1 A2 n1 n2 c1 c2 (k + k) (x * v) (u * P) L1.out L2.out (Sx.out.mul Sv.out) (Su.out.mul SP.out) (by omega) Hz1.out Hz2.out).mono ?_
  rintro e w4 ⟨A4, n4, c4, rfl, hL4, hb⟩
  clear L1
  clear L2
  clear M1
  clear M2
  replace QR := Lib.hid (QR.out.via hb)
  replace L3 := Lib.hid (L3.out.via hb)
  replace M3 := Lib.hid (M3.out.via hb)
  replace BW := Lib.hid (btr BW.out hb)
  have L4 := Lib.hid hL4
  clear hb hL4
  obtain ⟨z4, hz4⟩ : ∃ b, decide (x * v + u * P < 0) = b := ⟨_, rfl⟩
  rw [hz4]
  have Hz4 := Lib.hid hz4
  clear hz4
  have ⟨rM30, rM31, rM32, rM33, rM3l⟩ := M3.out
  go_wp2_with fail
  clear rM30 rM31 rM32 rM33 rM3l
  replace QR := Lib.hid (QR.out.alloc (.cells #[.bool z4, .slice A4 n4 c4] 24))
  replace L3 := Lib.hid (L3.out.box (.cells #[.bool z4, .slice A4 n4 c4] 24))
  replace M3 := Lib.hid (M3.out.alloc (.cells #[.bool z4, .slice A4 n4 c4] 24))
  replace L4 := Lib.hid (L4.out.box (.cells #[.bool z4, .slice A4 n4 c4] 24))
  have M4 := Lib.hid (Pr.new w4 _ rfl (.bool z4) (.slice A4 n4 c4) 24)
  replace BW := Lib.hid (below_alloc BW.out (.cells #[.bool z4, .slice A4 n4 c4] 24))
  generalize w4.alloc (.cells #[.bool z4, .slice A4 n4 c4] 24) = W4 at *
  generalize w4.heap.size = g4 at *
  refine (rreduced_pos _ A4 A3 n4 n3 c4 c3 (k + k + 1) (x * v + u * P) (P * v) L4.out L3.out ((Sx.out.mul Sv.out).add (Su.out.mul SP.out)) ((SP.out.mul Sv.out).mono (by omega)) (by omega) Hz4.out Hz3.out HS.out).mono ?_
  rintro e w5 ⟨A5, n5, c5, A6, n6, c6, rfl, hL5, hL6, hb⟩
  clear L4
  clear L3
  clear M3
  clear M4
  replace QR := Lib.hid (QR.out.via hb)
  replace BW := Lib.hid (btr BW.out hb)
  have L5 := Lib.hid hL5
  have L6 := Lib.hid hL6
  clear hb hL5 hL6
  obtain ⟨z5, hz5⟩ : ∃ b, decide ((x * v + u * P) / dvr (x * v + u * P) (P * v) < 0) = b := ⟨_, rfl⟩
  rw [hz5]
  have Hz5 := Lib.hid hz5
  clear hz5
  obtain ⟨z6, hz6⟩ : ∃ b, decide (P * v / dvr (x * v + u * P) (P * v) < 0) = b := ⟨_, rfl⟩
  rw [hz6]
  have Hz6 := Lib.hid hz6
  clear hz6
  have ⟨rQR0, rQR1, rQR2, rQR3, rQR4, rQR5, rQR6, rQR7, rQRl⟩ := QR.out
  go_wp2
  exact post_f Tryz.results23 rfl rfl (QR.out.set (.bool z5) (.slice A5 n5 c5) (.bool z6) (.slice A6 n6 c6)) ⟨A5, n5, c5, A6, n6, c6, by rw [Hz5.out, Hz6.out]; rfl, L5.out.put4 QR.out _ _ _ _, L6.out.put4 QR.out _ _ _ _, below_put4 BW.out (by omega) _ _ _ _⟩

set_option maxRecDepth 100000 in
set_option maxHeartbeats 4000000 in
theorem radded_sub (w : World) (A B C D : Option Addr) (n m r s ca cb cc cd k : Nat) (x u P v : Int) (hA : Lm w w.heap.size A n ca (digs x.natAbs)) (hsx : Sz k x) {na : Bool} (hna : decide (x < 0) = na) (hC : Lm w w.heap.size C r cc (digs u.natAbs)) (hsu : Sz k u) {nc : Bool} (hnc : decide (u < 0) = nc) (hB : Lm w w.heap.size B m cb (digs P.natAbs)) (hsP : Sz k P) {nb : Bool} (hnb : decide (P < 0) = nb) (hD : Lm w w.heap.size D s cd (digs v.natAbs)) (hsv : Sz k v) {nd : Bool} (hnd : decide (v < 0) = nd) (hk : k ≤ 300) (hP0 : 0 < P) (hv0 : 0 < v) :
    Calls Tryz.prog 23 #[fv na A n ca nb B m cb, fv nc C r cc nd D s cd, .bool true] w (RFE w ((x * v - u * P) / dvr (x * v - u * P) (P * v)) (P * v / dvr (x * v - u * P) (P * v))) := by
  have HA := Lib.hid hA
  have Sx := Lib.hid hsx
  have Hna := Lib.hid hna
  have HC := Lib.hid hC
  have Su := Lib.hid hsu
  have Hnc := Lib.hid hnc
  have HB := Lib.hid hB
  have SP := Lib.hid hsP
  have Hnb := Lib.hid hnb
  have HD := Lib.hid hD
  have Sv := Lib.hid hsv
  have Hnd := Lib.hid hnd
  clear hA hsx hna hC hsu hnc hB hsP hnb hD hsv hnd
  have HS : Hid (0 < P * v) := Int.mul_pos hP0 hv0
  clear hP0 hv0
  go_enter Tryz.func23, Tryz.ntmps23
  have QA := Lib.hid (((Qd.new w (w.heap.size) rfl (.bool na) (.slice A n ca) (.bool nb) (.slice B m cb) 26).alloc (.cells #[.bool nc, .slice C r cc, .bool nd, .slice D s cd] 26)).alloc (.cells #[.bool false, .slice none 0 0, .bool false, .slice none 0 0] 26))
  have QB := Lib.hid ((Qd.new (w.alloc (.cells #[.bool na, .slice A n ca, .bool nb, .slice B m cb] 26)) (w.heap.size + 1) (by simp) (.bool nc) (.slice C r cc) (.bool nd) (.slice D s cd) 26).alloc (.cells #[.bool false, .slice none 0 0, .bool false, .slice none 0 0] 26))
  have QR := Lib.hid (Qd.new ((w.alloc (.cells #[.bool na, .slice A n ca, .bool nb, .slice B m cb] 26)).alloc (.cells #[.bool nc, .slice C r cc, .bool nd, .slice D s cd] 26)) (w.heap.size + 1 + 1) (by simp) (.bool false) (.slice none 0 0) (.bool false) (.slice none 0 0) 26)
  have LA := Lib.hid (((HA.out.box (.cells #[.bool na, .slice A n ca, .bool nb, .slice B m cb] 26)).box (.cells #[.bool nc, .slice C r cc, .bool nd, .slice D s cd] 26)).box (.cells #[.bool false, .slice none 0 0, .bool false, .slice none 0 0] 26))
  have LC := Lib.hid (((HC.out.box (.cells #[.bool na, .slice A n ca, .bool nb, .slice B m cb] 26)).box (.cells #[.bool nc, .slice C r cc, .bool nd, .slice D s cd] 26)).box (.cells #[.bool false, .slice none 0 0, .bool false, .slice none 0 0] 26))
  have LB := Lib.hid (((HB.out.box (.cells #[.bool na, .slice A n ca, .bool nb, .slice B m cb] 26)).box (.cells #[.bool nc, .slice C r cc, .bool nd, .slice D s cd] 26)).box (.cells #[.bool false, .slice none 0 0, .bool false, .slice none 0 0] 26))
  have LD := Lib.hid (((HD.out.box (.cells #[.bool na, .slice A n ca, .bool nb, .slice B m cb] 26)).box (.cells #[.bool nc, .slice C r cc, .bool nd, .slice D s cd] 26)).box (.cells #[.bool false, .slice none 0 0, .bool false, .slice none 0 0] 26))
  have BW : Hid (Below w.heap.size w (((w.alloc (.cells #[.bool na, .slice A n ca, .bool nb, .slice B m cb] 26)).alloc (.cells #[.bool nc, .slice C r cc, .bool nd, .slice D s cd] 26)).alloc (.cells #[.bool false, .slice none 0 0, .bool false, .slice none 0 0] 26))) := (below_alloc (below_alloc (below_alloc (Below.refl _ _) _) _) _)
  clear HA HC HB HD
  go_wp2_with fail
  generalize ((w.alloc (.cells #[.bool na, .slice A n ca, .bool nb, .slice B m cb] 26)).alloc (.cells #[.bool nc, .slice C r cc, .bool nd, .slice D s cd] 26)).alloc (.cells #[.bool false, .slice none 0 0, .bool false, .slice none 0 0] 26) = W0 at *
  refine (rmul_n _ A D n s ca cd k x v LA.out LD.out Sx.out Sv.out (by omega) Hna.out Hnd.out).mono ?_
  rintro e w1 ⟨A1, n1, c1, rfl, hL1, hb⟩
  clear LA
  replace QA := Lib.hid (QA.out.via hb)
  replace QB := Lib.hid (QB.out.via hb)
  replace QR := Lib.hid (QR.out.via hb)
  replace LC := Lib.hid (LC.out.via hb)
  replace LB := Lib.hid (LB.out.via hb)
  replace LD := Lib.hid (LD.out.via hb)
  replace BW := Lib.hid (btr BW.out hb)
  have L1 := Lib.hid hL1
  clear hb hL1
  obtain ⟨z1, hz1⟩ : ∃ b, decide (x * v < 0) = b := ⟨_, rfl⟩
  rw [hz1]
  have Hz1 := Lib.hid hz1
  clear hz1
  have ⟨rQA0, rQA1, rQA2, rQA3, rQA4, rQA5, rQA6, rQA7, rQAl⟩ := QA.out
  have ⟨rQB0, rQB1, rQB2, rQB3, rQB4, rQB5, rQB6, rQB7, rQBl⟩ := QB.out
  go_wp2_with fail
  clear rQA0 rQA1 rQA2 rQA3 rQA4 rQA5 rQA6 rQA7 rQAl rQB0 rQB1 rQB2 rQB3 rQB4 rQB5 rQB6 rQB7 rQBl
  replace QA := Lib.hid (QA.out.alloc (.cells #[.bool z1, .slice A1 n1 c1] 24))
  replace QB := Lib.hid (QB.out.alloc (.cells #[.bool z1, .slice A1 n1 c1] 24))
  replace QR := Lib.hid (QR.out.alloc (.cells #[.bool z1, .slice A1 n1 c1] 24))
  replace LC := Lib.hid (LC.out.box (.cells #[.bool z1, .slice A1 n1 c1] 24))
  replace LB := Lib.hid (LB.out.box (.cells #[.bool z1, .slice A1 n1 c1] 24))
  replace LD := Lib.hid (LD.out.box (.cells #[.bool z1, .slice A1 n1 c1] 24))
  replace L1 := Lib.hid (L1.out.box (.cells #[.bool z1, .slice A1 n1 c1] 24))
  have M1 := Lib.hid (Pr.new w1 _ rfl (.bool z1) (.slice A1 n1 c1) 24)
  replace BW := Lib.hid (below_alloc BW.out (.cells #[.bool z1, .slice A1 n1 c1] 24))
  generalize w1.alloc (.cells #[.bool z1, .slice A1 n1 c1] 24) = W1 at *
  generalize w1.heap.size = g1 at *
  refine (rmul_n _ C B r m cc cb k u P LC.out LB.out Su.out SP.out (by omega) Hnc.out Hnb.out).mono ?_
  rintro e w2 ⟨A2, n2, c2, rfl, hL2, hb⟩
  clear LC
  replace QA := Lib.hid (QA.out.via hb)
  replace QB := Lib.hid (QB.out.via hb)
  replace QR := Lib.hid (QR.out.via hb)
  replace LB := Lib.hid (LB.out.via hb)
  replace LD := Lib.hid (LD.out.via hb)
  replace L1 := Lib.hid (L1.out.via hb)
  replace M1 := Lib.hid (M1.out.via hb)
  replace BW := Lib.hid (btr BW.out hb)
  have L2 := Lib.hid hL2
  clear hb hL2
  obtain ⟨z2, hz2⟩ : ∃ b, decide (u * P < 0) = b := ⟨_, rfl⟩
  rw [hz2]
  have Hz2 := Lib.hid hz2
  clear hz2
  have ⟨rQA0, rQA1, rQA2, rQA3, rQA4, rQA5, rQA6, rQA7, rQAl⟩ := QA.out
  have ⟨rQB0, rQB1, rQB2, rQB3, rQB4, rQB5, rQB6, rQB7, rQBl⟩ := QB.out
  go_wp2_with fail
  clear rQA0 rQA1 rQA2 rQA3 rQA4 rQA5 rQA6 rQA7 rQAl rQB0 rQB1 rQB2 rQB3 rQB4 rQB5 rQB6 rQB7 rQBl
  replace QA := Lib.hid (QA.out.alloc (.cells #[.bool z2, .slice A2 n2 c2] 24))
  replace QB := Lib.hid (QB.out.alloc (.cells #[.bool z2, .slice A2 n2 c2] 24))
  replace QR := Lib.hid (QR.out.alloc (.cells #[.bool z2, .slice A2 n2 c2] 24))
  replace LB := Lib.hid (LB.out.box (.cells #[.bool z2, .slice A2 n2 c2] 24))
  replace LD := Lib.hid (LD.out.box (.cells #[.bool z2, .slice A2 n2 c2] 24))
  replace L1 := Lib.hid (L1.out.box (.cells #[.bool z2, .slice A2 n2 c2] 24))
  replace M1 := Lib.hid (M1.out.alloc (.cells #[.bool z2, .slice A2 n2 c2] 24))
  replace L2 := Lib.hid (L2.out.box (.cells #[.bool z2, .slice A2 n2 c2] 24))
  have M2 := Lib.hid (Pr.new w2 _ rfl (.bool z2) (.slice A2 n2 c2) 24)
  replace BW := Lib.hid (below_alloc BW.out (.cells #[.bool z2, .slice A2 n2 c2] 24))
  generalize w2.alloc (.cells #[.bool z2, .slice A2 n2 c2] 24) = W2 at *
  generalize w2.heap.size = g2 at *
  refine (rmul_n _ B D m s cb cd k P v LB.out LD.out SP.out Sv.out (by omega) Hnb.out Hnd.out).mono ?_
  rintro e w3 ⟨A3, n3, c3, rfl, hL3, hb⟩
  clear LB
  clear LD
  clear QA
  clear QB
  replace QR := Lib.hid (QR.out.via hb)
  replace L1 := Lib.hid (L1.out.via hb)
  replace M1 := Lib.hid (M1.out.via hb)
  replace L2 := Lib.hid (L2.out.via hb)
  replace M2 := Lib.hid (M2.out.via hb)
  replace BW := Lib.hid (btr BW.out hb)
  have L3 := Lib.hid hL3
  clear hb hL3
  obtain ⟨z3, hz3⟩ : ∃ b, decide (P * v < 0) = b := ⟨_, rfl⟩
  rw [hz3]
  have Hz3 := Lib.hid hz3
  clear hz3
  have ⟨rM10, rM11, rM12, rM13, rM1l⟩ := M1.out
  have ⟨rM20, rM21, rM22, rM23, rM2l⟩ := M2.out
  go_wp2_with fail
  clear rM10 rM11 rM12 rM13 rM1l rM20 rM21 rM22 rM23 rM2l
  replace QR := Lib.hid (QR.out.alloc (.cells #[.bool z3, .slice A3 n3 c3] 24))
  replace L1 := Lib.hid (L1.out.box (.cells #[.bool z3, .slice A3 n3 c3] 24))
  replace M1 := Lib.hid (M1.out.alloc (.cells #[.bool z3, .slice A3 n3 c3] 24))
  replace L2 := Lib.hid (L2.out.box (.cells #[.bool z3, .slice A3 n3 c3] 24))
  replace M2 := Lib.hid (M2.out.alloc (.cells #[.bool z3, .slice A3 n3 c3] 24))
  replace L3 := Lib.hid (L3.out.box (.cells #[.bool z3, .slice A3 n3 c3] 24))
  have M3 := Lib.hid (Pr.new w3 _ rfl (.bool z3) (.slice A3 n3 c3) 24)
  replace BW := Lib.hid (below_alloc BW.out (.cells #[.bool z3, .slice A3 n3 c3] 24))
  generalize w3.alloc (.cells #[.bool z3, .slice A3 n3 c3] 24) = W3 at *
  generalize w3.heap.size = g3 at *
  refine (radd_n _ A1 A2 n1 n2 c1 c2 (k + k) (x * v) (u * P) L1.out L2.out (Sx.out.mul Sv.out) (Su.out.mul SP.out) (by omega) Hz1.out Hz2.out).mono ?_
  rintro e w4 ⟨A4, n4, c4, rfl, hL4, hb⟩
  replace QR := Lib.hid (QR.out.via hb)
  replace L1 := Lib.hid (L1.out.via hb)
  replace M1 := Lib.hid (M1.out.via hb)
  replace L2 := Lib.hid (L2.out.via hb)
  replace M2 := Lib.hid (M2.out.via hb)
  replace L3 := Lib.hid (L3.out.via hb)
  replace M3 := Lib.hid (M3.out.via hb)
  replace BW := Lib.hid (btr BW.out hb)
  have L4 := Lib.hid hL4
  clear hb hL4
  obtain ⟨z4, hz4⟩ : ∃ b, decide (x * v + u * P < 0) = b := ⟨_, rfl⟩
  rw [hz4]
  have Hz4 := Lib.hid hz4
  clear hz4
  have HGQ : Hid (w.heap.size + 1 + 1 < w4.heap.size) := QR.out.lt
  have hg3 : Hid (g3 < w4.heap.size) := M3.out.lt
  have ⟨rM10, rM11, rM12, rM13, rM1l⟩ := M1.out
  have ⟨rM20, rM21, rM22, rM23, rM2l⟩ := M2.out
  go_wp2_with fail
  clear rM10 rM11 rM12 rM13 rM1l rM20 rM21 rM22 rM23 rM2l
  replace QR := Lib.hid (QR.out.alloc (.cells #[.bool z4, .slice A4 n4 c4] 24))
  replace L1 := Lib.hid (L1.out.box (.cells #[.bool z4, .slice A4 n4 c4] 24))
  replace M1 := Lib.hid (M1.out.alloc (.cells #[.bool z4, .slice A4 n4 c4] 24))
  replace L2 := Lib.hid (L2.out.box (.cells #[.bool z4, .slice A4 n4 c4] 24))
  replace M2 := Lib.hid (M2.out.alloc (.cells #[.bool z4, .slice A4 n4 c4] 24))
  replace L3 := Lib.hid (L3.out.box (.cells #[.bool z4, .slice A4 n4 c4] 24))
  replace M3 := Lib.hid (M3.out.alloc (.cells #[.bool z4, .slice A4 n4 c4] 24))
  replace L4 := Lib.hid (L4.out.box (.cells #[.bool z4, .slice A4 n4 c4] 24))
  have M4 := Lib.hid (Pr.new w4 _ rfl (.bool z4) (.slice A4 n4 c4) 24)
  replace BW := Lib.hid (below_alloc BW.out (.cells #[.bool z4, .slice A4 n4 c4] 24))
  generalize w4.alloc (.cells #[.bool z4, .slice A4 n4 c4] 24) = W4 at *
  generalize w4.heap.size = g4 at *
  refine (rsub_n _ A1 A2 n1 n2 c1 c2 (k + k) (x * v) (u * P) L1.out L2.out (Sx.out.mul Sv.out) (Su.out.mul SP.out) (by omega) Hz1.out Hz2.out).mono ?_
  rintro e w5 ⟨A7, n7, c7, rfl, hL7, hb⟩
  clear L1
  clear L2
  clear M1
  clear M2
  clear L4
  replace QR := Lib.hid (QR.out.via hb)
  replace L3 := Lib.hid (L3.out.via hb)
  replace M3 := Lib.hid (M3.out.via hb)
  replace M4 := Lib.hid (M4.out.via hb)
  replace BW := Lib.hid (btr BW.out hb)
  have L7 := Lib.hid hL7
  clear hb hL7
  obtain ⟨z7, hz7⟩ : ∃ b, decide (x * v - u * P < 0) = b := ⟨_, rfl⟩
  rw [hz7]
  have Hz7 := Lib.hid hz7
  clear hz7
  have hgq : Hid (w.heap.size + 1 + 1 < g4) := HGQ.out
  have ⟨rM40, rM41, rM42, rM43, rM4l⟩ := M4.out
  have q3 := M3.out.far (h := g4) (by have := hg3.out; omega) (.bool z7) (.slice A7 n7 c7)
  have ⟨q30, q31, q32, q33, q3l⟩ := q3
  go_wp2_with fail
  clear rM40 rM41 rM42 rM43 rM4l q3 q30 q31 q32 q33 q3l
  replace L3 := Lib.hid (L3.out.setP M4.out (.bool z7) (.slice A7 n7 c7))
  replace L7 := Lib.hid (L7.out.setP M4.out (.bool z7) (.slice A7 n7 c7))
  replace QR := Lib.hid ((QR.out.far1 (h := g4) (by have := hgq.out; omega) 0 (.bool z7)).far1 (h := g4) (by have := hgq.out; omega) 1 (.slice A7 n7 c7))
  replace BW := Lib.hid (below_set2 (g := g4) BW.out (by have := hgq.out; omega) (.bool z7) (.slice A7 n7 c7))
  clear M3 M4
  generalize (w5.setCell ⟨g4, 0, none⟩ (.bool z7)).setCell ⟨g4, 1, none⟩ (.slice A7 n7 c7) = W5 at *
  refine (rreduced_pos _ A7 A3 n7 n3 c7 c3 (k + k + 1) (x * v - u * P) (P * v) L7.out L3.out ((Sx.out.mul Sv.out).sub (Su.out.mul SP.out)) ((SP.out.mul Sv.out).mono (by omega)) (by omega) Hz7.out Hz3.out HS.out).mono ?_
  rintro e w6 ⟨A5, n5, c5, A6, n6, c6, rfl, hL5, hL6, hb⟩
  clear L7
  clear L3
  replace QR := Lib.hid (QR.out.via hb)
  replace BW := Lib.hid (btr BW.out hb)
  have L5 := Lib.hid hL5
  have L6 := Lib.hid hL6
  clear hb hL5 hL6
  obtain ⟨z5, hz5⟩ : ∃ b, decide ((x * v - u * P) / dvr (x * v - u * P) (P * v) < 0) = b := ⟨_, rfl⟩
  rw [hz5]
  have Hz5 := Lib.hid hz5
  clear hz5
  obtain ⟨z6, hz6⟩ : ∃ b, decide (P * v / dvr (x * v - u * P) (P * v) < 0) = b := ⟨_, rfl⟩
  rw [hz6]
  have Hz6 := Lib.hid hz6
  clear hz6
  have ⟨rQR0, rQR1, rQR2, rQR3, rQR4, rQR5, rQR6, rQR7, rQRl⟩ := QR.out
  go_wp2
  exact post_f Tryz.results23 rfl rfl (QR.out.set (.bool z5) (.slice A5 n5 c5) (.bool z6) (.slice A6 n6 c6)) ⟨A5, n5, c5, A6, n6, c6, by rw [Hz5.out, Hz6.out]; rfl, L5.out.put4 QR.out _ _ _ _, L6.out.put4 QR.out _ _ _ _, below_put4 BW.out (by omega) _ _ _ _⟩

end Go.Proofs.YtioccpbohhhkpaaGreat

/- The reference of frac: both, Add, Sub, Mul, Div, Neg, Cmp, Twin. -/
namespace Go.Proofs.YtioccpbohhhkpaaGreat
open Go.RowKit

set_option maxRecDepth 100000 in
set_option maxHeartbeats 4000000 in
theorem rboth_ok (w : World) (na nb nc nd : Bool) (A B C D : Option Addr) (n m r s ca cb cc cd : Nat) (xs ys us vs : List Nat) (hA : Lm w w.heap.size A n ca xs) (hB : Lm w w.heap.size B m cb ys) (hC : Lm w w.heap.size C r cc us) (hD : Lm w w.heap.size D s cd vs) (h1 : fchk na xs nb ys = 0) (h2 : fchk nc us nd vs = 0) :
    Calls Tryz.prog 22 #[fv na A n ca nb B m cb, fv nc C r cc nd D s cd] w fun e w' => e = .returned (.int .i64 0) ∧ Below w.heap.size w w' := by
  have HA := Lib.hid hA
  have HB := Lib.hid hB
  have HC := Lib.hid hC
  have HD := Lib.hid hD
  clear hA hB hC hD
  have H1 := Lib.hid h1
  clear h1
  have H2 := Lib.hid h2
  clear h2
  go_enter Tryz.func22, Tryz.ntmps22
  have QA := Lib.hid ((Qd.new w (w.heap.size) rfl (.bool na) (.slice A n ca) (.bool nb) (.slice B m cb) 26).alloc (.cells #[.bool nc, .slice C r cc, .bool nd, .slice D s cd] 26))
  have QB := Lib.hid (Qd.new (w.alloc (.cells #[.bool na, .slice A n ca, .bool nb, .slice B m cb] 26)) (w.heap.size + 1) (by simp) (.bool nc) (.slice C r cc) (.bool nd) (.slice D s cd) 26)
  have LA := Lib.hid ((HA.out.box (.cells #[.bool na, .slice A n ca, .bool nb, .slice B m cb] 26)).box (.cells #[.bool nc, .slice C r cc, .bool nd, .slice D s cd] 26))
  have LB := Lib.hid ((HB.out.box (.cells #[.bool na, .slice A n ca, .bool nb, .slice B m cb] 26)).box (.cells #[.bool nc, .slice C r cc, .bool nd, .slice D s cd] 26))
  have LC := Lib.hid ((HC.out.box (.cells #[.bool na, .slice A n ca, .bool nb, .slice B m cb] 26)).box (.cells #[.bool nc, .slice C r cc, .bool nd, .slice D s cd] 26))
  have LD := Lib.hid ((HD.out.box (.cells #[.bool na, .slice A n ca, .bool nb, .slice B m cb] 26)).box (.cells #[.bool nc, .slice C r cc, .bool nd, .slice D s cd] 26))
  have BW : Hid (Below w.heap.size w ((w.alloc (.cells #[.bool na, .slice A n ca, .bool nb, .slice B m cb] 26)).alloc (.cells #[.bool nc, .slice C r cc, .bool nd, .slice D s cd] 26))) := (below_alloc (below_alloc (Below.refl _ _) _) _)
  clear HA HB HC HD
  go_wp2_with fail
  generalize (w.alloc (.cells #[.bool na, .slice A n ca, .bool nb, .slice B m cb] 26)).alloc (.cells #[.bool nc, .slice C r cc, .bool nd, .slice D s cd] 26) = W0 at *
  refine (rfcheck_any _ na nb A B n m ca cb xs ys LA.out LB.out).mono ?_
  rintro e w1 ⟨rfl, hb⟩
  replace QA := Lib.hid (QA.out.via hb)
  replace QB := Lib.hid (QB.out.via hb)
  replace LA := Lib.hid (LA.out.via hb)
  replace LB := Lib.hid (LB.out.via hb)
  replace LC := Lib.hid (LC.out.via hb)
  replace LD := Lib.hid (LD.out.via hb)
  replace BW := Lib.hid (btr BW.out hb)
  clear hb
  rw [H1.out]
  have ⟨rQB0, rQB1, rQB2, rQB3, rQB4, rQB5, rQB6, rQB7, rQBl⟩ := QB.out
  go_wp2_with fail
  clear rQB0 rQB1 rQB2 rQB3 rQB4 rQB5 rQB6 rQB7 rQBl
  refine (rfcheck_any _ nc nd C D r s cc cd us vs LC.out LD.out).mono ?_
  rintro e w2 ⟨rfl, hb⟩
  replace QA := Lib.hid (QA.out.via hb)
  replace QB := Lib.hid (QB.out.via hb)
  replace LA := Lib.hid (LA.out.via hb)
  replace LB := Lib.hid (LB.out.via hb)
  replace LC := Lib.hid (LC.out.via hb)
  replace LD := Lib.hid (LD.out.via hb)
  replace BW := Lib.hid (btr BW.out hb)
  clear hb
  rw [H2.out]
  go_wp2
  go_ret
  exact ⟨rfl, BW.out⟩

set_option maxRecDepth 100000 in
set_option maxHeartbeats 4000000 in
theorem rboth_a (w : World) (na nb nc nd : Bool) (A B C D : Option Addr) (n m r s ca cb cc cd : Nat) (xs ys us vs : List Nat) (hA : Lm w w.heap.size A n ca xs) (hB : Lm w w.heap.size B m cb ys) (hC : Lm w w.heap.size C r cc us) (hD : Lm w w.heap.size D s cd vs) (h1 : fchk na xs nb ys = 8) :
    Calls Tryz.prog 22 #[fv na A n ca nb B m cb, fv nc C r cc nd D s cd] w fun e w' => e = .returned (.int .i64 8) ∧ Below w.heap.size w w' := by
  have HA := Lib.hid hA
  have HB := Lib.hid hB
  have HC := Lib.hid hC
  have HD := Lib.hid hD
  clear hA hB hC hD
  have H1 := Lib.hid h1
  clear h1
  go_enter Tryz.func22, Tryz.ntmps22
  have QA := Lib.hid ((Qd.new w (w.heap.size) rfl (.bool na) (.slice A n ca) (.bool nb) (.slice B m cb) 26).alloc (.cells #[.bool nc, .slice C r cc, .bool nd, .slice D s cd] 26))
  have QB := Lib.hid (Qd.new (w.alloc (.cells #[.bool na, .slice A n ca, .bool nb, .slice B m cb] 26)) (w.heap.size + 1) (by simp) (.bool nc) (.slice C r cc) (.bool nd) (.slice D s cd) 26)
  have LA := Lib.hid ((HA.out.box (.cells #[.bool na, .slice A n ca, .bool nb, .slice B m cb] 26)).box (.cells #[.bool nc, .slice C r cc, .bool nd, .slice D s cd] 26))
  have LB := Lib.hid ((HB.out.box (.cells #[.bool na, .slice A n ca, .bool nb, .slice B m cb] 26)).box (.cells #[.bool nc, .slice C r cc, .bool nd, .slice D s cd] 26))
  have LC := Lib.hid ((HC.out.box (.cells #[.bool na, .slice A n ca, .bool nb, .slice B m cb] 26)).box (.cells #[.bool nc, .slice C r cc, .bool nd, .slice D s cd] 26))
  have LD := Lib.hid ((HD.out.box (.cells #[.bool na, .slice A n ca, .bool nb, .slice B m cb] 26)).box (.cells #[.bool nc, .slice C r cc, .bool nd, .slice D s cd] 26))
  have BW : Hid (Below w.heap.size w ((w.alloc (.cells #[.bool na, .slice A n ca, .bool nb, .slice B m cb] 26)).alloc (.cells #[.bool nc, .slice C r cc, .bool nd, .slice D s cd] 26))) := (below_alloc (below_alloc (Below.refl _ _) _) _)
  clear HA HB HC HD
  go_wp2_with fail
  generalize (w.alloc (.cells #[.bool na, .slice A n ca, .bool nb, .slice B m cb] 26)).alloc (.cells #[.bool nc, .slice C r cc, .bool nd, .slice D s cd] 26) = W0 at *
  refine (rfcheck_any _ na nb A B n m ca cb xs ys LA.out LB.out).mono ?_
  rintro e w1 ⟨rfl, hb⟩
  replace QA := Lib.hid (QA.out.via hb)
  replace QB := Lib.hid (QB.out.via hb)
  replace LA := Lib.hid (LA.out.via hb)
  replace LB := Lib.hid (LB.out.via hb)
  replace LC := Lib.hid (LC.out.via hb)
  replace LD := Lib.hid (LD.out.via hb)
  replace BW := Lib.hid (btr BW.out hb)
  clear hb
  rw [H1.out]
  have ⟨rQA0, rQA1, rQA2, rQA3, rQA4, rQA5, rQA6, rQA7, rQAl⟩ := QA.out
  go_wp2_with fail
  clear rQA0 rQA1 rQA2 rQA3 rQA4 rQA5 rQA6 rQA7 rQAl
  refine (rfcheck_any _ na nb A B n m ca cb xs ys LA.out LB.out).mono ?_
  rintro e w2 ⟨rfl, hb⟩
  replace QA := Lib.hid (QA.out.via hb)
  replace QB := Lib.hid (QB.out.via hb)
  replace LA := Lib.hid (LA.out.via hb)
  replace LB := Lib.hid (LB.out.via hb)
  replace LC := Lib.hid (LC.out.via hb)
  replace LD := Lib.hid (LD.out.via hb)
  replace BW := Lib.hid (btr BW.out hb)
  clear hb
  rw [H1.out]
  go_wp2
  go_ret
  exact ⟨rfl, BW.out⟩

set_option maxRecDepth 100000 in
set_option maxHeartbeats 4000000 in
theorem rboth_b (w : World) (na nb nc nd : Bool) (A B C D : Option Addr) (n m r s ca cb cc cd : Nat) (xs ys us vs : List Nat) (hA : Lm w w.heap.size A n ca xs) (hB : Lm w w.heap.size B m cb ys) (hC : Lm w w.heap.size C r cc us) (hD : Lm w w.heap.size D s cd vs) (h1 : fchk na xs nb ys = 0) (h2 : fchk nc us nd vs = 8) :
    Calls Tryz.prog 22 #[fv na A n ca nb B m cb, fv nc C r cc nd D s cd] w fun e w' => e = .returned (.int .i64 8) ∧ Below w.heap.size w w' := by
  have HA := Lib.hid hA
  have HB := Lib.hid hB
  have HC := Lib.hid hC
  have HD := Lib.hid hD
  clear hA hB hC hD
  have H1 := Lib.hid h1
  clear h1
  have H2 := Lib.hid h2
  clear h2
  go_enter Tryz.func22, Tryz.ntmps22
  have QA := Lib.hid ((Qd.new w (w.heap.size) rfl (.bool na) (.slice A n ca) (.bool nb) (.slice B m cb) 26).alloc (.cells #[.bool nc, .slice C r cc, .bool nd, .slice D s cd] 26))
  have QB := Lib.hid (Qd.new (w.alloc (.cells #[.bool na, .slice A n ca, .bool nb, .slice B m cb] 26)) (w.heap.size + 1) (by simp) (.bool nc) (.slice C r cc) (.bool nd) (.slice D s cd) 26)
  have LA := Lib.hid ((HA.out.box (.cells #[.bool na, .slice A n ca, .bool nb, .slice B m cb] 26)).box (.cells #[.bool nc, .slice C r cc, .bool nd, .slice D s cd] 26))
  have LB := Lib.hid ((HB.out.box (.cells #[.bool na, .slice A n ca, .bool nb, .slice B m cb] 26)).box (.cells #[.bool nc, .slice C r cc, .bool nd, .slice D s cd] 26))
  have LC := Lib.hid ((HC.out.box (.cells #[.bool na, .slice A n ca, .bool nb, .slice B m cb] 26)).box (.cells #[.bool nc, .slice C r cc, .bool nd, .slice D s cd] 26))
  have LD := Lib.hid ((HD.out.box (.cells #[.bool na, .slice A n ca, .bool nb, .slice B m cb] 26)).box (.cells #[.bool nc, .slice C r cc, .bool nd, .slice D s cd] 26))
  have BW : Hid (Below w.heap.size w ((w.alloc (.cells #[.bool na, .slice A n ca, .bool nb, .slice B m cb] 26)).alloc (.cells #[.bool nc, .slice C r cc, .bool nd, .slice D s cd] 26))) := (below_alloc (below_alloc (Below.refl _ _) _) _)
  clear HA HB HC HD
  go_wp2_with fail
  generalize (w.alloc (.cells #[.bool na, .slice A n ca, .bool nb, .slice B m cb] 26)).alloc (.cells #[.bool nc, .slice C r cc, .bool nd, .slice D s cd] 26) = W0 at *
  refine (rfcheck_any _ na nb A B n m ca cb xs ys LA.out LB.out).mono ?_
  rintro e w1 ⟨rfl, hb⟩
  replace QA := Lib.hid (QA.out.via hb)
  replace QB := Lib.hid (QB.out.via hb)
  replace LA := Lib.hid (LA.out.via hb)
  replace LB := Lib.hid (LB.out.via hb)
  replace LC := Lib.hid (LC.out.via hb)
  replace LD := Lib.hid (LD.out.via hb)
  replace BW := Lib.hid (btr BW.out hb)
  clear hb
  rw [H1.out]
  have ⟨rQB0, rQB1, rQB2, rQB3, rQB4, rQB5, rQB6, rQB7, rQBl⟩ := QB.out
  go_wp2_with fail
  clear rQB0 rQB1 rQB2 rQB3 rQB4 rQB5 rQB6 rQB7 rQBl
  refine (rfcheck_any _ nc nd C D r s cc cd us vs LC.out LD.out).mono ?_
  rintro e w2 ⟨rfl, hb⟩
  replace QA := Lib.hid (QA.out.via hb)
  replace QB := Lib.hid (QB.out.via hb)
  replace LA := Lib.hid (LA.out.via hb)
  replace LB := Lib.hid (LB.out.via hb)
  replace LC := Lib.hid (LC.out.via hb)
  replace LD := Lib.hid (LD.out.via hb)
  replace BW := Lib.hid (btr BW.out hb)
  clear hb
  rw [H2.out]
  go_wp2
  go_ret
  exact ⟨rfl, BW.out⟩

theorem rboth_bad (w : World) (na nb nc nd : Bool) (A B C D : Option Addr) (n m r s ca cb cc cd : Nat) (xs ys us vs : List Nat) (hA : Lm w w.heap.size A n ca xs) (hB : Lm w w.heap.size B m cb ys) (hC : Lm w w.heap.size C r cc us) (hD : Lm w w.heap.size D s cd vs) (h : fchk na xs nb ys = 8 ∨ fchk nc us nd vs = 8) :
    Calls Tryz.prog 22 #[fv na A n ca nb B m cb, fv nc C r cc nd D s cd] w fun e w' => e = .returned (.int .i64 8) ∧ Below w.heap.size w w' := by
  have h0 : fchk na xs nb ys = 0 ∨ fchk na xs nb ys = 8 := by
    unfold fchk
    split
    · exact .inl rfl
    · exact .inr rfl
  rcases h0 with h1 | h1
  · exact rboth_b w na nb nc nd A B C D n m r s ca cb cc cd xs ys us vs hA hB hC hD h1 (by rcases h with h | h <;> omega)
  · exact rboth_a w na nb nc nd A B C D n m r s ca cb cc cd xs ys us vs hA hB hC hD h1

set_option maxRecDepth 100000 in
set_option maxHeartbeats 4000000 in
theorem radd_bad2 (w : World) (na nb nc nd : Bool) (A B C D : Option Addr) (n m r s ca cb cc cd : Nat) (xs ys us vs : List Nat) (hA : Lm w w.heap.size A n ca xs) (hB : Lm w w.heap.size B m cb ys) (hC : Lm w w.heap.size C r cc us) (hD : Lm w w.heap.size D s cd vs) (h1 : fchk na xs nb ys = 8 ∨ fchk nc us nd vs = 8) :
    Calls Tryz.prog 7 #[fv na A n ca nb B m cb, fv nc C r cc nd D s cd] w (RG w false [] false [] 8) := by
  have HA := Lib.hid hA
  have HB := Lib.hid hB
  have HC := Lib.hid hC
  have HD := Lib.hid hD
  clear hA hB hC hD
  have H1 := Lib.hid h1
  clear h1
  go_enter Tryz.func7, Tryz.ntmps7
  have QA := Lib.hid (((Qd.new w (w.heap.size) rfl (.bool na) (.slice A n ca) (.bool nb) (.slice B m cb) 26).alloc (.cells #[.bool nc, .slice C r cc, .bool nd, .slice D s cd] 26)).alloc (.cells #[.bool false, .slice none 0 0, .bool false, .slice none 0 0] 26))
  have QB := Lib.hid ((Qd.new (w.alloc (.cells #[.bool na, .slice A n ca, .bool nb, .slice B m cb] 26)) (w.heap.size + 1) (by simp) (.bool nc) (.slice C r cc) (.bool nd) (.slice D s cd) 26).alloc (.cells #[.bool false, .slice none 0 0, .bool false, .slice none 0 0] 26))
  have QR := Lib.hid (Qd.new ((w.alloc (.cells #[.bool na, .slice A n ca, .bool nb, .slice B m cb] 26)).alloc (.cells #[.bool nc, .slice C r cc, .bool nd, .slice D s cd] 26)) (w.heap.size + 1 + 1) (by simp) (.bool false) (.slice none 0 0) (.bool false) (.slice none 0 0) 26)
  have LA := Lib.hid (((HA.out.box (.cells #[.bool na, .slice A n ca, .bool nb, .slice B m cb] 26)).box (.cells #[.bool nc, .slice C r cc, .bool nd, .slice D s cd] 26)).box (.cells #[.bool false, .slice none 0 0, .bool false, .slice none 0 0] 26))
  have LB := Lib.hid (((HB.out.box (.cells #[.bool na, .slice A n ca, .bool nb, .slice B m cb] 26)).box (.cells #[.bool nc, .slice C r cc, .bool nd, .slice D s cd] 26)).box (.cells #[.bool false, .slice none 0 0, .bool false, .slice none 0 0] 26))
  have LC := Lib.hid (((HC.out.box (.cells #[.bool na, .slice A n ca, .bool nb, .slice B m cb] 26)).box (.cells #[.bool nc, .slice C r cc, .bool nd, .slice D s cd] 26)).box (.cells #[.bool false, .slice none 0 0, .bool false, .slice none 0 0] 26))
  have LD := Lib.hid (((HD.out.box (.cells #[.bool na, .slice A n ca, .bool nb, .slice B m cb] 26)).box (.cells #[.bool nc, .slice C r cc, .bool nd, .slice D s cd] 26)).box (.cells #[.bool false, .slice none 0 0, .bool false, .slice none 0 0] 26))
  have BW : Hid (Below w.heap.size w (((w.alloc (.cells #[.bool na, .slice A n ca, .bool nb, .slice B m cb] 26)).alloc (.cells #[.bool nc, .slice C r cc, .bool nd, .slice D s cd] 26)).alloc (.cells #[.bool false, .slice none 0 0, .bool false, .slice none 0 0] 26))) := (below_alloc (below_alloc (below_alloc (Below.refl _ _) _) _) _)
  clear HA HB HC HD
  go_wp2_with fail
  generalize ((w.alloc (.cells #[.bool na, .slice A n ca, .bool nb, .slice B m cb] 26)).alloc (.cells #[.bool nc, .slice C r cc, .bool nd, .slice D s cd] 26)).alloc (.cells #[.bool false, .slice none 0 0, .bool false, .slice none 0 0] 26) = W0 at *
  refine (rboth_bad _ na nb nc nd A B C D n m r s ca cb cc cd xs ys us vs LA.out LB.out LC.out LD.out H1.out).mono ?_
  rintro e w1 ⟨rfl, hb⟩
  replace QA := Lib.hid (QA.out.via hb)
  replace QB := Lib.hid (QB.out.via hb)
  replace QR := Lib.hid (QR.out.via hb)
  replace LA := Lib.hid (LA.out.via hb)
  replace LB := Lib.hid (LB.out.via hb)
  replace LC := Lib.hid (LC.out.via hb)
  replace LD := Lib.hid (LD.out.via hb)
  replace BW := Lib.hid (btr BW.out hb)
  clear hb
  have ⟨rQA0, rQA1, rQA2, rQA3, rQA4, rQA5, rQA6, rQA7, rQAl⟩ := QA.out
  have ⟨rQB0, rQB1, rQB2, rQB3, rQB4, rQB5, rQB6, rQB7, rQBl⟩ := QB.out
  go_wp2_with fail
  clear rQA0 rQA1 rQA2 rQA3 rQA4 rQA5 rQA6 rQA7 rQAl rQB0 rQB1 rQB2 rQB3 rQB4 rQB5 rQB6 rQB7 rQBl
  refine (rboth_bad _ na nb nc nd A B C D n m r s ca cb cc cd xs ys us vs LA.out LB.out LC.out LD.out H1.out).mono ?_
  rintro e w2 ⟨rfl, hb⟩
  replace QA := Lib.hid (QA.out.via hb)
  replace QB := Lib.hid (QB.out.via hb)
  replace QR := Lib.hid (QR.out.via hb)
  replace LA := Lib.hid (LA.out.via hb)
  replace LB := Lib.hid (LB.out.via hb)
  replace LC := Lib.hid (LC.out.via hb)
  replace LD := Lib.hid (LD.out.via hb)
  replace BW := Lib.hid (btr BW.out hb)
  clear hb
  have ⟨rQR0, rQR1, rQR2, rQR3, rQR4, rQR5, rQR6, rQR7, rQRl⟩ := QR.out
  go_wp2
  exact post_f Tryz.results7 rfl rfl (QR.out.set (.bool false) (.slice none 0 0) (.bool false) (.slice none 0 0)) ⟨none, 0, 0, none, 0, 0, rfl, Lm.nil _ _, Lm.nil _ _, below_put4 BW.out (by omega) _ _ _ _⟩

set_option maxRecDepth 100000 in
set_option maxHeartbeats 4000000 in
theorem rsub_bad2 (w : World) (na nb nc nd : Bool) (A B C D : Option Addr) (n m r s ca cb cc cd : Nat) (xs ys us vs : List Nat) (hA : Lm w w.heap.size A n ca xs) (hB : Lm w w.heap.size B m cb ys) (hC : Lm w w.heap.size C r cc us) (hD : Lm w w.heap.size D s cd vs) (h1 : fchk na xs nb ys = 8 ∨ fchk nc us nd vs = 8) :
    Calls Tryz.prog 9 #[fv na A n ca nb B m cb, fv nc C r cc nd D s cd] w (RG w false [] false [] 8) := by
  have HA := Lib.hid hA
  have HB := Lib.hid hB
  have HC := Lib.hid hC
  have HD := Lib.hid hD
  clear hA hB hC hD
  have H1 := Lib.hid h1
  clear h1
  go_enter Tryz.func9, Tryz.ntmps9
  have QA := Lib.hid (((Qd.new w (w.heap.size) rfl (.bool na) (.slice A n ca) (.bool nb) (.slice B m cb) 26).alloc (.cells #[.bool nc, .slice C r cc, .bool nd, .slice D s cd] 26)).alloc (.cells #[.bool false, .slice none 0 0, .bool false, .slice none 0 0] 26))
  have QB := Lib.hid ((Qd.new (w.alloc (.cells #[.bool na, .slice A n ca, .bool nb, .slice B m cb] 26)) (w.heap.size + 1) (by simp) (.bool nc) (.slice C r cc) (.bool nd) (.slice D s cd) 26).alloc (.cells #[.bool false, .slice none 0 0, .bool false, .slice none 0 0] 26))
  have QR := Lib.hid (Qd.new ((w.alloc (.cells #[.bool na, .slice A n ca, .bool nb, .slice B m cb] 26)).alloc (.cells #[.bool nc, .slice C r cc, .bool nd, .slice D s cd] 26)) (w.heap.size + 1 + 1) (by simp) (.bool false) (.slice none 0 0) (.bool false) (.slice none 0 0) 26)
  have LA := Lib.hid (((HA.out.box (.cells #[.bool na, .slice A n ca, .bool nb, .slice B m cb] 26)).box (.cells #[.bool nc, .slice C r cc, .bool nd, .slice D s cd] 26)).box (.cells #[.bool false, .slice none 0 0, .bool false, .slice none 0 0] 26))
  have LB := Lib.hid (((HB.out.box (.cells #[.bool na, .slice A n ca, .bool nb, .slice B m cb] 26)).box (.cells #[.bool nc, .slice C r cc, .bool nd, .slice D s cd] 26)).box (.cells #[.bool false, .slice none 0 0, .bool false, .slice none 0 0] 26))
  have LC := Lib.hid (((HC.out.box (.cells #[.bool na, .slice A n ca, .bool nb, .slice B m cb] 26)).box (.cells #[.bool nc, .slice C r cc, .bool nd, .slice D s cd] 26)).box (.cells #[.bool false, .slice none 0 0, .bool false, .slice none 0 0] 26))
  have LD := Lib.hid (((HD.out.box (.cells #[.bool na, .slice A n ca, .bool nb, .slice B m cb] 26)).box (.cells #[.bool nc, .slice C r cc, .bool nd, .slice D s cd] 26)).box (.cells #[.bool false, .slice none 0 0, .bool false, .slice none 0 0] 26))
  have BW : Hid (Below w.heap.size w (((w.alloc (.cells #[.bool na, .slice A n ca, .bool nb, .slice B m cb] 26)).alloc (.cells #[.bool nc, .slice C r cc, .bool nd, .slice D s cd] 26)).alloc (.cells #[.bool false, .slice none 0 0, .bool false, .slice none 0 0] 26))) := (below_alloc (below_alloc (below_alloc (Below.refl _ _) _) _) _)
  clear HA HB HC HD
  go_wp2_with fail
  generalize ((w.alloc (.cells #[.bool na, .slice A n ca, .bool nb, .slice B m cb] 26)).alloc (.cells #[.bool nc, .slice C r cc, .bool nd, .slice D s cd] 26)).alloc (.cells #[.bool false, .slice none 0 0, .bool false, .slice none 0 0] 26) = W0 at *
  refine (rboth_bad _ na nb nc nd A B C D n m r s ca cb cc cd xs ys us vs LA.out LB.out LC.out LD.out H1.out).mono ?_
  rintro e w1 ⟨rfl, hb⟩
  replace QA := Lib.hid (QA.out.via hb)
  replace QB := Lib.hid (QB.out.via hb)
  replace QR := Lib.hid (QR.out.via hb)
  replace LA := Lib.hid (LA.out.via hb)
  replace LB := Lib.hid (LB.out.via hb)
  replace LC := Lib.hid (LC.out.via hb)
  replace LD := Lib.hid (LD.out.via hb)
  replace BW := Lib.hid (btr BW.out hb)
  clear hb
  have ⟨rQA0, rQA1, rQA2, rQA3, rQA4, rQA5, rQA6, rQA7, rQAl⟩ := QA.out
  have ⟨rQB0, rQB1, rQB2, rQB3, rQB4, rQB5, rQB6, rQB7, rQBl⟩ := QB.out
  go_wp2_with fail
  clear rQA0 rQA1 rQA2 rQA3 rQA4 rQA5 rQA6 rQA7 rQAl rQB0 rQB1 rQB2 rQB3 rQB4 rQB5 rQB6 rQB7 rQBl
  refine (rboth_bad _ na nb nc nd A B C D n m r s ca cb cc cd xs ys us vs LA.out LB.out LC.out LD.out H1.out).mono ?_
  rintro e w2 ⟨rfl, hb⟩
  replace QA := Lib.hid (QA.out.via hb)
  replace QB := Lib.hid (QB.out.via hb)
  replace QR := Lib.hid (QR.out.via hb)
  replace LA := Lib.hid (LA.out.via hb)
  replace LB := Lib.hid (LB.out.via hb)
  replace LC := Lib.hid (LC.out.via hb)
  replace LD := Lib.hid (LD.out.via hb)
  replace BW := Lib.hid (btr BW.out hb)
  clear hb
  have ⟨rQR0, rQR1, rQR2, rQR3, rQR4, rQR5, rQR6, rQR7, rQRl⟩ := QR.out
  go_wp2
  exact post_f Tryz.results9 rfl rfl (QR.out.set (.bool false) (.slice none 0 0) (.bool false) (.slice none 0 0)) ⟨none, 0, 0, none, 0, 0, rfl, Lm.nil _ _, Lm.nil _ _, below_put4 BW.out (by omega) _ _ _ _⟩

set_option maxRecDepth 100000 in
set_option maxHeartbeats 4000000 in
theorem rmul_bad2 (w : World) (na nb nc nd : Bool) (A B C D : Option Addr) (n m r s ca cb cc cd : Nat) (xs ys us vs : List Nat) (hA : Lm w w.heap.size A n ca xs) (hB : Lm w w.heap.size B m cb ys) (hC : Lm w w.heap.size C r cc us) (hD : Lm w w.heap.size D s cd vs) (h1 : fchk na xs nb ys = 8 ∨ fchk nc us nd vs = 8) :
    Calls Tryz.prog 11 #[fv na A n ca nb B m cb, fv nc C r cc nd D s cd] w (RG w false [] false [] 8) := by
  have HA := Lib.hid hA
  have HB := Lib.hid hB
  have HC := Lib.hid hC
  have HD := Lib.hid hD
  clear hA hB hC hD
  have H1 := Lib.hid h1
  clear h1
  go_enter Tryz.func11, Tryz.ntmps11
  have QA := Lib.hid (((Qd.new w (w.heap.size) rfl (.bool na) (.slice A n ca) (.bool nb) (.slice B m cb) 26).alloc (.cells #[.bool nc, .slice C r cc, .bool nd, .slice D s cd] 26)).alloc (.cells #[.bool false, .slice none 0 0, .bool false, .slice none 0 0] 26))
  have QB := Lib.hid ((Qd.new (w.alloc (.cells #[.bool na, .slice A n ca, .bool nb, .slice B m cb] 26)) (w.heap.size + 1) (by simp) (.bool nc) (.slice C r cc) (.bool nd) (.slice D s cd) 26).alloc (.cells #[.bool false, .slice none 0 0, .bool false, .slice none 0 0] 26))
  have QR := Lib.hid (Qd.new ((w.alloc (.cells #[.bool na, .slice A n ca, .bool nb, .slice B m cb] 26)).alloc (.cells #[.bool nc, .slice C r cc, .bool nd, .slice D s cd] 26)) (w.heap.size + 1 + 1) (by simp) (.bool false) (.slice none 0 0) (.bool false) (.slice none 0 0) 26)
  have LA := Lib.hid (((HA.out.box (.cells #[.bool na, .slice A n ca, .bool nb, .slice B m cb] 26)).box (.cells #[.bool nc, .slice C r cc, .bool nd, .slice D s cd] 26)).box (.cells #[.bool false, .slice none 0 0, .bool false, .slice none 0 0] 26))
  have LB := Lib.hid (((HB.out.box (.cells #[.bool na, .slice A n ca, .bool nb, .slice B m cb] 26)).box (.cells #[.bool nc, .slice C r cc, .bool nd, .slice D s cd] 26)).box (.cells #[.bool false, .slice none 0 0, .bool false, .slice none 0 0] 26))
  have LC := Lib.hid (((HC.out.box (.cells #[.bool na, .slice A n ca, .bool nb, .slice B m cb] 26)).box (.cells #[.bool nc, .slice C r cc, .bool nd, .slice D s cd] 26)).box (.cells #[.bool false, .slice none 0 0, .bool false, .slice none 0 0] 26))
  have LD := Lib.hid (((HD.out.box (.cells #[.bool na, .slice A n ca, .bool nb, .slice B m cb] 26)).box (.cells #[.bool nc, .slice C r cc, .bool nd, .slice D s cd] 26)).box (.cells #[.bool false, .slice none 0 0, .bool false, .slice none 0 0] 26))
  have BW : Hid (Below w.heap.size w (((w.alloc (.cells #[.bool na, .slice A n ca, .bool nb, .slice B m cb] 26)).alloc (.cells #[.bool nc, .slice C r cc, .bool nd, .slice D s cd] 26)).alloc (.cells #[.bool false, .slice none 0 0, .bool false, .slice none 0 0] 26))) := (below_alloc (below_alloc (below_alloc (Below.refl _ _) _) _) _)
  clear HA HB HC HD
  go_wp2_with fail
  generalize ((w.alloc (.cells #[.bool na, .slice A n ca, .bool nb, .slice B m cb] 26)).alloc (.cells #[.bool nc, .slice C r cc, .bool nd, .slice D s cd] 26)).alloc (.cells #[.bool false, .slice none 0 0, .bool false, .slice none 0 0] 26) = W0 at *
  refine (rboth_bad _ na nb nc nd A B C D n m r s ca cb cc cd xs ys us vs LA.out LB.out LC.out LD.out H1.out).mono ?_
  rintro e w1 ⟨rfl, hb⟩
  replace QA := Lib.hid (QA.out.via hb)
  replace QB := Lib.hid (QB.out.via hb)
  replace QR := Lib.hid (QR.out.via hb)
  replace LA := Lib.hid (LA.out.via hb)
  replace LB := Lib.hid (LB.out.via hb)
  replace LC := Lib.hid (LC.out.via hb)
  replace LD := Lib.hid (LD.out.via hb)
  replace BW := Lib.hid (btr BW.out hb)
  clear hb
  have ⟨rQA0, rQA1, rQA2, rQA3, rQA4, rQA5, rQA6, rQA7, rQAl⟩ := QA.out
  have ⟨rQB0, rQB1, rQB2, rQB3, rQB4, rQB5, rQB6, rQB7, rQBl⟩ := QB.out
  go_wp2_with fail
  clear rQA0 rQA1 rQA2 rQA3 rQA4 rQA5 rQA6 rQA7 rQAl rQB0 rQB1 rQB2 rQB3 rQB4 rQB5 rQB6 rQB7 rQBl
  refine (rboth_bad _ na nb nc nd A B C D n m r s ca cb cc cd xs ys us vs LA.out LB.out LC.out LD.out H1.out).mono ?_
  rintro e w2 ⟨rfl, hb⟩
  replace QA := Lib.hid (QA.out.via hb)
  replace QB := Lib.hid (QB.out.via hb)
  replace QR := Lib.hid (QR.out.via hb)
  replace LA := Lib.hid (LA.out.via hb)
  replace LB := Lib.hid (LB.out.via hb)
  replace LC := Lib.hid (LC.out.via hb)
  replace LD := Lib.hid (LD.out.via hb)
  replace BW := Lib.hid (btr BW.out hb)
  clear hb
  have ⟨rQR0, rQR1, rQR2, rQR3, rQR4, rQR5, rQR6, rQR7, rQRl⟩ := QR.out
  go_wp2
  exact post_f Tryz.results11 rfl rfl (QR.out.set (.bool false) (.slice none 0 0) (.bool false) (.slice none 0 0)) ⟨none, 0, 0, none, 0, 0, rfl, Lm.nil _ _, Lm.nil _ _, below_put4 BW.out (by omega) _ _ _ _⟩

set_option maxRecDepth 100000 in
set_option maxHeartbeats 4000000 in
theorem rdiv_bad2 (w : World) (na nb nc nd : Bool) (A B C D : Option Addr) (n m r s ca cb cc cd : Nat) (xs ys us vs : List Nat) (hA : Lm w w.heap.size A n ca xs) (hB : Lm w w.heap.size B m cb ys) (hC : Lm w w.heap.size C r cc us) (hD : Lm w w.heap.size D s cd vs) (h1 : fchk na xs nb ys = 8 ∨ fchk nc us nd vs = 8) :
    Calls Tryz.prog 13 #[fv na A n ca nb B m cb, fv nc C r cc nd D s cd] w (RG w false [] false [] 8) := by
  have HA := Lib.hid hA
  have HB := Lib.hid hB
  have HC := Lib.hid hC
  have HD := Lib.hid hD
  clear hA hB hC hD
  have H1 := Lib.hid h1
  clear h1
  go_enter Tryz.func13, Tryz.ntmps13
  have QA := Lib.hid (((Qd.new w (w.heap.size) rfl (.bool na) (.slice A n ca) (.bool nb) (.slice B m cb) 26).alloc (.cells #[.bool nc, .slice C r cc, .bool nd, .slice D s cd] 26)).alloc (.cells #[.bool false, .slice none 0 0, .bool false, .slice none 0 0] 26))
  have QB := Lib.hid ((Qd.new (w.alloc (.cells #[.bool na, .slice A n ca, .bool nb, .slice B m cb] 26)) (w.heap.size + 1) (by simp) (.bool nc) (.slice C r cc) (.bool nd) (.slice D s cd) 26).alloc (.cells #[.bool false, .slice none 0 0, .bool false, .slice none 0 0] 26))
  have QR := Lib.hid (Qd.new ((w.alloc (.cells #[.bool na, .slice A n ca, .bool nb, .slice B m cb] 26)).alloc (.cells #[.bool nc, .slice C r cc, .bool nd, .slice D s cd] 26)) (w.heap.size + 1 + 1) (by simp) (.bool false) (.slice none 0 0) (.bool false) (.slice none 0 0) 26)
  have LA := Lib.hid (((HA.out.box (.cells #[.bool na, .slice A n ca, .bool nb, .slice B m cb] 26)).box (.cells #[.bool nc, .slice C r cc, .bool nd, .slice D s cd] 26)).box (.cells #[.bool false, .slice none 0 0, .bool false, .slice none 0 0] 26))
  have LB := Lib.hid (((HB.out.box (.cells #[.bool na, .slice A n ca, .bool nb, .slice B m cb] 26)).box (.cells #[.bool nc, .slice C r cc, .bool nd, .slice D s cd] 26)).box (.cells #[.bool false, .slice none 0 0, .bool false, .slice none 0 0] 26))
  have LC := Lib.hid (((HC.out.box (.cells #[.bool na, .slice A n ca, .bool nb, .slice B m cb] 26)).box (.cells #[.bool nc, .slice C r cc, .bool nd, .slice D s cd] 26)).box (.cells #[.bool false, .slice none 0 0, .bool false, .slice none 0 0] 26))
  have LD := Lib.hid (((HD.out.box (.cells #[.bool na, .slice A n ca, .bool nb, .slice B m cb] 26)).box (.cells #[.bool nc, .slice C r cc, .bool nd, .slice D s cd] 26)).box (.cells #[.bool false, .slice none 0 0, .bool false, .slice none 0 0] 26))
  have BW : Hid (Below w.heap.size w (((w.alloc (.cells #[.bool na, .slice A n ca, .bool nb, .slice B m cb] 26)).alloc (.cells #[.bool nc, .slice C r cc, .bool nd, .slice D s cd] 26)).alloc (.cells #[.bool false, .slice none 0 0, .bool false, .slice none 0 0] 26))) := (below_alloc (below_alloc (below_alloc (Below.refl _ _) _) _) _)
  clear HA HB HC HD
  go_wp2_with fail
  generalize ((w.alloc (.cells #[.bool na, .slice A n ca, .bool nb, .slice B m cb] 26)).alloc (.cells #[.bool nc, .slice C r cc, .bool nd, .slice D s cd] 26)).alloc (.cells #[.bool false, .slice none 0 0, .bool false, .slice none 0 0] 26) = W0 at *
  refine (rboth_bad _ na nb nc nd A B C D n m r s ca cb cc cd xs ys us vs LA.out LB.out LC.out LD.out H1.out).mono ?_
  rintro e w1 ⟨rfl, hb⟩
  replace QA := Lib.hid (QA.out.via hb)
  replace QB := Lib.hid (QB.out.via hb)
  replace QR := Lib.hid (QR.out.via hb)
  replace LA := Lib.hid (LA.out.via hb)
  replace LB := Lib.hid (LB.out.via hb)
  replace LC := Lib.hid (LC.out.via hb)
  replace LD := Lib.hid (LD.out.via hb)
  replace BW := Lib.hid (btr BW.out hb)
  clear hb
  have ⟨rQA0, rQA1, rQA2, rQA3, rQA4, rQA5, rQA6, rQA7, rQAl⟩ := QA.out
  have ⟨rQB0, rQB1, rQB2, rQB3, rQB4, rQB5, rQB6, rQB7, rQBl⟩ := QB.out
  go_wp2_with fail
  clear rQA0 rQA1 rQA2 rQA3 rQA4 rQA5 rQA6 rQA7 rQAl rQB0 rQB1 rQB2 rQB3 rQB4 rQB5 rQB6 rQB7 rQBl
  refine (rboth_bad _ na nb nc nd A B C D n m r s ca cb cc cd xs ys us vs LA.out LB.out LC.out LD.out H1.out).mono ?_
  rintro e w2 ⟨rfl, hb⟩
  replace QA := Lib.hid (QA.out.via hb)
  replace QB := Lib.hid (QB.out.via hb)
  replace QR := Lib.hid (QR.out.via hb)
  replace LA := Lib.hid (LA.out.via hb)
  replace LB := Lib.hid (LB.out.via hb)
  replace LC := Lib.hid (LC.out.via hb)
  replace LD := Lib.hid (LD.out.via hb)
  replace BW := Lib.hid (btr BW.out hb)
  clear hb
  have ⟨rQR0, rQR1, rQR2, rQR3, rQR4, rQR5, rQR6, rQR7, rQRl⟩ := QR.out
  go_wp2
  exact post_f Tryz.results13 rfl rfl (QR.out.set (.bool false) (.slice none 0 0) (.bool false) (.slice none 0 0)) ⟨none, 0, 0, none, 0, 0, rfl, Lm.nil _ _, Lm.nil _ _, below_put4 BW.out (by omega) _ _ _ _⟩

set_option maxRecDepth 100000 in
set_option maxHeartbeats 4000000 in
theorem rcmp_bad2 (w : World) (na nb nc nd : Bool) (A B C D : Option Addr) (n m r s ca cb cc cd : Nat) (xs ys us vs : List Nat) (hA : Lm w w.heap.size A n ca xs) (hB : Lm w w.heap.size B m cb ys) (hC : Lm w w.heap.size C r cc us) (hD : Lm w w.heap.size D s cd vs) (h1 : fchk na xs nb ys = 8 ∨ fchk nc us nd vs = 8) :
    Calls Tryz.prog 17 #[fv na A n ca nb B m cb, fv nc C r cc nd D s cd] w (RIE w 0 8) := by
  have HA := Lib.hid hA
  have HB := Lib.hid hB
  have HC := Lib.hid hC
  have HD := Lib.hid hD
  clear hA hB hC hD
  have H1 := Lib.hid h1
  clear h1
  go_enter Tryz.func17, Tryz.ntmps17
  have QA := Lib.hid ((Qd.new w (w.heap.size) rfl (.bool na) (.slice A n ca) (.bool nb) (.slice B m cb) 26).alloc (.cells #[.bool nc, .slice C r cc, .bool nd, .slice D s cd] 26))
  have QB := Lib.hid (Qd.new (w.alloc (.cells #[.bool na, .slice A n ca, .bool nb, .slice B m cb] 26)) (w.heap.size + 1) (by simp) (.bool nc) (.slice C r cc) (.bool nd) (.slice D s cd) 26)
  have LA := Lib.hid ((HA.out.box (.cells #[.bool na, .slice A n ca, .bool nb, .slice B m cb] 26)).box (.cells #[.bool nc, .slice C r cc, .bool nd, .slice D s cd] 26))
  have LB := Lib.hid ((HB.out.box (.cells #[.bool na, .slice A n ca, .bool nb, .slice B m cb] 26)).box (.cells #[.bool nc, .slice C r cc, .bool nd, .slice D s cd] 26))
  have LC := Lib.hid ((HC.out.box (.cells #[.bool na, .slice A n ca, .bool nb, .slice B m cb] 26)).box (.cells #[.bool nc, .slice C r cc, .bool nd, .slice D s cd] 26))
  have LD := Lib.hid ((HD.out.box (.cells #[.bool na, .slice A n ca, .bool nb, .slice B m cb] 26)).box (.cells #[.bool nc, .slice C r cc, .bool nd, .slice D s cd] 26))
  have BW : Hid (Below w.heap.size w ((w.alloc (.cells #[.bool na, .slice A n ca, .bool nb, .slice B m cb] 26)).alloc (.cells #[.bool nc, .slice C r cc, .bool nd, .slice D s cd] 26))) := (below_alloc (below_alloc (Below.refl _ _) _) _)
  clear HA HB HC HD
  go_wp2_with fail
  generalize (w.alloc (.cells #[.bool na, .slice A n ca, .bool nb, .slice B m cb] 26)).alloc (.cells #[.bool nc, .slice C r cc, .bool nd, .slice D s cd] 26) = W0 at *
  refine (rboth_bad _ na nb nc nd A B C D n m r s ca cb cc cd xs ys us vs LA.out LB.out LC.out LD.out H1.out).mono ?_
  rintro e w1 ⟨rfl, hb⟩
  replace QA := Lib.hid (QA.out.via hb)
  replace QB := Lib.hid (QB.out.via hb)
  replace LA := Lib.hid (LA.out.via hb)
  replace LB := Lib.hid (LB.out.via hb)
  replace LC := Lib.hid (LC.out.via hb)
  replace LD := Lib.hid (LD.out.via hb)
  replace BW := Lib.hid (btr BW.out hb)
  clear hb
  have ⟨rQA0, rQA1, rQA2, rQA3, rQA4, rQA5, rQA6, rQA7, rQAl⟩ := QA.out
  have ⟨rQB0, rQB1, rQB2, rQB3, rQB4, rQB5, rQB6, rQB7, rQBl⟩ := QB.out
  go_wp2_with fail
  clear rQA0 rQA1 rQA2 rQA3 rQA4 rQA5 rQA6 rQA7 rQAl rQB0 rQB1 rQB2 rQB3 rQB4 rQB5 rQB6 rQB7 rQBl
  refine (rboth_bad _ na nb nc nd A B C D n m r s ca cb cc cd xs ys us vs LA.out LB.out LC.out LD.out H1.out).mono ?_
  rintro e w2 ⟨rfl, hb⟩
  replace QA := Lib.hid (QA.out.via hb)
  replace QB := Lib.hid (QB.out.via hb)
  replace LA := Lib.hid (LA.out.via hb)
  replace LB := Lib.hid (LB.out.via hb)
  replace LC := Lib.hid (LC.out.via hb)
  replace LD := Lib.hid (LD.out.via hb)
  replace BW := Lib.hid (btr BW.out hb)
  clear hb
  go_wp2
  go_ret2
  exact ⟨rfl, BW.out⟩

set_option maxRecDepth 100000 in
set_option maxHeartbeats 4000000 in
theorem radd_g (w : World) (na nb nc nd : Bool) (A B C D : Option Addr) (n m r s ca cb cc cd : Nat) (xs ys us vs : List Nat) (hA : Lm w w.heap.size A n ca xs) (hB : Lm w w.heap.size B m cb ys) (hC : Lm w w.heap.size C r cc us) (hD : Lm w w.heap.size D s cd vs) (h1 : fchk na xs nb ys = 0) (h2 : fchk nc us nd vs = 0) (p q : Int)
    (H : ∀ W, Lm W W.heap.size A n ca xs → Lm W W.heap.size B m cb ys → Lm W W.heap.size C r cc us → Lm W W.heap.size D s cd vs → Calls Tryz.prog 23 #[fv na A n ca nb B m cb, fv nc C r cc nd D s cd, .bool false] W (RFE W p q)) :
    Calls Tryz.prog 7 #[fv na A n ca nb B m cb, fv nc C r cc nd D s cd] w (RFE w p q) := by
  have HA := Lib.hid hA
  have HB := Lib.hid hB
  have HC := Lib.hid hC
  have HD := Lib.hid hD
  clear hA hB hC hD
  have H1 := Lib.hid h1
  have H2 := Lib.hid h2
  have HH := Lib.hid H
  clear h1 h2 H
  go_enter Tryz.func7, Tryz.ntmps7
  have QA := Lib.hid (((Qd.new w (w.heap.size) rfl (.bool na) (.slice A n ca) (.bool nb) (.slice B m cb) 26).alloc (.cells #[.bool nc, .slice C r cc, .bool nd, .slice D s cd] 26)).alloc (.cells #[.bool false, .slice none 0 0, .bool false, .slice none 0 0] 26))
  have QB := Lib.hid ((Qd.new (w.alloc (.cells #[.bool na, .slice A n ca, .bool nb, .slice B m cb] 26)) (w.heap.size + 1) (by simp) (.bool nc) (.slice C r cc) (.bool nd) (.slice D s cd) 26).alloc (.cells #[.bool false, .slice none 0 0, .bool false, .slice none 0 0] 26))
  have QR := Lib.hid (Qd.new ((w.alloc (.cells #[.bool na, .slice A n ca, .bool nb, .slice B m cb] 26)).alloc (.cells #[.bool nc, .slice C r cc, .bool nd, .slice D s cd] 26)) (w.heap.size + 1 + 1) (by simp) (.bool false) (.slice none 0 0) (.bool false) (.slice none 0 0) 26)
  have LA := Lib.hid (((HA.out.box (.cells #[.bool na, .slice A n ca, .bool nb, .slice B m cb] 26)).box (.cells #[.bool nc, .slice C r cc, .bool nd, .slice D s cd] 26)).box (.cells #[.bool false, .slice none 0 0, .bool false, .slice none 0 0] 26))
  have LB := Lib.hid (((HB.out.box (.cells #[.bool na, .slice A n ca, .bool nb, .slice B m cb] 26)).box (.cells #[.bool nc, .slice C r cc, .bool nd, .slice D s cd] 26)).box (.cells #[.bool false, .slice none 0 0, .bool false, .slice none 0 0] 26))
  have LC := Lib.hid (((HC.out.box (.cells #[.bool na, .slice A n ca, .bool nb, .slice B m cb] 26)).box (.cells #[.bool nc, .slice C r cc, .bool nd, .slice D s cd] 26)).box (.cells #[.bool false, .slice none 0 0, .bool false, .slice none 0 0] 26))
  have LD := Lib.hid (((HD.out.box (.cells #[.bool na, .slice A n ca, .bool nb, .slice B m cb] 26)).box (.cells #[.bool nc, .slice C r cc, .bool nd, .slice D s cd] 26)).box (.cells #[.bool false, .slice none 0 0, .bool false, .slice none 0 0] 26))
  have BW : Hid (Below w.heap.size w (((w.alloc (.cells #[.bool na, .slice A n ca, .bool nb, .slice B m cb] 26)).alloc (.cells #[.bool nc, .slice C r cc, .bool nd, .slice D s cd] 26)).alloc (.cells #[.bool false, .slice none 0 0, .bool false, .slice none 0 0] 26))) := (below_alloc (below_alloc (below_alloc (Below.refl _ _) _) _) _)
  clear HA HB HC HD
  go_wp2_with fail
  generalize ((w.alloc (.cells #[.bool na, .slice A n ca, .bool nb, .slice B m cb] 26)).alloc (.cells #[.bool nc, .slice C r cc, .bool nd, .slice D s cd] 26)).alloc (.cells #[.bool false, .slice none 0 0, .bool false, .slice none 0 0] 26) = W0 at *
  refine (rboth_ok _ na nb nc nd A B C D n m r s ca cb cc cd xs ys us vs LA.out LB.out LC.out LD.out H1.out H2.out).mono ?_
  rintro e w1 ⟨rfl, hb⟩
  replace QA := Lib.hid (QA.out.via hb)
  replace QB := Lib.hid (QB.out.via hb)
  replace QR := Lib.hid (QR.out.via hb)
  replace LA := Lib.hid (LA.out.via hb)
  replace LB := Lib.hid (LB.out.via hb)
  replace LC := Lib.hid (LC.out.via hb)
  replace LD := Lib.hid (LD.out.via hb)
  replace BW := Lib.hid (btr BW.out hb)
  clear hb
  have ⟨rQA0, rQA1, rQA2, rQA3, rQA4, rQA5, rQA6, rQA7, rQAl⟩ := QA.out
  have ⟨rQB0, rQB1, rQB2, rQB3, rQB4, rQB5, rQB6, rQB7, rQBl⟩ := QB.out
  go_wp2_with fail
  clear rQA0 rQA1 rQA2 rQA3 rQA4 rQA5 rQA6 rQA7 rQAl rQB0 rQB1 rQB2 rQB3 rQB4 rQB5 rQB6 rQB7 rQBl
  refine (HH.out _ LA.out LB.out LC.out LD.out).mono ?_
  rintro e w2 ⟨A5, n5, c5, A6, n6, c6, rfl, hL5, hL6, hb⟩
  clear LA
  clear LB
  clear LC
  clear LD
  clear QA
  clear QB
  replace QR := Lib.hid (QR.out.via hb)
  replace BW := Lib.hid (btr BW.out hb)
  have L5 := Lib.hid hL5
  have L6 := Lib.hid hL6
  clear hb hL5 hL6
  obtain ⟨z5, hz5⟩ : ∃ b, decide (p < 0) = b := ⟨_, rfl⟩
  rw [hz5]
  have Hz5 := Lib.hid hz5
  clear hz5
  obtain ⟨z6, hz6⟩ : ∃ b, decide (q < 0) = b := ⟨_, rfl⟩
  rw [hz6]
  have Hz6 := Lib.hid hz6
  clear hz6
  have ⟨rQR0, rQR1, rQR2, rQR3, rQR4, rQR5, rQR6, rQR7, rQRl⟩ := QR.out
  go_wp2
  exact post_f Tryz.results7 rfl rfl (QR.out.set (.bool z5) (.slice A5 n5 c5) (.bool z6) (.slice A6 n6 c6)) ⟨A5, n5, c5, A6, n6, c6, by rw [Hz5.out, Hz6.out]; rfl, L5.out.put4 QR.out _ _ _ _, L6.out.put4 QR.out _ _ _ _, below_put4 BW.out (by omega) _ _ _ _⟩

set_option maxRecDepth 100000 in
set_option maxHeartbeats 4000000 in
theorem rsub_g (w : World) (na nb nc nd : Bool) (A B C D : Option Addr) (n m r s ca cb cc cd : Nat) (xs ys us vs : List Nat) (hA : Lm w w.heap.size A n ca xs) (hB : Lm w w.heap.size B m cb ys) (hC : Lm w w.heap.size C r cc us) (hD : Lm w w.heap.size D s cd vs) (h1 : fchk na xs nb ys = 0) (h2 : fchk nc us nd vs = 0) (p q : Int)
    (H : ∀ W, Lm W W.heap.size A n ca xs → Lm W W.heap.size B m cb ys → Lm W W.heap.size C r cc us → Lm W W.heap.size D s cd vs → Calls Tryz.prog 23 #[fv na A n ca nb B m cb, fv nc C r cc nd D s cd, .bool true] W (RFE W p q)) :
    Calls Tryz.prog 9 #[fv na A n ca nb B m cb, fv nc C r cc nd D s cd] w (RFE w p q) := by
  have HA := Lib.hid hA
  have HB := Lib.hid hB
  have HC := Lib.hid hC
  have HD := Lib.hid hD
  clear hA hB hC hD
  have H1 := Lib.hid h1
  have H2 := Lib.hid h2
  have HH := Lib.hid H
  clear h1 h2 H
  go_enter Tryz.func9, Tryz.ntmps9
  have QA := Lib.hid (((Qd.new w (w.heap.size) rfl (.bool na) (.slice A n ca) (.bool nb) (.slice B m cb) 26).alloc (.cells #[.bool nc, .slice C r cc, .bool nd, .slice D s cd] 26)).alloc (.cells #[.bool false, .slice none 0 0, .bool false, .slice none 0 0] 26))
  have QB := Lib.hid ((Qd.new (w.alloc (.cells #[.bool na, .slice A n ca, .bool nb, .slice B m cb] 26)) (w.heap.size + 1) (by simp) (.bool nc) (.slice C r cc) (.bool nd) (.slice D s cd) 26).alloc (.cells #[.bool false, .slice none 0 0, .bool false, .slice none 0 0] 26))
  have QR := Lib.hid (Qd.new ((w.alloc (.cells #[.bool na, .slice A n ca, .bool nb, .slice B m cb] 26)).alloc (.cells #[.bool nc, .slice C r cc, .bool nd, .slice D s cd] 26)) (w.heap.size + 1 + 1) (by simp) (.bool false) (.slice none 0 0) (.bool false) (.slice none 0 0) 26)
  have LA := Lib.hid (((HA.out.box (.cells #[.bool na, .slice A n ca, .bool nb, .slice B m cb] 26)).box (.cells #[.bool nc, .slice C r cc, .bool nd, .slice D s cd] 26)).box (.cells #[.bool false, .slice none 0 0, .bool false, .slice none 0 0] 26))
  have LB := Lib.hid (((HB.out.box (.cells #[.bool na, .slice A n ca, .bool nb, .slice B m cb] 26)).box (.cells #[.bool nc, .slice C r cc, .bool nd, .slice D s cd] 26)).box (.cells #[.bool false, .slice none 0 0, .bool false, .slice none 0 0] 26))
  have LC := Lib.hid (((HC.out.box (.cells #[.bool na, .slice A n ca, .bool nb, .slice B m cb] 26)).box (.cells #[.bool nc, .slice C r cc, .bool nd, .slice D s cd] 26)).box (.cells #[.bool false, .slice none 0 0, .bool false, .slice none 0 0] 26))
  have LD := Lib.hid (((HD.out.box (.cells #[.bool na, .slice A n ca, .bool nb, .slice B m cb] 26)).box (.cells #[.bool nc, .slice C r cc, .bool nd, .slice D s cd] 26)).box (.cells #[.bool false, .slice none 0 0, .bool false, .slice none 0 0] 26))
  have BW : Hid (Below w.heap.size w (((w.alloc (.cells #[.bool na, .slice A n ca, .bool nb, .slice B m cb] 26)).alloc (.cells #[.bool nc, .slice C r cc, .bool nd, .slice D s cd] 26)).alloc (.cells #[.bool false, .slice none 0 0, .bool false, .slice none 0 0] 26))) := (below_alloc (below_alloc (below_alloc (Below.refl _ _) _) _) _)
  clear HA HB HC HD
  go_wp2_with fail
  generalize ((w.alloc (.cells #[.bool na, .slice A n ca, .bool nb, .slice B m cb] 26)).alloc (.cells #[.bool nc, .slice C r cc, .bool nd, .slice D s cd] 26)).alloc (.cells #[.bool false, .slice none 0 0, .bool false, .slice none 0 0] 26) = W0 at *
  refine (rboth_ok _ na nb nc nd A B C D n m r s ca cb cc cd xs ys us vs LA.out LB.out LC.out LD.out H1.out H2.out).mono ?_
  rintro e w1 ⟨rfl, hb⟩
  replace QA := Lib.hid (QA.out.via hb)
  replace QB := Lib.hid (QB.out.via hb)
  replace QR := Lib.hid (QR.out.via hb)
  replace LA := Lib.hid (LA.out.via hb)
  replace LB := Lib.hid (LB.out.via hb)
  replace LC := Lib.hid (LC.out.via hb)
  replace LD := Lib.hid (LD.out.via hb)
  replace BW := Lib.hid (btr BW.out hb)
  clear hb
  have ⟨rQA0, rQA1, rQA2, rQA3, rQA4, rQA5, rQA6, rQA7, rQAl⟩ := QA.out
  have ⟨rQB0, rQB1, rQB2, rQB3, rQB4, rQB5, rQB6, rQB7, rQBl⟩ := QB.out
  go_wp2_with fail
  clear rQA0 rQA1 rQA2 rQA3 rQA4 rQA5 rQA6 rQA7 rQAl rQB0 rQB1 rQB2 rQB3 rQB4 rQB5 rQB6 rQB7 rQBl
  refine (HH.out _ LA.out LB.out LC.out LD.out).mono ?_
  rintro e w2 ⟨A5, n5, c5, A6, n6, c6, rfl, hL5, hL6, hb⟩
  clear LA
  clear LB
  clear LC
  clear LD
  clear QA
  clear QB
  replace QR := Lib.hid (QR.out.via hb)
  replace BW := Lib.hid (btr BW.out hb)
  have L5 := Lib.hid hL5
  have L6 := Lib.hid hL6
  clear hb hL5 hL6
  obtain ⟨z5, hz5⟩ : ∃ b, decide (p < 0) = b := ⟨_, rfl⟩
  rw [hz5]
  have Hz5 := Lib.hid hz5
  clear hz5
  obtain ⟨z6, hz6⟩ : ∃ b, decide (q < 0) = b := ⟨_, rfl⟩
  rw [hz6]
  have Hz6 := Lib.hid hz6
  clear hz6
  have ⟨rQR0, rQR1, rQR2, rQR3, rQR4, rQR5, rQR6, rQR7, rQRl⟩ := QR.out
  go_wp2
  exact post_f Tryz.results9 rfl rfl (QR.out.set (.bool z5) (.slice A5 n5 c5) (.bool z6) (.slice A6 n6 c6)) ⟨A5, n5, c5, A6, n6, c6, by rw [Hz5.out, Hz6.out]; rfl, L5.out.put4 QR.out _ _ _ _, L6.out.put4 QR.out _ _ _ _, below_put4 BW.out (by omega) _ _ _ _⟩

set_option maxRecDepth 100000 in
set_option maxHeartbeats 4000000 in
theorem rmul_g (w : World) (na nb nc nd : Bool) (A B C D : Option Addr) (n m r s ca cb cc cd : Nat) (xs ys us vs : List Nat) (hA : Lm w w.heap.size A n ca xs) (hB : Lm w w.heap.size B m cb ys) (hC : Lm w w.heap.size C r cc us) (hD : Lm w w.heap.size D s cd vs) (h1 : fchk na xs nb ys = 0) (h2 : fchk nc us nd vs = 0) (p q : Int)
    (H : ∀ W, Lm W W.heap.size A n ca xs → Lm W W.heap.size B m cb ys → Lm W W.heap.size C r cc us → Lm W W.heap.size D s cd vs → Calls Tryz.prog 26 #[.agg #[.bool na, .slice A n ca], .agg #[.bool nc, .slice C r cc], .agg #[.bool nb, .slice B m cb], .agg #[.bool nd, .slice D s cd]] W (RFE W p q)) :
    Calls Tryz.prog 11 #[fv na A n ca nb B m cb, fv nc C r cc nd D s cd] w (RFE w p q) := by
  have HA := Lib.hid hA
  have HB := Lib.hid hB
  have HC := Lib.hid hC
  have HD := Lib.hid hD
  clear hA hB hC hD
  have H1 := Lib.hid h1
  have H2 := Lib.hid h2
  have HH := Lib.hid H
  clear h1 h2 H
  go_enter Tryz.func11, Tryz.ntmps11
  have QA := Lib.hid (((Qd.new w (w.heap.size) rfl (.bool na) (.slice A n ca) (.bool nb) (.slice B m cb) 26).alloc (.cells #[.bool nc, .slice C r cc, .bool nd, .slice D s cd] 26)).alloc (.cells #[.bool false, .slice none 0 0, .bool false, .slice none 0 0] 26))
  have QB := Lib.hid ((Qd.new (w.alloc (.cells #[.bool na, .slice A n ca, .bool nb, .slice B m cb] 26)) (w.heap.size + 1) (by simp) (.bool nc) (.slice C r cc) (.bool nd) (.slice D s cd) 26).alloc (.cells #[.bool false, .slice none 0 0, .bool false, .slice none 0 0] 26))
  have QR := Lib.hid (Qd.new ((w.alloc (.cells #[.bool na, .slice A n ca, .bool nb, .slice B m cb] 26)).alloc (.cells #[.bool nc, .slice C r cc, .bool nd, .slice D s cd] 26)) (w.heap.size + 1 + 1) (by simp) (.bool false) (.slice none 0 0) (.bool false) (.slice none 0 0) 26)
  have LA := Lib.hid (((HA.out.box (.cells #[.bool na, .slice A n ca, .bool nb, .slice B m cb] 26)).box (.cells #[.bool nc, .slice C r cc, .bool nd, .slice D s cd] 26)).box (.cells #[.bool false, .slice none 0 0, .bool false, .slice none 0 0] 26))
  have LB := Lib.hid (((HB.out.box (.cells #[.bool na, .slice A n ca, .bool nb, .slice B m cb] 26)).box (.cells #[.bool nc, .slice C r cc, .bool nd, .slice D s cd] 26)).box (.cells #[.bool false, .slice none 0 0, .bool false, .slice none 0 0] 26))
  have LC := Lib.hid (((HC.out.box (.cells #[.bool na, .slice A n ca, .bool nb, .slice B m cb] 26)).box (.cells #[.bool nc, .slice C r cc, .bool nd, .slice D s cd] 26)).box (.cells #[.bool false, .slice none 0 0, .bool false, .slice none 0 0] 26))
  have LD := Lib.hid (((HD.out.box (.cells #[.bool na, .slice A n ca, .bool nb, .slice B m cb] 26)).box (.cells #[.bool nc, .slice C r cc, .bool nd, .slice D s cd] 26)).box (.cells #[.bool false, .slice none 0 0, .bool false, .slice none 0 0] 26))
  have BW : Hid (Below w.heap.size w (((w.alloc (.cells #[.bool na, .slice A n ca, .bool nb, .slice B m cb] 26)).alloc (.cells #[.bool nc, .slice C r cc, .bool nd, .slice D s cd] 26)).alloc (.cells #[.bool false, .slice none 0 0, .bool false, .slice none 0 0] 26))) := (below_alloc (below_alloc (below_alloc (Below.refl _ _) _) _) _)
  clear HA HB HC HD
  go_wp2_with fail
  generalize ((w.alloc (.cells #[.bool na, .slice A n ca, .bool nb, .slice B m cb] 26)).alloc (.cells #[.bool nc, .slice C r cc, .bool nd, .slice D s cd] 26)).alloc (.cells #[.bool false, .slice none 0 0, .bool false, .slice none 0 0] 26) = W0 at *
  refine (rboth_ok _ na nb nc nd A B C D n m r s ca cb cc cd xs ys us vs LA.out LB.out LC.out LD.out H1.out H2.out).mono ?_
  rintro e w1 ⟨rfl, hb⟩
  replace QA := Lib.hid (QA.out.via hb)
  replace QB := Lib.hid (QB.out.via hb)
  replace QR := Lib.hid (QR.out.via hb)
  replace LA := Lib.hid (LA.out.via hb)
  replace LB := Lib.hid (LB.out.via hb)
  replace LC := Lib.hid (LC.out.via hb)
  replace LD := Lib.hid (LD.out.via hb)
  replace BW := Lib.hid (btr BW.out hb)
  clear hb
  have ⟨rQA0, rQA1, rQA2, rQA3, rQA4, rQA5, rQA6, rQA7, rQAl⟩ := QA.out
  have ⟨rQB0, rQB1, rQB2, rQB3, rQB4, rQB5, rQB6, rQB7, rQBl⟩ := QB.out
  go_wp2_with fail
  clear rQA0 rQA1 rQA2 rQA3 rQA4 rQA5 rQA6 rQA7 rQAl rQB0 rQB1 rQB2 rQB3 rQB4 rQB5 rQB6 rQB7 rQBl
  refine (HH.out _ LA.out LB.out LC.out LD.out).mono ?_
  rintro e w2 ⟨A5, n5, c5, A6, n6, c6, rfl, hL5, hL6, hb⟩
  clear LA
  clear LB
  clear LC
  clear LD
  clear QA
  clear QB
  replace QR := Lib.hid (QR.out.via hb)
  replace BW := Lib.hid (btr BW.out hb)
  have L5 := Lib.hid hL5
  have L6 := Lib.hid hL6
  clear hb hL5 hL6
  obtain ⟨z5, hz5⟩ : ∃ b, decide (p < 0) = b := ⟨_, rfl⟩
  rw [hz5]
  have Hz5 := Lib.hid hz5
  clear hz5
  obtain ⟨z6, hz6⟩ : ∃ b, decide (q < 0) = b := ⟨_, rfl⟩
  rw [hz6]
  have Hz6 := Lib.hid hz6
  clear hz6
  have ⟨rQR0, rQR1, rQR2, rQR3, rQR4, rQR5, rQR6, rQR7, rQRl⟩ := QR.out
  go_wp2
  exact post_f Tryz.results11 rfl rfl (QR.out.set (.bool z5) (.slice A5 n5 c5) (.bool z6) (.slice A6 n6 c6)) ⟨A5, n5, c5, A6, n6, c6, by rw [Hz5.out, Hz6.out]; rfl, L5.out.put4 QR.out _ _ _ _, L6.out.put4 QR.out _ _ _ _, below_put4 BW.out (by omega) _ _ _ _⟩

set_option maxRecDepth 100000 in
set_option maxHeartbeats 4000000 in
theorem rdiv_g (w : World) (na nb nc nd : Bool) (A B C D : Option Addr) (n m r s ca cb cc cd : Nat) (xs ys us vs : List Nat) (hA : Lm w w.heap.size A n ca xs) (hB : Lm w w.heap.size B m cb ys) (hC : Lm w w.heap.size C r cc us) (hD : Lm w w.heap.size D s cd vs) (h1 : fchk na xs nb ys = 0) (h2 : fchk nc us nd vs = 0) (p q : Int) (hr : 0 < r)
    (H : ∀ W, Lm W W.heap.size A n ca xs → Lm W W.heap.size B m cb ys → Lm W W.heap.size C r cc us → Lm W W.heap.size D s cd vs → Calls Tryz.prog 26 #[.agg #[.bool na, .slice A n ca], .agg #[.bool nd, .slice D s cd], .agg #[.bool nb, .slice B m cb], .agg #[.bool nc, .slice C r cc]] W (RFE W p q)) :
    Calls Tryz.prog 13 #[fv na A n ca nb B m cb, fv nc C r cc nd D s cd] w (RFE w p q) := by
  have hcc := hC.cap
  have hcx := hC.max
  have hrz : ((r : Int) == 0) = false := by simp; omega
  clear hr
  have HA := Lib.hid hA
  have HB := Lib.hid hB
  have HC := Lib.hid hC
  have HD := Lib.hid hD
  clear hA hB hC hD
  have H1 := Lib.hid h1
  have H2 := Lib.hid h2
  have HH := Lib.hid H
  clear h1 h2 H
  go_enter Tryz.func13, Tryz.ntmps13
  have QA := Lib.hid (((Qd.new w (w.heap.size) rfl (.bool na) (.slice A n ca) (.bool nb) (.slice B m cb) 26).alloc (.cells #[.bool nc, .slice C r cc, .bool nd, .slice D s cd] 26)).alloc (.cells #[.bool false, .slice none 0 0, .bool false, .slice none 0 0] 26))
  have QB := Lib.hid ((Qd.new (w.alloc (.cells #[.bool na, .slice A n ca, .bool nb, .slice B m cb] 26)) (w.heap.size + 1) (by simp) (.bool nc) (.slice C r cc) (.bool nd) (.slice D s cd) 26).alloc (.cells #[.bool false, .slice none 0 0, .bool false, .slice none 0 0] 26))
  have QR := Lib.hid (Qd.new ((w.alloc (.cells #[.bool na, .slice A n ca, .bool nb, .slice B m cb] 26)).alloc (.cells #[.bool nc, .slice C r cc, .bool nd, .slice D s cd] 26)) (w.heap.size + 1 + 1) (by simp) (.bool false) (.slice none 0 0) (.bool false) (.slice none 0 0) 26)
  have LA := Lib.hid (((HA.out.box (.cells #[.bool na, .slice A n ca, .bool nb, .slice B m cb] 26)).box (.cells #[.bool nc, .slice C r cc, .bool nd, .slice D s cd] 26)).box (.cells #[.bool false, .slice none 0 0, .bool false, .slice none 0 0] 26))
  have LB := Lib.hid (((HB.out.box (.cells #[.bool na, .slice A n ca, .bool nb, .slice B m cb] 26)).box (.cells #[.bool nc, .slice C r cc, .bool nd, .slice D s cd] 26)).box (.cells #[.bool false, .slice none 0 0, .bool false, .slice none 0 0] 26))
  have LC := Lib.hid (((HC.out.box (.cells #[.bool na, .slice A n ca, .bool nb, .slice B m cb] 26)).box (.cells #[.bool nc, .slice C r cc, .bool nd, .slice D s cd] 26)).box (.cells #[.bool false, .slice none 0 0, .bool false, .slice none 0 0] 26))
  have LD := Lib.hid (((HD.out.box (.cells #[.bool na, .slice A n ca, .bool nb, .slice B m cb] 26)).box (.cells #[.bool nc, .slice C r cc, .bool nd, .slice D s cd] 26)).box (.cells #[.bool false, .slice none 0 0, .bool false, .slice none 0 0] 26))
  have BW : Hid (Below w.heap.size w (((w.alloc (.cells #[.bool na, .slice A n ca, .bool nb, .slice B m cb] 26)).alloc (.cells #[.bool nc, .slice C r cc, .bool nd, .slice D s cd] 26)).alloc (.cells #[.bool false, .slice none 0 0, .bool false, .slice none 0 0] 26))) := (below_alloc (below_alloc (below_alloc (Below.refl _ _) _) _) _)
  clear HA HB HC HD
  go_wp2_with fail
  generalize ((w.alloc (.cells #[.bool na, .slice A n ca, .bool nb, .slice B m cb] 26)).alloc (.cells #[.bool nc, .slice C r cc, .bool nd, .slice D s cd] 26)).alloc (.cells #[.bool false, .slice none 0 0, .bool false, .slice none 0 0] 26) = W0 at *
  refine (rboth_ok _ na nb nc nd A B C D n m r s ca cb cc cd xs ys us vs LA.out LB.out LC.out LD.out H1.out H2.out).mono ?_
  rintro e w1 ⟨rfl, hb⟩
  replace QA := Lib.hid (QA.out.via hb)
  replace QB := Lib.hid (QB.out.via hb)
  replace QR := Lib.hid (QR.out.via hb)
  replace LA := Lib.hid (LA.out.via hb)
  replace LB := Lib.hid (LB.out.via hb)
  replace LC := Lib.hid (LC.out.via hb)
  replace LD := Lib.hid (LD.out.via hb)
  replace BW := Lib.hid (btr BW.out hb)
  clear hb
  have ⟨rQA0, rQA1, rQA2, rQA3, rQA4, rQA5, rQA6, rQA7, rQAl⟩ := QA.out
  have ⟨rQB0, rQB1, rQB2, rQB3, rQB4, rQB5, rQB6, rQB7, rQBl⟩ := QB.out
  go_wp2_with fail
  clear rQA0 rQA1 rQA2 rQA3 rQA4 rQA5 rQA6 rQA7 rQAl rQB0 rQB1 rQB2 rQB3 rQB4 rQB5 rQB6 rQB7 rQBl
  refine (HH.out _ LA.out LB.out LC.out LD.out).mono ?_
  rintro e w2 ⟨A5, n5, c5, A6, n6, c6, rfl, hL5, hL6, hb⟩
  clear LA
  clear LB
  clear LC
  clear LD
  clear QA
  clear QB
  replace QR := Lib.hid (QR.out.via hb)
  replace BW := Lib.hid (btr BW.out hb)
  have L5 := Lib.hid hL5
  have L6 := Lib.hid hL6
  clear hb hL5 hL6
  obtain ⟨z5, hz5⟩ : ∃ b, decide (p < 0) = b := ⟨_, rfl⟩
  rw [hz5]
  have Hz5 := Lib.hid hz5
  clear hz5
  obtain ⟨z6, hz6⟩ : ∃ b, decide (q < 0) = b := ⟨_, rfl⟩
  rw [hz6]
  have Hz6 := Lib.hid hz6
  clear hz6
  have ⟨rQR0, rQR1, rQR2, rQR3, rQR4, rQR5, rQR6, rQR7, rQRl⟩ := QR.out
  go_wp2
  exact post_f Tryz.results13 rfl rfl (QR.out.set (.bool z5) (.slice A5 n5 c5) (.bool z6) (.slice A6 n6 c6)) ⟨A5, n5, c5, A6, n6, c6, by rw [Hz5.out, Hz6.out]; rfl, L5.out.put4 QR.out _ _ _ _, L6.out.put4 QR.out _ _ _ _, below_put4 BW.out (by omega) _ _ _ _⟩

set_option maxRecDepth 100000 in
set_option maxHeartbeats 4000000 in
theorem rdiv_zero (w : World) (na nb nc nd : Bool) (A B C D : Option Addr) (n m r s ca cb cc cd : Nat) (xs ys us vs : List Nat) (hA : Lm w w.heap.size A n ca xs) (hB : Lm w w.heap.size B m cb ys) (hC : Lm w w.heap.size C r cc us) (hD : Lm w w.heap.size D s cd vs) (h1 : fchk na xs nb ys = 0) (h2 : fchk nc us nd vs = 0) (hr : r = 0) :
    Calls Tryz.prog 13 #[fv na A n ca nb B m cb, fv nc C r cc nd D s cd] w (RG w false [] false [] 18) := by
  have hcc := hC.cap
  have hcx := hC.max
  have hrz : ((r : Int) == 0) = true := by simp; omega
  clear hr
  have HA := Lib.hid hA
  have HB := Lib.hid hB
  have HC := Lib.hid hC
  have HD := Lib.hid hD
  clear hA hB hC hD
  have H1 := Lib.hid h1
  have H2 := Lib.hid h2
  clear h1 h2
  go_enter Tryz.func13, Tryz.ntmps13
  have QA := Lib.hid (((Qd.new w (w.heap.size) rfl (.bool na) (.slice A n ca) (.bool nb) (.slice B m cb) 26).alloc (.cells #[.bool nc, .slice C r cc, .bool nd, .slice D s cd] 26)).alloc (.cells #[.bool false, .slice none 0 0, .bool false, .slice none 0 0] 26))
  have QB := Lib.hid ((Qd.new (w.alloc (.cells #[.bool na, .slice A n ca, .bool nb, .slice B m cb] 26)) (w.heap.size + 1) (by simp) (.bool nc) (.slice C r cc) (.bool nd) (.slice D s cd) 26).alloc (.cells #[.bool false, .slice none 0 0, .bool false, .slice none 0 0] 26))
  have QR := Lib.hid (Qd.new ((w.alloc (.cells #[.bool na, .slice A n ca, .bool nb, .slice B m cb] 26)).alloc (.cells #[.bool nc, .slice C r cc, .bool nd, .slice D s cd] 26)) (w.heap.size + 1 + 1) (by simp) (.bool false) (.slice none 0 0) (.bool false) (.slice none 0 0) 26)
  have LA := Lib.hid (((HA.out.box (.cells #[.bool na, .slice A n ca, .bool nb, .slice B m cb] 26)).box (.cells #[.bool nc, .slice C r cc, .bool nd, .slice D s cd] 26)).box (.cells #[.bool false, .slice none 0 0, .bool false, .slice none 0 0] 26))
  have LB := Lib.hid (((HB.out.box (.cells #[.bool na, .slice A n ca, .bool nb, .slice B m cb] 26)).box (.cells #[.bool nc, .slice C r cc, .bool nd, .slice D s cd] 26)).box (.cells #[.bool false, .slice none 0 0, .bool false, .slice none 0 0] 26))
  have LC := Lib.hid (((HC.out.box (.cells #[.bool na, .slice A n ca, .bool nb, .slice B m cb] 26)).box (.cells #[.bool nc, .slice C r cc, .bool nd, .slice D s cd] 26)).box (.cells #[.bool false, .slice none 0 0, .bool false, .slice none 0 0] 26))
  have LD := Lib.hid (((HD.out.box (.cells #[.bool na, .slice A n ca, .bool nb, .slice B m cb] 26)).box (.cells #[.bool nc, .slice C r cc, .bool nd, .slice D s cd] 26)).box (.cells #[.bool false, .slice none 0 0, .bool false, .slice none 0 0] 26))
  have BW : Hid (Below w.heap.size w (((w.alloc (.cells #[.bool na, .slice A n ca, .bool nb, .slice B m cb] 26)).alloc (.cells #[.bool nc, .slice C r cc, .bool nd, .slice D s cd] 26)).alloc (.cells #[.bool false, .slice none 0 0, .bool false, .slice none 0 0] 26))) := (below_alloc (below_alloc (below_alloc (Below.refl _ _) _) _) _)
  clear HA HB HC HD
  go_wp2_with fail
  generalize ((w.alloc (.cells #[.bool na, .slice A n ca, .bool nb, .slice B m cb] 26)).alloc (.cells #[.bool nc, .slice C r cc, .bool nd, .slice D s cd] 26)).alloc (.cells #[.bool false, .slice none 0 0, .bool false, .slice none 0 0] 26) = W0 at *
  refine (rboth_ok _ na nb nc nd A B C D n m r s ca cb cc cd xs ys us vs LA.out LB.out LC.out LD.out H1.out H2.out).mono ?_
  rintro e w1 ⟨rfl, hb⟩
  replace QA := Lib.hid (QA.out.via hb)
  replace QB := Lib.hid (QB.out.via hb)
  replace QR := Lib.hid (QR.out.via hb)
  replace LA := Lib.hid (LA.out.via hb)
  replace LB := Lib.hid (LB.out.via hb)
  replace LC := Lib.hid (LC.out.via hb)
  replace LD := Lib.hid (LD.out.via hb)
  replace BW := Lib.hid (btr BW.out hb)
  clear hb
  have ⟨rQA0, rQA1, rQA2, rQA3, rQA4, rQA5, rQA6, rQA7, rQAl⟩ := QA.out
  have ⟨rQB0, rQB1, rQB2, rQB3, rQB4, rQB5, rQB6, rQB7, rQBl⟩ := QB.out
  have ⟨rQR0, rQR1, rQR2, rQR3, rQR4, rQR5, rQR6, rQR7, rQRl⟩ := QR.out
  go_wp2
  exact post_f Tryz.results13 rfl rfl (QR.out.set (.bool false) (.slice none 0 0) (.bool false) (.slice none 0 0)) ⟨none, 0, 0, none, 0, 0, rfl, Lm.nil _ _, Lm.nil _ _, below_put4 BW.out (by omega) _ _ _ _⟩

set_option maxRecDepth 100000 in
set_option maxHeartbeats 4000000 in
theorem rneg_bad2 (w : World) (na nb : Bool) (A B : Option Addr) (n m ca cb : Nat) (xs ys : List Nat) (hA : Lm w w.heap.size A n ca xs) (hB : Lm w w.heap.size B m cb ys) (h1 : fchk na xs nb ys = 8) :
    Calls Tryz.prog 15 #[fv na A n ca nb B m cb] w (RG w false [] false [] 8) := by
  have HA := Lib.hid hA
  have HB := Lib.hid hB
  clear hA hB
  have H1 := Lib.hid h1
  clear h1
  go_enter Tryz.func15, Tryz.ntmps15
  have QA := Lib.hid ((Qd.new w (w.heap.size) rfl (.bool na) (.slice A n ca) (.bool nb) (.slice B m cb) 26).alloc (.cells #[.bool false, .slice none 0 0, .bool false, .slice none 0 0] 26))
  have QR := Lib.hid (Qd.new (w.alloc (.cells #[.bool na, .slice A n ca, .bool nb, .slice B m cb] 26)) (w.heap.size + 1) (by simp) (.bool false) (.slice none 0 0) (.bool false) (.slice none 0 0) 26)
  have LA := Lib.hid ((HA.out.box (.cells #[.bool na, .slice A n ca, .bool nb, .slice B m cb] 26)).box (.cells #[.bool false, .slice none 0 0, .bool false, .slice none 0 0] 26))
  have LB := Lib.hid ((HB.out.box (.cells #[.bool na, .slice A n ca, .bool nb, .slice B m cb] 26)).box (.cells #[.bool false, .slice none 0 0, .bool false, .slice none 0 0] 26))
  have BW : Hid (Below w.heap.size w ((w.alloc (.cells #[.bool na, .slice A n ca, .bool nb, .slice B m cb] 26)).alloc (.cells #[.bool false, .slice none 0 0, .bool false, .slice none 0 0] 26))) := (below_alloc (below_alloc (Below.refl _ _) _) _)
  clear HA HB
  go_wp2_with fail
  generalize (w.alloc (.cells #[.bool na, .slice A n ca, .bool nb, .slice B m cb] 26)).alloc (.cells #[.bool false, .slice none 0 0, .bool false, .slice none 0 0] 26) = W0 at *
  refine (rfcheck_any _ na nb A B n m ca cb xs ys LA.out LB.out).mono ?_
  rintro e w1 ⟨rfl, hb⟩
  replace QA := Lib.hid (QA.out.via hb)
  replace QR := Lib.hid (QR.out.via hb)
  replace LA := Lib.hid (LA.out.via hb)
  replace LB := Lib.hid (LB.out.via hb)
  replace BW := Lib.hid (btr BW.out hb)
  clear hb
  rw [H1.out]
  have ⟨rQA0, rQA1, rQA2, rQA3, rQA4, rQA5, rQA6, rQA7, rQAl⟩ := QA.out
  go_wp2_with fail
  clear rQA0 rQA1 rQA2 rQA3 rQA4 rQA5 rQA6 rQA7 rQAl
  refine (rfcheck_any _ na nb A B n m ca cb xs ys LA.out LB.out).mono ?_
  rintro e w2 ⟨rfl, hb⟩
  replace QA := Lib.hid (QA.out.via hb)
  replace QR := Lib.hid (QR.out.via hb)
  replace LA := Lib.hid (LA.out.via hb)
  replace LB := Lib.hid (LB.out.via hb)
  replace BW := Lib.hid (btr BW.out hb)
  clear hb
  rw [H1.out]
  have ⟨rQR0, rQR1, rQR2, rQR3, rQR4, rQR5, rQR6, rQR7, rQRl⟩ := QR.out
  go_wp2
  exact post_f Tryz.results15 rfl rfl (QR.out.set (.bool false) (.slice none 0 0) (.bool false) (.slice none 0 0)) ⟨none, 0, 0, none, 0, 0, rfl, Lm.nil _ _, Lm.nil _ _, below_put4 BW.out (by omega) _ _ _ _⟩

set_option maxRecDepth 100000 in
set_option maxHeartbeats 4000000 in
theorem rneg_g (w : World) (na : Bool) (A B : Option Addr) (n m ca cb k : Nat) (x P : Int) (hA : Lm w w.heap.size A n ca (digs x.natAbs)) (hB : Lm w w.heap.size B m cb (digs P.natAbs)) (hx : Sz k x) (hk : k ≤ 2000) (ha : decide (x < 0) = na) (hP0 : 0 < P) (h1 : fchk na (digs x.natAbs) false (digs P.natAbs) = 0) :
    Calls Tryz.prog 15 #[fv na A n ca false B m cb] w (RFE w (-x) P) := by
  have HA := Lib.hid hA
  have HB := Lib.hid hB
  clear hA hB
  have H1 := Lib.hid h1
  have HX := Lib.hid hx
  have HNa := Lib.hid ha
  have HP : Hid (decide (P < 0) = false) := decide_eq_false (by omega)
  clear h1 hx ha hP0
  go_enter Tryz.func15, Tryz.ntmps15
  have QA := Lib.hid ((Qd.new w (w.heap.size) rfl (.bool na) (.slice A n ca) (.bool false) (.slice B m cb) 26).alloc (.cells #[.bool false, .slice none 0 0, .bool false, .slice none 0 0] 26))
  have QR := Lib.hid (Qd.new (w.alloc (.cells #[.bool na, .slice A n ca, .bool false, .slice B m cb] 26)) (w.heap.size + 1) (by simp) (.bool false) (.slice none 0 0) (.bool false) (.slice none 0 0) 26)
  have LA := Lib.hid ((HA.out.box (.cells #[.bool na, .slice A n ca, .bool false, .slice B m cb] 26)).box (.cells #[.bool false, .slice none 0 0, .bool false, .slice none 0 0] 26))
  have LB := Lib.hid ((HB.out.box (.cells #[.bool na, .slice A n ca, .bool false, .slice B m cb] 26)).box (.cells #[.bool false, .slice none 0 0, .bool false, .slice none 0 0] 26))
  have BW : Hid (Below w.heap.size w ((w.alloc (.cells #[.bool na, .slice A n ca, .bool false, .slice B m cb] 26)).alloc (.cells #[.bool false, .slice none 0 0, .bool false, .slice none 0 0] 26))) := (below_alloc (below_alloc (Below.refl _ _) _) _)
  clear HA HB
  go_wp2_with fail
  generalize (w.alloc (.cells #[.bool na, .slice A n ca, .bool false, .slice B m cb] 26)).alloc (.cells #[.bool false, .slice none 0 0, .bool false, .slice none 0 0] 26) = W0 at *
  refine (rfcheck_any _ na false A B n m ca cb (digs x.natAbs) (digs P.natAbs) LA.out LB.out).mono ?_
  rintro e w1 ⟨rfl, hb⟩
  replace QA := Lib.hid (QA.out.via hb)
  replace QR := Lib.hid (QR.out.via hb)
  replace LA := Lib.hid (LA.out.via hb)
  replace LB := Lib.hid (LB.out.via hb)
  replace BW := Lib.hid (btr BW.out hb)
  clear hb
  rw [H1.out]
  have ⟨rQA0, rQA1, rQA2, rQA3, rQA4, rQA5, rQA6, rQA7, rQAl⟩ := QA.out
  go_wp2_with fail
  clear rQA0 rQA1 rQA2 rQA3 rQA4 rQA5 rQA6 rQA7 rQAl
  refine (rneg_n2 _ A n ca k x LA.out HX.out hk HNa.out).mono ?_
  rintro e w2 ⟨A1, n1, c1, rfl, hL1, hb⟩
  clear LA
  replace QA := Lib.hid (QA.out.via hb)
  replace QR := Lib.hid (QR.out.via hb)
  replace LB := Lib.hid (LB.out.via hb)
  replace BW := Lib.hid (btr BW.out hb)
  have L1 := Lib.hid hL1
  clear hb hL1
  obtain ⟨z5, hz5⟩ : ∃ b, decide (-x < 0) = b := ⟨_, rfl⟩
  rw [hz5]
  have Hz5 := Lib.hid hz5
  clear hz5
  have ⟨u0, u1, u2, u3, _, _, _, _, ul⟩ := QA.out
  have ⟨r0, r1, r2, r3, rf0, rf1, rf2, rf3, rl⟩ := (QR.out.alloc (.cells #[.bool z5, .slice A1 n1 c1] 24))
  have KR := Lib.hid (QR.out.alloc (.cells #[.bool z5, .slice A1 n1 c1] 24))
  have K1 := Lib.hid (L1.out.box (.cells #[.bool z5, .slice A1 n1 c1] 24))
  have K2 := Lib.hid (LB.out.box (.cells #[.bool z5, .slice A1 n1 c1] 24))
  have KW := Lib.hid (below_alloc BW.out (.cells #[.bool z5, .slice A1 n1 c1] 24))
  go_wp2
  exact post_f Tryz.results15 rfl rfl (KR.out.set (.bool z5) (.slice A1 n1 c1) (.bool false) (.slice B m cb)) ⟨A1, n1, c1, B, m, cb, by rw [Hz5.out, HP.out]; rfl, K1.out.put4 KR.out _ _ _ _, K2.out.put4 KR.out _ _ _ _, below_put4 KW.out (by omega) _ _ _ _⟩

end Go.Proofs.YtioccpbohhhkpaaGreat

/- The reference Twin: a copy of a number. -/
namespace Go.Proofs.YtioccpbohhhkpaaGreat
open Go.RowKit

/-- 'append(out, xs...)' where out is the call's own, and xs reads as limbs, inside a region that draws. -/
theorem step_append_lm {P : Program} {ops : Array Oper} {o : Oper} {a : Act} {w : World} {K : Act → World → Prop} {Q : Exit → Act → World → Prop} {E : Prop}
    (hg : o.guard = none) (s x : Operand) (t : TypeId) (hop : o.op = Op.call { callee := Callee.builtin Builtin.append, args := #[s, x], argTypes := #[t, t] })
    (base : Nat) (e : TypeId) (i : TypeInfo) (ht : P.underlying t = some (.slice e)) (hi : P.info? e = some i) (hz : i.zero = some (.int .u32 0)) (hsize : i.size = 1) (hby : i.bytes = 4)
    (v : Value) (n : Nat) (ts : List Value) (hs : a.eval s = v) (hown : w.ownsRow base e 1 v n ts)
    (B : Nat) (A : Option Addr) (m c : Nat) (xs : List Nat) (hx : a.eval x = .slice A m c) (hr : Lm w B A m c xs)
    (h63 : n + m ≤ maxLen) (hbytes : (n + m) * 4 ≤ 140737488355328) (hbase : base ≤ w.heap.size)
    (hK : ∀ v' w', w'.ownsRow base e 1 v' (n + m) (ts ++ xs.map u32c) → w.grownBy w' v.ownBlock → K (a.put o.dst v') w') :
    if Region.wanted o (yielded ops a.tmps) = true then Oper.wp P o a w K Q else E := by
  have hw : Region.wanted o (yielded ops a.tmps) = true := by simp [Region.wanted, hg]
  rw [if_pos hw]
  rcases A with _ | ad
  · have hm : m = 0 := by
      rcases Nat.eq_zero_or_pos m with h0 | h0
      · exact h0
      · obtain ⟨b, off, e, _⟩ := hr.at_ h0
        cases e
    subst hm
    obtain rfl := hr.nil_ rfl
    obtain rfl : xs = [] := List.eq_nil_of_length_eq_zero hr.len
    have hrun := run_append_owned_none (P := P) (w := w) base t o.type e i 1 ht hi v n ts hown
    unfold Oper.wp
    simp [execOp, hop, resolve, invoke, builtin, hs, hx, hrun, Result.andThen]
    exact hK v w (by simpa using hown) (World.grownBy.refl w _)
  · obtain ⟨v', w', hrun, r1, r2, _⟩ := run_append_own (P := P) w base t o.type e i (.int .u32 0) 1 4 ht hi hz hsize hby rfl (by decide) v n ts hown ad m c (xs.map u32c) (by simp [hr.len]) hr.cells (u32c_one xs) h63 hbytes hbase
    unfold Oper.wp
    simp [execOp, hop, resolve, invoke, builtin, hs, hx, hrun, Result.andThen]
    exact hK v' w' r1 r2

theorem own_empty (w : World) (k : Nat) (hk : w.heap.size = k) : ((w.alloc (.cells #[] 93)).drew).ownsRow k 93 1 (.slice (some ⟨k, 0, none⟩) 0 0) 0 [] := by
  subst hk
  have h : (w.alloc (.cells #[] 93)).ownsRow w.heap.size 93 1 (.slice (some ⟨w.heap.size, 0, none⟩) 0 0) 0 [] := World.ownsRow_made w #[] _ (Nat.le_refl _) (by simp [maxLen]) rfl
  exact h

set_option maxRecDepth 100000 in
set_option maxHeartbeats 1000000 in
theorem twin_any (w : World) (neg : Bool) (A : Option Addr) (n c : Nat) (xs : List Nat) (h : Lm w w.heap.size A n c xs) (hn : n ≤ 1000000000) :
    Calls Tryz.prog 19 #[.agg #[.bool neg, .slice A n c]] w fun e w' => ∃ A' c', e = .returned (.agg #[.bool neg, .slice A' n c']) ∧ Lm w' w'.heap.size A' n c' xs ∧ Below w.heap.size w w' := by
  obtain ⟨i0, hi0, hz0, hz1, hz2⟩ := info_parts u32_info
  have hr := h.max
  have hcn := h.cap
  have HH := Lib.hid h
  go_enter Tryz.func19, Tryz.ntmps19
  go_wp2
  go_region_law (refine step_append_lm rfl (.tmp 5) (.tmp 7) _ rfl (w.heap.size + 1 + 1) _ i0 slice_u32 hi0 hz0 hz1 hz2 _ 0 [] (by simp [Act.eval, Act.put]) (own_empty _ _ (by simp)) _ A n c xs (by simp [Act.eval, Act.put]) ((((HH.out.box _).box _).box _).drew) (by simp only [maxLen]; omega) (by omega) (by simp) ?_; intro v1 w1 hown1 hg1; rw [Nat.zero_add, List.nil_append] at hown1; obtain ⟨A1, c1, rfl, hL1⟩ := Lm.own hown1 HH.out.good; have hB1 := (Below.refl (w.heap.size + 1 + 1) (((w.alloc (.cells #[.bool neg, .slice A n c] 24)).alloc (.cells #[.bool false, .slice none 0 0] 24)).alloc (.cells #[] 93)).drew).grown hg1 (by simp) (fun k e => by have e2 : w.heap.size + 1 + 1 = k := Option.some.inj e; omega); have PR := (((Pr.new (w.alloc (.cells #[.bool neg, .slice A n c] 24)) (w.heap.size + 1) (by simp) (.bool false) (.slice none 0 0) 24).alloc (.cells #[] 93)).drew).below hB1 (by omega); have hHB : Hid (Below w.heap.size w w1) := ((((Below.refl _ _).alloc (Nat.le_refl _) _).alloc (by simp) _).alloc (by simp; omega) _).drew.trans (hB1.mono (by omega)); have PA := (((Pr.new w w.heap.size rfl (.bool neg) (.slice A n c) 24).alloc (.cells #[.bool false, .slice none 0 0] 24)).alloc (.cells #[] 93)).drew.below hB1 (by omega); have ⟨a0, a1, _, _, _⟩ := PA; have ⟨r0, r1, rf0, rf1, rl⟩ := PR)
  all_goals
    go_wp2
    refine post_w1 Tryz.results19 rfl rfl (PR.set _ _).c0 (PR.set _ _).c1 ⟨A1, c1, rfl, hL1.setP PR _ _, below_set2 hHB.out (by omega) _ _⟩
end Go.Proofs.YtioccpbohhhkpaaGreat

/- The reference of frac: Cmp of valid fractions, Twin. -/
namespace Go.Proofs.YtioccpbohhhkpaaGreat
open Go.RowKit

set_option maxRecDepth 100000 in
set_option maxHeartbeats 4000000 in
theorem rcmp_g (w : World) (na nc : Bool) (A B C D : Option Addr) (n m r s ca cb cc cd k : Nat) (x P u v : Int) (hA : Lm w w.heap.size A n ca (digs x.natAbs)) (hsx : Sz k x) (hB : Lm w w.heap.size B m cb (digs P.natAbs)) (hsP : Sz k P) (hC : Lm w w.heap.size C r cc (digs u.natAbs)) (hsu : Sz k u) (hD : Lm w w.heap.size D s cd (digs v.natAbs)) (hsv : Sz k v) (hk : k ≤ 300) (ha : decide (x < 0) = na) (hc : decide (u < 0) = nc) (hP0 : 0 < P) (hv0 : 0 < v) (h1 : fchk na (digs x.natAbs) false (digs P.natAbs) = 0) (h2 : fchk nc (digs u.natAbs) false (digs v.natAbs) = 0) :
    Calls Tryz.prog 17 #[fv na A n ca false B m cb, fv nc C r cc false D s cd] w (RIE w (cmpZ (x * v) (u * P)) 0) := by
  have HA := Lib.hid hA
  have HB := Lib.hid hB
  have HC := Lib.hid hC
  have HD := Lib.hid hD
  clear hA hB hC hD
  have Sx := Lib.hid hsx
  have SP := Lib.hid hsP
  have Su := Lib.hid hsu
  have Sv := Lib.hid hsv
  have Hna := Lib.hid ha
  have Hnc := Lib.hid hc
  have HP : Hid (decide (P < 0) = false) := decide_eq_false (by omega)
  have Hv : Hid (decide (v < 0) = false) := decide_eq_false (by omega)
  have H1 := Lib.hid h1
  have H2 := Lib.hid h2
  clear h1 h2 ha hc hP0 hv0 hsx hsP hsu hsv
  go_enter Tryz.func17, Tryz.ntmps17
  have QA := Lib.hid ((Qd.new w (w.heap.size) rfl (.bool na) (.slice A n ca) (.bool false) (.slice B m cb) 26).alloc (.cells #[.bool nc, .slice C r cc, .bool false, .slice D s cd] 26))
  have QB := Lib.hid (Qd.new (w.alloc (.cells #[.bool na, .slice A n ca, .bool false, .slice B m cb] 26)) (w.heap.size + 1) (by simp) (.bool nc) (.slice C r cc) (.bool false) (.slice D s cd) 26)
  have LA := Lib.hid ((HA.out.box (.cells #[.bool na, .slice A n ca, .bool false, .slice B m cb] 26)).box (.cells #[.bool nc, .slice C r cc, .bool false, .slice D s cd] 26))
  have LB := Lib.hid ((HB.out.box (.cells #[.bool na, .slice A n ca, .bool false, .slice B m cb] 26)).box (.cells #[.bool nc, .slice C r cc, .bool false, .slice D s cd] 26))
  have LC := Lib.hid ((HC.out.box (.cells #[.bool na, .slice A n ca, .bool false, .slice B m cb] 26)).box (.cells #[.bool nc, .slice C r cc, .bool false, .slice D s cd] 26))
  have LD := Lib.hid ((HD.out.box (.cells #[.bool na, .slice A n ca, .bool false, .slice B m cb] 26)).box (.cells #[.bool nc, .slice C r cc, .bool false, .slice D s cd] 26))
  have BW : Hid (Below w.heap.size w ((w.alloc (.cells #[.bool na, .slice A n ca, .bool false, .slice B m cb] 26)).alloc (.cells #[.bool nc, .slice C r cc, .bool false, .slice D s cd] 26))) := (below_alloc (below_alloc (Below.refl _ _) _) _)
  clear HA HB HC HD
  go_wp2_with fail
  generalize (w.alloc (.cells #[.bool na, .slice A n ca, .bool false, .slice B m cb] 26)).alloc (.cells #[.bool nc, .slice C r cc, .bool false, .slice D s cd] 26) = W0 at *
  refine (rboth_ok _ na false nc false A B C D n m r s ca cb cc cd (digs x.natAbs) (digs P.natAbs) (digs u.natAbs) (digs v.natAbs) LA.out LB.out LC.out LD.out H1.out H2.out).mono ?_
  rintro e w1 ⟨rfl, hb⟩
  replace QA := Lib.hid (QA.out.via hb)
  replace QB := Lib.hid (QB.out.via hb)
  replace LA := Lib.hid (LA.out.via hb)
  replace LB := Lib.hid (LB.out.via hb)
  replace LC := Lib.hid (LC.out.via hb)
  replace LD := Lib.hid (LD.out.via hb)
  replace BW := Lib.hid (btr BW.out hb)
  clear hb
  have ⟨rQA0, rQA1, rQA2, rQA3, rQA4, rQA5, rQA6, rQA7, rQAl⟩ := QA.out
  have ⟨rQB0, rQB1, rQB2, rQB3, rQB4, rQB5, rQB6, rQB7, rQBl⟩ := QB.out
  go_wp2_with fail
  clear rQA0 rQA1 rQA2 rQA3 rQA4 rQA5 rQA6 rQA7 rQAl rQB0 rQB1 rQB2 rQB3 rQB4 rQB5 rQB6 rQB7 rQBl
  refine (rmul_n _ A D n s ca cd k x v LA.out LD.out Sx.out Sv.out (by omega) Hna.out Hv.out).mono ?_
  rintro e w2 ⟨A1, n1, c1, rfl, hL1, hb⟩
  clear LA
  clear LD
  replace QA := Lib.hid (QA.out.via hb)
  replace QB := Lib.hid (QB.out.via hb)
  replace LB := Lib.hid (LB.out.via hb)
  replace LC := Lib.hid (LC.out.via hb)
  replace BW := Lib.hid (btr BW.out hb)
  have L1 := Lib.hid hL1
  clear hb hL1
  obtain ⟨z1, hz1⟩ : ∃ b, decide (x * v < 0) = b := ⟨_, rfl⟩
  rw [hz1]
  have Hz1 := Lib.hid hz1
  clear hz1
  have ⟨rQA0, rQA1, rQA2, rQA3, rQA4, rQA5, rQA6, rQA7, rQAl⟩ := QA.out
  have ⟨rQB0, rQB1, rQB2, rQB3, rQB4, rQB5, rQB6, rQB7, rQBl⟩ := QB.out
  go_wp2_with fail
  clear rQA0 rQA1 rQA2 rQA3 rQA4 rQA5 rQA6 rQA7 rQAl rQB0 rQB1 rQB2 rQB3 rQB4 rQB5 rQB6 rQB7 rQBl
  replace QA := Lib.hid (QA.out.alloc (.cells #[.bool z1, .slice A1 n1 c1] 24))
  replace QB := Lib.hid (QB.out.alloc (.cells #[.bool z1, .slice A1 n1 c1] 24))
  replace LB := Lib.hid (LB.out.box (.cells #[.bool z1, .slice A1 n1 c1] 24))
  replace LC := Lib.hid (LC.out.box (.cells #[.bool z1, .slice A1 n1 c1] 24))
  replace L1 := Lib.hid (L1.out.box (.cells #[.bool z1, .slice A1 n1 c1] 24))
  have M1 := Lib.hid (Pr.new w2 _ rfl (.bool z1) (.slice A1 n1 c1) 24)
  replace BW := Lib.hid (below_alloc BW.out (.cells #[.bool z1, .slice A1 n1 c1] 24))
  generalize w2.alloc (.cells #[.bool z1, .slice A1 n1 c1] 24) = W2 at *
  generalize w2.heap.size = g2 at *
  refine (rmul_n _ C B r m cc cb k u P LC.out LB.out Su.out SP.out (by omega) Hnc.out HP.out).mono ?_
  rintro e w3 ⟨A2, n2, c2, rfl, hL2, hb⟩
  clear LC
  clear LB
  replace QA := Lib.hid (QA.out.via hb)
  replace QB := Lib.hid (QB.out.via hb)
  replace L1 := Lib.hid (L1.out.via hb)
  replace M1 := Lib.hid (M1.out.via hb)
  replace BW := Lib.hid (btr BW.out hb)
  have L2 := Lib.hid hL2
  clear hb hL2
  obtain ⟨z2, hz2⟩ : ∃ b, decide (u * P < 0) = b := ⟨_, rfl⟩
  rw [hz2]
  have Hz2 := Lib.hid hz2
  clear hz2
  have ⟨rM10, rM11, rM12, rM13, rM1l⟩ := M1.out
  go_wp2_with fail
  clear rM10 rM11 rM12 rM13 rM1l
  replace QA := Lib.hid (QA.out.alloc (.cells #[.bool z2, .slice A2 n2 c2] 24))
  replace QB := Lib.hid (QB.out.alloc (.cells #[.bool z2, .slice A2 n2 c2] 24))
  replace L1 := Lib.hid (L1.out.box (.cells #[.bool z2, .slice A2 n2 c2] 24))
  replace M1 := Lib.hid (M1.out.alloc (.cells #[.bool z2, .slice A2 n2 c2] 24))
  replace L2 := Lib.hid (L2.out.box (.cells #[.bool z2, .slice A2 n2 c2] 24))
  have M2 := Lib.hid (Pr.new w3 _ rfl (.bool z2) (.slice A2 n2 c2) 24)
  replace BW := Lib.hid (below_alloc BW.out (.cells #[.bool z2, .slice A2 n2 c2] 24))
  generalize w3.alloc (.cells #[.bool z2, .slice A2 n2 c2] 24) = W3 at *
  generalize w3.heap.size = g3 at *
  refine (rcompared_n _ A1 A2 n1 n2 c1 c2 (k + k) (x * v) (u * P) L1.out L2.out (Sx.out.mul Sv.out) (Su.out.mul SP.out) (by omega) Hz1.out Hz2.out).mono ?_
  rintro e w4 ⟨rfl, hb⟩
  replace QA := Lib.hid (QA.out.via hb)
  replace QB := Lib.hid (QB.out.via hb)
  replace L1 := Lib.hid (L1.out.via hb)
  replace M1 := Lib.hid (M1.out.via hb)
  replace L2 := Lib.hid (L2.out.via hb)
  replace M2 := Lib.hid (M2.out.via hb)
  replace BW := Lib.hid (btr BW.out hb)
  clear hb
  go_wp2
  go_ret2
  exact ⟨rfl, BW.out⟩

set_option maxRecDepth 100000 in
set_option maxHeartbeats 4000000 in
theorem ftwin_any (w : World) (na nb : Bool) (A B : Option Addr) (n m ca cb : Nat) (xs ys : List Nat) (hA : Lm w w.heap.size A n ca xs) (hB : Lm w w.heap.size B m cb ys) (hn : n ≤ 1000000000) (hm : m ≤ 1000000000) :
    Calls Tryz.prog 5 #[fv na A n ca nb B m cb] w fun e w' => ∃ A' c' B' d', e = .returned (fv na A' n c' nb B' m d') ∧ Lm w' w'.heap.size A' n c' xs ∧ Lm w' w'.heap.size B' m d' ys ∧ Below w.heap.size w w' := by
  have HA := Lib.hid hA
  have HB := Lib.hid hB
  clear hA hB
  go_enter Tryz.func5, Tryz.ntmps5
  have QA := Lib.hid ((Qd.new w (w.heap.size) rfl (.bool na) (.slice A n ca) (.bool nb) (.slice B m cb) 26).alloc (.cells #[.bool false, .slice none 0 0, .bool false, .slice none 0 0] 26))
  have QR := Lib.hid (Qd.new (w.alloc (.cells #[.bool na, .slice A n ca, .bool nb, .slice B m cb] 26)) (w.heap.size + 1) (by simp) (.bool false) (.slice none 0 0) (.bool false) (.slice none 0 0) 26)
  have LA := Lib.hid ((HA.out.box (.cells #[.bool na, .slice A n ca, .bool nb, .slice B m cb] 26)).box (.cells #[.bool false, .slice none 0 0, .bool false, .slice none 0 0] 26))
  have LB := Lib.hid ((HB.out.box (.cells #[.bool na, .slice A n ca, .bool nb, .slice B m cb] 26)).box (.cells #[.bool false, .slice none 0 0, .bool false, .slice none 0 0] 26))
  have BW : Hid (Below w.heap.size w ((w.alloc (.cells #[.bool na, .slice A n ca, .bool nb, .slice B m cb] 26)).alloc (.cells #[.bool false, .slice none 0 0, .bool false, .slice none 0 0] 26))) := (below_alloc (below_alloc (Below.refl _ _) _) _)
  clear HA HB
  go_wp2_with fail
  generalize (w.alloc (.cells #[.bool na, .slice A n ca, .bool nb, .slice B m cb] 26)).alloc (.cells #[.bool false, .slice none 0 0, .bool false, .slice none 0 0] 26) = W0 at *
  have hrl := QR.out.lt
  have HW2 : Hid (w.heap.size + 1 ≤ W0.heap.size) := by show _ ≤ _; omega
  have HKS : Hid (∀ X : World, Below (w.heap.size + 1) W0 X → X.cell? ⟨w.heap.size, 0, none⟩ = some (.bool na) ∧ X.cell? ⟨w.heap.size, 1, none⟩ = some (.slice A n ca) ∧ X.cell? ⟨w.heap.size, 2, none⟩ = some (.bool nb) ∧ X.cell? ⟨w.heap.size, 3, none⟩ = some (.slice B m cb)) := fun X h => ⟨(QA.out.below h (by omega)).c0, (QA.out.below h (by omega)).c1, (QA.out.below h (by omega)).c2, (QA.out.below h (by omega)).c3⟩
  go_region_held3 (fun w' => w'.cell? ⟨w.heap.size, 0, none⟩ = some (.bool na) ∧ w'.cell? ⟨w.heap.size, 1, none⟩ = some (.slice A n ca) ∧ w'.cell? ⟨w.heap.size, 2, none⟩ = some (.bool nb) ∧ w'.cell? ⟨w.heap.size, 3, none⟩ = some (.slice B m cb))
    (first | (refine HKS.out _ ?_; (repeat' (first | exact B2.mono HW2.out | exact B1.mono HW2.out | exact (Below.refl _ _).drew | exact Below.refl _ _ | refine Below.setCell ?_ ?_ _)); all_goals (first | omega | (simp; done) | (simp; omega))))
    (first
     | (go_at_call_of 19 (Value.agg #[Value.bool nb, Value.slice B m cb]); refine (twin_any _ nb B m cb ys (LB.out.via B1) (by omega)).mono ?_; rintro e wb ⟨A2, c2, rfl, hL2, hb2⟩; have B2 : Below W0.heap.size W0 wb := btr B1 hb2; have KR := QR.out.via B2; have ⟨r0, r1, r2, r3, rf0, rf1, rf2, rf3, rl⟩ := KR)
     | (go_at_call_of 19 (Value.agg #[Value.bool na, Value.slice A n ca]); refine (twin_any _ na A n ca xs (by first | exact LA.out.drew | exact LA.out) (by omega)).mono ?_; rintro e wa ⟨A1, c1, rfl, hL1, hb1⟩; have B1 : Below W0.heap.size W0 wa := (by first | exact (Below.refl _ _).drew.trans hb1 | exact hb1))
     | fail)
  all_goals
    have HL5 := Lib.hid (hL1.via hb2)
    have HM5 := Lib.hid hL2
    have BE := Lib.hid (btr BW.out B2)
    clear hL1 hL2
    go_wp2
    exact post_f1 Tryz.results5 rfl rfl (KR.set (.bool na) (.slice A1 n c1) (.bool nb) (.slice A2 m c2)) ⟨A1, c1, A2, c2, rfl, HL5.out.put4 KR _ _ _ _, HM5.out.put4 KR _ _ _ _, below_put4 BE.out (by omega) _ _ _ _⟩
end Go.Proofs.YtioccpbohhhkpaaGreat

/- Both sides: Add, Sub, Mul, Div, Neg, Cmp. -/
namespace Go.Proofs.YtioccpbohhhkpaaGreat
open Go.RowKit

theorem fchk_cases (na : Bool) (xs : List Nat) (nb : Bool) (ys : List Nat) : fchk na xs nb ys = 0 ∨ fchk na xs nb ys = 8 := by
  unfold fchk
  split
  · exact .inl rfl
  · exact .inr rfl
theorem of_fchk {nn dn : Bool} {xs ys : List Nat} (h : fchk nn xs dn ys = 0) (gx : Good xs) (gy : Good ys) {k : Nat} (lx : xs.length ≤ k) (ly : ys.length ≤ k) :
    ∃ x P : Int, nn = decide (x < 0) ∧ xs = digs x.natAbs ∧ Sz k x ∧ dn = false ∧ ys = digs P.natAbs ∧ Sz k P ∧ 0 < P ∧ Nat.gcd x.natAbs P.natAbs = 1 := by
  unfold fchk at h
  split at h
  · rename_i hh
    obtain ⟨h1, h2, h3, h4, h5⟩ := hh
    obtain ⟨x, hx1, hx2, hx3⟩ := of_chk h1 gx lx
    obtain ⟨P, hP1, hP2, hP3⟩ := of_chk h2 gy ly
    have e0 : ¬ P < 0 := by rw [h3] at hP1; simpa using hP1.symm
    have e1 : P.natAbs ≠ 0 := by rw [hP2, Ne, digs_nil] at h4; exact h4
    refine ⟨x, P, hx1, hx2, hx3, h3, hP2, hP3, by omega, ?_⟩
    rw [hx2, hP2, digs_val, digs_val] at h5
    exact h5
  · cases h

set_option maxHeartbeats 1000000 in
theorem add_both (na nb nc nd : Bool) (xs ys us vs : List Nat) (gx : Good xs) (gy : Good ys) (gu : Good us) (gv : Good vs) (lx : xs.length ≤ 130) (ly : ys.length ≤ 130) (lu : us.length ≤ 130) (lv : vs.length ≤ 130) : ∃ np l1 nq l2 err,
    (∀ (w : World) (A B C D : Option Addr) (n m r s ca cb cc cd : Nat), Lm w w.heap.size A n ca xs → Lm w w.heap.size B m cb ys → Lm w w.heap.size C r cc us → Lm w w.heap.size D s cd vs → Calls Tryz.prog 6 #[fv na A n ca nb B m cb, fv nc C r cc nd D s cd] w (RG w np l1 nq l2 err)) ∧
    (∀ (w : World) (A B C D : Option Addr) (n m r s ca cb cc cd : Nat), Lm w w.heap.size A n ca xs → Lm w w.heap.size B m cb ys → Lm w w.heap.size C r cc us → Lm w w.heap.size D s cd vs → Calls Tryz.prog 7 #[fv na A n ca nb B m cb, fv nc C r cc nd D s cd] w (RG w np l1 nq l2 err)) := by
  have hcf2 : ∀ (u v : Value) (W : World), (callFunc 21 #[u, v]).run Tryz.prog W = .ok (.enter 21 #[u, v]) W := fun u v W => by go_simp
  have hcf3 : ∀ (u v z : Value) (W : World), (callFunc 38 (#[] ++ #[u, v, z])).run Tryz.prog W = .ok (.enter 38 (#[] ++ #[u, v, z])) W := fun u v z W => by go_simp
  by_cases hbad : fchk na xs nb ys = 8 ∨ fchk nc us nd vs = 8
  · exact ⟨false, [], false, [], 8, fun w A B C D n m r s ca cb cc cd hA hB hC hD => fadd_g w na nb nc nd A B C D n m r s ca cb cc cd xs ys us vs hA hB hC hD _ _ _ _ _ fun W h1 h2 h3 h4 => join_g W 21 na nb nc nd A B C D n m r s ca cb cc cd xs ys us vs h1 h2 h3 h4 _ _ _ _ _ fun W g0 ga gb qf qa qb i1 i2 i3 i4 => (attempt_no W 38 #[] #[_, _, _] 8 (hcf3 _ _ _) (joinf_bad (Wat W) g0 ga gb 21 na nb nc nd A B C D n m r s ca cb cc cd xs ys us vs (qf.via (wat_below W)) (qa.via (wat_below W)) (qb.via (wat_below W)) (i1.via (wat_below W)) (i2.via (wat_below W)) (i3.via (wat_below W)) (i4.via (wat_below W)) hbad)).mono fun e w' hr => rfx_rg hr, fun w A B C D n m r s ca cb cc cd hA hB hC hD => radd_bad2 w na nb nc nd A B C D n m r s ca cb cc cd xs ys us vs hA hB hC hD hbad⟩
  · have hv1 : fchk na xs nb ys = 0 := (fchk_cases na xs nb ys).resolve_right fun h => hbad (.inl h)
    have hv2 : fchk nc us nd vs = 0 := (fchk_cases nc us nd vs).resolve_right fun h => hbad (.inr h)
    obtain ⟨x, P, e1, e2, sx, e3, e4, sP, hP0, hg1⟩ := of_fchk hv1 gx gy lx ly
    obtain ⟨y, Q, e5, e6, sy, e7, e8, sQ, hQ0, hg2⟩ := of_fchk hv2 gu gv lu lv
    subst e1 e2 e3 e4 e5 e6 e7 e8
    obtain ⟨t, ht, hg⟩ : ∃ t : Int, x * Q + y * P = t * (Nat.gcd P.natAbs Q.natAbs : Int) ∧ Nat.gcd (x * Q + y * P).natAbs (P * Q).natAbs = Nat.gcd P.natAbs Q.natAbs * Nat.gcd t.natAbs (Nat.gcd P.natAbs Q.natAbs) := by
      obtain ⟨t, h1, _, h2⟩ := frac_common x y P.natAbs Q.natAbs _ (by omega) hg1 hg2 rfl
      have hp : (P.natAbs : Int) = P := by omega
      have hq : (Q.natAbs : Int) = Q := by omega
      rw [hp, hq] at h1 h2
      refine ⟨t, h1, ?_⟩
      rw [Int.natAbs_mul]
      exact h2
    exact ⟨_, _, _, _, _, fun w A B C D n m r s ca cb cc cd hA hB hC hD => fadd_g w (decide (x < 0)) false (decide (y < 0)) false A B C D n m r s ca cb cc cd (digs x.natAbs) (digs P.natAbs) (digs y.natAbs) (digs Q.natAbs) hA hB hC hD _ _ _ _ _ fun W h1 h2 h3 h4 => join_g W 21 (decide (x < 0)) false (decide (y < 0)) false A B C D n m r s ca cb cc cd (digs x.natAbs) (digs P.natAbs) (digs y.natAbs) (digs Q.natAbs) h1 h2 h3 h4 _ _ _ _ _ fun W g0 ga gb qf qa qb i1 i2 i3 i4 => (attempt_ok W 38 #[] #[_, _, _] ((x * Q + y * P) / dvr (x * Q + y * P) (P * Q)) (P * Q / dvr (x * Q + y * P) (P * Q)) (hcf3 _ _ _) (joinf_ok (Wat W) g0 ga gb 21 (decide (x < 0)) false (decide (y < 0)) false A B C D n m r s ca cb cc cd _ _ _ _ (qf.via (wat_below W)) (qa.via (wat_below W)) (qb.via (wat_below W)) (i1.via (wat_below W)) (i2.via (wat_below W)) (i3.via (wat_below W)) (i4.via (wat_below W)) hv1 hv2 ((x * Q + y * P) / dvr (x * Q + y * P) (P * Q)) (P * Q / dvr (x * Q + y * P) (P * Q)) hcf2 fun W j1 j2 j3 j4 => plus_n W (decide (x < 0)) false (decide (y < 0)) false A B C D n m r s ca cb cc cd _ _ _ _ j1 j2 j3 j4 _ _ fun W j1 j2 j3 j4 => add_plus W A B C D n m r s ca cb cc cd 130 x y P Q j1 j2 j3 j4 sx sP sy sQ (by omega) rfl rfl hP0 hQ0 t ht hg)).mono fun e w' hr => rfe_rg hr, fun w A B C D n m r s ca cb cc cd hA hB hC hD => radd_g w (decide (x < 0)) false (decide (y < 0)) false A B C D n m r s ca cb cc cd (digs x.natAbs) (digs P.natAbs) (digs y.natAbs) (digs Q.natAbs) hA hB hC hD hv1 hv2 ((x * Q + y * P) / dvr (x * Q + y * P) (P * Q)) (P * Q / dvr (x * Q + y * P) (P * Q)) fun W j1 j2 j3 j4 => radded_add W A B C D n m r s ca cb cc cd 130 x y P Q j1 sx rfl j3 sy rfl j2 sP (decide_eq_false (by omega)) j4 sQ (decide_eq_false (by omega)) (by omega) hP0 hQ0⟩

set_option maxHeartbeats 1000000 in
theorem sub_both (na nb nc nd : Bool) (xs ys us vs : List Nat) (gx : Good xs) (gy : Good ys) (gu : Good us) (gv : Good vs) (lx : xs.length ≤ 130) (ly : ys.length ≤ 130) (lu : us.length ≤ 130) (lv : vs.length ≤ 130) : ∃ np l1 nq l2 err,
    (∀ (w : World) (A B C D : Option Addr) (n m r s ca cb cc cd : Nat), Lm w w.heap.size A n ca xs → Lm w w.heap.size B m cb ys → Lm w w.heap.size C r cc us → Lm w w.heap.size D s cd vs → Calls Tryz.prog 8 #[fv na A n ca nb B m cb, fv nc C r cc nd D s cd] w (RG w np l1 nq l2 err)) ∧
    (∀ (w : World) (A B C D : Option Addr) (n m r s ca cb cc cd : Nat), Lm w w.heap.size A n ca xs → Lm w w.heap.size B m cb ys → Lm w w.heap.size C r cc us → Lm w w.heap.size D s cd vs → Calls Tryz.prog 9 #[fv na A n ca nb B m cb, fv nc C r cc nd D s cd] w (RG w np l1 nq l2 err)) := by
  have hcf2 : ∀ (u v : Value) (W : World), (callFunc 24 #[u, v]).run Tryz.prog W = .ok (.enter 24 #[u, v]) W := fun u v W => by go_simp
  have hcf3 : ∀ (u v z : Value) (W : World), (callFunc 38 (#[] ++ #[u, v, z])).run Tryz.prog W = .ok (.enter 38 (#[] ++ #[u, v, z])) W := fun u v z W => by go_simp
  by_cases hbad : fchk na xs nb ys = 8 ∨ fchk nc us nd vs = 8
  · exact ⟨false, [], false, [], 8, fun w A B C D n m r s ca cb cc cd hA hB hC hD => fsub_g w na nb nc nd A B C D n m r s ca cb cc cd xs ys us vs hA hB hC hD _ _ _ _ _ fun W h1 h2 h3 h4 => join_g W 24 na nb nc nd A B C D n m r s ca cb cc cd xs ys us vs h1 h2 h3 h4 _ _ _ _ _ fun W g0 ga gb qf qa qb i1 i2 i3 i4 => (attempt_no W 38 #[] #[_, _, _] 8 (hcf3 _ _ _) (joinf_bad (Wat W) g0 ga gb 24 na nb nc nd A B C D n m r s ca cb cc cd xs ys us vs (qf.via (wat_below W)) (qa.via (wat_below W)) (qb.via (wat_below W)) (i1.via (wat_below W)) (i2.via (wat_below W)) (i3.via (wat_below W)) (i4.via (wat_below W)) hbad)).mono fun e w' hr => rfx_rg hr, fun w A B C D n m r s ca cb cc cd hA hB hC hD => rsub_bad2 w na nb nc nd A B C D n m r s ca cb cc cd xs ys us vs hA hB hC hD hbad⟩
  · have hv1 : fchk na xs nb ys = 0 := (fchk_cases na xs nb ys).resolve_right fun h => hbad (.inl h)
    have hv2 : fchk nc us nd vs = 0 := (fchk_cases nc us nd vs).resolve_right fun h => hbad (.inr h)
    obtain ⟨x, P, e1, e2, sx, e3, e4, sP, hP0, hg1⟩ := of_fchk hv1 gx gy lx ly
    obtain ⟨y, Q, e5, e6, sy, e7, e8, sQ, hQ0, hg2⟩ := of_fchk hv2 gu gv lu lv
    subst e1 e2 e3 e4 e5 e6 e7 e8
    obtain ⟨t, ht, hg⟩ : ∃ t : Int, x * Q - y * P = t * (Nat.gcd P.natAbs Q.natAbs : Int) ∧ Nat.gcd (x * Q - y * P).natAbs (P * Q).natAbs = Nat.gcd P.natAbs Q.natAbs * Nat.gcd t.natAbs (Nat.gcd P.natAbs Q.natAbs) := by
      obtain ⟨t, h1, _, h2⟩ := frac_common x (-y) P.natAbs Q.natAbs _ (by omega) hg1 (by rw [Int.natAbs_neg]; exact hg2) rfl
      have hp : (P.natAbs : Int) = P := by omega
      have hq : (Q.natAbs : Int) = Q := by omega
      rw [hp, hq] at h1 h2
      refine ⟨t, (by rw [← h1, Int.neg_mul]; rfl), ?_⟩
      rw [Int.natAbs_mul]
      rw [Int.neg_mul] at h2; exact h2
    exact ⟨_, _, _, _, _, fun w A B C D n m r s ca cb cc cd hA hB hC hD => fsub_g w (decide (x < 0)) false (decide (y < 0)) false A B C D n m r s ca cb cc cd (digs x.natAbs) (digs P.natAbs) (digs y.natAbs) (digs Q.natAbs) hA hB hC hD _ _ _ _ _ fun W h1 h2 h3 h4 => join_g W 24 (decide (x < 0)) false (decide (y < 0)) false A B C D n m r s ca cb cc cd (digs x.natAbs) (digs P.natAbs) (digs y.natAbs) (digs Q.natAbs) h1 h2 h3 h4 _ _ _ _ _ fun W g0 ga gb qf qa qb i1 i2 i3 i4 => (attempt_ok W 38 #[] #[_, _, _] ((x * Q - y * P) / dvr (x * Q - y * P) (P * Q)) (P * Q / dvr (x * Q - y * P) (P * Q)) (hcf3 _ _ _) (joinf_ok (Wat W) g0 ga gb 24 (decide (x < 0)) false (decide (y < 0)) false A B C D n m r s ca cb cc cd _ _ _ _ (qf.via (wat_below W)) (qa.via (wat_below W)) (qb.via (wat_below W)) (i1.via (wat_below W)) (i2.via (wat_below W)) (i3.via (wat_below W)) (i4.via (wat_below W)) hv1 hv2 ((x * Q - y * P) / dvr (x * Q - y * P) (P * Q)) (P * Q / dvr (x * Q - y * P) (P * Q)) hcf2 fun W j1 j2 j3 j4 => minus_n W (decide (x < 0)) false (decide (y < 0)) false A B C D n m r s ca cb cc cd _ _ _ _ j1 j2 j3 j4 _ _ fun W j1 j2 j3 j4 => add_minus W A B C D n m r s ca cb cc cd 130 x y P Q j1 j2 j3 j4 sx sP sy sQ (by omega) rfl rfl hP0 hQ0 t ht hg)).mono fun e w' hr => rfe_rg hr, fun w A B C D n m r s ca cb cc cd hA hB hC hD => rsub_g w (decide (x < 0)) false (decide (y < 0)) false A B C D n m r s ca cb cc cd (digs x.natAbs) (digs P.natAbs) (digs y.natAbs) (digs Q.natAbs) hA hB hC hD hv1 hv2 ((x * Q - y * P) / dvr (x * Q - y * P) (P * Q)) (P * Q / dvr (x * Q - y * P) (P * Q)) fun W j1 j2 j3 j4 => radded_sub W A B C D n m r s ca cb cc cd 130 x y P Q j1 sx rfl j3 sy rfl j2 sP (decide_eq_false (by omega)) j4 sQ (decide_eq_false (by omega)) (by omega) hP0 hQ0⟩

set_option maxHeartbeats 1000000 in
theorem mul_both (na nb nc nd : Bool) (xs ys us vs : List Nat) (gx : Good xs) (gy : Good ys) (gu : Good us) (gv : Good vs) (lx : xs.length ≤ 130) (ly : ys.length ≤ 130) (lu : us.length ≤ 130) (lv : vs.length ≤ 130) : ∃ np l1 nq l2 err,
    (∀ (w : World) (A B C D : Option Addr) (n m r s ca cb cc cd : Nat), Lm w w.heap.size A n ca xs → Lm w w.heap.size B m cb ys → Lm w w.heap.size C r cc us → Lm w w.heap.size D s cd vs → Calls Tryz.prog 10 #[fv na A n ca nb B m cb, fv nc C r cc nd D s cd] w (RG w np l1 nq l2 err)) ∧
    (∀ (w : World) (A B C D : Option Addr) (n m r s ca cb cc cd : Nat), Lm w w.heap.size A n ca xs → Lm w w.heap.size B m cb ys → Lm w w.heap.size C r cc us → Lm w w.heap.size D s cd vs → Calls Tryz.prog 11 #[fv na A n ca nb B m cb, fv nc C r cc nd D s cd] w (RG w np l1 nq l2 err)) := by
  have hcf2 : ∀ (u v : Value) (W : World), (callFunc 25 #[u, v]).run Tryz.prog W = .ok (.enter 25 #[u, v]) W := fun u v W => by go_simp
  have hcf3 : ∀ (u v z : Value) (W : World), (callFunc 38 (#[] ++ #[u, v, z])).run Tryz.prog W = .ok (.enter 38 (#[] ++ #[u, v, z])) W := fun u v z W => by go_simp
  by_cases hbad : fchk na xs nb ys = 8 ∨ fchk nc us nd vs = 8
  · exact ⟨false, [], false, [], 8, fun w A B C D n m r s ca cb cc cd hA hB hC hD => fmul_g w na nb nc nd A B C D n m r s ca cb cc cd xs ys us vs hA hB hC hD _ _ _ _ _ fun W h1 h2 h3 h4 => join_g W 25 na nb nc nd A B C D n m r s ca cb cc cd xs ys us vs h1 h2 h3 h4 _ _ _ _ _ fun W g0 ga gb qf qa qb i1 i2 i3 i4 => (attempt_no W 38 #[] #[_, _, _] 8 (hcf3 _ _ _) (joinf_bad (Wat W) g0 ga gb 25 na nb nc nd A B C D n m r s ca cb cc cd xs ys us vs (qf.via (wat_below W)) (qa.via (wat_below W)) (qb.via (wat_below W)) (i1.via (wat_below W)) (i2.via (wat_below W)) (i3.via (wat_below W)) (i4.via (wat_below W)) hbad)).mono fun e w' hr => rfx_rg hr, fun w A B C D n m r s ca cb cc cd hA hB hC hD => rmul_bad2 w na nb nc nd A B C D n m r s ca cb cc cd xs ys us vs hA hB hC hD hbad⟩
  · have hv1 : fchk na xs nb ys = 0 := (fchk_cases na xs nb ys).resolve_right fun h => hbad (.inl h)
    have hv2 : fchk nc us nd vs = 0 := (fchk_cases nc us nd vs).resolve_right fun h => hbad (.inr h)
    obtain ⟨x, P, e1, e2, sx, e3, e4, sP, hP0, hg1⟩ := of_fchk hv1 gx gy lx ly
    obtain ⟨y, Q, e5, e6, sy, e7, e8, sQ, hQ0, hg2⟩ := of_fchk hv2 gu gv lu lv
    subst e1 e2 e3 e4 e5 e6 e7 e8
    exact ⟨_, _, _, _, _, fun w A B C D n m r s ca cb cc cd hA hB hC hD => fmul_g w (decide (x < 0)) false (decide (y < 0)) false A B C D n m r s ca cb cc cd (digs x.natAbs) (digs P.natAbs) (digs y.natAbs) (digs Q.natAbs) hA hB hC hD _ _ _ _ _ fun W h1 h2 h3 h4 => join_g W 25 (decide (x < 0)) false (decide (y < 0)) false A B C D n m r s ca cb cc cd (digs x.natAbs) (digs P.natAbs) (digs y.natAbs) (digs Q.natAbs) h1 h2 h3 h4 _ _ _ _ _ fun W g0 ga gb qf qa qb i1 i2 i3 i4 => (attempt_ok W 38 #[] #[_, _, _] (x * y / dvr (x * y) (P * Q)) (P * Q / dvr (x * y) (P * Q)) (hcf3 _ _ _) (joinf_ok (Wat W) g0 ga gb 25 (decide (x < 0)) false (decide (y < 0)) false A B C D n m r s ca cb cc cd _ _ _ _ (qf.via (wat_below W)) (qa.via (wat_below W)) (qb.via (wat_below W)) (i1.via (wat_below W)) (i2.via (wat_below W)) (i3.via (wat_below W)) (i4.via (wat_below W)) hv1 hv2 (x * y / dvr (x * y) (P * Q)) (P * Q / dvr (x * y) (P * Q)) hcf2 fun W j1 j2 j3 j4 => times_n W A B C D n m r s ca cb cc cd 130 x y P Q j1 j2 j3 j4 sx sP sy sQ (by omega) rfl rfl hP0 hQ0)).mono fun e w' hr => rfe_rg hr, fun w A B C D n m r s ca cb cc cd hA hB hC hD => rmul_g w (decide (x < 0)) false (decide (y < 0)) false A B C D n m r s ca cb cc cd (digs x.natAbs) (digs P.natAbs) (digs y.natAbs) (digs Q.natAbs) hA hB hC hD hv1 hv2 (x * y / dvr (x * y) (P * Q)) (P * Q / dvr (x * y) (P * Q)) fun W j1 j2 j3 j4 => rprod_pos W A B C D n m r s ca cb cc cd 130 x y P Q j1 sx rfl j3 sy rfl j2 sP (decide_eq_false (by omega)) j4 sQ (decide_eq_false (by omega)) (by omega) (Int.mul_pos hP0 hQ0)⟩

set_option maxHeartbeats 1000000 in
theorem div_both (na nb nc nd : Bool) (xs ys us vs : List Nat) (gx : Good xs) (gy : Good ys) (gu : Good us) (gv : Good vs) (lx : xs.length ≤ 130) (ly : ys.length ≤ 130) (lu : us.length ≤ 130) (lv : vs.length ≤ 130) : ∃ np l1 nq l2 err,
    (∀ (w : World) (A B C D : Option Addr) (n m r s ca cb cc cd : Nat), Lm w w.heap.size A n ca xs → Lm w w.heap.size B m cb ys → Lm w w.heap.size C r cc us → Lm w w.heap.size D s cd vs → Calls Tryz.prog 12 #[fv na A n ca nb B m cb, fv nc C r cc nd D s cd] w (RG w np l1 nq l2 err)) ∧
    (∀ (w : World) (A B C D : Option Addr) (n m r s ca cb cc cd : Nat), Lm w w.heap.size A n ca xs → Lm w w.heap.size B m cb ys → Lm w w.heap.size C r cc us → Lm w w.heap.size D s cd vs → Calls Tryz.prog 13 #[fv na A n ca nb B m cb, fv nc C r cc nd D s cd] w (RG w np l1 nq l2 err)) := by
  have hcf2 : ∀ (u v : Value) (W : World), (callFunc 27 #[u, v]).run Tryz.prog W = .ok (.enter 27 #[u, v]) W := fun u v W => by go_simp
  have hcf3 : ∀ (u v z : Value) (W : World), (callFunc 38 (#[] ++ #[u, v, z])).run Tryz.prog W = .ok (.enter 38 (#[] ++ #[u, v, z])) W := fun u v z W => by go_simp
  by_cases hbad : fchk na xs nb ys = 8 ∨ fchk nc us nd vs = 8
  · exact ⟨false, [], false, [], 8, fun w A B C D n m r s ca cb cc cd hA hB hC hD => fdiv_g w na nb nc nd A B C D n m r s ca cb cc cd xs ys us vs hA hB hC hD _ _ _ _ _ fun W h1 h2 h3 h4 => join_g W 27 na nb nc nd A B C D n m r s ca cb cc cd xs ys us vs h1 h2 h3 h4 _ _ _ _ _ fun W g0 ga gb qf qa qb i1 i2 i3 i4 => (attempt_no W 38 #[] #[_, _, _] 8 (hcf3 _ _ _) (joinf_bad (Wat W) g0 ga gb 27 na nb nc nd A B C D n m r s ca cb cc cd xs ys us vs (qf.via (wat_below W)) (qa.via (wat_below W)) (qb.via (wat_below W)) (i1.via (wat_below W)) (i2.via (wat_below W)) (i3.via (wat_below W)) (i4.via (wat_below W)) hbad)).mono fun e w' hr => rfx_rg hr, fun w A B C D n m r s ca cb cc cd hA hB hC hD => rdiv_bad2 w na nb nc nd A B C D n m r s ca cb cc cd xs ys us vs hA hB hC hD hbad⟩
  · have hv1 : fchk na xs nb ys = 0 := (fchk_cases na xs nb ys).resolve_right fun h => hbad (.inl h)
    have hv2 : fchk nc us nd vs = 0 := (fchk_cases nc us nd vs).resolve_right fun h => hbad (.inr h)
    obtain ⟨x, P, e1, e2, sx, e3, e4, sP, hP0, hg1⟩ := of_fchk hv1 gx gy lx ly
    obtain ⟨y, Q, e5, e6, sy, e7, e8, sQ, hQ0, hg2⟩ := of_fchk hv2 gu gv lu lv
    subst e1 e2 e3 e4 e5 e6 e7 e8
    rcases Int.lt_trichotomy y 0 with hy0 | hy0 | hy0
    · exact ⟨_, _, _, _, _, fun w A B C D n m r s ca cb cc cd hA hB hC hD => fdiv_g w (decide (x < 0)) false (decide (y < 0)) false A B C D n m r s ca cb cc cd (digs x.natAbs) (digs P.natAbs) (digs y.natAbs) (digs Q.natAbs) hA hB hC hD _ _ _ _ _ fun W h1 h2 h3 h4 => join_g W 27 (decide (x < 0)) false (decide (y < 0)) false A B C D n m r s ca cb cc cd (digs x.natAbs) (digs P.natAbs) (digs y.natAbs) (digs Q.natAbs) h1 h2 h3 h4 _ _ _ _ _ fun W g0 ga gb qf qa qb i1 i2 i3 i4 => (attempt_ok W 38 #[] #[_, _, _] (x * Q / dvr (x * Q) (P * y)) (P * y / dvr (x * Q) (P * y)) (hcf3 _ _ _) (joinf_ok (Wat W) g0 ga gb 27 (decide (x < 0)) false (decide (y < 0)) false A B C D n m r s ca cb cc cd _ _ _ _ (qf.via (wat_below W)) (qa.via (wat_below W)) (qb.via (wat_below W)) (i1.via (wat_below W)) (i2.via (wat_below W)) (i3.via (wat_below W)) (i4.via (wat_below W)) hv1 hv2 (x * Q / dvr (x * Q) (P * y)) (P * y / dvr (x * Q) (P * y)) hcf2 fun W j1 j2 j3 j4 => over_neg W A B C D n m r s ca cb cc cd 130 x y P Q j1 j2 j3 j4 sx sP sy sQ (by omega) rfl rfl hP0 hQ0 hy0)).mono fun e w' hr => rfe_rg hr, fun w A B C D n m r s ca cb cc cd hA hB hC hD => rdiv_g w (decide (x < 0)) false (decide (y < 0)) false A B C D n m r s ca cb cc cd (digs x.natAbs) (digs P.natAbs) (digs y.natAbs) (digs Q.natAbs) hA hB hC hD hv1 hv2 (x * Q / dvr (x * Q) (P * y)) (P * y / dvr (x * Q) (P * y)) (by rw [← hC.len]; exact List.length_pos_iff.2 (by rw [Ne, digs_nil]; omega)) fun W j1 j2 j3 j4 => rprod_neg W A B D C n m s r ca cb cd cc 130 x Q P y j1 sx rfl j4 sQ (decide_eq_false (by omega)) j2 sP (decide_eq_false (by omega)) j3 sy rfl (by omega) (Int.mul_neg_of_pos_of_neg hP0 hy0)⟩
    · exact ⟨false, [], false, [], 18, fun w A B C D n m r s ca cb cc cd hA hB hC hD => fdiv_g w (decide (x < 0)) false (decide (y < 0)) false A B C D n m r s ca cb cc cd (digs x.natAbs) (digs P.natAbs) (digs y.natAbs) (digs Q.natAbs) hA hB hC hD _ _ _ _ _ fun W h1 h2 h3 h4 => join_g W 27 (decide (x < 0)) false (decide (y < 0)) false A B C D n m r s ca cb cc cd (digs x.natAbs) (digs P.natAbs) (digs y.natAbs) (digs Q.natAbs) h1 h2 h3 h4 _ _ _ _ _ fun W g0 ga gb qf qa qb i1 i2 i3 i4 => (attempt_no W 38 #[] #[_, _, _] 18 (hcf3 _ _ _) (joinf_pan (Wat W) g0 ga gb 27 (decide (x < 0)) false (decide (y < 0)) false A B C D n m r s ca cb cc cd _ _ _ _ (qf.via (wat_below W)) (qa.via (wat_below W)) (qb.via (wat_below W)) (i1.via (wat_below W)) (i2.via (wat_below W)) (i3.via (wat_below W)) (i4.via (wat_below W)) hv1 hv2 18 hcf2 fun W j1 j2 j3 j4 => over_zero W A B C D n m r s ca cb cc cd 130 x y P Q j1 j2 j3 j4 sx sP sy sQ (by omega) rfl rfl hP0 hQ0 hy0)).mono fun e w' hr => rfx_rg hr, fun w A B C D n m r s ca cb cc cd hA hB hC hD => rdiv_zero w (decide (x < 0)) false (decide (y < 0)) false A B C D n m r s ca cb cc cd (digs x.natAbs) (digs P.natAbs) (digs y.natAbs) (digs Q.natAbs) hA hB hC hD hv1 hv2 (by rw [← hC.len, hy0]; simp [digs_nil])⟩
    · exact ⟨_, _, _, _, _, fun w A B C D n m r s ca cb cc cd hA hB hC hD => fdiv_g w (decide (x < 0)) false (decide (y < 0)) false A B C D n m r s ca cb cc cd (digs x.natAbs) (digs P.natAbs) (digs y.natAbs) (digs Q.natAbs) hA hB hC hD _ _ _ _ _ fun W h1 h2 h3 h4 => join_g W 27 (decide (x < 0)) false (decide (y < 0)) false A B C D n m r s ca cb cc cd (digs x.natAbs) (digs P.natAbs) (digs y.natAbs) (digs Q.natAbs) h1 h2 h3 h4 _ _ _ _ _ fun W g0 ga gb qf qa qb i1 i2 i3 i4 => (attempt_ok W 38 #[] #[_, _, _] (x * Q / dvr (x * Q) (P * y)) (P * y / dvr (x * Q) (P * y)) (hcf3 _ _ _) (joinf_ok (Wat W) g0 ga gb 27 (decide (x < 0)) false (decide (y < 0)) false A B C D n m r s ca cb cc cd _ _ _ _ (qf.via (wat_below W)) (qa.via (wat_below W)) (qb.via (wat_below W)) (i1.via (wat_below W)) (i2.via (wat_below W)) (i3.via (wat_below W)) (i4.via (wat_below W)) hv1 hv2 (x * Q / dvr (x * Q) (P * y)) (P * y / dvr (x * Q) (P * y)) hcf2 fun W j1 j2 j3 j4 => over_pos W A B C D n m r s ca cb cc cd 130 x y P Q j1 j2 j3 j4 sx sP sy sQ (by omega) rfl rfl hP0 hQ0 hy0)).mono fun e w' hr => rfe_rg hr, fun w A B C D n m r s ca cb cc cd hA hB hC hD => rdiv_g w (decide (x < 0)) false (decide (y < 0)) false A B C D n m r s ca cb cc cd (digs x.natAbs) (digs P.natAbs) (digs y.natAbs) (digs Q.natAbs) hA hB hC hD hv1 hv2 (x * Q / dvr (x * Q) (P * y)) (P * y / dvr (x * Q) (P * y)) (by rw [← hC.len]; exact List.length_pos_iff.2 (by rw [Ne, digs_nil]; omega)) fun W j1 j2 j3 j4 => rprod_pos W A B D C n m s r ca cb cd cc 130 x Q P y j1 sx rfl j4 sQ (decide_eq_false (by omega)) j2 sP (decide_eq_false (by omega)) j3 sy rfl (by omega) (Int.mul_pos hP0 hy0)⟩

set_option maxHeartbeats 1000000 in
theorem cmp_both (na nb nc nd : Bool) (xs ys us vs : List Nat) (gx : Good xs) (gy : Good ys) (gu : Good us) (gv : Good vs) (lx : xs.length ≤ 130) (ly : ys.length ≤ 130) (lu : us.length ≤ 130) (lv : vs.length ≤ 130) : ∃ v err,
    (∀ (w : World) (A B C D : Option Addr) (n m r s ca cb cc cd : Nat), Lm w w.heap.size A n ca xs → Lm w w.heap.size B m cb ys → Lm w w.heap.size C r cc us → Lm w w.heap.size D s cd vs → Calls Tryz.prog 16 #[fv na A n ca nb B m cb, fv nc C r cc nd D s cd] w (RIE w v err)) ∧
    (∀ (w : World) (A B C D : Option Addr) (n m r s ca cb cc cd : Nat), Lm w w.heap.size A n ca xs → Lm w w.heap.size B m cb ys → Lm w w.heap.size C r cc us → Lm w w.heap.size D s cd vs → Calls Tryz.prog 17 #[fv na A n ca nb B m cb, fv nc C r cc nd D s cd] w (RIE w v err)) := by
  have hcf2 : ∀ (u v : Value) (W : World), (callFunc 33 #[u, v]).run Tryz.prog W = .ok (.enter 33 #[u, v]) W := fun u v W => by go_simp
  have hcf3 : ∀ (u v z : Value) (W : World), (callFunc 57 (#[] ++ #[u, v, z])).run Tryz.prog W = .ok (.enter 57 (#[] ++ #[u, v, z])) W := fun u v z W => by go_simp
  by_cases hbad : fchk na xs nb ys = 8 ∨ fchk nc us nd vs = 8
  · exact ⟨0, 8, fun w A B C D n m r s ca cb cc cd hA hB hC hD => fcmp_g w na nb nc nd A B C D n m r s ca cb cc cd xs ys us vs hA hB hC hD _ _ fun W h1 h2 h3 h4 => joini_g W 33 na nb nc nd A B C D n m r s ca cb cc cd xs ys us vs h1 h2 h3 h4 _ _ fun W g0 ga gb qf qa qb i1 i2 i3 i4 => attempti_no W 57 #[] #[_, _, _] 8 (hcf3 _ _ _) (joini_bad (Wai W) g0 ga gb 33 na nb nc nd A B C D n m r s ca cb cc cd xs ys us vs (qf.via (wai_below W)) (qa.via (wai_below W)) (qb.via (wai_below W)) (i1.via (wai_below W)) (i2.via (wai_below W)) (i3.via (wai_below W)) (i4.via (wai_below W)) hbad), fun w A B C D n m r s ca cb cc cd hA hB hC hD => rcmp_bad2 w na nb nc nd A B C D n m r s ca cb cc cd xs ys us vs hA hB hC hD hbad⟩
  · have hv1 : fchk na xs nb ys = 0 := (fchk_cases na xs nb ys).resolve_right fun h => hbad (.inl h)
    have hv2 : fchk nc us nd vs = 0 := (fchk_cases nc us nd vs).resolve_right fun h => hbad (.inr h)
    obtain ⟨x, P, e1, e2, sx, e3, e4, sP, hP0, hg1⟩ := of_fchk hv1 gx gy lx ly
    obtain ⟨y, Q, e5, e6, sy, e7, e8, sQ, hQ0, hg2⟩ := of_fchk hv2 gu gv lu lv
    subst e1 e2 e3 e4 e5 e6 e7 e8
    exact ⟨_, _, fun w A B C D n m r s ca cb cc cd hA hB hC hD => fcmp_g w (decide (x < 0)) false (decide (y < 0)) false A B C D n m r s ca cb cc cd (digs x.natAbs) (digs P.natAbs) (digs y.natAbs) (digs Q.natAbs) hA hB hC hD _ _ fun W h1 h2 h3 h4 => joini_g W 33 (decide (x < 0)) false (decide (y < 0)) false A B C D n m r s ca cb cc cd (digs x.natAbs) (digs P.natAbs) (digs y.natAbs) (digs Q.natAbs) h1 h2 h3 h4 _ _ fun W g0 ga gb qf qa qb i1 i2 i3 i4 => attempti_ok W 57 #[] #[_, _, _] (cmpZ (x * Q) (y * P)) (hcf3 _ _ _) (joini_ok (Wai W) g0 ga gb 33 (decide (x < 0)) false (decide (y < 0)) false A B C D n m r s ca cb cc cd _ _ _ _ (qf.via (wai_below W)) (qa.via (wai_below W)) (qb.via (wai_below W)) (i1.via (wai_below W)) (i2.via (wai_below W)) (i3.via (wai_below W)) (i4.via (wai_below W)) hv1 hv2 (cmpZ (x * Q) (y * P)) hcf2 fun W j1 j2 j3 j4 => compare_n W A B C D n m r s ca cb cc cd 130 x y P Q j1 j2 j3 j4 sx sP sy sQ (by omega) rfl rfl hP0 hQ0), fun w A B C D n m r s ca cb cc cd hA hB hC hD => rcmp_g w (decide (x < 0)) (decide (y < 0)) A B C D n m r s ca cb cc cd 130 x P y Q hA sx hB sP hC sy hD sQ (by omega) rfl rfl hP0 hQ0 hv1 hv2⟩

end Go.Proofs.YtioccpbohhhkpaaGreat

/- Both sides of Neg; the law FracReckons where a fraction is great. -/
namespace Go.Proofs.YtioccpbohhhkpaaGreat
open Go.RowKit

set_option maxHeartbeats 1000000 in
theorem neg_both (na nb : Bool) (xs ys : List Nat) (gx : Good xs) (gy : Good ys) (lx : xs.length ≤ 130) (ly : ys.length ≤ 130) : ∃ np l1 nq l2 err,
    (∀ (w : World) (A B : Option Addr) (n m ca cb : Nat), Lm w w.heap.size A n ca xs → Lm w w.heap.size B m cb ys → Calls Tryz.prog 14 #[fv na A n ca nb B m cb] w (RG w np l1 nq l2 err)) ∧
    (∀ (w : World) (A B : Option Addr) (n m ca cb : Nat), Lm w w.heap.size A n ca xs → Lm w w.heap.size B m cb ys → Calls Tryz.prog 15 #[fv na A n ca nb B m cb] w (RG w np l1 nq l2 err)) := by
  have hcf2 : ∀ (u : Value) (W : World), (callFunc 29 #[u]).run Tryz.prog W = .ok (.enter 29 #[u]) W := fun u W => by go_simp
  have hcf3 : ∀ (u v : Value) (W : World), (callFunc 48 (#[] ++ #[u, v])).run Tryz.prog W = .ok (.enter 48 (#[] ++ #[u, v])) W := fun u v W => by go_simp
  rcases fchk_cases na xs nb ys with hv | hv
  · obtain ⟨x, P, e1, e2, sx, e3, e4, sP, hP0, hg1⟩ := of_fchk hv gx gy lx ly
    subst e1 e2 e3 e4
    exact ⟨_, _, _, _, _, fun w A B n m ca cb hA hB => fneg_g w (decide (x < 0)) false A B n m ca cb (digs x.natAbs) (digs P.natAbs) hA hB _ _ _ _ _ fun W h1 h2 => change_g W 29 (decide (x < 0)) false A B n m ca cb (digs x.natAbs) (digs P.natAbs) h1 h2 _ _ _ _ _ fun W g0 ga qf qa i1 i2 =>
        (attempt_ok W 48 #[] #[_, _] (-x) P (hcf3 _ _) (changef_ok (Wat W) g0 ga 29 (decide (x < 0)) false A B n m ca cb _ _ (qf.via (wat_below W)) (qa.via (wat_below W)) (i1.via (wat_below W)) (i2.via (wat_below W)) hv (-x) P hcf2 fun W j1 j2 => negative_n W A B n m ca cb 130 x P j1 j2 sx sP (by omega) rfl hP0)).mono fun e w' hr => rfe_rg hr,
      fun w A B n m ca cb hA hB => rneg_g w (decide (x < 0)) A B n m ca cb 130 x P hA hB sx (by omega) rfl hP0 hv⟩
  · exact ⟨false, [], false, [], 8, fun w A B n m ca cb hA hB => fneg_g w na nb A B n m ca cb xs ys hA hB _ _ _ _ _ fun W h1 h2 => change_g W 29 na nb A B n m ca cb xs ys h1 h2 _ _ _ _ _ fun W g0 ga qf qa i1 i2 =>
        (attempt_no W 48 #[] #[_, _] 8 (hcf3 _ _) (changef_bad (Wat W) g0 ga 29 na nb A B n m ca cb xs ys (qf.via (wat_below W)) (qa.via (wat_below W)) (i1.via (wat_below W)) (i2.via (wat_below W)) hv)).mono fun e w' hr => rfx_rg hr,
      fun w A B n m ca cb hA hB => rneg_bad2 w na nb A B n m ca cb xs ys hA hB hv⟩

set_option maxRecDepth 100000 in
set_option maxHeartbeats 2000000 in
theorem reckons_great1 (w : World) (na nb nc nd : Bool) (A B C D : Option Addr) (n m r s ca cb cc cd : Nat) (xs ys us vs : List Nat) (hA : Lm w w.heap.size A n ca xs) (hB : Lm w w.heap.size B m cb ys) (hC : Lm w w.heap.size C r cc us) (hD : Lm w w.heap.size D s cd vs) (hg : 130 < n ∨ 130 < m) :
    Calls Tryz.prog 3 #[fv na A n ca nb B m cb, fv nc C r cc nd D s cd] w fun e w' => e = .returned (.bool true) ∧ Below w.heap.size w w' := by
  have HG : Hid ((decide (130 < n) || decide (130 < m)) = true) := by show _ = _; simpa using hg
  clear hg
  have p0 := hA.cap
  have q0 := hA.max
  have p1 := hB.cap
  have q1 := hB.max
  have p2 := hC.cap
  have q2 := hC.max
  have p3 := hD.cap
  have q3 := hD.max
  have HA := Lib.hid hA
  have HB := Lib.hid hB
  have HC := Lib.hid hC
  have HD := Lib.hid hD
  clear hA hB hC hD
  go_enter Tryz.func3, Tryz.ntmps3
  have QA := Lib.hid ((Qd.new w (w.heap.size) rfl (.bool na) (.slice A n ca) (.bool nb) (.slice B m cb) 26).alloc (.cells #[.bool nc, .slice C r cc, .bool nd, .slice D s cd] 26))
  have QB := Lib.hid (Qd.new (w.alloc (.cells #[.bool na, .slice A n ca, .bool nb, .slice B m cb] 26)) (w.heap.size + 1) (by simp) (.bool nc) (.slice C r cc) (.bool nd) (.slice D s cd) 26)
  have LA := Lib.hid ((HA.out.box (.cells #[.bool na, .slice A n ca, .bool nb, .slice B m cb] 26)).box (.cells #[.bool nc, .slice C r cc, .bool nd, .slice D s cd] 26))
  have LB := Lib.hid ((HB.out.box (.cells #[.bool na, .slice A n ca, .bool nb, .slice B m cb] 26)).box (.cells #[.bool nc, .slice C r cc, .bool nd, .slice D s cd] 26))
  have LC := Lib.hid ((HC.out.box (.cells #[.bool na, .slice A n ca, .bool nb, .slice B m cb] 26)).box (.cells #[.bool nc, .slice C r cc, .bool nd, .slice D s cd] 26))
  have LD := Lib.hid ((HD.out.box (.cells #[.bool na, .slice A n ca, .bool nb, .slice B m cb] 26)).box (.cells #[.bool nc, .slice C r cc, .bool nd, .slice D s cd] 26))
  have BW : Hid (Below w.heap.size w ((w.alloc (.cells #[.bool na, .slice A n ca, .bool nb, .slice B m cb] 26)).alloc (.cells #[.bool nc, .slice C r cc, .bool nd, .slice D s cd] 26))) := (below_alloc (below_alloc (Below.refl _ _) _) _)
  clear HA HB HC HD
  go_wp2_with fail
  generalize (w.alloc (.cells #[.bool na, .slice A n ca, .bool nb, .slice B m cb] 26)).alloc (.cells #[.bool nc, .slice C r cc, .bool nd, .slice D s cd] 26) = W0 at *
  refine (fgreat_any _ na nb A B n m ca cb p0 q0 p1 q1).mono ?_
  rintro e w1 ⟨rfl, hb⟩
  replace QA := Lib.hid (QA.out.via hb)
  replace QB := Lib.hid (QB.out.via hb)
  replace LA := Lib.hid (LA.out.via hb)
  replace LB := Lib.hid (LB.out.via hb)
  replace LC := Lib.hid (LC.out.via hb)
  replace LD := Lib.hid (LD.out.via hb)
  replace BW := Lib.hid (btr BW.out hb)
  clear hb
  rw [HG.out]
  go_wp2
  go_ret
  exact ⟨rfl, BW.out⟩

set_option maxRecDepth 100000 in
set_option maxHeartbeats 2000000 in
theorem reckons_great2 (w : World) (na nb nc nd : Bool) (A B C D : Option Addr) (n m r s ca cb cc cd : Nat) (xs ys us vs : List Nat) (hA : Lm w w.heap.size A n ca xs) (hB : Lm w w.heap.size B m cb ys) (hC : Lm w w.heap.size C r cc us) (hD : Lm w w.heap.size D s cd vs) (hg : 130 < r ∨ 130 < s) (hf : ¬ (130 < n ∨ 130 < m)) :
    Calls Tryz.prog 3 #[fv na A n ca nb B m cb, fv nc C r cc nd D s cd] w fun e w' => e = .returned (.bool true) ∧ Below w.heap.size w w' := by
  have HF : Hid ((decide (130 < n) || decide (130 < m)) = false) := by show _ = _; simp; omega
  have HG : Hid ((decide (130 < r) || decide (130 < s)) = true) := by show _ = _; simpa using hg
  clear hg hf
  have p0 := hA.cap
  have q0 := hA.max
  have p1 := hB.cap
  have q1 := hB.max
  have p2 := hC.cap
  have q2 := hC.max
  have p3 := hD.cap
  have q3 := hD.max
  have HA := Lib.hid hA
  have HB := Lib.hid hB
  have HC := Lib.hid hC
  have HD := Lib.hid hD
  clear hA hB hC hD
  go_enter Tryz.func3, Tryz.ntmps3
  have QA := Lib.hid ((Qd.new w (w.heap.size) rfl (.bool na) (.slice A n ca) (.bool nb) (.slice B m cb) 26).alloc (.cells #[.bool nc, .slice C r cc, .bool nd, .slice D s cd] 26))
  have QB := Lib.hid (Qd.new (w.alloc (.cells #[.bool na, .slice A n ca, .bool nb, .slice B m cb] 26)) (w.heap.size + 1) (by simp) (.bool nc) (.slice C r cc) (.bool nd) (.slice D s cd) 26)
  have LA := Lib.hid ((HA.out.box (.cells #[.bool na, .slice A n ca, .bool nb, .slice B m cb] 26)).box (.cells #[.bool nc, .slice C r cc, .bool nd, .slice D s cd] 26))
  have LB := Lib.hid ((HB.out.box (.cells #[.bool na, .slice A n ca, .bool nb, .slice B m cb] 26)).box (.cells #[.bool nc, .slice C r cc, .bool nd, .slice D s cd] 26))
  have LC := Lib.hid ((HC.out.box (.cells #[.bool na, .slice A n ca, .bool nb, .slice B m cb] 26)).box (.cells #[.bool nc, .slice C r cc, .bool nd, .slice D s cd] 26))
  have LD := Lib.hid ((HD.out.box (.cells #[.bool na, .slice A n ca, .bool nb, .slice B m cb] 26)).box (.cells #[.bool nc, .slice C r cc, .bool nd, .slice D s cd] 26))
  have BW : Hid (Below w.heap.size w ((w.alloc (.cells #[.bool na, .slice A n ca, .bool nb, .slice B m cb] 26)).alloc (.cells #[.bool nc, .slice C r cc, .bool nd, .slice D s cd] 26))) := (below_alloc (below_alloc (Below.refl _ _) _) _)
  clear HA HB HC HD
  go_wp2_with fail
  generalize (w.alloc (.cells #[.bool na, .slice A n ca, .bool nb, .slice B m cb] 26)).alloc (.cells #[.bool nc, .slice C r cc, .bool nd, .slice D s cd] 26) = W0 at *
  refine (fgreat_any _ na nb A B n m ca cb p0 q0 p1 q1).mono ?_
  rintro e w1 ⟨rfl, hb⟩
  replace QA := Lib.hid (QA.out.via hb)
  replace QB := Lib.hid (QB.out.via hb)
  replace LA := Lib.hid (LA.out.via hb)
  replace LB := Lib.hid (LB.out.via hb)
  replace LC := Lib.hid (LC.out.via hb)
  replace LD := Lib.hid (LD.out.via hb)
  replace BW := Lib.hid (btr BW.out hb)
  clear hb
  rw [HF.out]
  have ⟨rQB0, rQB1, rQB2, rQB3, rQB4, rQB5, rQB6, rQB7, rQBl⟩ := QB.out
  go_wp2_with fail
  clear rQB0 rQB1 rQB2 rQB3 rQB4 rQB5 rQB6 rQB7 rQBl
  refine (fgreat_any _ nc nd C D r s cc cd p2 q2 p3 q3).mono ?_
  rintro e w2 ⟨rfl, hb⟩
  replace QA := Lib.hid (QA.out.via hb)
  replace QB := Lib.hid (QB.out.via hb)
  replace LA := Lib.hid (LA.out.via hb)
  replace LB := Lib.hid (LB.out.via hb)
  replace LC := Lib.hid (LC.out.via hb)
  replace LD := Lib.hid (LD.out.via hb)
  replace BW := Lib.hid (btr BW.out hb)
  clear hb
  rw [HG.out]
  go_wp2
  go_ret
  exact ⟨rfl, BW.out⟩

end Go.Proofs.YtioccpbohhhkpaaGreat

