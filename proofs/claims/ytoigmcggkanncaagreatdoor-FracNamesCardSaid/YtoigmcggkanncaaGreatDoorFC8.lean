/- Lemmas of several claims. -/
import Derived.Deep.RegionLaw
import Derived.Laws.OwnMore
import Derived.Deep.DeepCutAuto
import Derived.Deep.RegionHeld3
import Derived.Test.YtoigmcggkanncaaGreatDoorFC7
/- Package frac: ratio.add, with differences. -/
namespace Go.Proofs.YtoigmcggkanncaaGreatDoor
open Go.RowKit

set_option maxRecDepth 100000 in
set_option maxHeartbeats 4000000 in
theorem add_minus (w : World) (A B C D : Option Addr) (n m r s ca cb cc cd k : Nat) (x y P Q : Int) (hA : Lm w w.heap.size A n ca (digs x.natAbs)) (hB : Lm w w.heap.size B m cb (digs P.natAbs)) (hC : Lm w w.heap.size C r cc (digs y.natAbs)) (hD : Lm w w.heap.size D s cd (digs Q.natAbs))
    (hx : Sz k x) (hP : Sz k P) (hy : Sz k y) (hQ : Sz k Q) (hk : k ≤ 300) {na nb : Bool} (ha : decide (x < 0) = na) (hb : decide (y < 0) = nb) (hP0 : 0 < P) (hQ0 : 0 < Q) (t : Int) (ht : x * Q - y * P = t * (Nat.gcd P.natAbs Q.natAbs : Int))
    (hg : Nat.gcd (x * Q - y * P).natAbs (P * Q).natAbs = Nat.gcd P.natAbs Q.natAbs * Nat.gcd t.natAbs (Nat.gcd P.natAbs Q.natAbs)) :
    Calls Tryz.prog 95 #[fv na A n ca false B m cb, fv nb C r cc false D s cd, .func (.func 98) #[] #[]] w (RFr w ((x * Q - y * P) / dvr (x * Q - y * P) (P * Q)) ((P * Q) / dvr (x * Q - y * P) (P * Q))) := by
  have SX := Lib.hid hx
  have SP := Lib.hid hP
  have SY := Lib.hid hy
  have SQ := Lib.hid hQ
  have HNa := Lib.hid ha
  have HNb := Lib.hid hb
  have HP0 := Lib.hid hP0
  have HQ0 := Lib.hid hQ0
  have DP : Hid (decide (P < 0) = false) := decide_eq_false (by omega)
  have DQ : Hid (decide (Q < 0) = false) := decide_eq_false (by omega)
  have XQ := Lib.hid (hx.mul hQ)
  have YP := Lib.hid (hy.mul hP)
  have PQ := Lib.hid (hP.mul hQ)
  have SN := Lib.hid ((hx.mul hQ).sub (hy.mul hP))
  have DPQ : Hid (decide (P * Q < 0) = false) := decide_eq_false (by have := Int.mul_pos hP0 hQ0; omega)
  have HPQ : Hid (0 < P * Q) := Int.mul_pos hP0 hQ0
  have HT := Lib.hid ht
  have HGG := Lib.hid hg
  have HA := Lib.hid hA
  have HB := Lib.hid hB
  have HC := Lib.hid hC
  have HD := Lib.hid hD
  have HPn : Hid (0 < P.natAbs) := by show _ < _; omega
  clear hx hP hy hQ ha hb hP0 hQ0 ht hg hA hB hC hD
  obtain ⟨N, hN⟩ : ∃ N, x * Q - y * P = N := ⟨_, rfl⟩
  rw [hN] at HT HGG SN ⊢
  have HN := Lib.hid hN
  clear hN
  go_enter Tryz.func95, Tryz.ntmps95
  have Q3 := Lib.hid (((Qd.new w _ rfl (.bool na) (.slice A n ca) (.bool false) (.slice B m cb) 69).alloc (.cells #[.bool nb, .slice C r cc, .bool false, .slice D s cd] 69)).alloc (.cells #[.bool false, .slice none 0 0, .bool false, .slice none 0 0] 29))
  have Q4 := Lib.hid ((Qd.new (w.alloc (.cells #[.bool na, .slice A n ca, .bool false, .slice B m cb] 69)) (w.heap.size + 1) (by simp) (.bool nb) (.slice C r cc) (.bool false) (.slice D s cd) 69).alloc (.cells #[.bool false, .slice none 0 0, .bool false, .slice none 0 0] 29))
  have QR := Lib.hid (Qd.new ((w.alloc (.cells #[.bool na, .slice A n ca, .bool false, .slice B m cb] 69)).alloc (.cells #[.bool nb, .slice C r cc, .bool false, .slice D s cd] 69)) (w.heap.size + 1 + 1) (by simp) (.bool false) (.slice none 0 0) (.bool false) (.slice none 0 0) 29)
  have LA := Lib.hid (((HA.out.box (.cells #[.bool na, .slice A n ca, .bool false, .slice B m cb] 69)).box (.cells #[.bool nb, .slice C r cc, .bool false, .slice D s cd] 69)).box (.cells #[.bool false, .slice none 0 0, .bool false, .slice none 0 0] 29))
  have LB := Lib.hid (((HB.out.box (.cells #[.bool na, .slice A n ca, .bool false, .slice B m cb] 69)).box (.cells #[.bool nb, .slice C r cc, .bool false, .slice D s cd] 69)).box (.cells #[.bool false, .slice none 0 0, .bool false, .slice none 0 0] 29))
  have LC := Lib.hid (((HC.out.box (.cells #[.bool na, .slice A n ca, .bool false, .slice B m cb] 69)).box (.cells #[.bool nb, .slice C r cc, .bool false, .slice D s cd] 69)).box (.cells #[.bool false, .slice none 0 0, .bool false, .slice none 0 0] 29))
  have LD := Lib.hid (((HD.out.box (.cells #[.bool na, .slice A n ca, .bool false, .slice B m cb] 69)).box (.cells #[.bool nb, .slice C r cc, .bool false, .slice D s cd] 69)).box (.cells #[.bool false, .slice none 0 0, .bool false, .slice none 0 0] 29))
  have BW : Hid (Below w.heap.size w (((w.alloc (.cells #[.bool na, .slice A n ca, .bool false, .slice B m cb] 69)).alloc (.cells #[.bool nb, .slice C r cc, .bool false, .slice D s cd] 69)).alloc (.cells #[.bool false, .slice none 0 0, .bool false, .slice none 0 0] 29))) := below_alloc (below_alloc (below_alloc (Below.refl _ _) _) _) _
  clear HA HB HC HD
  go_wp2_with fail
  generalize ((w.alloc (.cells #[.bool na, .slice A n ca, .bool false, .slice B m cb] 69)).alloc (.cells #[.bool nb, .slice C r cc, .bool false, .slice D s cd] 69)).alloc (.cells #[.bool false, .slice none 0 0, .bool false, .slice none 0 0] 29) = W0 at *
  have hrl := QR.out.lt
  have HKS : Hid (∀ X : World, Below W0.heap.size W0 X → X.cell? ⟨w.heap.size, 0, none⟩ = some (.bool na) ∧ X.cell? ⟨w.heap.size, 1, none⟩ = some (.slice A n ca) ∧ X.cell? ⟨w.heap.size, 2, none⟩ = some (.bool false) ∧ X.cell? ⟨w.heap.size, 3, none⟩ = some (.slice B m cb) ∧ X.cell? ⟨w.heap.size + 1, 0, none⟩ = some (.bool nb) ∧ X.cell? ⟨w.heap.size + 1, 1, none⟩ = some (.slice C r cc) ∧ X.cell? ⟨w.heap.size + 1, 2, none⟩ = some (.bool false) ∧ X.cell? ⟨w.heap.size + 1, 3, none⟩ = some (.slice D s cd)) := fun X h => ⟨(Q3.out.via h).c0, (Q3.out.via h).c1, (Q3.out.via h).c2, (Q3.out.via h).c3, (Q4.out.via h).c0, (Q4.out.via h).c1, (Q4.out.via h).c2, (Q4.out.via h).c3⟩
  go_cut [7] (fun sl wx => ∃ g A3 n3 c3, sl = .pointer (some ⟨g, 0, none⟩) ∧ Pr wx g (.bool (decide (N < 0))) (.slice A3 n3 c3) ∧ Lm wx wx.heap.size A3 n3 c3 (digs N.natAbs) ∧ W0.heap.size ≤ g ∧ Below W0.heap.size W0 wx)
  case first =>
    go_region_held3 (fun w' => w'.cell? ⟨w.heap.size, 0, none⟩ = some (.bool na) ∧ w'.cell? ⟨w.heap.size, 1, none⟩ = some (.slice A n ca) ∧ w'.cell? ⟨w.heap.size, 2, none⟩ = some (.bool false) ∧ w'.cell? ⟨w.heap.size, 3, none⟩ = some (.slice B m cb) ∧ w'.cell? ⟨w.heap.size + 1, 0, none⟩ = some (.bool nb) ∧ w'.cell? ⟨w.heap.size + 1, 1, none⟩ = some (.slice C r cc) ∧ w'.cell? ⟨w.heap.size + 1, 2, none⟩ = some (.bool false) ∧ w'.cell? ⟨w.heap.size + 1, 3, none⟩ = some (.slice D s cd))
      (first | (refine HKS.out _ ?_; (repeat' (first | exact Bd | exact Bc | exact B2 | exact B1 | exact (Below.refl _ _).drew | exact Below.refl _ _ | refine below_alloc ?_ _ | refine Below.drew ?_ | refine Below.setCell ?_ ?_ _)); all_goals (first | omega | (simp; done) | (simp; omega))))
      (first
       | (go_at_call_of 80 (Value.agg #[Value.bool na, Value.slice A n ca]); refine (prod_n _ A D n s ca cd k x Q (by first | exact LA.out.via B2 | exact (LA.out.via B2).box _ | exact LA.out.drew | exact (LA.out.box _).drew | exact LA.out | exact LA.out.box _) (by first | exact LD.out.via B2 | exact (LD.out.via B2).box _ | exact LD.out.drew | exact (LD.out.box _).drew | exact LD.out | exact LD.out.box _) SX.out SQ.out (by omega) HNa.out DQ.out).mono ?_; rintro e wa ⟨A1, n1, c1, rfl, hL1, hb1⟩; have B1 : Below W0.heap.size W0 wa := (by first | exact btr B2 hb1 | exact btr B2 (bbox hb1) | exact (Below.refl _ _).drew.trans hb1 | exact b_one_d hb1 | exact hb1 | exact bbox hb1); have B1s := B1.size; (try (have F0 : Pr _ W0.heap.size (.bool false) (.slice none 0 0) := (by first | exact (Pr.new W0 _ rfl _ _ 24).via hb1 | exact (Pr.new W0 _ rfl _ _ 24).drew.via hb1))); (try (have ⟨F0a, F0b, F0c, F0d, F0e⟩ := F0)); (try (have F0 := (by first | exact F0.via hb1 | exact (F0.alloc _).via hb1))); (try (have F1 : Pr _ wb.heap.size (.bool false) (.slice none 0 0) := (by first | exact (Pr.new wb _ rfl _ _ 24).via hb1))); (try (have ⟨F0a, F0b, F0c, F0d, F0e⟩ := F0)); (try (have ⟨F1a, F1b, F1c, F1d, F1e⟩ := F1)))
       | (go_at_call_of 80 (Value.agg #[Value.bool nb, Value.slice C r cc]); refine (prod_n _ C B r m cc cb k y P (by first | exact LC.out.via B1 | exact (LC.out.via B1).box _ | exact LC.out.drew | exact (LC.out.box _).drew | exact LC.out | exact LC.out.box _) (by first | exact LB.out.via B1 | exact (LB.out.via B1).box _ | exact LB.out.drew | exact (LB.out.box _).drew | exact LB.out | exact LB.out.box _) SY.out SP.out (by omega) HNb.out DP.out).mono ?_; rintro e wb ⟨A2, n2, c2, rfl, hL2, hb2⟩; have B2 : Below W0.heap.size W0 wb := (by first | exact btr B1 hb2 | exact btr B1 (bbox hb2) | exact (Below.refl _ _).drew.trans hb2 | exact b_one_d hb2 | exact hb2 | exact bbox hb2); have B2s := B2.size; (try (have F0 : Pr _ W0.heap.size (.bool false) (.slice none 0 0) := (by first | exact (Pr.new W0 _ rfl _ _ 24).via hb2 | exact (Pr.new W0 _ rfl _ _ 24).drew.via hb2))); (try (have ⟨F0a, F0b, F0c, F0d, F0e⟩ := F0)); (try (have F0 := (by first | exact F0.via hb2 | exact (F0.alloc _).via hb2))); (try (have F1 : Pr _ wa.heap.size (.bool false) (.slice none 0 0) := (by first | exact (Pr.new wa _ rfl _ _ 24).via hb2))); (try (have ⟨F0a, F0b, F0c, F0d, F0e⟩ := F0)); (try (have ⟨F1a, F1b, F1c, F1d, F1e⟩ := F1)))
       | (go_at_call 98; refine (sub_n _ A1 A2 n1 n2 c1 c2 (k + k) (x * Q) (y * P) (by first | exact hL1 | exact hL1.box _ | exact hL1.via hb2 | exact (hL1.via hb2).box _ | exact (hL1.box _).via hb2 | exact ((hL1.box _).via hb2).box _) (by first | exact hL2 | exact hL2.box _ | exact hL2.via hb1 | exact (hL2.via hb1).box _ | exact (hL2.box _).via hb1 | exact ((hL2.box _).via hb1).box _) XQ.out YP.out (by omega) rfl rfl).mono ?_; rw [HN.out]; rintro e wc ⟨A3, n3, c3, rfl, hL3, hb3⟩; have Bc : Below W0.heap.size W0 wc := (by first | exact btr B2 hb3 | exact btr B2 (bbox hb3) | exact btr B1 hb3 | exact btr B1 (bbox hb3) | exact (Below.refl _ _).drew.trans hb3 | exact b_one_d hb3 | exact hb3 | exact bbox hb3); have Bcs := Bc.size; (try (have F0 := (by first | exact F0.via hb3 | exact (F0.alloc _).via hb3))); (try (have F1 := (by first | exact F1.via hb3 | exact (F1.alloc _).via hb3))); (try (have F2 : Pr _ wb.heap.size (.bool false) (.slice none 0 0) := (by first | exact (Pr.new wb _ rfl _ _ 24).via hb3))); (try (have F2 : Pr _ wa.heap.size (.bool false) (.slice none 0 0) := (by first | exact (Pr.new wa _ rfl _ _ 24).via hb3))); (try (have ⟨F0a, F0b, F0c, F0d, F0e⟩ := F0)); (try (have ⟨F1a, F1b, F1c, F1d, F1e⟩ := F1)); (try (have ⟨F2a, F2b, F2c, F2d, F2e⟩ := F2)))
       | (go_at_call 84; refine (must_ok _ _ _ _ _).mono ?_; rintro e wd ⟨rfl, hb4⟩; have Bd : Below W0.heap.size W0 wd := (by first | exact btr Bc hb4 | exact btr Bc (bbox hb4) | exact (Below.refl _ _).drew.trans hb4 | exact b_one_d hb4 | exact hb4 | exact bbox hb4); have Bds := Bd.size; have hL4 := (by first | exact hL3.via hb4 | exact (hL3.box _).via hb4); (try (have F0 := (by first | exact F0.via hb4 | exact (F0.alloc _).via hb4))); (try (have F1 := (by first | exact F1.via hb4 | exact (F1.alloc _).via hb4))); (try (have F2 := (by first | exact F2.via hb4 | exact (F2.alloc _).via hb4))); (try (have F3 : Pr _ wc.heap.size (.bool false) (.slice none 0 0) := (by first | exact (Pr.new wc _ rfl _ _ 24).via hb4))); (try (have ⟨F0a, F0b, F0c, F0d, F0e⟩ := F0)); (try (have ⟨F1a, F1b, F1c, F1d, F1e⟩ := F1)); (try (have ⟨F2a, F2b, F2c, F2d, F2e⟩ := F2)); (try (have ⟨F3a, F3b, F3c, F3d, F3e⟩ := F3)))
       | fail)
    all_goals
      go_wp2_with fail
      go_meet
      first
        | exact ⟨_, A3, n3, c3, rfl, Pr.new _ _ rfl _ _ _, hL4.box _, Bd.size, below_alloc Bd _⟩
        | exact ⟨_, A3, n3, c3, rfl, F0.set _ _, hL4.setP F0 _ _, (by first | exact Nat.le_refl _ | exact B1s | exact B2s | exact Bcs), below_set2 Bd (by first | exact Nat.le_refl _ | exact B1s | exact B2s | exact Bcs) _ _⟩
        | exact ⟨_, A3, n3, c3, rfl, F1.set _ _, hL4.setP F1 _ _, (by first | exact Nat.le_refl _ | exact B1s | exact B2s | exact Bcs), below_set2 Bd (by first | exact Nat.le_refl _ | exact B1s | exact B2s | exact Bcs) _ _⟩
        | exact ⟨_, A3, n3, c3, rfl, F2.set _ _, hL4.setP F2 _ _, (by first | exact Nat.le_refl _ | exact B1s | exact B2s | exact Bcs), below_set2 Bd (by first | exact Nat.le_refl _ | exact B1s | exact B2s | exact Bcs) _ _⟩
        | exact ⟨_, A3, n3, c3, rfl, F3.set _ _, hL4.setP F3 _ _, (by first | exact Nat.le_refl _ | exact B1s | exact B2s | exact Bcs), below_set2 Bd (by first | exact Nat.le_refl _ | exact B1s | exact B2s | exact Bcs) _ _⟩
  case rest =>
  obtain ⟨g7, A3, n3, c3, rfl, hP7, hL3, hg7, hbx⟩ := hcut
  obtain ⟨nN, hnN⟩ : ∃ b, decide (N < 0) = b := ⟨_, rfl⟩
  rw [hnN] at hP7
  have HNN := Lib.hid hnN
  have KA := Lib.hid (Q3.out.via hbx)
  have KB := Lib.hid (Q4.out.via hbx)
  have KR := Lib.hid (QR.out.via hbx)
  have MB := Lib.hid (LB.out.via hbx)
  have MD := Lib.hid (LD.out.via hbx)
  have P7 := Lib.hid hP7
  have L7 := Lib.hid hL3
  have BB := Lib.hid (BW.out.trans (hbx.mono BW.out.size))
  clear hnN hP7 hL3 hbx HKS Q3 Q4 QR LA LB LC LD BW XQ YP
  have ⟨_, _, a2, a3, _, _, _, _, al⟩ := KA.out
  have ⟨_, _, b2, b3, _, _, _, _, bl⟩ := KB.out
  go_wp2_with fail
  refine (prod_n _ B D m s cb cd k P Q MB.out MD.out SP.out SQ.out (by omega) DP.out DQ.out).mono ?_
  rintro e w2 ⟨A8, n8, c8, rfl, hL8, hb8⟩
  rw [DPQ.out]
  clear a2 a3 al b2 b3 bl
  have ⟨_, _, a2, a3, _, _, _, _, al⟩ := KA.out.via hb8
  have ⟨_, _, b2, b3, _, _, _, _, bl⟩ := KB.out.via hb8
  have hg8 : g7 < w2.heap.size := (P7.out.via hb8).lt
  have KA' := Lib.hid ((KA.out.via hb8).alloc (.cells #[.bool false, .slice A8 n8 c8] 24))
  have KB' := Lib.hid ((KB.out.via hb8).alloc (.cells #[.bool false, .slice A8 n8 c8] 24))
  have KR' := Lib.hid ((KR.out.via hb8).alloc (.cells #[.bool false, .slice A8 n8 c8] 24))
  have MB' := Lib.hid ((MB.out.via hb8).box (.cells #[.bool false, .slice A8 n8 c8] 24))
  have MD' := Lib.hid ((MD.out.via hb8).box (.cells #[.bool false, .slice A8 n8 c8] 24))
  have P7' := Lib.hid ((P7.out.via hb8).alloc (.cells #[.bool false, .slice A8 n8 c8] 24))
  have L7' := Lib.hid ((L7.out.via hb8).box (.cells #[.bool false, .slice A8 n8 c8] 24))
  have BB' := Lib.hid ((below_alloc (btr BB.out hb8) (.cells #[.bool false, .slice A8 n8 c8] 24)))
  clear KA
  have KA := KA'
  clear KA'
  clear KB
  have KB := KB'
  clear KB'
  clear KR
  have KR := KR'
  clear KR'
  clear MB
  have MB := MB'
  clear MB'
  clear MD
  have MD := MD'
  clear MD'
  clear P7
  have P7 := P7'
  clear P7'
  clear L7
  have L7 := L7'
  clear L7'
  clear BB
  have BB := BB'
  clear BB'
  have P8 := Lib.hid (Pr.new w2 _ rfl (.bool false) (.slice A8 n8 c8) 24)
  have L8 := Lib.hid (hL8.box (.cells #[.bool false, .slice A8 n8 c8] 24))
  clear hL8 hb8
  go_wp2_with fail
  clear a2 a3 al b2 b3 bl
  generalize w2.alloc (.cells #[.bool false, .slice A8 n8 c8] 24) = W2 at *
  generalize w2.heap.size = g8 at *
  refine (gcd_n2 _ B D m s cb cd k P Q MB.out MD.out SP.out SQ.out (by omega) DP.out DQ.out).mono ?_
  rintro e w3 ⟨A9, n9, c9, rfl, hL9, hb9⟩
  have KA' := Lib.hid (KA.out.via hb9)
  have KB' := Lib.hid (KB.out.via hb9)
  have KR' := Lib.hid (KR.out.via hb9)
  have MB' := Lib.hid (MB.out.via hb9)
  have MD' := Lib.hid (MD.out.via hb9)
  have P7' := Lib.hid (P7.out.via hb9)
  have L7' := Lib.hid (L7.out.via hb9)
  have BB' := Lib.hid ((btr BB.out hb9))
  have P8' := Lib.hid (P8.out.via hb9)
  have L8' := Lib.hid (L8.out.via hb9)
  clear KA
  have KA := KA'
  clear KA'
  clear KB
  have KB := KB'
  clear KB'
  clear KR
  have KR := KR'
  clear KR'
  clear MB
  have MB := MB'
  clear MB'
  clear MD
  have MD := MD'
  clear MD'
  clear P7
  have P7 := P7'
  clear P7'
  clear L7
  have L7 := L7'
  clear L7'
  clear BB
  have BB := BB'
  clear BB'
  clear P8
  have P8 := P8'
  clear P8'
  clear L8
  have L8 := L8'
  clear L8'
  have L9 := Lib.hid (hL9)
  clear hL9 hb9
  go_wp2_with fail
  refine (must_ok _ _ _ _ _).mono ?_
  rintro e w4 ⟨rfl, hb10⟩
  have hg9 : g8 < w4.heap.size := (P8.out.via hb10).lt
  have KA' := Lib.hid ((KA.out.via hb10).alloc (.cells #[.bool false, .slice A9 n9 c9] 24))
  have KB' := Lib.hid ((KB.out.via hb10).alloc (.cells #[.bool false, .slice A9 n9 c9] 24))
  have KR' := Lib.hid ((KR.out.via hb10).alloc (.cells #[.bool false, .slice A9 n9 c9] 24))
  have MB' := Lib.hid ((MB.out.via hb10).box (.cells #[.bool false, .slice A9 n9 c9] 24))
  have MD' := Lib.hid ((MD.out.via hb10).box (.cells #[.bool false, .slice A9 n9 c9] 24))
  have P7' := Lib.hid ((P7.out.via hb10).alloc (.cells #[.bool false, .slice A9 n9 c9] 24))
  have L7' := Lib.hid ((L7.out.via hb10).box (.cells #[.bool false, .slice A9 n9 c9] 24))
  have BB' := Lib.hid ((below_alloc (btr BB.out hb10) (.cells #[.bool false, .slice A9 n9 c9] 24)))
  have P8' := Lib.hid ((P8.out.via hb10).alloc (.cells #[.bool false, .slice A9 n9 c9] 24))
  have L8' := Lib.hid ((L8.out.via hb10).box (.cells #[.bool false, .slice A9 n9 c9] 24))
  have L9' := Lib.hid ((L9.out.via hb10).box (.cells #[.bool false, .slice A9 n9 c9] 24))
  clear KA
  have KA := KA'
  clear KA'
  clear KB
  have KB := KB'
  clear KB'
  clear KR
  have KR := KR'
  clear KR'
  clear MB
  have MB := MB'
  clear MB'
  clear MD
  have MD := MD'
  clear MD'
  clear P7
  have P7 := P7'
  clear P7'
  clear L7
  have L7 := L7'
  clear L7'
  clear BB
  have BB := BB'
  clear BB'
  clear P8
  have P8 := P8'
  clear P8'
  clear L8
  have L8 := L8'
  clear L8'
  clear L9
  have L9 := L9'
  clear L9'
  have P9 := Lib.hid (Pr.new w4 _ rfl (.bool false) (.slice A9 n9 c9) 24)
  clear KA
  clear KB
  clear MB
  clear MD
  clear hb10
  have SG := Lib.hid ((sz_gcd2 (x := P) SQ.out (by have := HQ0.out; omega)).mono (show k ≤ 2000 by omega))
  generalize hG : Nat.gcd P.natAbs Q.natAbs = G at *
  have HG0 : Hid (0 < G) := by show _ < _; rw [← hG]; exact Nat.gcd_pos_of_pos_left _ HPn.out
  clear hG
  go_wp2_with fail
  generalize w4.alloc (.cells #[.bool false, .slice A9 n9 c9] 24) = W4 at *
  generalize w4.heap.size = g9 at *
  have SZN : Hid (Sz 2000 N) := SN.out.mono (by omega)
  have SZD : Hid (Sz 2000 (P * Q)) := PQ.out.mono (by omega)
  have HDV : Hid (dvr N (P * Q) = (G * Nat.gcd t.natAbs G : Nat)) := by show _ = _; rw [dvr_pos HPQ.out, HGG.out]
  by_cases hone : G = 1
  · have HD1 : Hid (dvr N (P * Q) = 1) := by show _ = _; rw [HDV.out, hone, Nat.gcd_one_right]; rfl
    subst hone
    refine (isOne_yes _ A9 n9 c9 L9.out).mono ?_
    rintro e w5 ⟨rfl, hb5⟩
    have KR' := Lib.hid (KR.out.via hb5)
    have P7' := Lib.hid (P7.out.via hb5)
    have L7' := Lib.hid (L7.out.via hb5)
    have BB' := Lib.hid ((btr BB.out hb5))
    have P8' := Lib.hid (P8.out.via hb5)
    have L8' := Lib.hid (L8.out.via hb5)
    have L9' := Lib.hid (L9.out.via hb5)
    have P9' := Lib.hid (P9.out.via hb5)
    clear KR
    have KR := KR'
    clear KR'
    clear P7
    have P7 := P7'
    clear P7'
    clear L7
    have L7 := L7'
    clear L7'
    clear BB
    have BB := BB'
    clear BB'
    clear P8
    have P8 := P8'
    clear P8'
    clear L8
    have L8 := L8'
    clear L8'
    clear L9
    have L9 := L9'
    clear L9'
    clear P9
    have P9 := P9'
    clear P9'
    clear hb5
    have ⟨p0, p1, _, _, pl⟩ := P7.out
    have ⟨q0, q1, _, _, ql⟩ := P8.out
    have ⟨r0, r1, r2, r3, f0, f1, f2, f3, rl⟩ := KR.out
    go_wp2
    exact post_f1 Tryz.results95 rfl rfl (KR.out.set (.bool nN) (.slice A3 n3 c3) (.bool false) (.slice A8 n8 c8)) ⟨A3, n3, c3, A8, n8, c8, by rw [HD1.out, Int.ediv_one, Int.ediv_one, HNN.out, DPQ.out], by rw [HD1.out, Int.ediv_one]; exact L7.out.put4 KR.out _ _ _ _, by rw [HD1.out, Int.ediv_one]; exact L8.out.put4 KR.out _ _ _ _, below_put4 BB.out (by omega) _ _ _ _⟩
  · have HN1 : Hid (false = true ∨ digs G ≠ [1]) := .inr fun e => hone (by rw [← digs_val G, e]; rfl)
    clear hone
    refine (isOne_no _ false A9 n9 c9 (digs G) L9.out HN1.out).mono ?_
    rintro e w5 ⟨rfl, hb5⟩
    have KR' := Lib.hid (KR.out.via hb5)
    have P7' := Lib.hid (P7.out.via hb5)
    have L7' := Lib.hid (L7.out.via hb5)
    have BB' := Lib.hid ((btr BB.out hb5))
    have P8' := Lib.hid (P8.out.via hb5)
    have L8' := Lib.hid (L8.out.via hb5)
    have L9' := Lib.hid (L9.out.via hb5)
    have P9' := Lib.hid (P9.out.via hb5)
    clear KR
    have KR := KR'
    clear KR'
    clear P7
    have P7 := P7'
    clear P7'
    clear L7
    have L7 := L7'
    clear L7'
    clear BB
    have BB := BB'
    clear BB'
    clear P8
    have P8 := P8'
    clear P8'
    clear L8
    have L8 := L8'
    clear L8'
    clear L9
    have L9 := L9'
    clear L9'
    clear P9
    have P9 := P9'
    clear P9'
    clear hb5
    have DG : Hid (decide ((G : Int) < 0) = false) := by show _ = _; simp
    have DG2 : Hid (decide ((Nat.gcd t.natAbs G : Int) < 0) = false) := by show _ = _; simp
    have HSG2 : Hid (Sz 2000 (Nat.gcd t.natAbs G : Int)) := by
      show Nat.gcd t.natAbs G < _
      have h1 : Nat.gcd t.natAbs G ≤ G := Nat.gcd_le_right _ HG0.out
      exact Nat.lt_of_le_of_lt h1 SG.out
    have HDV2 : Hid ((G : Int) * (Nat.gcd t.natAbs G : Int) = dvr N (P * Q)) := by show _ = _; rw [HDV.out]; simp
    have DD : Hid (decide (dvr N (P * Q) < 0) = false) := by show _ = _; rw [HDV.out]; exact decide_eq_false (by omega)
    have ⟨p0, p1, _, _, pl⟩ := P7.out
    have ⟨s0, s1, _, _, sl⟩ := P9.out
    go_wp2_with fail
    refine (quotient_x _ A3 A9 n3 n9 c3 c9 2000 N (G : Int) t L7.out L9.out SZN.out SG.out (by omega) (by have := HG0.out; omega) HT.out HNN.out DG.out).mono ?_
    rintro e w6 ⟨A10, n10, c10, g10, A11, n11, c11, rfl, hL10, hb6⟩
    obtain ⟨nt, hnt⟩ : ∃ b, decide (t < 0) = b := ⟨_, rfl⟩
    rw [hnt]
    have HNt := Lib.hid hnt
    clear hnt p0 p1 pl s0 s1 sl
    have hg10 : g9 < w6.heap.size := (P9.out.via hb6).lt
    have KR' := Lib.hid (((KR.out.via hb6).alloc (.cells #[.bool nt, .slice A10 n10 c10] 24)).alloc (.cells #[.bool g10, .slice A11 n11 c11] 24))
    have P7' := Lib.hid (((P7.out.via hb6).alloc (.cells #[.bool nt, .slice A10 n10 c10] 24)).alloc (.cells #[.bool g10, .slice A11 n11 c11] 24))
    have L7' := Lib.hid (((L7.out.via hb6).box (.cells #[.bool nt, .slice A10 n10 c10] 24)).box (.cells #[.bool g10, .slice A11 n11 c11] 24))
    have BB' := Lib.hid ((below_alloc (below_alloc (btr BB.out hb6) (.cells #[.bool nt, .slice A10 n10 c10] 24)) (.cells #[.bool g10, .slice A11 n11 c11] 24)))
    have P8' := Lib.hid (((P8.out.via hb6).alloc (.cells #[.bool nt, .slice A10 n10 c10] 24)).alloc (.cells #[.bool g10, .slice A11 n11 c11] 24))
    have L8' := Lib.hid (((L8.out.via hb6).box (.cells #[.bool nt, .slice A10 n10 c10] 24)).box (.cells #[.bool g10, .slice A11 n11 c11] 24))
    have L9' := Lib.hid (((L9.out.via hb6).box (.cells #[.bool nt, .slice A10 n10 c10] 24)).box (.cells #[.bool g10, .slice A11 n11 c11] 24))
    have P9' := Lib.hid (((P9.out.via hb6).alloc (.cells #[.bool nt, .slice A10 n10 c10] 24)).alloc (.cells #[.bool g10, .slice A11 n11 c11] 24))
    clear KR
    have KR := KR'
    clear KR'
    clear P7
    have P7 := P7'
    clear P7'
    clear L7
    have L7 := L7'
    clear L7'
    clear BB
    have BB := BB'
    clear BB'
    clear P8
    have P8 := P8'
    clear P8'
    clear L8
    have L8 := L8'
    clear L8'
    clear L9
    have L9 := L9'
    clear L9'
    clear P9
    have P9 := P9'
    clear P9'
    have P10 := Lib.hid ((Pr.new w6 _ rfl (.bool nt) (.slice A10 n10 c10) 24).alloc (.cells #[.bool g10, .slice A11 n11 c11] 24))
    have L10 := Lib.hid ((hL10.box (.cells #[.bool nt, .slice A10 n10 c10] 24)).box (.cells #[.bool g10, .slice A11 n11 c11] 24))
    clear hL10 hb6
    have ⟨s0, s1, _, _, sl⟩ := P9.out
    have ⟨u0, u1, _, _, ul⟩ := P10.out
    go_wp2_with fail
    generalize (w6.alloc (.cells #[.bool nt, .slice A10 n10 c10] 24)).alloc (.cells #[.bool g10, .slice A11 n11 c11] 24) = W6 at *
    generalize w6.heap.size = g10' at *
    have HKS : Hid (∀ X : World, Below W6.heap.size W6 X → X.cell? ⟨g9, 0, none⟩ = some (.bool false) ∧ X.cell? ⟨g9, 1, none⟩ = some (.slice A9 n9 c9) ∧ X.cell? ⟨g10', 0, none⟩ = some (.bool nt) ∧ X.cell? ⟨g10', 1, none⟩ = some (.slice A10 n10 c10)) := fun X h => ⟨(P9.out.via h).c0, (P9.out.via h).c1, (P10.out.via h).c0, (P10.out.via h).c1⟩
    have STG : Hid (Sz 2000 t) := by
      show t.natAbs < _
      refine Nat.lt_of_le_of_lt ?_ SZN.out
      rw [HT.out, Int.natAbs_mul]
      exact Nat.le_mul_of_pos_right _ (by have := HG0.out; omega)
    clear s0 s1 sl u0 u1 ul
    have ⟨s0, s1, _, _, sl⟩ := P9.out
    have ⟨u0, u1, _, _, ul⟩ := P10.out
    go_cut [12] (fun sl wx => ∃ g A3 n3 c3, sl = .pointer (some ⟨g, 0, none⟩) ∧ Pr wx g (.bool false) (.slice A3 n3 c3) ∧ Lm wx wx.heap.size A3 n3 c3 (digs (dvr N (P * Q)).natAbs) ∧ W6.heap.size ≤ g ∧ Below W6.heap.size W6 wx)
    case first =>
      go_region_held3 (fun w' => w'.cell? ⟨g9, 0, none⟩ = some (.bool false) ∧ w'.cell? ⟨g9, 1, none⟩ = some (.slice A9 n9 c9) ∧ w'.cell? ⟨g10', 0, none⟩ = some (.bool nt) ∧ w'.cell? ⟨g10', 1, none⟩ = some (.slice A10 n10 c10))
        (first | (refine HKS.out _ ?_; (repeat' (first | exact Bd | exact Bc | exact B1 | exact (Below.refl _ _).drew | exact Below.refl _ _ | refine below_alloc ?_ _ | refine Below.drew ?_ | refine Below.setCell ?_ ?_ _)); all_goals (first | omega | (simp; done) | (simp; omega))))
        (first
         | (go_at_call 39; refine (gcd_n2 _ A10 A9 n10 n9 c10 c9 2000 t (G : Int) (by first | exact L10.out.drew | exact (L10.out.box _).drew | exact L10.out | exact L10.out.box _) (by first | exact L9.out.drew | exact (L9.out.box _).drew | exact L9.out | exact L9.out.box _) STG.out SG.out (by omega) HNt.out DG.out).mono ?_; rintro e wa ⟨A1, n1, c1, rfl, hL1, hb1⟩; have B1 : Below W6.heap.size W6 wa := (by first | exact (Below.refl _ _).drew.trans hb1 | exact b_one_d hb1 | exact hb1 | exact bbox hb1); have B1s := B1.size; (try (have F0 : Pr _ W6.heap.size (.bool false) (.slice none 0 0) := (by first | exact (Pr.new W6 _ rfl _ _ 24).via hb1 | exact (Pr.new W6 _ rfl _ _ 24).drew.via hb1))); (try (have ⟨F0a, F0b, F0c, F0d, F0e⟩ := F0)))
         | (go_at_call 84; refine (must_ok _ _ _ _ _).mono ?_; rintro e wb ⟨rfl, hb2⟩; have Bc : Below W6.heap.size W6 wb := (by first | exact btr B1 hb2 | exact btr B1 (bbox hb2) | exact (Below.refl _ _).drew.trans hb2 | exact b_one_d hb2 | exact hb2 | exact bbox hb2); have Bcs := Bc.size; have hL2 := (by first | exact hL1.via hb2 | exact (hL1.box _).via hb2); (try (have F0 := (by first | exact F0.via hb2 | exact (F0.alloc _).via hb2))); (try (have F1 : Pr _ wa.heap.size (.bool false) (.slice none 0 0) := (by first | exact (Pr.new wa _ rfl _ _ 24).via hb2 | exact (Pr.new wa _ rfl _ _ 24).drew.via hb2))); (try (have ⟨F0a, F0b, F0c, F0d, F0e⟩ := F0)); (try (have ⟨F1a, F1b, F1c, F1d, F1e⟩ := F1)))
         | (go_at_call 80; refine (prod_n _ A9 A1 n9 n1 c9 c1 2000 (G : Int) (Nat.gcd t.natAbs G : Int) (by first | exact L9.out.via Bc | exact (L9.out.via Bc).box _ | exact L9.out.drew | exact (L9.out.box _).drew | exact L9.out | exact L9.out.box _) (by first | exact hL2 | exact hL2.box _) SG.out HSG2.out (by omega) DG.out DG2.out).mono ?_; rw [HDV2.out]; rintro e wc ⟨A3', n3', c3', rfl, hL3', hb3⟩; rw [DD.out]; have Bd : Below W6.heap.size W6 wc := (by first | exact btr Bc hb3 | exact btr Bc (bbox hb3) | exact (Below.refl _ _).drew.trans hb3 | exact b_one_d hb3 | exact hb3 | exact bbox hb3); have Bds := Bd.size; (try (have F0 := (by first | exact F0.via hb3 | exact (F0.alloc _).via hb3))); (try (have F1 := (by first | exact F1.via hb3 | exact (F1.alloc _).via hb3))); (try (have F2 : Pr _ wb.heap.size (.bool false) (.slice none 0 0) := (by first | exact (Pr.new wb _ rfl _ _ 24).via hb3 | exact (Pr.new wb _ rfl _ _ 24).drew.via hb3))); (try (have ⟨F0a, F0b, F0c, F0d, F0e⟩ := F0)); (try (have ⟨F1a, F1b, F1c, F1d, F1e⟩ := F1)); (try (have ⟨F2a, F2b, F2c, F2d, F2e⟩ := F2)))
         | fail)
      all_goals
        go_wp2_with fail
        go_meet
        first
          | exact ⟨_, A3', n3', c3', rfl, Pr.new _ _ rfl _ _ _, hL3'.box _, Bd.size, below_alloc Bd _⟩
          | exact ⟨_, A3', n3', c3', rfl, F0.set _ _, hL3'.setP F0 _ _, (by first | exact Nat.le_refl _ | exact B1s | exact Bcs), below_set2 Bd (by first | exact Nat.le_refl _ | exact B1s | exact Bcs) _ _⟩
          | exact ⟨_, A3', n3', c3', rfl, F1.set _ _, hL3'.setP F1 _ _, (by first | exact Nat.le_refl _ | exact B1s | exact Bcs), below_set2 Bd (by first | exact Nat.le_refl _ | exact B1s | exact Bcs) _ _⟩
          | exact ⟨_, A3', n3', c3', rfl, F2.set _ _, hL3'.setP F2 _ _, (by first | exact Nat.le_refl _ | exact B1s | exact Bcs), below_set2 Bd (by first | exact Nat.le_refl _ | exact B1s | exact Bcs) _ _⟩
    case rest =>
    obtain ⟨g12, A12, n12, c12, rfl, hP12, hL12, hg12, hbx⟩ := hcut
    have P12 := Lib.hid hP12
    have L12 := Lib.hid hL12
    clear hP12 hL12
    have KR' := Lib.hid (KR.out.via hbx)
    have P7' := Lib.hid (P7.out.via hbx)
    have L7' := Lib.hid (L7.out.via hbx)
    have BB' := Lib.hid ((btr BB.out hbx))
    have P8' := Lib.hid (P8.out.via hbx)
    have L8' := Lib.hid (L8.out.via hbx)
    have L9' := Lib.hid (L9.out.via hbx)
    have P9' := Lib.hid (P9.out.via hbx)
    have P10' := Lib.hid (P10.out.via hbx)
    have L10' := Lib.hid (L10.out.via hbx)
    clear KR
    have KR := KR'
    clear KR'
    clear P7
    have P7 := P7'
    clear P7'
    clear L7
    have L7 := L7'
    clear L7'
    clear BB
    have BB := BB'
    clear BB'
    clear P8
    have P8 := P8'
    clear P8'
    clear L8
    have L8 := L8'
    clear L8'
    clear L9
    have L9 := L9'
    clear L9'
    clear P9
    have P9 := P9'
    clear P9'
    clear P10
    have P10 := P10'
    clear P10'
    clear L10
    have L10 := L10'
    clear L10'
    clear hbx s0 s1 sl u0 u1 ul
    have ⟨p0, p1, _, _, pl⟩ := P7.out
    have ⟨q0, q1, _, _, ql⟩ := P8.out
    have ⟨x0, x1, _, _, xl⟩ := P12.out
    go_wp2_with fail
    refine (divided_x _ A3 A8 A12 n3 n8 n12 c3 c8 c12 2000 N (P * Q) (dvr N (P * Q)) (N / dvr N (P * Q)) (P * Q / dvr N (P * Q)) L7.out L8.out L12.out SZN.out SZD.out (sz_dvr SZD.out (by have := HPQ.out; omega)) (by omega) (dvr_ne (by have := HPQ.out; omega)) (dvr_left _ _) (dvr_right _ _) HNN.out DPQ.out (by rw [HDV.out]; exact decide_eq_false (by omega))).mono ?_
    rintro e w13 ⟨A13, n13, c13, B13, m13, d13, rfl, hL13, hM13, hb13⟩
    obtain ⟨np, hnp⟩ : ∃ b, decide (N / dvr N (P * Q) < 0) = b := ⟨_, rfl⟩
    obtain ⟨nq, hnq⟩ : ∃ b, decide (P * Q / dvr N (P * Q) < 0) = b := ⟨_, rfl⟩
    rw [hnp, hnq]
    have HNp := Lib.hid hnp
    have HNq := Lib.hid hnq
    have K13 := KR.out.via hb13
    have L13 := Lib.hid hL13
    have M13 := Lib.hid hM13
    have BE := Lib.hid (btr BB.out hb13)
    have ⟨r0, r1, r2, r3, f0, f1, f2, f3, rl⟩ := K13
    clear hnp hnq hL13 hM13 hb13 p0 p1 pl q0 q1 ql x0 x1 xl
    go_wp2
    exact post_f1 Tryz.results95 rfl rfl (K13.set (.bool np) (.slice A13 n13 c13) (.bool nq) (.slice B13 m13 d13)) ⟨A13, n13, c13, B13, m13, d13, by rw [HNp.out, HNq.out], L13.out.put4 K13 _ _ _ _, M13.out.put4 K13 _ _ _ _, below_put4 BE.out (by omega) _ _ _ _⟩
end Go.Proofs.YtoigmcggkanncaaGreatDoor

/- Package frac: plus and minus. -/
namespace Go.Proofs.YtoigmcggkanncaaGreatDoor
open Go.RowKit

set_option maxRecDepth 100000 in
set_option maxHeartbeats 4000000 in
theorem plus_n (w : World) (na nb nc nd : Bool) (A B C D : Option Addr) (n m r s ca cb cc cd : Nat) (xs ys us vs : List Nat) (hA : Lm w w.heap.size A n ca xs) (hB : Lm w w.heap.size B m cb ys) (hC : Lm w w.heap.size C r cc us) (hD : Lm w w.heap.size D s cd vs) (p q : Int)
    (H : ∀ W, Lm W W.heap.size A n ca xs → Lm W W.heap.size B m cb ys → Lm W W.heap.size C r cc us → Lm W W.heap.size D s cd vs → Calls Tryz.prog 95 #[fv na A n ca nb B m cb, fv nc C r cc nd D s cd, .func (.func 96) #[] #[]] W (RFr W p q)) :
    Calls Tryz.prog 54 #[fv na A n ca nb B m cb, fv nc C r cc nd D s cd] w (RFr w p q) := by
  have HA := Lib.hid hA
  have HB := Lib.hid hB
  have HC := Lib.hid hC
  have HD := Lib.hid hD
  clear hA hB hC hD
  have HH := Lib.hid H
  clear H
  go_enter Tryz.func54, Tryz.ntmps54
  have QA := Lib.hid (((Qd.new w (w.heap.size) rfl (.bool na) (.slice A n ca) (.bool nb) (.slice B m cb) 69).alloc (.cells #[.bool nc, .slice C r cc, .bool nd, .slice D s cd] 69)).alloc (.cells #[.bool false, .slice none 0 0, .bool false, .slice none 0 0] 29))
  have QB := Lib.hid ((Qd.new (w.alloc (.cells #[.bool na, .slice A n ca, .bool nb, .slice B m cb] 69)) (w.heap.size + 1) (by simp) (.bool nc) (.slice C r cc) (.bool nd) (.slice D s cd) 69).alloc (.cells #[.bool false, .slice none 0 0, .bool false, .slice none 0 0] 29))
  have QR := Lib.hid (Qd.new ((w.alloc (.cells #[.bool na, .slice A n ca, .bool nb, .slice B m cb] 69)).alloc (.cells #[.bool nc, .slice C r cc, .bool nd, .slice D s cd] 69)) (w.heap.size + 1 + 1) (by simp) (.bool false) (.slice none 0 0) (.bool false) (.slice none 0 0) 29)
  have LA := Lib.hid (((HA.out.box (.cells #[.bool na, .slice A n ca, .bool nb, .slice B m cb] 69)).box (.cells #[.bool nc, .slice C r cc, .bool nd, .slice D s cd] 69)).box (.cells #[.bool false, .slice none 0 0, .bool false, .slice none 0 0] 29))
  have LB := Lib.hid (((HB.out.box (.cells #[.bool na, .slice A n ca, .bool nb, .slice B m cb] 69)).box (.cells #[.bool nc, .slice C r cc, .bool nd, .slice D s cd] 69)).box (.cells #[.bool false, .slice none 0 0, .bool false, .slice none 0 0] 29))
  have LC := Lib.hid (((HC.out.box (.cells #[.bool na, .slice A n ca, .bool nb, .slice B m cb] 69)).box (.cells #[.bool nc, .slice C r cc, .bool nd, .slice D s cd] 69)).box (.cells #[.bool false, .slice none 0 0, .bool false, .slice none 0 0] 29))
  have LD := Lib.hid (((HD.out.box (.cells #[.bool na, .slice A n ca, .bool nb, .slice B m cb] 69)).box (.cells #[.bool nc, .slice C r cc, .bool nd, .slice D s cd] 69)).box (.cells #[.bool false, .slice none 0 0, .bool false, .slice none 0 0] 29))
  have BW : Hid (Below w.heap.size w (((w.alloc (.cells #[.bool na, .slice A n ca, .bool nb, .slice B m cb] 69)).alloc (.cells #[.bool nc, .slice C r cc, .bool nd, .slice D s cd] 69)).alloc (.cells #[.bool false, .slice none 0 0, .bool false, .slice none 0 0] 29))) := (below_alloc (below_alloc (below_alloc (Below.refl _ _) _) _) _)
  clear HA HB HC HD
  go_wp2_with fail
  generalize ((w.alloc (.cells #[.bool na, .slice A n ca, .bool nb, .slice B m cb] 69)).alloc (.cells #[.bool nc, .slice C r cc, .bool nd, .slice D s cd] 69)).alloc (.cells #[.bool false, .slice none 0 0, .bool false, .slice none 0 0] 29) = W0 at *
  refine (HH.out _ LA.out LB.out LC.out LD.out).mono ?_
  rintro e w1 ⟨A5, n5, c5, A6, n6, c6, rfl, hL5, hL6, hb⟩
  clear LA
  clear LB
  clear LC
  clear LD
  clear QA
  clear QB
  replace QR := Lib.hid (QR.out.via hb)
  replace BW := Lib.hid (btr BW.out hb)
  have L5 := Lib.hid hL5
  have L6 := Lib.hid hL6
  clear hb hL5 hL6
  obtain ⟨z5, hz5⟩ : ∃ b, decide (p < 0) = b := ⟨_, rfl⟩
  rw [hz5]
  have Hz5 := Lib.hid hz5
  clear hz5
  obtain ⟨z6, hz6⟩ : ∃ b, decide (q < 0) = b := ⟨_, rfl⟩
  rw [hz6]
  have Hz6 := Lib.hid hz6
  clear hz6
  have ⟨rQR0, rQR1, rQR2, rQR3, rQR4, rQR5, rQR6, rQR7, rQRl⟩ := QR.out
  go_wp2
  exact post_f1 Tryz.results54 rfl rfl (QR.out.set (.bool z5) (.slice A5 n5 c5) (.bool z6) (.slice A6 n6 c6)) ⟨A5, n5, c5, A6, n6, c6, by rw [Hz5.out, Hz6.out], L5.out.put4 QR.out _ _ _ _, L6.out.put4 QR.out _ _ _ _, below_put4 BW.out (by omega) _ _ _ _⟩

set_option maxRecDepth 100000 in
set_option maxHeartbeats 4000000 in
theorem minus_n (w : World) (na nb nc nd : Bool) (A B C D : Option Addr) (n m r s ca cb cc cd : Nat) (xs ys us vs : List Nat) (hA : Lm w w.heap.size A n ca xs) (hB : Lm w w.heap.size B m cb ys) (hC : Lm w w.heap.size C r cc us) (hD : Lm w w.heap.size D s cd vs) (p q : Int)
    (H : ∀ W, Lm W W.heap.size A n ca xs → Lm W W.heap.size B m cb ys → Lm W W.heap.size C r cc us → Lm W W.heap.size D s cd vs → Calls Tryz.prog 95 #[fv na A n ca nb B m cb, fv nc C r cc nd D s cd, .func (.func 98) #[] #[]] W (RFr W p q)) :
    Calls Tryz.prog 57 #[fv na A n ca nb B m cb, fv nc C r cc nd D s cd] w (RFr w p q) := by
  have HA := Lib.hid hA
  have HB := Lib.hid hB
  have HC := Lib.hid hC
  have HD := Lib.hid hD
  clear hA hB hC hD
  have HH := Lib.hid H
  clear H
  go_enter Tryz.func57, Tryz.ntmps57
  have QA := Lib.hid (((Qd.new w (w.heap.size) rfl (.bool na) (.slice A n ca) (.bool nb) (.slice B m cb) 69).alloc (.cells #[.bool nc, .slice C r cc, .bool nd, .slice D s cd] 69)).alloc (.cells #[.bool false, .slice none 0 0, .bool false, .slice none 0 0] 29))
  have QB := Lib.hid ((Qd.new (w.alloc (.cells #[.bool na, .slice A n ca, .bool nb, .slice B m cb] 69)) (w.heap.size + 1) (by simp) (.bool nc) (.slice C r cc) (.bool nd) (.slice D s cd) 69).alloc (.cells #[.bool false, .slice none 0 0, .bool false, .slice none 0 0] 29))
  have QR := Lib.hid (Qd.new ((w.alloc (.cells #[.bool na, .slice A n ca, .bool nb, .slice B m cb] 69)).alloc (.cells #[.bool nc, .slice C r cc, .bool nd, .slice D s cd] 69)) (w.heap.size + 1 + 1) (by simp) (.bool false) (.slice none 0 0) (.bool false) (.slice none 0 0) 29)
  have LA := Lib.hid (((HA.out.box (.cells #[.bool na, .slice A n ca, .bool nb, .slice B m cb] 69)).box (.cells #[.bool nc, .slice C r cc, .bool nd, .slice D s cd] 69)).box (.cells #[.bool false, .slice none 0 0, .bool false, .slice none 0 0] 29))
  have LB := Lib.hid (((HB.out.box (.cells #[.bool na, .slice A n ca, .bool nb, .slice B m cb] 69)).box (.cells #[.bool nc, .slice C r cc, .bool nd, .slice D s cd] 69)).box (.cells #[.bool false, .slice none 0 0, .bool false, .slice none 0 0] 29))
  have LC := Lib.hid (((HC.out.box (.cells #[.bool na, .slice A n ca, .bool nb, .slice B m cb] 69)).box (.cells #[.bool nc, .slice C r cc, .bool nd, .slice D s cd] 69)).box (.cells #[.bool false, .slice none 0 0, .bool false, .slice none 0 0] 29))
  have LD := Lib.hid (((HD.out.box (.cells #[.bool na, .slice A n ca, .bool nb, .slice B m cb] 69)).box (.cells #[.bool nc, .slice C r cc, .bool nd, .slice D s cd] 69)).box (.cells #[.bool false, .slice none 0 0, .bool false, .slice none 0 0] 29))
  have BW : Hid (Below w.heap.size w (((w.alloc (.cells #[.bool na, .slice A n ca, .bool nb, .slice B m cb] 69)).alloc (.cells #[.bool nc, .slice C r cc, .bool nd, .slice D s cd] 69)).alloc (.cells #[.bool false, .slice none 0 0, .bool false, .slice none 0 0] 29))) := (below_alloc (below_alloc (below_alloc (Below.refl _ _) _) _) _)
  clear HA HB HC HD
  go_wp2_with fail
  generalize ((w.alloc (.cells #[.bool na, .slice A n ca, .bool nb, .slice B m cb] 69)).alloc (.cells #[.bool nc, .slice C r cc, .bool nd, .slice D s cd] 69)).alloc (.cells #[.bool false, .slice none 0 0, .bool false, .slice none 0 0] 29) = W0 at *
  refine (HH.out _ LA.out LB.out LC.out LD.out).mono ?_
  rintro e w1 ⟨A5, n5, c5, A6, n6, c6, rfl, hL5, hL6, hb⟩
  clear LA
  clear LB
  clear LC
  clear LD
  clear QA
  clear QB
  replace QR := Lib.hid (QR.out.via hb)
  replace BW := Lib.hid (btr BW.out hb)
  have L5 := Lib.hid hL5
  have L6 := Lib.hid hL6
  clear hb hL5 hL6
  obtain ⟨z5, hz5⟩ : ∃ b, decide (p < 0) = b := ⟨_, rfl⟩
  rw [hz5]
  have Hz5 := Lib.hid hz5
  clear hz5
  obtain ⟨z6, hz6⟩ : ∃ b, decide (q < 0) = b := ⟨_, rfl⟩
  rw [hz6]
  have Hz6 := Lib.hid hz6
  clear hz6
  have ⟨rQR0, rQR1, rQR2, rQR3, rQR4, rQR5, rQR6, rQR7, rQRl⟩ := QR.out
  go_wp2
  exact post_f1 Tryz.results57 rfl rfl (QR.out.set (.bool z5) (.slice A5 n5 c5) (.bool z6) (.slice A6 n6 c6)) ⟨A5, n5, c5, A6, n6, c6, by rw [Hz5.out, Hz6.out], L5.out.put4 QR.out _ _ _ _, L6.out.put4 QR.out _ _ _ _, below_put4 BW.out (by omega) _ _ _ _⟩

end Go.Proofs.YtoigmcggkanncaaGreatDoor

/- The reference of frac: product, added. -/
namespace Go.Proofs.YtoigmcggkanncaaGreatDoor
open Go.RowKit

section
variable (w : World) (A B : Option Addr) (n m ca cb k : Nat) (x y : Int) (hA : Lm w w.heap.size A n ca (digs x.natAbs)) (hB : Lm w w.heap.size B m cb (digs y.natAbs)) (hx : Sz k x) (hy : Sz k y) (hk : k ≤ 2000)
include hA hB hx hy hk
theorem rsub_n {na nb : Bool} (ha : decide (x < 0) = na) (hb : decide (y < 0) = nb) : Calls Tryz.prog 32 #[.agg #[.bool na, .slice A n ca], .agg #[.bool nb, .slice B m cb]] w (RN w (x - y)) := by
  subst ha hb
  have h := rsub_ok w _ _ A B n m ca cb _ _ hA hB (chkB_z hx (by omega) hy (by omega))
  rw [toI_self, toI_self] at h
  exact h.mono fun e w' hr => rz_rn (hx.sub hy) (by omega) hr
end

end Go.Proofs.YtoigmcggkanncaaGreatDoor

/- The reference of frac: both, Add, Sub, Mul, Div, Neg, Cmp, Twin. -/
namespace Go.Proofs.YtoigmcggkanncaaGreatDoor
open Go.RowKit

end Go.Proofs.YtoigmcggkanncaaGreatDoor

/- The reference Twin: a copy of a number. -/
namespace Go.Proofs.YtoigmcggkanncaaGreatDoor
open Go.RowKit

end Go.Proofs.YtoigmcggkanncaaGreatDoor

/- The reference of frac: Cmp of valid fractions, Twin. -/
namespace Go.Proofs.YtoigmcggkanncaaGreatDoor
open Go.RowKit

end Go.Proofs.YtoigmcggkanncaaGreatDoor

/- Both sides: Add, Sub, Mul, Div, Neg, Cmp. -/
namespace Go.Proofs.YtoigmcggkanncaaGreatDoor
open Go.RowKit

theorem fchk_cases (na : Bool) (xs : List Nat) (nb : Bool) (ys : List Nat) : fchk na xs nb ys = 0 ∨ fchk na xs nb ys = 8 := by
  unfold fchk
  split
  · exact .inl rfl
  · exact .inr rfl
theorem of_fchk {nn dn : Bool} {xs ys : List Nat} (h : fchk nn xs dn ys = 0) (gx : Good xs) (gy : Good ys) {k : Nat} (lx : xs.length ≤ k) (ly : ys.length ≤ k) :
    ∃ x P : Int, nn = decide (x < 0) ∧ xs = digs x.natAbs ∧ Sz k x ∧ dn = false ∧ ys = digs P.natAbs ∧ Sz k P ∧ 0 < P ∧ Nat.gcd x.natAbs P.natAbs = 1 := by
  unfold fchk at h
  split at h
  · rename_i hh
    obtain ⟨h1, h2, h3, h4, h5⟩ := hh
    obtain ⟨x, hx1, hx2, hx3⟩ := of_chk h1 gx lx
    obtain ⟨P, hP1, hP2, hP3⟩ := of_chk h2 gy ly
    have e0 : ¬ P < 0 := by rw [h3] at hP1; simpa using hP1.symm
    have e1 : P.natAbs ≠ 0 := by rw [hP2, Ne, digs_nil] at h4; exact h4
    refine ⟨x, P, hx1, hx2, hx3, h3, hP2, hP3, by omega, ?_⟩
    rw [hx2, hP2, digs_val, digs_val] at h5
    exact h5
  · cases h

end Go.Proofs.YtoigmcggkanncaaGreatDoor

/- Both sides of Neg; the law FracReckons where a fraction is great. -/
namespace Go.Proofs.YtoigmcggkanncaaGreatDoor
open Go.RowKit

end Go.Proofs.YtoigmcggkanncaaGreatDoor

/- Package frac: attempt and change where the result is a number; Floor. -/
namespace Go.Proofs.YtoigmcggkanncaaGreatDoor
open Go.RowKit

theorem catchw_idle (p : Addr) (w : World) :
    CallsD Tryz.prog 137 #[.pointer (some p)] .returning w fun e u' w' => e = .returned (.tuple #[]) ∧ u' = .returning ∧ w' = w := by
  refine callsD_of_wpS Tryz.func137 rfl fun c₀ cs hu => ?_
  apply wpS_seq
  apply wpS_region
  simp [wpOpsS, go_sem, recoverD, hu, Tryz.ntmps137, Exit.thenS]
  apply wpS_seq
  apply wpS_region
  simp [wpOpsS, go_sem, Exit.thenS]
  refine wpS_cond (t := false) (by simp [Act.eval, Array.replicate]) ?_
  simp only [Bool.false_eq_true, if_false]
  refine wpS_of_wp (wp_skip ?_)
  cases c₀
  simp_all [bodyPostS, results, Tryz.results137]
theorem res_we {fn : Func} {r s : Nat} (hr : fn.results = #[.cell r 24, .cell s 26]) {tmps : Array Value} {w : World} {g h : Nat} {x0 x1 y : Value} (ht : tmps.getD r undef = .pointer (some ⟨g, 0, none⟩))
    (hs : tmps.getD s undef = .pointer (some ⟨h, 0, none⟩)) (d : Pr w g x0 x1) (hy : w.cell? ⟨h, 0, none⟩ = some y) : (results fn tmps).run Tryz.prog w = .ok (.tuple #[.agg #[x0, x1], y]) w := by
  have h0 := d.c0; have h1 := d.c1
  rw [Array.getD_eq_getD_getElem?] at ht hs
  simp [results, hr, go_sem, ht, hs, h0, h1, hy]
theorem Pr.farE {w : World} {g h : Nat} {x y : Value} (p : Pr w g x y) (hne : g ≠ h) (i : Nat) (z : Value) : Pr (w.setCell ⟨h, i, none⟩ z) g x y := by
  have e : ∀ j, (⟨h, i, none⟩ : Addr) ≠ ⟨g, j, none⟩ := fun j e => hne (congrArg Addr.block e).symm
  exact ⟨(World.cell?_setCell_other _ _ _ _ (e 0)).trans p.c0, (World.cell?_setCell_other _ _ _ _ (e 1)).trans p.c1, by have := p.f0; simpa using this, by have := p.f1; simpa using this, by rw [World.size_setCell]; exact p.lt⟩
/-- The world in which attempt calls: with the boxes of its two results. -/
def Waw (w : World) : World := (w.alloc (.cells #[.bool false, .slice none 0 0] 24)).alloc (.cells #[.int .i64 0] 26)
theorem waw_below (w : World) : Below w.heap.size w (Waw w) := ((Below.refl _ _).alloc (Nat.le_refl _) _).alloc (by simp) _
theorem waw_pr (w : World) : Pr (Waw w) w.heap.size (.bool false) (.slice none 0 0) := (Pr.new w _ rfl _ _ _).alloc _
theorem waw_c (w : World) : (Waw w).cell? ⟨w.heap.size + 1, 0, none⟩ = some (.int .i64 0) ∧ (Waw w).frozen? ⟨w.heap.size + 1, 0, none⟩ = false := by unfold Waw; constructor <;> go_simp
theorem waw_size (w : World) : (Waw w).heap.size = w.heap.size + 1 + 1 := by unfold Waw; simp

set_option maxRecDepth 100000 in
set_option maxHeartbeats 1000000 in
theorem attemptw_ok (w : World) (f : FuncId) (first cap : Array Value) (z : Int) (hcf : ∀ W, (callFunc f (first ++ cap)).run Tryz.prog W = .ok (.enter f (first ++ cap)) W)
    (H : Calls Tryz.prog f (first ++ cap) (Waw w) (RVz (Waw w) z)) :
    Calls Tryz.prog 104 #[.func (.func f) first cap] w (RN w z) := by
  have hmf : ∀ (fn : Fn) (first cap : Array Value) (w : World), (Instr.makeFunc fn first cap).run Tryz.prog w = .ok (.func fn first cap) w := fun _ _ _ _ => rfl
  have HH := Lib.hid H
  clear H
  go_enter_defers Tryz.func104, Tryz.ntmps104
  go_wp2_with fail
  refine HH.out.mono ?_
  rintro e w1 ⟨A, n, c, rfl, hL, hb⟩
  have QD := (waw_pr w).via hb
  have hz := hb.size
  rw [waw_size] at hz
  have hc : w1.cell? ⟨w.heap.size + 1, 0, none⟩ = some (.int .i64 0) := (hb.cell (p := ⟨w.heap.size + 1, 0, none⟩) (by rw [waw_size]; simp)).trans (waw_c w).1
  have hf : w1.frozen? ⟨w.heap.size + 1, 0, none⟩ = false := (hb.frozen (p := ⟨w.heap.size + 1, 0, none⟩) (by rw [waw_size]; simp)).trans (waw_c w).2
  obtain ⟨np, hnp⟩ : ∃ b, decide (z < 0) = b := ⟨_, rfl⟩
  rw [hnp]
  have HNp := Lib.hid hnp
  have HQ := Lib.hid QD
  have HL := Lib.hid hL
  have HB := Lib.hid ((waw_below w).trans (hb.mono (waw_below w).size))
  clear hnp hL hb hz
  have ⟨d0, d1, g0, g1, dl⟩ := QD
  clear QD
  go_wp2
  clear d0 d1 g0 g1 dl
  refine leaves_cons (f := 137) (args := #[.pointer (some ⟨w.heap.size + 1, 0, none⟩)]) (by simp) (by simp [go_sem]) ?_
  refine (catchw_idle _ _).mono ?_
  rintro e u' w'' ⟨rfl, rfl, rfl⟩
  have hP := HQ.out.set (.bool np) (.slice A n c)
  have hc2 : ((w1.setCell ⟨w.heap.size, 0, none⟩ (.bool np)).setCell ⟨w.heap.size, 1, none⟩ (.slice A n c)).cell? ⟨w.heap.size + 1, 0, none⟩ = some (.int .i64 0) := by
    rw [World.cell?_setCell_other _ _ _ _ (by simp), World.cell?_setCell_other _ _ _ _ (by simp)]; exact hc
  exact ⟨_, res_we Tryz.results104 rfl rfl (hP.farE (h := w.heap.size + 1) (by omega) 0 (.int .i64 0)) (World.cell?_setCell_same _ _ _ hc2),
    A, n, c, by rw [HNp.out], (HL.out.setP HQ.out _ _).err hc2 _, (below_set2 HB.out (Nat.le_refl _) _ _).setCell (p := ⟨w.heap.size + 1, 0, none⟩) (by show w.heap.size ≤ w.heap.size + 1; omega) _⟩

set_option maxRecDepth 100000 in
set_option maxHeartbeats 2000000 in
theorem changew_ok (w : World) (g0 ga : Nat) (f : FuncId) (na da : Bool) (A B : Option Addr) (n m ca cb : Nat) (xs ys : List Nat) (hf : Fb w g0 f) (qa : Qd w ga (.bool na) (.slice A n ca) (.bool da) (.slice B m cb)) (hA : Lm w w.heap.size A n ca xs) (hB : Lm w w.heap.size B m cb ys) (hv : fchk na xs da ys = 0) (z : Int)
    (hcf : ∀ (u : Value) (W : World), (callFunc f #[u]).run Tryz.prog W = .ok (.enter f #[u]) W)
    (H : ∀ W, Lm W W.heap.size A n ca xs → Lm W W.heap.size B m cb ys → Calls Tryz.prog f #[fv na A n ca da B m cb] W (RVz W z)) :
    Calls Tryz.prog 105 #[.pointer (some ⟨g0, 0, none⟩), .pointer (some ⟨ga, 0, none⟩)] w (RVz w z) := by
  have HF := Lib.hid hf
  have QA := Lib.hid qa
  have LA := Lib.hid hA
  have LB := Lib.hid hB
  have HV := Lib.hid hv
  have HH := Lib.hid H
  have QR := Lib.hid (Pr.new w _ rfl (.bool false) (.slice none 0 0) 24)
  have W0B : Hid (Below w.heap.size w (w.alloc (.cells #[.bool false, .slice none 0 0] 24))) := below_alloc (Below.refl _ _) _
  have ⟨f0, fl⟩ := hf
  have ⟨a0, a1, a2, a3, _, _, _, _, al⟩ := qa
  clear hA hB hv hf qa H
  go_enter Tryz.func105, Tryz.ntmps105
  go_wp2_with fail
  have HF := Lib.hid (HF.out.via W0B.out)
  have QA := Lib.hid (QA.out.via W0B.out)
  have LA := Lib.hid (LA.out.via W0B.out)
  have LB := Lib.hid (LB.out.via W0B.out)
  have hg0 : g0 < w.heap.size := fl
  have hga : ga < w.heap.size := al
  clear f0 fl a0 a1 a2 a3 al
  generalize w.alloc (.cells #[.bool false, .slice none 0 0] 24) = W0 at *
  have HKS : Hid (∀ X : World, Below w.heap.size W0 X → X.cell? ⟨g0, 0, none⟩ = some (.func (.func f) #[] #[]) ∧ X.cell? ⟨ga, 0, none⟩ = some (.bool na) ∧ X.cell? ⟨ga, 1, none⟩ = some (.slice A n ca) ∧ X.cell? ⟨ga, 2, none⟩ = some (.bool da) ∧ X.cell? ⟨ga, 3, none⟩ = some (.slice B m cb)) := fun X h => ⟨(h.cell (p := ⟨g0, 0, none⟩) hg0).trans HF.out.c0, (QA.out.below h hga).c0, (QA.out.below h hga).c1, (QA.out.below h hga).c2, (QA.out.below h hga).c3⟩
  have hw0 : w.heap.size ≤ W0.heap.size := W0B.out.size
  go_region_held3 (fun w' => w'.cell? ⟨g0, 0, none⟩ = some (.func (.func f) #[] #[]) ∧ w'.cell? ⟨ga, 0, none⟩ = some (.bool na) ∧ w'.cell? ⟨ga, 1, none⟩ = some (.slice A n ca) ∧ w'.cell? ⟨ga, 2, none⟩ = some (.bool da) ∧ w'.cell? ⟨ga, 3, none⟩ = some (.slice B m cb))
    (first | (refine HKS.out _ ?_; (repeat' (first | exact Be.mono hw0 | exact Bc.mono hw0 | exact (Below.refl _ _).drew | exact Below.refl _ _ | refine Below.setCell ?_ ?_ _)); all_goals (first | omega | (simp; done) | (simp; omega))))
    (first
     | (go_at_call 79; refine (known_ok _ na da A B n m ca cb xs ys (by first | exact LA.out.drew | exact LA.out) (by first | exact LB.out.drew | exact LB.out) HV.out).mono ?_; rintro e wc ⟨rfl, hbc⟩; have Bc : Below W0.heap.size W0 wc := (by first | exact (Below.refl _ _).drew.trans hbc | exact hbc))
     | (refine (HH.out _ (LA.out.via Bc) (LB.out.via Bc)).mono ?_; rintro e we ⟨A5, n5, c5, rfl, hL5, hbe⟩; have Be : Below W0.heap.size W0 we := btr Bc hbe; have KR := QR.out.via Be; have ⟨r0, r1, rf0, rf1, rl⟩ := KR)
     | fail)
  all_goals
    obtain ⟨np, hnp⟩ : ∃ b, decide (z < 0) = b := ⟨_, rfl⟩
    rw [hnp]
    have HNp := Lib.hid hnp
    have HL5 := Lib.hid hL5
    have BE := Lib.hid (btr W0B.out Be)
    clear hnp hL5
    go_wp2
    have KS := KR.set (.bool np) (.slice A5 n5 c5)
    exact post_w1 Tryz.results105 rfl rfl KS.c0 KS.c1 ⟨A5, n5, c5, by rw [HNp.out], HL5.out.setP KR _ _, below_set2 BE.out (Nat.le_refl _) _ _⟩

set_option maxRecDepth 100000 in
set_option maxHeartbeats 2000000 in
theorem changew_g (w : World) (f : FuncId) (na da : Bool) (A B : Option Addr) (n m ca cb : Nat) (xs ys : List Nat) (hA : Lm w w.heap.size A n ca xs) (hB : Lm w w.heap.size B m cb ys) (z : Int)
    (H : ∀ W g0 ga, Fb W g0 f → Qd W ga (.bool na) (.slice A n ca) (.bool da) (.slice B m cb) → Lm W W.heap.size A n ca xs → Lm W W.heap.size B m cb ys → Calls Tryz.prog 104 #[.func (.func 105) #[] #[.pointer (some ⟨g0, 0, none⟩), .pointer (some ⟨ga, 0, none⟩)]] W (RN W z)) :
    Calls Tryz.prog 63 #[fv na A n ca da B m cb, .func (.func f) #[] #[]] w (RN w z) := by
  have hmf : ∀ (fn : Fn) (first cap : Array Value) (w : World), (Instr.makeFunc fn first cap).run Tryz.prog w = .ok (.func fn first cap) w := fun _ _ _ _ => rfl
  have HH := Lib.hid H
  have HA := Lib.hid hA
  have HB := Lib.hid hB
  clear H hA hB
  go_enter Tryz.func63, Tryz.ntmps63
  have QA := Lib.hid (((Qd.new w _ rfl (.bool na) (.slice A n ca) (.bool da) (.slice B m cb) 29).alloc (.cells #[.func (.func f) #[] #[]] 84)).alloc (.cells #[.bool false, .slice none 0 0] 24))
  have QF : Hid (Fb (((w.alloc (.cells #[.bool na, .slice A n ca, .bool da, .slice B m cb] 29)).alloc (.cells #[.func (.func f) #[] #[]] 84)).alloc (.cells #[.bool false, .slice none 0 0] 24)) (w.heap.size + 1) f) := ⟨by go_simp, by simp⟩
  have QR := Lib.hid (Pr.new ((w.alloc (.cells #[.bool na, .slice A n ca, .bool da, .slice B m cb] 29)).alloc (.cells #[.func (.func f) #[] #[]] 84)) (w.heap.size + 1 + 1) (by simp) (.bool false) (.slice none 0 0) 24)
  have BW : Hid (Below w.heap.size w (((w.alloc (.cells #[.bool na, .slice A n ca, .bool da, .slice B m cb] 29)).alloc (.cells #[.func (.func f) #[] #[]] 84)).alloc (.cells #[.bool false, .slice none 0 0] 24))) := below_alloc (below_alloc (below_alloc (Below.refl _ _) _) _) _
  have LA : Hid (Lm (((w.alloc (.cells #[.bool na, .slice A n ca, .bool da, .slice B m cb] 29)).alloc (.cells #[.func (.func f) #[] #[]] 84)).alloc (.cells #[.bool false, .slice none 0 0] 24)) (((w.alloc (.cells #[.bool na, .slice A n ca, .bool da, .slice B m cb] 29)).alloc (.cells #[.func (.func f) #[] #[]] 84)).alloc (.cells #[.bool false, .slice none 0 0] 24)).heap.size A n ca xs) := (((HA.out.box _).box _).box _)
  have LB : Hid (Lm (((w.alloc (.cells #[.bool na, .slice A n ca, .bool da, .slice B m cb] 29)).alloc (.cells #[.func (.func f) #[] #[]] 84)).alloc (.cells #[.bool false, .slice none 0 0] 24)) (((w.alloc (.cells #[.bool na, .slice A n ca, .bool da, .slice B m cb] 29)).alloc (.cells #[.func (.func f) #[] #[]] 84)).alloc (.cells #[.bool false, .slice none 0 0] 24)).heap.size B m cb ys) := (((HB.out.box _).box _).box _)
  clear HA HB
  go_wp2_with fail
  refine (HH.out _ (w.heap.size + 1) w.heap.size QF.out QA.out LA.out LB.out).mono ?_
  rintro e w1 ⟨A1, n1, c1, rfl, hL, hb⟩
  have Q := Lib.hid (QR.out.via hb)
  have L1 := Lib.hid hL
  have BB := Lib.hid (btr BW.out hb)
  obtain ⟨np, hnp⟩ : ∃ b, decide (z < 0) = b := ⟨_, rfl⟩
  rw [hnp]
  have HNp := Lib.hid hnp
  have ⟨q0, q1, f0, f1, ql⟩ := Q.out
  clear hL hb hnp
  go_wp2
  exact post_ws Tryz.results63 rfl rfl Q.out.c0 Q.out.c1 ⟨A1, n1, c1, by rw [HNp.out]; rfl, L1.out.setP Q.out _ _, below_set2 BB.out (by omega) _ _⟩

/-- A world and a ratio: Floor. -/
def flr (x P : Int) : Int := x / P
theorem flr_of {x P q r : Int} (hP : 0 < P) (h1 : x = q * P + r) (h2 : r.natAbs < P.natAbs) (h3 : r = 0 ∨ decide (r < 0) = decide (P < 0)) : q = x / P ∧ r = x % P := by
  have h0 : 0 ≤ r := by
    rcases h3 with h | h
    · omega
    · have : ¬ P < 0 := by omega
      simp [this] at h
      omega
  have e := Int.ediv_emod_unique (a := x) (b := P) (r := r) (q := q) hP
  have := e.2 ⟨by rw [h1, Int.mul_comm]; omega, h0, by omega⟩
  exact ⟨this.1.symm, this.2.symm⟩

set_option maxRecDepth 100000 in
set_option maxHeartbeats 2000000 in
theorem floor_n (w : World) (A B : Option Addr) (n m ca cb k : Nat) (x P : Int) (hA : Lm w w.heap.size A n ca (digs x.natAbs)) (hB : Lm w w.heap.size B m cb (digs P.natAbs)) (hx : Sz k x) (hP : Sz k P) (hk : k ≤ 2000) {na : Bool} (ha : decide (x < 0) = na) (hP0 : 0 < P) :
    Calls Tryz.prog 64 #[fv na A n ca false B m cb] w (RVz w (x / P)) := by
  have HA := Lib.hid hA
  have HB := Lib.hid hB
  have HX := Lib.hid hx
  have HP := Lib.hid hP
  have HNa := Lib.hid ha
  have H0 := Lib.hid hP0
  clear hA hB hx hP ha hP0
  go_enter Tryz.func64, Tryz.ntmps64
  go_wp2_with fail
  refine (quotient_n _ A B n m ca cb k x P ((HA.out.box _).box _) ((HB.out.box _).box _) HX.out HP.out hk (by have := H0.out; omega) HNa.out (by simp; have := H0.out; omega)).mono ?_
  rintro e w1 ⟨q, r, h1, h2, h3, _, A1, n1, c1, A2, n2, c2, rfl, hL1, hL2, hb⟩
  obtain rfl := (flr_of H0.out h1 h2 h3).1
  have QR := Lib.hid ((Pr.new (w.alloc (.cells #[.bool na, .slice A n ca, .bool false, .slice B m cb] 69)) (w.heap.size + 1) (by simp) (.bool false) (.slice none 0 0) 24).via hb)
  have L1 := Lib.hid hL1
  have BB := Lib.hid (btr (below_alloc (below_alloc (Below.refl w.heap.size w) _) _) hb)
  obtain ⟨np, hnp⟩ : ∃ b, decide (x / P < 0) = b := ⟨_, rfl⟩
  obtain ⟨nr, hnr⟩ : ∃ b, decide (r < 0) = b := ⟨_, rfl⟩
  rw [hnp, hnr]
  have HNp := Lib.hid hnp
  clear hL1 hL2 hb hnp hnr h1 h2 h3
  go_upto_region 2 with (fail)
  have Q3 := Lib.hid ((QR.out.alloc (.cells #[.bool np, .slice A1 n1 c1] 24)).alloc (.cells #[.bool nr, .slice A2 n2 c2] 24))
  have P3 := Lib.hid ((Pr.new w1 _ rfl (.bool np) (.slice A1 n1 c1) 24).alloc (.cells #[.bool nr, .slice A2 n2 c2] 24))
  have L3 := Lib.hid ((L1.out.box (.cells #[.bool np, .slice A1 n1 c1] 24)).box (.cells #[.bool nr, .slice A2 n2 c2] 24))
  have B3 := Lib.hid (below_alloc (below_alloc BB.out (.cells #[.bool np, .slice A1 n1 c1] 24)) (.cells #[.bool nr, .slice A2 n2 c2] 24))
  clear QR L1 BB
  generalize w1.heap.size = g at *
  generalize (w1.alloc (.cells #[.bool np, .slice A1 n1 c1] 24)).alloc (.cells #[.bool nr, .slice A2 n2 c2] 24) = W3 at *
  have ⟨q0, q1, f0, f1, ql⟩ := Q3.out
  have ⟨p0, p1, _, _, _⟩ := P3.out
  go_wp2
  have KS := Q3.out.set (.bool np) (.slice A1 n1 c1)
  exact post_w1 Tryz.results64 rfl rfl KS.c0 KS.c1 ⟨A1, n1, c1, by rw [HNp.out], L3.out.setP Q3.out _ _, below_set2 B3.out (by omega) _ _⟩
end Go.Proofs.YtoigmcggkanncaaGreatDoor

/- Package frac: isEven, next, Round. -/
namespace Go.Proofs.YtoigmcggkanncaaGreatDoor
open Go.RowKit

theorem digs_head (z : Nat) : (digs z)[0]?.getD 0 % 2 = z % 2 := by
  have h := digs_val z
  cases hd : digs z with
  | nil => rw [hd] at h; rw [← h]; rfl
  | cons x r =>
    rw [hd, val_cons] at h
    show x % 2 = z % 2
    omega
set_option maxRecDepth 100000 in
set_option maxHeartbeats 1000000 in
theorem iseven_any (w : World) (neg : Bool) (A : Option Addr) (n c z : Nat) (h : Lm w w.heap.size A n c (digs z)) :
    Calls Tryz.prog 108 #[.agg #[.bool neg, .slice A n c]] w fun e w' => e = .returned (.bool (decide (z % 2 = 0))) ∧ Below w.heap.size w w' := by
  have hln := h.len
  have hcn := h.cap
  have hmx := h.max
  have HH := digs_head z
  have BB : Hid (Below w.heap.size w (w.alloc (.cells #[.bool neg, .slice A n c] 24))) := below_alloc (Below.refl _ _) _
  by_cases hn : n = 0
  · subst hn
    have hz : z = 0 := by
      have := digs_val z
      rw [List.length_eq_zero_iff.1 hln] at this
      exact this.symm
    subst hz
    clear HH h hln
    go_enter Tryz.func108, Tryz.ntmps108
    go_wp2
    go_ret
    exact ⟨rfl, BB.out⟩
  · have hb := h.box (.cells #[.bool neg, .slice A n c] 24)
    obtain ⟨b, off, rfl, hbb, hck⟩ := hb.cell (k := 0) (by omega)
    obtain ⟨x, hx⟩ : ∃ x, (digs z)[0]?.getD 0 = x := ⟨_, rfl⟩
    rw [hx] at hck HH
    rw [Nat.add_zero] at hck
    have k1 : decide ((n : Int) = 0) = false := decide_eq_false (by omega)
    have k2 : ((n : Int) == 0) = false := by simp [hn]
    have hg : x < 4294967296 := by rw [← hx]; exact h.good.get 0
    clear hb h hx hln
    go_enter Tryz.func108, Tryz.ntmps108
    go_wp2
    have e : (((x : Int) % 2 == 0)) = decide (z % 2 = 0) := by
      rw [← HH]
      rcases Nat.mod_two_eq_zero_or_one x with h | h
      · have : (x : Int) % 2 = 0 := by omega
        simp [this, h]
      · have : (x : Int) % 2 = 1 := by omega
        simp [this, h]
    rw [e]
    go_ret
    exact ⟨rfl, BB.out⟩

theorem sz1 {k : Nat} (h : 1 ≤ k) : Sz k 1 := Sz.mono (k := 1) (by unfold Sz; decide) h
set_option maxRecDepth 100000 in
set_option maxHeartbeats 2000000 in
theorem next_n (w : World) (A : Option Addr) (n ca k : Nat) (x : Int) (hA : Lm w w.heap.size A n ca (digs x.natAbs)) (hx : Sz k x) (hk : k ≤ 2000) (hk1 : 1 ≤ k) {na : Bool} (ha : decide (x < 0) = na) :
    Calls Tryz.prog 107 #[.agg #[.bool na, .slice A n ca]] w (RVz w (x + 1)) := by
  have SX := Lib.hid hx
  have HNa := Lib.hid ha
  have HA := Lib.hid hA
  clear hx ha hA
  go_enter Tryz.func107, Tryz.ntmps107
  have Q3 := Lib.hid ((Pr.new w _ rfl (.bool na) (.slice A n ca) 24).alloc (.cells #[.bool false, .slice none 0 0] 24))
  have QR := Lib.hid (Pr.new (w.alloc (.cells #[.bool na, .slice A n ca] 24)) (w.heap.size + 1) (by simp) (.bool false) (.slice none 0 0) 24)
  have LA := Lib.hid ((HA.out.box (.cells #[.bool na, .slice A n ca] 24)).box (.cells #[.bool false, .slice none 0 0] 24))
  have BW : Hid (Below w.heap.size w ((w.alloc (.cells #[.bool na, .slice A n ca] 24)).alloc (.cells #[.bool false, .slice none 0 0] 24))) := below_alloc (below_alloc (Below.refl _ _) _) _
  clear HA
  go_wp2_with fail
  generalize (w.alloc (.cells #[.bool na, .slice A n ca] 24)).alloc (.cells #[.bool false, .slice none 0 0] 24) = W0 at *
  have hrl := QR.out.lt
  have HW2 : Hid (w.heap.size + 1 ≤ W0.heap.size) := by show _ ≤ _; omega
  have HKS : Hid (∀ X : World, Below (w.heap.size + 1) W0 X → X.cell? ⟨w.heap.size, 0, none⟩ = some (.bool na) ∧ X.cell? ⟨w.heap.size, 1, none⟩ = some (.slice A n ca)) := fun X h => ⟨(Q3.out.below h (by omega)).c0, (Q3.out.below h (by omega)).c1⟩
  go_region_held3 (fun w' => w'.cell? ⟨w.heap.size, 0, none⟩ = some (.bool na) ∧ w'.cell? ⟨w.heap.size, 1, none⟩ = some (.slice A n ca))
    (first | (refine HKS.out _ ?_; (repeat' (first | exact Bd.mono HW2.out | exact B2.mono HW2.out | exact B1.mono HW2.out | exact (Below.refl _ _).drew | exact Below.refl _ _ | refine Below.setCell ?_ ?_ _)); all_goals (first | omega | (simp; done) | (simp; omega))))
    (first
     | (go_at_call 84; refine (must_ok _ _ _ _ _).mono ?_; rintro e wd ⟨rfl, hb4⟩; have Bd : Below W0.heap.size W0 wd := btr B2 hb4; have KR := QR.out.via Bd; have ⟨r0, r1, rf0, rf1, rl⟩ := KR)
     | (go_at_call 96; refine (add_n _ A A1 n n1 ca c1 k x 1 (LA.out.via B1) hL1 SX.out (sz1 hk1) hk HNa.out rfl).mono ?_; rintro e wb ⟨A2, n2, c2, rfl, hL2, hb2⟩; obtain ⟨np, hnp⟩ : ∃ b, decide (x + 1 < 0) = b := ⟨_, rfl⟩; rw [hnp]; have B2 : Below W0.heap.size W0 wb := btr B1 hb2)
     | (go_at_call 42; refine (from_any _ 1 (by omega) (by omega)).mono ?_; rintro e wa ⟨A1, n1, c1, rfl, hL1, hb1⟩; have B1 : Below W0.heap.size W0 wa := (by first | exact (Below.refl _ _).drew.trans hb1 | exact hb1))
     | fail)
  all_goals
    have HNp := Lib.hid hnp
    have HL5 := Lib.hid (hL2.via hb4)
    have BE := Lib.hid (btr BW.out Bd)
    clear hnp hL2
    go_wp2
    have KS := KR.set (.bool np) (.slice A2 n2 c2)
    exact post_w1 Tryz.results107 rfl rfl KS.c0 KS.c1 ⟨A2, n2, c2, by rw [HNp.out], HL5.out.setP KR _ _, below_set2 BE.out (by omega) _ _⟩

end Go.Proofs.YtoigmcggkanncaaGreatDoor

/- Package frac: ratio.round. -/
namespace Go.Proofs.YtoigmcggkanncaaGreatDoor
open Go.RowKit

/-- The nearest whole number, half to even. -/
def rndZ (x P : Int) : Int := if 2 * (x % P) < P then x / P else if 2 * (x % P) = P ∧ x / P % 2 = 0 then x / P else x / P + 1
set_option maxRecDepth 100000 in
set_option maxHeartbeats 4000000 in
theorem round_n (w : World) (A B : Option Addr) (n m ca cb k : Nat) (x P : Int) (hA : Lm w w.heap.size A n ca (digs x.natAbs)) (hB : Lm w w.heap.size B m cb (digs P.natAbs)) (hx : Sz k x) (hP : Sz k P) (hk : k ≤ 1999) (hk1 : 1 ≤ k) {na : Bool} (ha : decide (x < 0) = na) (hP0 : 0 < P) :
    Calls Tryz.prog 66 #[fv na A n ca false B m cb] w (RVz w (rndZ x P)) := by
  have HA := Lib.hid hA
  have HB := Lib.hid hB
  have HX := Lib.hid hx
  have HP := Lib.hid hP
  have HNa := Lib.hid ha
  have H0 := Lib.hid hP0
  clear hA hB hx hP ha hP0
  go_enter Tryz.func66, Tryz.ntmps66
  go_wp2_with fail
  refine (quotient_n _ A B n m ca cb k x P ((HA.out.box _).box _) ((HB.out.box _).box _) HX.out HP.out (by omega) (by have := H0.out; omega) HNa.out (by simp; have := H0.out; omega)).mono ?_
  rintro e w1 ⟨q, r, h1, h2, h3, hqx, A1, n1, c1, A2, n2, c2, rfl, hL1, hL2, hb⟩
  have HQ : Hid (q = x / P ∧ r = x % P) := flr_of H0.out h1 h2 h3
  have HRR : Hid (0 ≤ r ∧ r < P) := by
    have e := HQ.out.2
    have := Int.emod_nonneg x (show P ≠ 0 by have := H0.out; omega)
    have := Int.emod_lt_of_pos x H0.out
    show _ ∧ _
    omega
  have HSq : Hid (Sz k q) := by
    have := HX.out
    show _ < _
    unfold Sz at this
    omega
  have HSr : Hid (Sz k r) := by
    have := HP.out
    have := HRR.out
    show _ < _
    unfold Sz at *
    omega
  have QR := Lib.hid ((Pr.new (w.alloc (.cells #[.bool na, .slice A n ca, .bool false, .slice B m cb] 69)) (w.heap.size + 1) (by simp) (.bool false) (.slice none 0 0) 24).via hb)
  have QF := Lib.hid (((Qd.new w _ rfl (.bool na) (.slice A n ca) (.bool false) (.slice B m cb) 69).alloc (.cells #[.bool false, .slice none 0 0] 24)).via hb)
  have LB := Lib.hid (((HB.out.box (.cells #[.bool na, .slice A n ca, .bool false, .slice B m cb] 69)).box (.cells #[.bool false, .slice none 0 0] 24)).via hb)
  have L1 := Lib.hid hL1
  have L2 := Lib.hid hL2
  have BB := Lib.hid (btr (below_alloc (below_alloc (Below.refl w.heap.size w) _) _) hb)
  obtain ⟨np, hnp⟩ : ∃ b, decide (q < 0) = b := ⟨_, rfl⟩
  obtain ⟨nr, hnr⟩ : ∃ b, decide (r < 0) = b := ⟨_, rfl⟩
  rw [hnp, hnr]
  have HNp := Lib.hid hnp
  have HNr := Lib.hid hnr
  clear hL1 hL2 hb hnp hnr h1 h2 h3 hqx HA HB HX HNa
  go_upto_region 2 with (fail)
  replace QR := Lib.hid ((QR.out.alloc (.cells #[.bool np, .slice A1 n1 c1] 24)).alloc (.cells #[.bool nr, .slice A2 n2 c2] 24))
  replace QF := Lib.hid ((QF.out.alloc (.cells #[.bool np, .slice A1 n1 c1] 24)).alloc (.cells #[.bool nr, .slice A2 n2 c2] 24))
  have P3 := Lib.hid ((Pr.new w1 _ rfl (.bool np) (.slice A1 n1 c1) 24).alloc (.cells #[.bool nr, .slice A2 n2 c2] 24))
  have P4 := Lib.hid (Pr.new (w1.alloc (.cells #[.bool np, .slice A1 n1 c1] 24)) (w1.heap.size + 1) (by simp) (.bool nr) (.slice A2 n2 c2) 24)
  replace LB := Lib.hid ((LB.out.box (.cells #[.bool np, .slice A1 n1 c1] 24)).box (.cells #[.bool nr, .slice A2 n2 c2] 24))
  replace L1 := Lib.hid ((L1.out.box (.cells #[.bool np, .slice A1 n1 c1] 24)).box (.cells #[.bool nr, .slice A2 n2 c2] 24))
  replace L2 := Lib.hid ((L2.out.box (.cells #[.bool np, .slice A1 n1 c1] 24)).box (.cells #[.bool nr, .slice A2 n2 c2] 24))
  replace BB := Lib.hid (below_alloc (below_alloc BB.out (.cells #[.bool np, .slice A1 n1 c1] 24)) (.cells #[.bool nr, .slice A2 n2 c2] 24))
  generalize w1.heap.size = g at *
  generalize (w1.alloc (.cells #[.bool np, .slice A1 n1 c1] 24)).alloc (.cells #[.bool nr, .slice A2 n2 c2] 24) = W3 at *
  have ⟨f0, f1, f2, f3, _, _, _, _, _⟩ := QF.out
  have ⟨s0, s1, _, _, _⟩ := P4.out
  go_wp2_with fail
  clear f0 f1 f2 f3 s0 s1 QF
  refine (sub_n _ B A2 m n2 cb c2 k P r LB.out L2.out HP.out HSr.out (by omega) (by simp; have := H0.out; omega) HNr.out).mono ?_
  rintro e w2 ⟨A3, n3, c3, rfl, hL, hb⟩
  obtain ⟨nm, hnm⟩ : ∃ b, decide (P - r < 0) = b := ⟨_, rfl⟩
  rw [hnm]
  have HNm := Lib.hid hnm
  have L3 := Lib.hid hL
  replace QR := Lib.hid (QR.out.via hb)
  replace P3 := Lib.hid (P3.out.via hb)
  replace P4 := Lib.hid (P4.out.via hb)
  replace L1 := Lib.hid (L1.out.via hb)
  replace L2 := Lib.hid (L2.out.via hb)
  replace BB := Lib.hid (btr BB.out hb)
  clear hb hL hnm LB
  go_wp2_with fail
  refine (must_ok _ _ _ _ _).mono ?_
  rintro e w3 ⟨rfl, hb⟩
  replace QR := Lib.hid (QR.out.via hb)
  replace P3 := Lib.hid (P3.out.via hb)
  replace P4 := Lib.hid (P4.out.via hb)
  replace L1 := Lib.hid (L1.out.via hb)
  replace L2 := Lib.hid (L2.out.via hb)
  replace L3 := Lib.hid (L3.out.via hb)
  replace BB := Lib.hid (btr BB.out hb)
  clear hb
  go_upto_region 3 with (fail)
  replace QR := Lib.hid (QR.out.alloc (.cells #[.bool nm, .slice A3 n3 c3] 24))
  replace P3 := Lib.hid (P3.out.alloc (.cells #[.bool nm, .slice A3 n3 c3] 24))
  replace P4 := Lib.hid (P4.out.alloc (.cells #[.bool nm, .slice A3 n3 c3] 24))
  have P5 := Lib.hid (Pr.new w3 _ rfl (.bool nm) (.slice A3 n3 c3) 24)
  replace L1 := Lib.hid (L1.out.box (.cells #[.bool nm, .slice A3 n3 c3] 24))
  replace L2 := Lib.hid (L2.out.box (.cells #[.bool nm, .slice A3 n3 c3] 24))
  replace L3 := Lib.hid (L3.out.box (.cells #[.bool nm, .slice A3 n3 c3] 24))
  replace BB := Lib.hid (below_alloc BB.out (.cells #[.bool nm, .slice A3 n3 c3] 24))
  generalize w3.heap.size = g5 at *
  generalize w3.alloc (.cells #[.bool nm, .slice A3 n3 c3] 24) = W4 at *
  have ⟨s0, s1, _, _, _⟩ := P4.out
  have ⟨t0, t1, _, _, _⟩ := P5.out
  go_wp2_with fail
  clear s0 s1 t0 t1 P4 P5
  refine (cmp_n2 _ A2 A3 n2 n3 c2 c3 (k + 1) r (P - r) L2.out L3.out (HSr.out.mono (by omega)) (HP.out.sub HSr.out) (by omega) HNr.out HNm.out).mono ?_
  rintro e w4 ⟨rfl, hb⟩
  replace QR := Lib.hid (QR.out.via hb)
  replace P3 := Lib.hid (P3.out.via hb)
  replace L1 := Lib.hid (L1.out.via hb)
  replace BB := Lib.hid (btr BB.out hb)
  clear hb L2 L3 HNr HNm HSr HP
  obtain ⟨cz, hcz⟩ : ∃ c, cmpZ r (P - r) = c := ⟨_, rfl⟩
  rw [hcz]
  have HC : Hid ((r < P - r → cz = -1) ∧ (r = P - r → cz = 0) ∧ (P - r < r → cz = 1)) := by
    show _ ∧ _ ∧ _
    rw [← hcz]
    unfold cmpZ
    refine ⟨fun h => ?_, fun h => ?_, fun h => ?_⟩ <;> (repeat' split) <;> omega
  clear hcz
  go_wp2_with fail
  refine (musti_ok _ _).mono ?_
  rintro e w5 ⟨rfl, rfl⟩
  rcases Int.lt_trichotomy r (P - r) with hlt | heq | hgt
  · obtain rfl : cz = -1 := HC.out.1 hlt
    have HZ : Hid (rndZ x P = q) := by
      obtain ⟨e1, e2⟩ := HQ.out
      show _ = _
      unfold rndZ
      rw [← e2, ← e1, if_pos (by omega)]
    clear hlt HC HRR H0 HQ
    have ⟨p0, p1, _, _, _⟩ := P3.out
    have ⟨q0, q1, f0, f1, ql⟩ := QR.out
    go_wp2
    have KS := QR.out.set (.bool np) (.slice A1 n1 c1)
    exact post_w1 Tryz.results66 rfl rfl KS.c0 KS.c1 ⟨A1, n1, c1, by rw [HZ.out, HNp.out], by rw [HZ.out]; exact L1.out.setP QR.out _ _, below_set2 BB.out (by omega) _ _⟩
  · obtain rfl : cz = 0 := HC.out.2.1 heq
    have ⟨p0, p1, _, _, _⟩ := P3.out
    have HE := Lib.hid heq
    clear heq HC
    go_wp2_with fail
    clear p0 p1
    refine (iseven_any _ np A1 n1 c1 q.natAbs L1.out).mono ?_
    rintro e w6 ⟨rfl, hb⟩
    replace QR := Lib.hid (QR.out.via hb)
    replace P3 := Lib.hid (P3.out.via hb)
    replace L1 := Lib.hid (L1.out.via hb)
    replace BB := Lib.hid (btr BB.out hb)
    clear hb
    by_cases hev : q.natAbs % 2 = 0
    · have HZ : Hid (rndZ x P = q) := by
        obtain ⟨e1, e2⟩ := HQ.out
        have := HE.out
        show _ = _
        unfold rndZ
        rw [← e2, ← e1, if_neg (by omega), if_pos (by omega)]
      rw [decide_eq_true hev]
      clear hev HE HRR H0 HQ
      have ⟨p0, p1, _, _, _⟩ := P3.out
      have ⟨q0, q1, f0, f1, ql⟩ := QR.out
      go_wp2
      have KS := QR.out.set (.bool np) (.slice A1 n1 c1)
      exact post_w1 Tryz.results66 rfl rfl KS.c0 KS.c1 ⟨A1, n1, c1, by rw [HZ.out, HNp.out], by rw [HZ.out]; exact L1.out.setP QR.out _ _, below_set2 BB.out (by omega) _ _⟩
    · have HZ : Hid (rndZ x P = q + 1) := by
        obtain ⟨e1, e2⟩ := HQ.out
        have := HE.out
        show _ = _
        unfold rndZ
        rw [← e2, ← e1, if_neg (by omega), if_neg (by omega)]
      rw [decide_eq_false hev]
      clear hev HE HRR H0 HQ
      have ⟨p0, p1, _, _, _⟩ := P3.out
      go_wp2_with fail
      clear p0 p1
      refine (next_n _ A1 n1 c1 k q L1.out HSq.out (by omega) hk1 HNp.out).mono ?_
      rintro e w6 ⟨A6, n6, c6, rfl, hL, hb⟩
      obtain ⟨ns, hns⟩ : ∃ b, decide (q + 1 < 0) = b := ⟨_, rfl⟩
      rw [hns]
      have HNs := Lib.hid hns
      have L6 := Lib.hid hL
      replace QR := Lib.hid (QR.out.via hb)
      replace BB := Lib.hid (btr BB.out hb)
      clear hL hb hns
      have ⟨q0, q1, f0, f1, ql⟩ := QR.out
      go_wp2
      have KS := QR.out.set (.bool ns) (.slice A6 n6 c6)
      exact post_w1 Tryz.results66 rfl rfl KS.c0 KS.c1 ⟨A6, n6, c6, by rw [HZ.out, HNs.out], by rw [HZ.out]; exact L6.out.setP QR.out _ _, below_set2 BB.out (by omega) _ _⟩
  · obtain rfl : cz = 1 := HC.out.2.2 hgt
    have HZ : Hid (rndZ x P = q + 1) := by
      obtain ⟨e1, e2⟩ := HQ.out
      show _ = _
      unfold rndZ
      rw [← e2, ← e1, if_neg (by omega), if_neg (by omega)]
    clear hgt HC HRR H0 HQ
    have ⟨p0, p1, _, _, _⟩ := P3.out
    go_wp2_with fail
    clear p0 p1
    refine (next_n _ A1 n1 c1 k q L1.out HSq.out (by omega) hk1 HNp.out).mono ?_
    rintro e w6 ⟨A6, n6, c6, rfl, hL, hb⟩
    obtain ⟨ns, hns⟩ : ∃ b, decide (q + 1 < 0) = b := ⟨_, rfl⟩
    rw [hns]
    have HNs := Lib.hid hns
    have L6 := Lib.hid hL
    replace QR := Lib.hid (QR.out.via hb)
    replace BB := Lib.hid (btr BB.out hb)
    clear hL hb hns
    have ⟨q0, q1, f0, f1, ql⟩ := QR.out
    go_wp2
    have KS := QR.out.set (.bool ns) (.slice A6 n6 c6)
    exact post_w1 Tryz.results66 rfl rfl KS.c0 KS.c1 ⟨A6, n6, c6, by rw [HZ.out, HNs.out], by rw [HZ.out]; exact L6.out.setP QR.out _ _, below_set2 BB.out (by omega) _ _⟩

end Go.Proofs.YtoigmcggkanncaaGreatDoor

/- Package frac: Floor, Ceil, Round. -/
namespace Go.Proofs.YtoigmcggkanncaaGreatDoor
open Go.RowKit

/-- The least whole number that is not less. -/
def ceilZ (x P : Int) : Int := if x % P = 0 then x / P else x / P + 1
set_option maxRecDepth 100000 in
set_option maxHeartbeats 4000000 in
theorem ceil_n (w : World) (A B : Option Addr) (n m ca cb k : Nat) (x P : Int) (hA : Lm w w.heap.size A n ca (digs x.natAbs)) (hB : Lm w w.heap.size B m cb (digs P.natAbs)) (hx : Sz k x) (hP : Sz k P) (hk : k ≤ 1999) (hk1 : 1 ≤ k) {na : Bool} (ha : decide (x < 0) = na) (hP0 : 0 < P) :
    Calls Tryz.prog 65 #[fv na A n ca false B m cb] w (RVz w (ceilZ x P)) := by
  have HA := Lib.hid hA
  have HB := Lib.hid hB
  have HX := Lib.hid hx
  have HP := Lib.hid hP
  have HNa := Lib.hid ha
  have H0 := Lib.hid hP0
  clear hA hB hx hP ha hP0
  go_enter Tryz.func65, Tryz.ntmps65
  go_wp2_with fail
  refine (quotient_n _ A B n m ca cb k x P ((HA.out.box _).box _) ((HB.out.box _).box _) HX.out HP.out (by omega) (by have := H0.out; omega) HNa.out (by simp; have := H0.out; omega)).mono ?_
  rintro e w1 ⟨q, r, h1, h2, h3, hqx, A1, n1, c1, A2, n2, c2, rfl, hL1, hL2, hb⟩
  have HQ : Hid (q = x / P ∧ r = x % P) := flr_of H0.out h1 h2 h3
  have HRR : Hid (0 ≤ r ∧ r < P) := by
    have e := HQ.out.2
    have := Int.emod_nonneg x (show P ≠ 0 by have := H0.out; omega)
    have := Int.emod_lt_of_pos x H0.out
    show _ ∧ _
    omega
  have HSq : Hid (Sz k q) := by
    have := HX.out
    show _ < _
    unfold Sz at this
    omega
  have HSr : Hid (Sz k r) := by
    have := HP.out
    have := HRR.out
    show _ < _
    unfold Sz at *
    omega
  have QR := Lib.hid ((Pr.new (w.alloc (.cells #[.bool na, .slice A n ca, .bool false, .slice B m cb] 69)) (w.heap.size + 1) (by simp) (.bool false) (.slice none 0 0) 24).via hb)
  have QF := Lib.hid (((Qd.new w _ rfl (.bool na) (.slice A n ca) (.bool false) (.slice B m cb) 69).alloc (.cells #[.bool false, .slice none 0 0] 24)).via hb)
  have LB := Lib.hid (((HB.out.box (.cells #[.bool na, .slice A n ca, .bool false, .slice B m cb] 69)).box (.cells #[.bool false, .slice none 0 0] 24)).via hb)
  have L1 := Lib.hid hL1
  have L2 := Lib.hid hL2
  have BB := Lib.hid (btr (below_alloc (below_alloc (Below.refl w.heap.size w) _) _) hb)
  obtain ⟨np, hnp⟩ : ∃ b, decide (q < 0) = b := ⟨_, rfl⟩
  obtain ⟨nr, hnr⟩ : ∃ b, decide (r < 0) = b := ⟨_, rfl⟩
  rw [hnp, hnr]
  have HNp := Lib.hid hnp
  have HNr := Lib.hid hnr
  clear hL1 hL2 hb hnp hnr h1 h2 h3 hqx HA HB HX HNa
  go_upto_region 2 with (fail)
  replace QR := Lib.hid ((QR.out.alloc (.cells #[.bool np, .slice A1 n1 c1] 24)).alloc (.cells #[.bool nr, .slice A2 n2 c2] 24))
  replace QF := Lib.hid ((QF.out.alloc (.cells #[.bool np, .slice A1 n1 c1] 24)).alloc (.cells #[.bool nr, .slice A2 n2 c2] 24))
  have P3 := Lib.hid ((Pr.new w1 _ rfl (.bool np) (.slice A1 n1 c1) 24).alloc (.cells #[.bool nr, .slice A2 n2 c2] 24))
  have P4 := Lib.hid (Pr.new (w1.alloc (.cells #[.bool np, .slice A1 n1 c1] 24)) (w1.heap.size + 1) (by simp) (.bool nr) (.slice A2 n2 c2) 24)
  replace LB := Lib.hid ((LB.out.box (.cells #[.bool np, .slice A1 n1 c1] 24)).box (.cells #[.bool nr, .slice A2 n2 c2] 24))
  replace L1 := Lib.hid ((L1.out.box (.cells #[.bool np, .slice A1 n1 c1] 24)).box (.cells #[.bool nr, .slice A2 n2 c2] 24))
  replace L2 := Lib.hid ((L2.out.box (.cells #[.bool np, .slice A1 n1 c1] 24)).box (.cells #[.bool nr, .slice A2 n2 c2] 24))
  replace BB := Lib.hid (below_alloc (below_alloc BB.out (.cells #[.bool np, .slice A1 n1 c1] 24)) (.cells #[.bool nr, .slice A2 n2 c2] 24))
  generalize w1.heap.size = g at *
  generalize (w1.alloc (.cells #[.bool np, .slice A1 n1 c1] 24)).alloc (.cells #[.bool nr, .slice A2 n2 c2] 24) = W3 at *
  clear QF LB HNr HSr HP
  have hln := L2.out.len
  have ⟨s0, s1, _, _, _⟩ := P4.out
  by_cases hr : r = 0
  · have HZ : Hid (ceilZ x P = q) := by
      obtain ⟨e1, e2⟩ := HQ.out
      show _ = _
      unfold ceilZ
      rw [← e2, ← e1, if_pos hr]
    have hn2 : n2 = 0 := by rw [← hln, hr]; rfl
    subst hn2
    clear hln hr HRR H0 HQ
    have ⟨p0, p1, _, _, _⟩ := P3.out
    have ⟨q0, q1, f0, f1, ql⟩ := QR.out
    go_wp2
    have KS := QR.out.set (.bool np) (.slice A1 n1 c1)
    exact post_w1 Tryz.results65 rfl rfl KS.c0 KS.c1 ⟨A1, n1, c1, by rw [HZ.out, HNp.out], by rw [HZ.out]; exact L1.out.setP QR.out _ _, below_set2 BB.out (by omega) _ _⟩
  · have HZ : Hid (ceilZ x P = q + 1) := by
      obtain ⟨e1, e2⟩ := HQ.out
      show _ = _
      unfold ceilZ
      rw [← e2, ← e1, if_neg hr]
    have hn2 : 0 < n2 := by rw [← hln]; exact digs_pos.2 (by omega)
    have k1 : decide ((n2 : Int) = 0) = false := decide_eq_false (by omega)
    have k2 : ((n2 : Int) == 0) = false := by simp; omega
    clear hln hr HRR H0 HQ
    have ⟨p0, p1, _, _, _⟩ := P3.out
    go_wp2_with fail
    clear p0 p1 s0 s1
    refine (next_n _ A1 n1 c1 k q L1.out HSq.out (by omega) hk1 HNp.out).mono ?_
    rintro e w6 ⟨A6, n6, c6, rfl, hL, hb⟩
    obtain ⟨ns, hns⟩ : ∃ b, decide (q + 1 < 0) = b := ⟨_, rfl⟩
    rw [hns]
    have HNs := Lib.hid hns
    have L6 := Lib.hid hL
    replace QR := Lib.hid (QR.out.via hb)
    replace BB := Lib.hid (btr BB.out hb)
    clear hL hb hns
    have ⟨q0, q1, f0, f1, ql⟩ := QR.out
    go_wp2
    have KS := QR.out.set (.bool ns) (.slice A6 n6 c6)
    exact post_w1 Tryz.results65 rfl rfl KS.c0 KS.c1 ⟨A6, n6, c6, by rw [HZ.out, HNs.out], by rw [HZ.out]; exact L6.out.setP QR.out _ _, below_set2 BB.out (by omega) _ _⟩

set_option maxRecDepth 100000 in
set_option maxHeartbeats 2000000 in
theorem ffloor_g (w : World) (na da : Bool) (A B : Option Addr) (n m ca cb : Nat) (xs ys : List Nat) (hA : Lm w w.heap.size A n ca xs) (hB : Lm w w.heap.size B m cb ys) (z : Int)
    (H : ∀ W, Lm W W.heap.size A n ca xs → Lm W W.heap.size B m cb ys → Calls Tryz.prog 63 #[fv na A n ca da B m cb, .func (.func 64) #[] #[]] W (RN W z)) :
    Calls Tryz.prog 27 #[fv na A n ca da B m cb] w (RN w z) := by
  have HH := Lib.hid H
  have HA := Lib.hid hA
  have HB := Lib.hid hB
  clear H hA hB
  go_enter Tryz.func27, Tryz.ntmps27
  have QR := Lib.hid (Pr.new (w.alloc (.cells #[.bool na, .slice A n ca, .bool da, .slice B m cb] 29)) (w.heap.size + 1) (by simp) (.bool false) (.slice none 0 0) 24)
  have BW : Hid (Below w.heap.size w ((w.alloc (.cells #[.bool na, .slice A n ca, .bool da, .slice B m cb] 29)).alloc (.cells #[.bool false, .slice none 0 0] 24))) := below_alloc (below_alloc (Below.refl _ _) _) _
  have LA : Hid (Lm ((w.alloc (.cells #[.bool na, .slice A n ca, .bool da, .slice B m cb] 29)).alloc (.cells #[.bool false, .slice none 0 0] 24)) ((w.alloc (.cells #[.bool na, .slice A n ca, .bool da, .slice B m cb] 29)).alloc (.cells #[.bool false, .slice none 0 0] 24)).heap.size A n ca xs) := ((HA.out.box _).box _)
  have LB : Hid (Lm ((w.alloc (.cells #[.bool na, .slice A n ca, .bool da, .slice B m cb] 29)).alloc (.cells #[.bool false, .slice none 0 0] 24)) ((w.alloc (.cells #[.bool na, .slice A n ca, .bool da, .slice B m cb] 29)).alloc (.cells #[.bool false, .slice none 0 0] 24)).heap.size B m cb ys) := ((HB.out.box _).box _)
  clear HA HB
  go_wp2_with fail
  refine (HH.out _ LA.out LB.out).mono ?_
  rintro e w1 ⟨A1, n1, c1, rfl, hL, hb⟩
  have Q := Lib.hid (QR.out.via hb)
  have L1 := Lib.hid hL
  have BB := Lib.hid (btr BW.out hb)
  obtain ⟨np, hnp⟩ : ∃ b, decide (z < 0) = b := ⟨_, rfl⟩
  rw [hnp]
  have HNp := Lib.hid hnp
  have ⟨q0, q1, f0, f1, ql⟩ := Q.out
  clear hL hb hnp
  go_wp2
  exact post_ws Tryz.results27 rfl rfl Q.out.c0 Q.out.c1 ⟨A1, n1, c1, by rw [HNp.out]; rfl, L1.out.setP Q.out _ _, below_set2 BB.out (by omega) _ _⟩
theorem ffloor_n (w : World) (A B : Option Addr) (n m ca cb k : Nat) (x P : Int) (hA : Lm w w.heap.size A n ca (digs x.natAbs)) (hB : Lm w w.heap.size B m cb (digs P.natAbs)) (hx : Sz k x) (hP : Sz k P) (hk : k ≤ 1999) (hk1 : 1 ≤ k) {na : Bool} (ha : decide (x < 0) = na) (hP0 : 0 < P) (hv : fchk na (digs x.natAbs) false (digs P.natAbs) = 0) :
    Calls Tryz.prog 27 #[fv na A n ca false B m cb] w (RN w (x / P)) := by
  have hcf2 : ∀ (u : Value) (W : World), (callFunc 64 #[u]).run Tryz.prog W = .ok (.enter 64 #[u]) W := fun u W => by go_simp
  have hcf3 : ∀ (u v : Value) (W : World), (callFunc 105 (#[] ++ #[u, v])).run Tryz.prog W = .ok (.enter 105 (#[] ++ #[u, v])) W := fun u v W => by go_simp
  exact ffloor_g w na false A B n m ca cb _ _ hA hB _ fun W h1 h2 => changew_g W 64 na false A B n m ca cb _ _ h1 h2 _ fun W g0 ga qf qa i1 i2 =>
    attemptw_ok W 105 #[] #[_, _] (x / P) (hcf3 _ _) (changew_ok (Waw W) g0 ga 64 na false A B n m ca cb _ _ (qf.via (waw_below W)) (qa.via (waw_below W)) (i1.via (waw_below W)) (i2.via (waw_below W)) hv (x / P) hcf2 fun W j1 j2 => floor_n W A B n m ca cb k x P j1 j2 hx hP (by omega) ha hP0)

set_option maxRecDepth 100000 in
set_option maxHeartbeats 2000000 in
theorem fceil_g (w : World) (na da : Bool) (A B : Option Addr) (n m ca cb : Nat) (xs ys : List Nat) (hA : Lm w w.heap.size A n ca xs) (hB : Lm w w.heap.size B m cb ys) (z : Int)
    (H : ∀ W, Lm W W.heap.size A n ca xs → Lm W W.heap.size B m cb ys → Calls Tryz.prog 63 #[fv na A n ca da B m cb, .func (.func 65) #[] #[]] W (RN W z)) :
    Calls Tryz.prog 28 #[fv na A n ca da B m cb] w (RN w z) := by
  have HH := Lib.hid H
  have HA := Lib.hid hA
  have HB := Lib.hid hB
  clear H hA hB
  go_enter Tryz.func28, Tryz.ntmps28
  have QR := Lib.hid (Pr.new (w.alloc (.cells #[.bool na, .slice A n ca, .bool da, .slice B m cb] 29)) (w.heap.size + 1) (by simp) (.bool false) (.slice none 0 0) 24)
  have BW : Hid (Below w.heap.size w ((w.alloc (.cells #[.bool na, .slice A n ca, .bool da, .slice B m cb] 29)).alloc (.cells #[.bool false, .slice none 0 0] 24))) := below_alloc (below_alloc (Below.refl _ _) _) _
  have LA : Hid (Lm ((w.alloc (.cells #[.bool na, .slice A n ca, .bool da, .slice B m cb] 29)).alloc (.cells #[.bool false, .slice none 0 0] 24)) ((w.alloc (.cells #[.bool na, .slice A n ca, .bool da, .slice B m cb] 29)).alloc (.cells #[.bool false, .slice none 0 0] 24)).heap.size A n ca xs) := ((HA.out.box _).box _)
  have LB : Hid (Lm ((w.alloc (.cells #[.bool na, .slice A n ca, .bool da, .slice B m cb] 29)).alloc (.cells #[.bool false, .slice none 0 0] 24)) ((w.alloc (.cells #[.bool na, .slice A n ca, .bool da, .slice B m cb] 29)).alloc (.cells #[.bool false, .slice none 0 0] 24)).heap.size B m cb ys) := ((HB.out.box _).box _)
  clear HA HB
  go_wp2_with fail
  refine (HH.out _ LA.out LB.out).mono ?_
  rintro e w1 ⟨A1, n1, c1, rfl, hL, hb⟩
  have Q := Lib.hid (QR.out.via hb)
  have L1 := Lib.hid hL
  have BB := Lib.hid (btr BW.out hb)
  obtain ⟨np, hnp⟩ : ∃ b, decide (z < 0) = b := ⟨_, rfl⟩
  rw [hnp]
  have HNp := Lib.hid hnp
  have ⟨q0, q1, f0, f1, ql⟩ := Q.out
  clear hL hb hnp
  go_wp2
  exact post_ws Tryz.results28 rfl rfl Q.out.c0 Q.out.c1 ⟨A1, n1, c1, by rw [HNp.out]; rfl, L1.out.setP Q.out _ _, below_set2 BB.out (by omega) _ _⟩
theorem fceil_n (w : World) (A B : Option Addr) (n m ca cb k : Nat) (x P : Int) (hA : Lm w w.heap.size A n ca (digs x.natAbs)) (hB : Lm w w.heap.size B m cb (digs P.natAbs)) (hx : Sz k x) (hP : Sz k P) (hk : k ≤ 1999) (hk1 : 1 ≤ k) {na : Bool} (ha : decide (x < 0) = na) (hP0 : 0 < P) (hv : fchk na (digs x.natAbs) false (digs P.natAbs) = 0) :
    Calls Tryz.prog 28 #[fv na A n ca false B m cb] w (RN w (ceilZ x P)) := by
  have hcf2 : ∀ (u : Value) (W : World), (callFunc 65 #[u]).run Tryz.prog W = .ok (.enter 65 #[u]) W := fun u W => by go_simp
  have hcf3 : ∀ (u v : Value) (W : World), (callFunc 105 (#[] ++ #[u, v])).run Tryz.prog W = .ok (.enter 105 (#[] ++ #[u, v])) W := fun u v W => by go_simp
  exact fceil_g w na false A B n m ca cb _ _ hA hB _ fun W h1 h2 => changew_g W 65 na false A B n m ca cb _ _ h1 h2 _ fun W g0 ga qf qa i1 i2 =>
    attemptw_ok W 105 #[] #[_, _] (ceilZ x P) (hcf3 _ _) (changew_ok (Waw W) g0 ga 65 na false A B n m ca cb _ _ (qf.via (waw_below W)) (qa.via (waw_below W)) (i1.via (waw_below W)) (i2.via (waw_below W)) hv (ceilZ x P) hcf2 fun W j1 j2 => ceil_n W A B n m ca cb k x P j1 j2 hx hP (by omega) hk1 ha hP0)

set_option maxRecDepth 100000 in
set_option maxHeartbeats 2000000 in
theorem fround_g (w : World) (na da : Bool) (A B : Option Addr) (n m ca cb : Nat) (xs ys : List Nat) (hA : Lm w w.heap.size A n ca xs) (hB : Lm w w.heap.size B m cb ys) (z : Int)
    (H : ∀ W, Lm W W.heap.size A n ca xs → Lm W W.heap.size B m cb ys → Calls Tryz.prog 63 #[fv na A n ca da B m cb, .func (.func 66) #[] #[]] W (RN W z)) :
    Calls Tryz.prog 29 #[fv na A n ca da B m cb] w (RN w z) := by
  have HH := Lib.hid H
  have HA := Lib.hid hA
  have HB := Lib.hid hB
  clear H hA hB
  go_enter Tryz.func29, Tryz.ntmps29
  have QR := Lib.hid (Pr.new (w.alloc (.cells #[.bool na, .slice A n ca, .bool da, .slice B m cb] 29)) (w.heap.size + 1) (by simp) (.bool false) (.slice none 0 0) 24)
  have BW : Hid (Below w.heap.size w ((w.alloc (.cells #[.bool na, .slice A n ca, .bool da, .slice B m cb] 29)).alloc (.cells #[.bool false, .slice none 0 0] 24))) := below_alloc (below_alloc (Below.refl _ _) _) _
  have LA : Hid (Lm ((w.alloc (.cells #[.bool na, .slice A n ca, .bool da, .slice B m cb] 29)).alloc (.cells #[.bool false, .slice none 0 0] 24)) ((w.alloc (.cells #[.bool na, .slice A n ca, .bool da, .slice B m cb] 29)).alloc (.cells #[.bool false, .slice none 0 0] 24)).heap.size A n ca xs) := ((HA.out.box _).box _)
  have LB : Hid (Lm ((w.alloc (.cells #[.bool na, .slice A n ca, .bool da, .slice B m cb] 29)).alloc (.cells #[.bool false, .slice none 0 0] 24)) ((w.alloc (.cells #[.bool na, .slice A n ca, .bool da, .slice B m cb] 29)).alloc (.cells #[.bool false, .slice none 0 0] 24)).heap.size B m cb ys) := ((HB.out.box _).box _)
  clear HA HB
  go_wp2_with fail
  refine (HH.out _ LA.out LB.out).mono ?_
  rintro e w1 ⟨A1, n1, c1, rfl, hL, hb⟩
  have Q := Lib.hid (QR.out.via hb)
  have L1 := Lib.hid hL
  have BB := Lib.hid (btr BW.out hb)
  obtain ⟨np, hnp⟩ : ∃ b, decide (z < 0) = b := ⟨_, rfl⟩
  rw [hnp]
  have HNp := Lib.hid hnp
  have ⟨q0, q1, f0, f1, ql⟩ := Q.out
  clear hL hb hnp
  go_wp2
  exact post_ws Tryz.results29 rfl rfl Q.out.c0 Q.out.c1 ⟨A1, n1, c1, by rw [HNp.out]; rfl, L1.out.setP Q.out _ _, below_set2 BB.out (by omega) _ _⟩
theorem fround_n (w : World) (A B : Option Addr) (n m ca cb k : Nat) (x P : Int) (hA : Lm w w.heap.size A n ca (digs x.natAbs)) (hB : Lm w w.heap.size B m cb (digs P.natAbs)) (hx : Sz k x) (hP : Sz k P) (hk : k ≤ 1999) (hk1 : 1 ≤ k) {na : Bool} (ha : decide (x < 0) = na) (hP0 : 0 < P) (hv : fchk na (digs x.natAbs) false (digs P.natAbs) = 0) :
    Calls Tryz.prog 29 #[fv na A n ca false B m cb] w (RN w (rndZ x P)) := by
  have hcf2 : ∀ (u : Value) (W : World), (callFunc 66 #[u]).run Tryz.prog W = .ok (.enter 66 #[u]) W := fun u W => by go_simp
  have hcf3 : ∀ (u v : Value) (W : World), (callFunc 105 (#[] ++ #[u, v])).run Tryz.prog W = .ok (.enter 105 (#[] ++ #[u, v])) W := fun u v W => by go_simp
  exact fround_g w na false A B n m ca cb _ _ hA hB _ fun W h1 h2 => changew_g W 66 na false A B n m ca cb _ _ h1 h2 _ fun W g0 ga qf qa i1 i2 =>
    attemptw_ok W 105 #[] #[_, _] (rndZ x P) (hcf3 _ _) (changew_ok (Waw W) g0 ga 66 na false A B n m ca cb _ _ (qf.via (waw_below W)) (qa.via (waw_below W)) (i1.via (waw_below W)) (i2.via (waw_below W)) hv (rndZ x P) hcf2 fun W j1 j2 => round_n W A B n m ca cb k x P j1 j2 hx hP (by omega) hk1 ha hP0)

end Go.Proofs.YtoigmcggkanncaaGreatDoor

/- Package frac: Add, Sub, Mul, Div, Cmp, Neg, Of, Floor, Ceil, Round at valid fractions, by what these are worth. -/
namespace Go.Proofs.YtoigmcggkanncaaGreatDoor
open Go.RowKit

/-- A fraction in lowest terms that is worth u / v, by its numbers' limbs. -/
def Fw (w : World) (k : Nat) (u v : Int) (z : Bool) (A : Option Addr) (n c : Nat) (B : Option Addr) (m cb : Nat) : Prop := ∃ p q, decide (p < 0) = z ∧ FrV k p q u v ∧ Lm w w.heap.size A n c (digs p.natAbs) ∧ Lm w w.heap.size B m cb (digs q.natAbs)
/-- A call returns such a fraction without an error. -/
def RFw (w : World) (k : Nat) (u v : Int) (e : Ending) (w' : World) : Prop := ∃ z A n c B m cb, e = .returned (.tuple #[fv z A n c false B m cb, .int .i64 0]) ∧ Fw w' k u v z A n c B m cb ∧ Below w.heap.size w w'
section
variable {w w' : World} {k : Nat} {u v : Int} {z : Bool} {A : Option Addr} {n c : Nat} {B : Option Addr} {m cb : Nat}
theorem Fw.via (h : Fw w k u v z A n c B m cb) (hb : Below w.heap.size w w') : Fw w' k u v z A n c B m cb := by
  obtain ⟨p, q, h1, h2, h3, h4⟩ := h
  exact ⟨p, q, h1, h2, h3.via hb, h4.via hb⟩
theorem Fw.alloc (h : Fw w k u v z A n c B m cb) (o : Obj) : Fw (w.alloc o) k u v z A n c B m cb := h.via ((Below.refl _ _).alloc (Nat.le_refl _) o)
theorem Fw.drew (h : Fw w k u v z A n c B m cb) : Fw w.drew k u v z A n c B m cb := h.via (Below.refl _ _).drew
theorem Fw.mono {l : Nat} (h : Fw w k u v z A n c B m cb) (hl : k ≤ l) : Fw w l u v z A n c B m cb := by
  obtain ⟨p, q, h1, h2, h3, h4⟩ := h
  exact ⟨p, q, h1, h2.mono hl, h3, h4⟩
theorem Fw.to (h : Fw w k u v z A n c B m cb) (hv : v ≠ 0) {u' v' : Int} (e : u * v' = u' * v) : Fw w k u' v' z A n c B m cb := by
  obtain ⟨p, q, h1, h2, h3, h4⟩ := h
  exact ⟨p, q, h1, frv_to h2 hv e, h3, h4⟩
theorem Fw.put4 (h : Fw w k u v z A n c B m cb) {g n0 c0 n1 c1 : Nat} {b b' : Bool} {A0 A1 : Option Addr} (p : Qd w g (.bool b) (.slice A0 n0 c0) (.bool b') (.slice A1 n1 c1)) (y0 y1 y2 y3 : Value) : Fw (Proofs.YtoigmcggkanncaaGreatDoor.put4 w g y0 y1 y2 y3) k u v z A n c B m cb := by
  obtain ⟨p1, q1, h1, h2, h3, h4⟩ := h
  exact ⟨p1, q1, h1, h2, h3.put4 p _ _ _ _, h4.put4 p _ _ _ _⟩
theorem rfe_rfw {p q : Int} (h : FrV k p q u v) {e : Ending} (hr : RFE w p q e w') : RFw w k u v e w' := by
  obtain ⟨A, n, c, B, m, cb, he, h1, h2, h3⟩ := hr
  refine ⟨decide (p < 0), A, n, c, B, m, cb, ?_, ⟨p, q, rfl, h, h1, h2⟩, h3⟩
  rw [he, decide_eq_false (show ¬ q < 0 by have := h.pos; omega)]
end
theorem fr_gcd {k : Nat} {p q u v : Int} (h : FrV k p q u v) : Nat.gcd p.natAbs q.natAbs = 1 := by
  have h1 := h.ok
  unfold fchk at h1
  split at h1
  · rename_i hh
    have := hh.2.2.2.2
    rw [digs_val, digs_val] at this
    exact this
  · cases h1
/-- Two fractions in lowest terms that are worth the same are the same. -/
theorem frv_uniq {k l : Nat} {p q r s u v a b : Int} (h1 : FrV k p q u v) (h2 : FrV l r s a b) (hv : v ≠ 0) (hb : b ≠ 0) (e : u * b = a * v) : p = r ∧ q = s := by
  have g1 := fr_gcd h1
  have g2 := fr_gcd h2
  have e1 : p * s = r * q := by
    have a1 := h1.eq
    have a2 := h2.eq
    refine Int.eq_of_mul_eq_mul_right (a := v * b) (Int.mul_ne_zero hv hb) ?_
    have x1 : p * s * (v * b) = p * v * (s * b) := by grind
    have x2 : r * q * (v * b) = r * b * (q * v) := by grind
    rw [x1, x2, a1, a2]
    have x3 : u * q * (s * b) = u * b * (q * s) := by grind
    have x4 : a * s * (q * v) = a * v * (q * s) := by grind
    rw [x3, x4, e]
  have hq := h1.pos
  have hs := h2.pos
  have n1 : p.natAbs * s.natAbs = r.natAbs * q.natAbs := by rw [← Int.natAbs_mul, ← Int.natAbs_mul, e1]
  have d1 : q.natAbs ∣ s.natAbs := by
    have : q.natAbs ∣ p.natAbs * s.natAbs := by rw [n1]; exact Nat.dvd_mul_left _ _
    exact (Nat.Coprime.dvd_of_dvd_mul_left (Nat.Coprime.symm g1) this)
  have d2 : s.natAbs ∣ q.natAbs := by
    have : s.natAbs ∣ r.natAbs * q.natAbs := by rw [← n1]; exact Nat.dvd_mul_left _ _
    exact (Nat.Coprime.dvd_of_dvd_mul_left (Nat.Coprime.symm g2) this)
  have n2 : q.natAbs = s.natAbs := Nat.dvd_antisymm d1 d2
  have e2 : q = s := by omega
  subst e2
  exact ⟨Int.eq_of_mul_eq_mul_right (by omega) e1, rfl⟩
theorem frw_neg {k : Nat} {p q u v : Int} (h : FrV k p q u v) (hk : k ≤ 2000) : FrV k (-p) q (-u) v := by
  have sp : Sz k (-p) := by have := h.sp; unfold Sz at *; omega
  refine ⟨h.pos, by rw [Int.neg_mul, Int.neg_mul, h.eq], ?_, sp, h.sq⟩
  have hc := h.ok
  have c1 := chk_z sp (show k ≤ 4096 by omega)
  have e : (-p).natAbs = p.natAbs := by omega
  unfold fchk at hc ⊢
  split at hc
  · rename_i h0
    rw [e] at c1 ⊢
    rw [if_pos ⟨c1, h0.2⟩]
  · exact absurd hc (by decide)
theorem fadd_w {w : World} {k : Nat} {u v a b : Int} {z1 z2 : Bool} {A B C D : Option Addr} {n m r s ca cb cc cd : Nat} (X : Fw w k u v z1 A n ca B m cb) (Y : Fw w k a b z2 C r cc D s cd) (hk : k ≤ 300) :
    Calls Tryz.prog 15 #[fv z1 A n ca false B m cb, fv z2 C r cc false D s cd] w (RFw w (2 * k + 1) (u * b + a * v) (v * b)) := by
  have hcf2 : ∀ (u v : Value) (W : World), (callFunc 54 #[u, v]).run Tryz.prog W = .ok (.enter 54 #[u, v]) W := fun u v W => by go_simp
  have hcf3 : ∀ (u v z : Value) (W : World), (callFunc 78 (#[] ++ #[u, v, z])).run Tryz.prog W = .ok (.enter 78 (#[] ++ #[u, v, z])) W := fun u v z W => by go_simp
  obtain ⟨x, P, e1, f1, hA, hB⟩ := X
  obtain ⟨y, Q, e2, f2, hC, hD⟩ := Y
  subst e1 e2
  have hv1 := f1.ok
  have hv2 := f2.ok
  have sx := f1.sp
  have sP := f1.sq
  have sy := f2.sp
  have sQ := f2.sq
  have hP0 := f1.pos
  have hQ0 := f2.pos
  have hg1 := fr_gcd f1
  have hg2 := fr_gcd f2
  obtain ⟨t, ht, hg⟩ : ∃ t : Int, x * Q + y * P = t * (Nat.gcd P.natAbs Q.natAbs : Int) ∧ Nat.gcd (x * Q + y * P).natAbs (P * Q).natAbs = Nat.gcd P.natAbs Q.natAbs * Nat.gcd t.natAbs (Nat.gcd P.natAbs Q.natAbs) := by
    obtain ⟨t, h1, _, h2⟩ := frac_common x y P.natAbs Q.natAbs _ (by omega) hg1 hg2 rfl
    have hp : (P.natAbs : Int) = P := by omega
    have hq : (Q.natAbs : Int) = Q := by omega
    rw [hp, hq] at h1 h2
    refine ⟨t, h1, ?_⟩
    rw [Int.natAbs_mul]
    exact h2
  have hM : P * Q ≠ 0 := Int.mul_ne_zero (by omega) (by omega)
  have sN : Sz (2 * k + 1) (x * Q + y * P) := ((sx.mul sQ).add (sy.mul sP)).mono (by omega)
  have sM : Sz (2 * k + 1) (P * Q) := (sP.mul sQ).mono (by omega)
  have fr := frv_to (red_fr sN sM (by omega) hM) hM (u' := u * b + a * v) (v' := v * b) (frv_add f1.eq f2.eq)
  exact (fadd_g w (decide (x < 0)) false (decide (y < 0)) false A B C D n m r s ca cb cc cd (digs x.natAbs) (digs P.natAbs) (digs y.natAbs) (digs Q.natAbs) hA hB hC hD _ _ _ _ _ fun W h1 h2 h3 h4 => join_g W 54 (decide (x < 0)) false (decide (y < 0)) false A B C D n m r s ca cb cc cd (digs x.natAbs) (digs P.natAbs) (digs y.natAbs) (digs Q.natAbs) h1 h2 h3 h4 _ _ _ _ _ fun W g0 ga gb qf qa qb i1 i2 i3 i4 => (attempt_ok W 78 #[] #[_, _, _] ((x * Q + y * P) / dvr (x * Q + y * P) (P * Q)) ((P * Q) / dvr (x * Q + y * P) (P * Q)) (hcf3 _ _ _) (joinf_ok (Wat W) g0 ga gb 54 (decide (x < 0)) false (decide (y < 0)) false A B C D n m r s ca cb cc cd _ _ _ _ (qf.via (wat_below W)) (qa.via (wat_below W)) (qb.via (wat_below W)) (i1.via (wat_below W)) (i2.via (wat_below W)) (i3.via (wat_below W)) (i4.via (wat_below W)) hv1 hv2 ((x * Q + y * P) / dvr (x * Q + y * P) (P * Q)) ((P * Q) / dvr (x * Q + y * P) (P * Q)) hcf2 fun W j1 j2 j3 j4 => plus_n W (decide (x < 0)) false (decide (y < 0)) false A B C D n m r s ca cb cc cd _ _ _ _ j1 j2 j3 j4 _ _ fun W j1 j2 j3 j4 => add_plus W A B C D n m r s ca cb cc cd k x y P Q j1 j2 j3 j4 sx sP sy sQ (by omega) rfl rfl hP0 hQ0 t ht hg)).mono fun e w' hr => rfe_rg hr).mono fun e w' hr => rfe_rfw fr hr
theorem fsub_w {w : World} {k : Nat} {u v a b : Int} {z1 z2 : Bool} {A B C D : Option Addr} {n m r s ca cb cc cd : Nat} (X : Fw w k u v z1 A n ca B m cb) (Y : Fw w k a b z2 C r cc D s cd) (hk : k ≤ 300) :
    Calls Tryz.prog 20 #[fv z1 A n ca false B m cb, fv z2 C r cc false D s cd] w (RFw w (2 * k + 1) (u * b - a * v) (v * b)) := by
  have hcf2 : ∀ (u v : Value) (W : World), (callFunc 57 #[u, v]).run Tryz.prog W = .ok (.enter 57 #[u, v]) W := fun u v W => by go_simp
  have hcf3 : ∀ (u v z : Value) (W : World), (callFunc 78 (#[] ++ #[u, v, z])).run Tryz.prog W = .ok (.enter 78 (#[] ++ #[u, v, z])) W := fun u v z W => by go_simp
  obtain ⟨x, P, e1, f1, hA, hB⟩ := X
  obtain ⟨y, Q, e2, f2, hC, hD⟩ := Y
  subst e1 e2
  have hv1 := f1.ok
  have hv2 := f2.ok
  have sx := f1.sp
  have sP := f1.sq
  have sy := f2.sp
  have sQ := f2.sq
  have hP0 := f1.pos
  have hQ0 := f2.pos
  have hg1 := fr_gcd f1
  have hg2 := fr_gcd f2
  obtain ⟨t, ht, hg⟩ : ∃ t : Int, x * Q - y * P = t * (Nat.gcd P.natAbs Q.natAbs : Int) ∧ Nat.gcd (x * Q - y * P).natAbs (P * Q).natAbs = Nat.gcd P.natAbs Q.natAbs * Nat.gcd t.natAbs (Nat.gcd P.natAbs Q.natAbs) := by
    obtain ⟨t, h1, _, h2⟩ := frac_common x (-y) P.natAbs Q.natAbs _ (by omega) hg1 (by rw [Int.natAbs_neg]; exact hg2) rfl
    have hp : (P.natAbs : Int) = P := by omega
    have hq : (Q.natAbs : Int) = Q := by omega
    rw [hp, hq] at h1 h2
    refine ⟨t, (by rw [← h1, Int.neg_mul]; rfl), ?_⟩
    rw [Int.natAbs_mul]
    rw [Int.neg_mul] at h2; exact h2
  have hM : P * Q ≠ 0 := Int.mul_ne_zero (by omega) (by omega)
  have sN : Sz (2 * k + 1) (x * Q - y * P) := ((sx.mul sQ).sub (sy.mul sP)).mono (by omega)
  have sM : Sz (2 * k + 1) (P * Q) := (sP.mul sQ).mono (by omega)
  have fr := frv_to (red_fr sN sM (by omega) hM) hM (u' := u * b - a * v) (v' := v * b) (frv_sub f1.eq f2.eq)
  exact (fsub_g w (decide (x < 0)) false (decide (y < 0)) false A B C D n m r s ca cb cc cd (digs x.natAbs) (digs P.natAbs) (digs y.natAbs) (digs Q.natAbs) hA hB hC hD _ _ _ _ _ fun W h1 h2 h3 h4 => join_g W 57 (decide (x < 0)) false (decide (y < 0)) false A B C D n m r s ca cb cc cd (digs x.natAbs) (digs P.natAbs) (digs y.natAbs) (digs Q.natAbs) h1 h2 h3 h4 _ _ _ _ _ fun W g0 ga gb qf qa qb i1 i2 i3 i4 => (attempt_ok W 78 #[] #[_, _, _] ((x * Q - y * P) / dvr (x * Q - y * P) (P * Q)) ((P * Q) / dvr (x * Q - y * P) (P * Q)) (hcf3 _ _ _) (joinf_ok (Wat W) g0 ga gb 57 (decide (x < 0)) false (decide (y < 0)) false A B C D n m r s ca cb cc cd _ _ _ _ (qf.via (wat_below W)) (qa.via (wat_below W)) (qb.via (wat_below W)) (i1.via (wat_below W)) (i2.via (wat_below W)) (i3.via (wat_below W)) (i4.via (wat_below W)) hv1 hv2 ((x * Q - y * P) / dvr (x * Q - y * P) (P * Q)) ((P * Q) / dvr (x * Q - y * P) (P * Q)) hcf2 fun W j1 j2 j3 j4 => minus_n W (decide (x < 0)) false (decide (y < 0)) false A B C D n m r s ca cb cc cd _ _ _ _ j1 j2 j3 j4 _ _ fun W j1 j2 j3 j4 => add_minus W A B C D n m r s ca cb cc cd k x y P Q j1 j2 j3 j4 sx sP sy sQ (by omega) rfl rfl hP0 hQ0 t ht hg)).mono fun e w' hr => rfe_rg hr).mono fun e w' hr => rfe_rfw fr hr
theorem fmul_w {w : World} {k : Nat} {u v a b : Int} {z1 z2 : Bool} {A B C D : Option Addr} {n m r s ca cb cc cd : Nat} (X : Fw w k u v z1 A n ca B m cb) (Y : Fw w k a b z2 C r cc D s cd) (hk : k ≤ 300) :
    Calls Tryz.prog 21 #[fv z1 A n ca false B m cb, fv z2 C r cc false D s cd] w (RFw w (2 * k + 1) (u * a) (v * b)) := by
  have hcf2 : ∀ (u v : Value) (W : World), (callFunc 58 #[u, v]).run Tryz.prog W = .ok (.enter 58 #[u, v]) W := fun u v W => by go_simp
  have hcf3 : ∀ (u v z : Value) (W : World), (callFunc 78 (#[] ++ #[u, v, z])).run Tryz.prog W = .ok (.enter 78 (#[] ++ #[u, v, z])) W := fun u v z W => by go_simp
  obtain ⟨x, P, e1, f1, hA, hB⟩ := X
  obtain ⟨y, Q, e2, f2, hC, hD⟩ := Y
  subst e1 e2
  have hv1 := f1.ok
  have hv2 := f2.ok
  have sx := f1.sp
  have sP := f1.sq
  have sy := f2.sp
  have sQ := f2.sq
  have hP0 := f1.pos
  have hQ0 := f2.pos
  have hg1 := fr_gcd f1
  have hg2 := fr_gcd f2
  have hM : P * Q ≠ 0 := Int.mul_ne_zero (by omega) (by omega)
  have sN : Sz (2 * k + 1) (x * y) := (sx.mul sy).mono (by omega)
  have sM : Sz (2 * k + 1) (P * Q) := (sP.mul sQ).mono (by omega)
  have fr := frv_to (red_fr sN sM (by omega) hM) hM (u' := u * a) (v' := v * b) (frv_mul f1.eq f2.eq)
  exact (fmul_g w (decide (x < 0)) false (decide (y < 0)) false A B C D n m r s ca cb cc cd (digs x.natAbs) (digs P.natAbs) (digs y.natAbs) (digs Q.natAbs) hA hB hC hD _ _ _ _ _ fun W h1 h2 h3 h4 => join_g W 58 (decide (x < 0)) false (decide (y < 0)) false A B C D n m r s ca cb cc cd (digs x.natAbs) (digs P.natAbs) (digs y.natAbs) (digs Q.natAbs) h1 h2 h3 h4 _ _ _ _ _ fun W g0 ga gb qf qa qb i1 i2 i3 i4 => (attempt_ok W 78 #[] #[_, _, _] ((x * y) / dvr (x * y) (P * Q)) ((P * Q) / dvr (x * y) (P * Q)) (hcf3 _ _ _) (joinf_ok (Wat W) g0 ga gb 58 (decide (x < 0)) false (decide (y < 0)) false A B C D n m r s ca cb cc cd _ _ _ _ (qf.via (wat_below W)) (qa.via (wat_below W)) (qb.via (wat_below W)) (i1.via (wat_below W)) (i2.via (wat_below W)) (i3.via (wat_below W)) (i4.via (wat_below W)) hv1 hv2 ((x * y) / dvr (x * y) (P * Q)) ((P * Q) / dvr (x * y) (P * Q)) hcf2 fun W j1 j2 j3 j4 => times_n W A B C D n m r s ca cb cc cd k x y P Q j1 j2 j3 j4 sx sP sy sQ (by omega) rfl rfl hP0 hQ0)).mono fun e w' hr => rfe_rg hr).mono fun e w' hr => rfe_rfw fr hr
theorem fdiv_w {w : World} {k : Nat} {u v a b : Int} {z1 z2 : Bool} {A B C D : Option Addr} {n m r s ca cb cc cd : Nat} (X : Fw w k u v z1 A n ca B m cb) (Y : Fw w k a b z2 C r cc D s cd) (hk : k ≤ 300) (ha : a ≠ 0) :
    Calls Tryz.prog 11 #[fv z1 A n ca false B m cb, fv z2 C r cc false D s cd] w (RFw w (2 * k + 1) (u * b) (v * a)) := by
  have hcf2 : ∀ (u v : Value) (W : World), (callFunc 44 #[u, v]).run Tryz.prog W = .ok (.enter 44 #[u, v]) W := fun u v W => by go_simp
  have hcf3 : ∀ (u v z : Value) (W : World), (callFunc 78 (#[] ++ #[u, v, z])).run Tryz.prog W = .ok (.enter 78 (#[] ++ #[u, v, z])) W := fun u v z W => by go_simp
  obtain ⟨x, P, e1, f1, hA, hB⟩ := X
  obtain ⟨y, Q, e2, f2, hC, hD⟩ := Y
  subst e1 e2
  have hv1 := f1.ok
  have hv2 := f2.ok
  have sx := f1.sp
  have sP := f1.sq
  have sy := f2.sp
  have sQ := f2.sq
  have hP0 := f1.pos
  have hQ0 := f2.pos
  have hg1 := fr_gcd f1
  have hg2 := fr_gcd f2
  have hy0 : y ≠ 0 := fun e => by
    have := f2.eq
    rw [e, Int.zero_mul] at this
    exact Int.mul_ne_zero ha (by omega) this.symm
  have hM : P * y ≠ 0 := Int.mul_ne_zero (by omega) hy0
  have sN : Sz (2 * k + 1) (x * Q) := (sx.mul sQ).mono (by omega)
  have sM : Sz (2 * k + 1) (P * y) := (sP.mul sy).mono (by omega)
  have fr := frv_to (red_fr sN sM (by omega) hM) hM (u' := u * b) (v' := v * a) (frv_div f1.eq f2.eq)
  rcases Int.lt_or_lt_of_ne hy0 with hy1 | hy1
  · exact (fdiv_g w (decide (x < 0)) false (decide (y < 0)) false A B C D n m r s ca cb cc cd (digs x.natAbs) (digs P.natAbs) (digs y.natAbs) (digs Q.natAbs) hA hB hC hD _ _ _ _ _ fun W h1 h2 h3 h4 => join_g W 44 (decide (x < 0)) false (decide (y < 0)) false A B C D n m r s ca cb cc cd (digs x.natAbs) (digs P.natAbs) (digs y.natAbs) (digs Q.natAbs) h1 h2 h3 h4 _ _ _ _ _ fun W g0 ga gb qf qa qb i1 i2 i3 i4 => (attempt_ok W 78 #[] #[_, _, _] ((x * Q) / dvr (x * Q) (P * y)) ((P * y) / dvr (x * Q) (P * y)) (hcf3 _ _ _) (joinf_ok (Wat W) g0 ga gb 44 (decide (x < 0)) false (decide (y < 0)) false A B C D n m r s ca cb cc cd _ _ _ _ (qf.via (wat_below W)) (qa.via (wat_below W)) (qb.via (wat_below W)) (i1.via (wat_below W)) (i2.via (wat_below W)) (i3.via (wat_below W)) (i4.via (wat_below W)) hv1 hv2 ((x * Q) / dvr (x * Q) (P * y)) ((P * y) / dvr (x * Q) (P * y)) hcf2 fun W j1 j2 j3 j4 => over_neg W A B C D n m r s ca cb cc cd k x y P Q j1 j2 j3 j4 sx sP sy sQ (by omega) rfl rfl hP0 hQ0 hy1)).mono fun e w' hr => rfe_rg hr).mono fun e w' hr => rfe_rfw fr hr
  · exact (fdiv_g w (decide (x < 0)) false (decide (y < 0)) false A B C D n m r s ca cb cc cd (digs x.natAbs) (digs P.natAbs) (digs y.natAbs) (digs Q.natAbs) hA hB hC hD _ _ _ _ _ fun W h1 h2 h3 h4 => join_g W 44 (decide (x < 0)) false (decide (y < 0)) false A B C D n m r s ca cb cc cd (digs x.natAbs) (digs P.natAbs) (digs y.natAbs) (digs Q.natAbs) h1 h2 h3 h4 _ _ _ _ _ fun W g0 ga gb qf qa qb i1 i2 i3 i4 => (attempt_ok W 78 #[] #[_, _, _] ((x * Q) / dvr (x * Q) (P * y)) ((P * y) / dvr (x * Q) (P * y)) (hcf3 _ _ _) (joinf_ok (Wat W) g0 ga gb 44 (decide (x < 0)) false (decide (y < 0)) false A B C D n m r s ca cb cc cd _ _ _ _ (qf.via (wat_below W)) (qa.via (wat_below W)) (qb.via (wat_below W)) (i1.via (wat_below W)) (i2.via (wat_below W)) (i3.via (wat_below W)) (i4.via (wat_below W)) hv1 hv2 ((x * Q) / dvr (x * Q) (P * y)) ((P * y) / dvr (x * Q) (P * y)) hcf2 fun W j1 j2 j3 j4 => over_pos W A B C D n m r s ca cb cc cd k x y P Q j1 j2 j3 j4 sx sP sy sQ (by omega) rfl rfl hP0 hQ0 hy1)).mono fun e w' hr => rfe_rg hr).mono fun e w' hr => rfe_rfw fr hr
theorem fdiv_z {w : World} {k : Nat} {u v b : Int} {z1 z2 : Bool} {A B C D : Option Addr} {n m r s ca cb cc cd : Nat} (X : Fw w k u v z1 A n ca B m cb) (Y : Fw w k 0 b z2 C r cc D s cd) (hk : k ≤ 300) (hb : b ≠ 0) :
    Calls Tryz.prog 11 #[fv z1 A n ca false B m cb, fv z2 C r cc false D s cd] w (RG w false [] false [] 18) := by
  have hcf2 : ∀ (u v : Value) (W : World), (callFunc 44 #[u, v]).run Tryz.prog W = .ok (.enter 44 #[u, v]) W := fun u v W => by go_simp
  have hcf3 : ∀ (u v z : Value) (W : World), (callFunc 78 (#[] ++ #[u, v, z])).run Tryz.prog W = .ok (.enter 78 (#[] ++ #[u, v, z])) W := fun u v z W => by go_simp
  obtain ⟨x, P, e1, f1, hA, hB⟩ := X
  obtain ⟨y, Q, e2, f2, hC, hD⟩ := Y
  subst e1 e2
  have hy0 : y = 0 := by
    have := f2.eq
    rw [Int.zero_mul] at this
    exact (Int.mul_eq_zero.1 this).resolve_right hb
  exact fdiv_g w (decide (x < 0)) false (decide (y < 0)) false A B C D n m r s ca cb cc cd (digs x.natAbs) (digs P.natAbs) (digs y.natAbs) (digs Q.natAbs) hA hB hC hD false false [] [] 18 fun W h1 h2 h3 h4 => join_g W 44 (decide (x < 0)) false (decide (y < 0)) false A B C D n m r s ca cb cc cd (digs x.natAbs) (digs P.natAbs) (digs y.natAbs) (digs Q.natAbs) h1 h2 h3 h4 _ _ _ _ _ fun W g0 ga gb qf qa qb i1 i2 i3 i4 => (attempt_no W 78 #[] #[_, _, _] 18 (hcf3 _ _ _) (joinf_pan (Wat W) g0 ga gb 44 (decide (x < 0)) false (decide (y < 0)) false A B C D n m r s ca cb cc cd _ _ _ _ (qf.via (wat_below W)) (qa.via (wat_below W)) (qb.via (wat_below W)) (i1.via (wat_below W)) (i2.via (wat_below W)) (i3.via (wat_below W)) (i4.via (wat_below W)) f1.ok f2.ok 18 hcf2 fun W j1 j2 j3 j4 => over_zero W A B C D n m r s ca cb cc cd k x y P Q j1 j2 j3 j4 f1.sp f1.sq f2.sp f2.sq (by omega) rfl rfl f1.pos f2.pos hy0)).mono fun e w' hr => rfx_rg hr
theorem fcmp_w {w : World} {k : Nat} {u v a b : Int} {z1 z2 : Bool} {A B C D : Option Addr} {n m r s ca cb cc cd : Nat} (X : Fw w k u v z1 A n ca B m cb) (Y : Fw w k a b z2 C r cc D s cd) (hk : k ≤ 300) (hv : 0 < v) (hb : 0 < b) :
    Calls Tryz.prog 24 #[fv z1 A n ca false B m cb, fv z2 C r cc false D s cd] w (RIE w (cmpZ (u * b) (a * v)) 0) := by
  have hcf2 : ∀ (u v : Value) (W : World), (callFunc 62 #[u, v]).run Tryz.prog W = .ok (.enter 62 #[u, v]) W := fun u v W => by go_simp
  have hcf3 : ∀ (u v z : Value) (W : World), (callFunc 102 (#[] ++ #[u, v, z])).run Tryz.prog W = .ok (.enter 102 (#[] ++ #[u, v, z])) W := fun u v z W => by go_simp
  obtain ⟨x, P, e1, f1, hA, hB⟩ := X
  obtain ⟨y, Q, e2, f2, hC, hD⟩ := Y
  subst e1 e2
  have hc := frv_cmp f1.pos f2.pos hv hb f1.eq f2.eq
  have e : cmpZ (x * Q) (y * P) = cmpZ (u * b) (a * v) := by
    unfold cmpZ
    have h1 := hc.1
    have h2 := hc.2
    split <;> split <;> (try split) <;> (try split) <;> first | rfl | omega
  rw [← e]
  exact fcmp_g w (decide (x < 0)) false (decide (y < 0)) false A B C D n m r s ca cb cc cd (digs x.natAbs) (digs P.natAbs) (digs y.natAbs) (digs Q.natAbs) hA hB hC hD _ _ fun W h1 h2 h3 h4 => joini_g W 62 (decide (x < 0)) false (decide (y < 0)) false A B C D n m r s ca cb cc cd (digs x.natAbs) (digs P.natAbs) (digs y.natAbs) (digs Q.natAbs) h1 h2 h3 h4 _ _ fun W g0 ga gb qf qa qb i1 i2 i3 i4 => attempti_ok W 102 #[] #[_, _, _] (cmpZ (x * Q) (y * P)) (hcf3 _ _ _) (joini_ok (Wai W) g0 ga gb 62 (decide (x < 0)) false (decide (y < 0)) false A B C D n m r s ca cb cc cd _ _ _ _ (qf.via (wai_below W)) (qa.via (wai_below W)) (qb.via (wai_below W)) (i1.via (wai_below W)) (i2.via (wai_below W)) (i3.via (wai_below W)) (i4.via (wai_below W)) f1.ok f2.ok (cmpZ (x * Q) (y * P)) hcf2 fun W j1 j2 j3 j4 => compare_n W A B C D n m r s ca cb cc cd k x y P Q j1 j2 j3 j4 f1.sp f1.sq f2.sp f2.sq (by omega) rfl rfl f1.pos f2.pos)
theorem fneg_w {w : World} {k : Nat} {u v : Int} {z1 : Bool} {A B : Option Addr} {n m ca cb : Nat} (X : Fw w k u v z1 A n ca B m cb) (hk : k ≤ 300) :
    Calls Tryz.prog 22 #[fv z1 A n ca false B m cb] w (RFw w k (-u) v) := by
  have hcf2 : ∀ (u : Value) (W : World), (callFunc 60 #[u]).run Tryz.prog W = .ok (.enter 60 #[u]) W := fun u W => by go_simp
  have hcf3 : ∀ (u v : Value) (W : World), (callFunc 99 (#[] ++ #[u, v])).run Tryz.prog W = .ok (.enter 99 (#[] ++ #[u, v])) W := fun u v W => by go_simp
  obtain ⟨x, P, e1, f1, hA, hB⟩ := X
  subst e1
  have h := fneg_g w (decide (x < 0)) false A B n m ca cb (digs x.natAbs) (digs P.natAbs) hA hB _ _ _ _ _ fun W h1 h2 => change_g W 60 (decide (x < 0)) false A B n m ca cb (digs x.natAbs) (digs P.natAbs) h1 h2 _ _ _ _ _ fun W g0 ga qf qa i1 i2 =>
        (attempt_ok W 99 #[] #[_, _] (-x) P (hcf3 _ _) (changef_ok (Wat W) g0 ga 60 (decide (x < 0)) false A B n m ca cb _ _ (qf.via (wat_below W)) (qa.via (wat_below W)) (i1.via (wat_below W)) (i2.via (wat_below W)) f1.ok (-x) P hcf2 fun W j1 j2 => negative_n W A B n m ca cb k x P j1 j2 f1.sp f1.sq (by omega) rfl f1.pos)).mono fun e w' hr => rfe_rg hr
  exact h.mono fun e w' hr => rfe_rfw (frw_neg f1 (by omega)) hr
theorem sz2_i {i : Int} (h1 : -9223372036854775808 ≤ i) (h2 : i ≤ 9223372036854775807) : Sz 2 i := by unfold Sz; omega
theorem of_worth {a b : Int} (ha1 : -9223372036854775808 ≤ a) (ha2 : a ≤ 9223372036854775807) (hb1 : -9223372036854775808 ≤ b) (hb2 : b ≤ 9223372036854775807) (hb : b ≠ 0) : FrV 2 (a / dvr a b) (b / dvr a b) (if b < 0 then -a else a) (b.natAbs : Int) :=
  frv_to (red_fr (k := 2) (sz2_i ha1 ha2) (sz2_i hb1 hb2) (by omega) hb) hb (u' := if b < 0 then -a else a) (v' := (b.natAbs : Int)) (by
    split
    · have : (b.natAbs : Int) = -b := by omega
      rw [this, Int.mul_neg, Int.neg_mul]
    · have : (b.natAbs : Int) = b := by omega
      rw [this])
theorem rof_w (w : World) (a b : Int) (ha1 : -9223372036854775808 ≤ a) (ha2 : a ≤ 9223372036854775807) (hb1 : -9223372036854775808 ≤ b) (hb2 : b ≤ 9223372036854775807) (hb : b ≠ 0) :
    Calls Tryz.prog 40 #[.int .i64 a, .int .i64 b] w (RFw w 2 (if b < 0 then -a else a) (b.natAbs : Int)) := by
  refine (rof_g w a b ha1 ha2 hb1 hb2 (decide (a / dvr a b < 0)) (decide (b / dvr a b < 0)) (digs (a / dvr a b).natAbs) (digs (b / dvr a b).natAbs) 0 (fun W A B n m ca cb h1 h2 => ?_)).mono fun e w' h => rfe_rfw (of_worth ha1 ha2 hb1 hb2 hb) h
  refine rmake_ok W _ _ A B n m ca cb _ _ h1 h2 (chk_z (sz2_i ha1 ha2) (by omega)) (chk_z (sz2_i hb1 hb2) (by omega)) (fun e => hb (by have := digs_nil.1 e; omega)) _ _ (fun W h1 h2 => ?_)
  rcases Int.lt_or_lt_of_ne hb with hn | hp
  · exact rreduced_neg W A B n m ca cb 2 a b h1 h2 (sz2_i ha1 ha2) (sz2_i hb1 hb2) (by omega) rfl rfl hn
  · exact rreduced_pos W A B n m ca cb 2 a b h1 h2 (sz2_i ha1 ha2) (sz2_i hb1 hb2) (by omega) rfl rfl hp
theorem of_w (w : World) (a b : Int) (ha1 : -9223372036854775808 ≤ a) (ha2 : a ≤ 9223372036854775807) (hb1 : -9223372036854775808 ≤ b) (hb2 : b ≤ 9223372036854775807) (hb : b ≠ 0) :
    Calls Tryz.prog 10 #[.int .i64 a, .int .i64 b] w (RFw w 2 (if b < 0 then -a else a) (b.natAbs : Int)) := by
  have hcf : ∀ (v : Value) (W : World), (callFunc 48 (#[v] ++ #[])).run Tryz.prog W = .ok (.enter 48 (#[v] ++ #[])) W := fun v W => by go_simp
  refine (of_g w a b ha1 ha2 hb1 hb2 (decide (a / dvr a b < 0)) (decide (b / dvr a b < 0)) (digs (a / dvr a b).natAbs) (digs (b / dvr a b).natAbs) 0 (fun W A B n m ca cb h1 h2 => ?_)).mono fun e w' h => rfe_rfw (of_worth ha1 ha2 hb1 hb2 hb) h
  refine make_g W (decide (a < 0)) (decide (b < 0)) A B n m ca cb (digs a.natAbs) (digs b.natAbs) h1 h2 _ _ _ _ _ fun W h1 h2 => (attempt_ok W 48 #[_] #[] (a / dvr a b) (b / dvr a b) (hcf _) ?_).mono fun e w' hr => rfe_rg hr
  have i1 := h1.via (wat_below W)
  have i2 := h2.via (wat_below W)
  rcases Int.lt_or_lt_of_ne hb with hn | hp
  · exact reduced_neg (Wat W) A B n m ca cb 2 a b i1 i2 (sz2_i ha1 ha2) (sz2_i hb1 hb2) (by omega) rfl rfl hn
  · exact reduced_pos (Wat W) A B n m ca cb 2 a b i1 i2 (sz2_i ha1 ha2) (sz2_i hb1 hb2) (by omega) rfl rfl hp
end Go.Proofs.YtoigmcggkanncaaGreatDoor

/- Law 02: part, same, whole. -/
namespace Go.Proofs.YtoigmcggkanncaaGreatDoor
open Go.RowKit

/-- A call returns a fraction in lowest terms that is worth u / v. -/
def RFp (w : World) (k : Nat) (u v : Int) (e : Ending) (w' : World) : Prop := ∃ z A n c B m cb, e = .returned (fv z A n c false B m cb) ∧ Fw w' k u v z A n c B m cb ∧ Below w.heap.size w w'
/-- A call returns a bool. -/
def RBw (w : World) (b : Bool) (e : Ending) (w' : World) : Prop := e = .returned (.bool b) ∧ Below w.heap.size w w'
set_option maxRecDepth 100000 in
set_option maxHeartbeats 2000000 in
theorem lpart_w (w : World) (a b : Int) (ha1 : -9223372036854775808 ≤ a) (ha2 : a ≤ 9223372036854775807) (hb1 : -9223372036854775808 ≤ b) (hb2 : b ≤ 9223372036854775807) (hb : b ≠ 0) :
    Calls Tryz.prog 9 #[.int .i64 a, .int .i64 b] w (RFp w 2 (if b < 0 then -a else a) (b.natAbs : Int)) := by
  have QR := Lib.hid (Qd.new w w.heap.size rfl (.bool false) (.slice none 0 0) (.bool false) (.slice none 0 0) 29)
  have BW : Hid (Below w.heap.size w (w.alloc (.cells #[.bool false, .slice none 0 0, .bool false, .slice none 0 0] 29))) := below_alloc (Below.refl _ _) _
  have HO := Lib.hid (fun W => rof_w W a b ha1 ha2 hb1 hb2 hb)
  clear ha1 ha2 hb1 hb2 hb
  generalize (if b < 0 then -a else a) = u at *
  generalize (b.natAbs : Int) = v at *
  go_enter Tryz.func9, Tryz.ntmps9
  go_wp2_with fail
  generalize w.alloc (.cells #[.bool false, .slice none 0 0, .bool false, .slice none 0 0] 29) = W0 at *
  refine (HO.out _).mono ?_
  rintro e w1 ⟨z, A, n, c, B, m, cb, rfl, hX, hb⟩
  have X1 := Lib.hid (hX.alloc (.cells #[.bool z, .slice A n c, .bool false, .slice B m cb] 29))
  have Q1 := Lib.hid ((QR.out.via hb).alloc (.cells #[.bool z, .slice A n c, .bool false, .slice B m cb] 29))
  have B1 := Lib.hid (below_alloc (btr BW.out hb) (.cells #[.bool z, .slice A n c, .bool false, .slice B m cb] 29))
  have Y1 := Lib.hid (Qd.new w1 _ rfl (.bool z) (.slice A n c) (.bool false) (.slice B m cb) 29)
  clear hb hX QR BW
  go_upto_region 2 with (fail)
  generalize w1.alloc (.cells #[.bool z, .slice A n c, .bool false, .slice B m cb] 29) = W1 at *
  generalize w1.heap.size = g1 at *
  have ⟨x0, x1, x2, x3, _, _, _, _, xl⟩ := Y1.out
  have ⟨q0, q1, q2, q3, q4, q5, q6, q7, ql⟩ := Q1.out
  go_wp2
  exact post_f1 Tryz.results9 rfl rfl (Q1.out.set (.bool z) (.slice A n c) (.bool false) (.slice B m cb)) ⟨z, A, n, c, B, m, cb, rfl, X1.out.put4 Q1.out _ _ _ _, below_put4 B1.out (Nat.le_refl _) _ _ _ _⟩
set_option maxRecDepth 100000 in
set_option maxHeartbeats 2000000 in
theorem lsame_w (w : World) (k : Nat) (u v a b : Int) (z : Bool) (A B : Option Addr) (n m ca cb : Nat) (X : Fw w k u v z A n ca B m cb) (ha1 : -9223372036854775808 ≤ a) (ha2 : a ≤ 9223372036854775807) (hb1 : -9223372036854775808 ≤ b) (hb2 : b ≤ 9223372036854775807) (hb : b ≠ 0) (hv : v ≠ 0) (he : u * (b.natAbs : Int) = (if b < 0 then -a else a) * v) :
    Calls Tryz.prog 17 #[fv z A n ca false B m cb, .int .i64 0, .int .i64 a, .int .i64 b] w (RBw w true) := by
  have HO := Lib.hid (fun W => lpart_w W a b ha1 ha2 hb1 hb2 hb)
  have HV : Hid ((b.natAbs : Int) ≠ 0) := by show _ ≠ _; omega
  have HE := Lib.hid he
  have HV2 := Lib.hid hv
  clear ha1 ha2 hb1 hb2 hb he hv
  generalize (if b < 0 then -a else a) = s at *
  generalize (b.natAbs : Int) = t at *
  have QF := Lib.hid (Qd.new w w.heap.size rfl (.bool z) (.slice A n ca) (.bool false) (.slice B m cb) 29)
  have BW : Hid (Below w.heap.size w (w.alloc (.cells #[.bool z, .slice A n ca, .bool false, .slice B m cb] 29))) := below_alloc (Below.refl _ _) _
  have X1 := Lib.hid (X.via BW.out)
  clear X
  go_enter Tryz.func17, Tryz.ntmps17
  go_wp2
  generalize w.alloc (.cells #[.bool z, .slice A n ca, .bool false, .slice B m cb] 29) = W0 at *
  have HKS : Hid (∀ Y : World, Below W0.heap.size W0 Y → Y.cell? ⟨w.heap.size, 0, none⟩ = some (.bool z) ∧ Y.cell? ⟨w.heap.size, 1, none⟩ = some (.slice A n ca) ∧ Y.cell? ⟨w.heap.size, 2, none⟩ = some (.bool false) ∧ Y.cell? ⟨w.heap.size, 3, none⟩ = some (.slice B m cb)) := fun Y h => ⟨(QF.out.via h).c0, (QF.out.via h).c1, (QF.out.via h).c2, (QF.out.via h).c3⟩
  go_region_held3 (fun Y => Y.cell? ⟨w.heap.size, 0, none⟩ = some (.bool z) ∧ Y.cell? ⟨w.heap.size, 1, none⟩ = some (.slice A n ca) ∧ Y.cell? ⟨w.heap.size, 2, none⟩ = some (.bool false) ∧ Y.cell? ⟨w.heap.size, 3, none⟩ = some (.slice B m cb))
    (first | exact HKS.out _ (Below.refl _ _) | exact HKS.out _ (Below.refl _ _).drew | exact HKS.out _ E1 | exact HKS.out _ E0)
    (first
     | (have _t := E0; go_at_call 23; obtain ⟨p1, q1, d1, f1, i1, i2⟩ := X1.out.via E0; obtain ⟨p2, q2, d2, f2, j1, j2⟩ := hY; obtain ⟨rfl, rfl⟩ := frv_uniq f1 f2 HV2.out HV.out HE.out; subst d1 d2; refine (fsame_self _ _ _ _ _ _ _ _ _ _ _ _ _ _ _ _ _ i1 i2 j1 j2).mono ?_; rintro e w3 ⟨rfl, hb3⟩; have E1 : Below W0.heap.size W0 w3 := btr E0 hb3)
     | (go_at_call 9; refine (HO.out _).mono ?_; rintro e w2 ⟨z2, A2, n2, c2, B2, m2, d2, rfl, hY, hb2⟩; have E0 : Below W0.heap.size W0 w2 := (by first | exact (Below.refl _ _).drew.trans hb2 | exact hb2))
     | fail)
  all_goals
    go_wp2
    go_ret
    exact ⟨rfl, btr BW.out E1⟩
set_option maxRecDepth 100000 in
set_option maxHeartbeats 2000000 in
theorem lwhole_w (w : World) (A : Option Addr) (n c : Nat) (x : Int) (hA : Lm w w.heap.size A n c (digs x.natAbs)) (h1 : -9223372036854775808 ≤ x) (h2 : x ≤ 9223372036854775807) {na : Bool} (ha : decide (x < 0) = na) :
    Calls Tryz.prog 55 #[.agg #[.bool na, .slice A n c], .int .i64 0, .int .i64 x] w (RBw w true) := by
  have HO := Lib.hid (fun W => rfrom_any W x h1 h2)
  have HNa := Lib.hid ha
  clear ha h1 h2
  have QF := Lib.hid (Pr.new w w.heap.size rfl (.bool na) (.slice A n c) 24)
  have BW : Hid (Below w.heap.size w (w.alloc (.cells #[.bool na, .slice A n c] 24))) := below_alloc (Below.refl _ _) _
  have X1 := Lib.hid (hA.via BW.out)
  clear hA
  go_enter Tryz.func55, Tryz.ntmps55
  go_wp2
  generalize w.alloc (.cells #[.bool na, .slice A n c] 24) = W0 at *
  have HKS : Hid (∀ Y : World, Below W0.heap.size W0 Y → Y.cell? ⟨w.heap.size, 0, none⟩ = some (.bool na) ∧ Y.cell? ⟨w.heap.size, 1, none⟩ = some (.slice A n c)) := fun Y h => ⟨(QF.out.via h).c0, (QF.out.via h).c1⟩
  go_region_held3 (fun Y => Y.cell? ⟨w.heap.size, 0, none⟩ = some (.bool na) ∧ Y.cell? ⟨w.heap.size, 1, none⟩ = some (.slice A n c))
    (first | exact HKS.out _ (Below.refl _ _) | exact HKS.out _ (Below.refl _ _).drew | exact HKS.out _ E1 | exact HKS.out _ E0)
    (first
     | (have _t := E0; go_at_call 34; rw [HNa.out]; refine (rsame_self _ _ _ _ _ _ _ _ _ (X1.out.via E0) hY).mono ?_; rintro e w3 ⟨rfl, hb3⟩; have E1 : Below W0.heap.size W0 w3 := btr E0 hb3)
     | (go_at_call 7; refine (HO.out _).mono ?_; rintro e w2 ⟨A2, n2, c2, rfl, hY, hb2⟩; have E0 : Below W0.heap.size W0 w2 := (by first | exact (Below.refl _ _).drew.trans hb2 | exact hb2))
     | fail)
  all_goals
    go_wp2
    go_ret
    exact ⟨rfl, btr BW.out E1⟩
end Go.Proofs.YtoigmcggkanncaaGreatDoor

