/- Lemmas of several claims. -/
import Derived.Deep.RegionHeld3
import Derived.Deep.DeepCutAuto
import Derived.Test.YtoigmcggkanncaaGreatDoorFC6
/- Package frac: ratio.add, with either combination. -/
namespace Go.Proofs.YtoigmcggkanncaaGreatDoor
open Go.RowKit

theorem below_alloc {a b : World} (h : Below a.heap.size a b) (o : Obj) : Below a.heap.size a (b.alloc o) := h.alloc h.size o
theorem dvr_pos {N D : Int} (hD : 0 < D) : dvr N D = (Nat.gcd N.natAbs D.natAbs : Int) := by unfold dvr; rw [if_neg (by omega)]

set_option maxRecDepth 100000 in
set_option maxHeartbeats 4000000 in
theorem add_plus (w : World) (A B C D : Option Addr) (n m r s ca cb cc cd k : Nat) (x y P Q : Int) (hA : Lm w w.heap.size A n ca (digs x.natAbs)) (hB : Lm w w.heap.size B m cb (digs P.natAbs)) (hC : Lm w w.heap.size C r cc (digs y.natAbs)) (hD : Lm w w.heap.size D s cd (digs Q.natAbs))
    (hx : Sz k x) (hP : Sz k P) (hy : Sz k y) (hQ : Sz k Q) (hk : k ≤ 300) {na nb : Bool} (ha : decide (x < 0) = na) (hb : decide (y < 0) = nb) (hP0 : 0 < P) (hQ0 : 0 < Q) (t : Int) (ht : x * Q + y * P = t * (Nat.gcd P.natAbs Q.natAbs : Int))
    (hg : Nat.gcd (x * Q + y * P).natAbs (P * Q).natAbs = Nat.gcd P.natAbs Q.natAbs * Nat.gcd t.natAbs (Nat.gcd P.natAbs Q.natAbs)) :
    Calls Tryz.prog 95 #[fv na A n ca false B m cb, fv nb C r cc false D s cd, .func (.func 96) #[] #[]] w (RFr w ((x * Q + y * P) / dvr (x * Q + y * P) (P * Q)) ((P * Q) / dvr (x * Q + y * P) (P * Q))) := by
  have SX := Lib.hid hx
  have SP := Lib.hid hP
  have SY := Lib.hid hy
  have SQ := Lib.hid hQ
  have HNa := Lib.hid ha
  have HNb := Lib.hid hb
  have HP0 := Lib.hid hP0
  have HQ0 := Lib.hid hQ0
  have DP : Hid (decide (P < 0) = false) := decide_eq_false (by omega)
  have DQ : Hid (decide (Q < 0) = false) := decide_eq_false (by omega)
  have XQ := Lib.hid (hx.mul hQ)
  have YP := Lib.hid (hy.mul hP)
  have PQ := Lib.hid (hP.mul hQ)
  have SN := Lib.hid ((hx.mul hQ).add (hy.mul hP))
  have DPQ : Hid (decide (P * Q < 0) = false) := decide_eq_false (by have := Int.mul_pos hP0 hQ0; omega)
  have HPQ : Hid (0 < P * Q) := Int.mul_pos hP0 hQ0
  have HT := Lib.hid ht
  have HGG := Lib.hid hg
  have HA := Lib.hid hA
  have HB := Lib.hid hB
  have HC := Lib.hid hC
  have HD := Lib.hid hD
  have HPn : Hid (0 < P.natAbs) := by show _ < _; omega
  clear hx hP hy hQ ha hb hP0 hQ0 ht hg hA hB hC hD
  obtain ⟨N, hN⟩ : ∃ N, x * Q + y * P = N := ⟨_, rfl⟩
  rw [hN] at HT HGG SN ⊢
  have HN := Lib.hid hN
  clear hN
  go_enter Tryz.func95, Tryz.ntmps95
  have Q3 := Lib.hid (((Qd.new w _ rfl (.bool na) (.slice A n ca) (.bool false) (.slice B m cb) 69).alloc (.cells #[.bool nb, .slice C r cc, .bool false, .slice D s cd] 69)).alloc (.cells #[.bool false, .slice none 0 0, .bool false, .slice none 0 0] 29))
  have Q4 := Lib.hid ((Qd.new (w.alloc (.cells #[.bool na, .slice A n ca, .bool false, .slice B m cb] 69)) (w.heap.size + 1) (by simp) (.bool nb) (.slice C r cc) (.bool false) (.slice D s cd) 69).alloc (.cells #[.bool false, .slice none 0 0, .bool false, .slice none 0 0] 29))
  have QR := Lib.hid (Qd.new ((w.alloc (.cells #[.bool na, .slice A n ca, .bool false, .slice B m cb] 69)).alloc (.cells #[.bool nb, .slice C r cc, .bool false, .slice D s cd] 69)) (w.heap.size + 1 + 1) (by simp) (.bool false) (.slice none 0 0) (.bool false) (.slice none 0 0) 29)
  have LA := Lib.hid (((HA.out.box (.cells #[.bool na, .slice A n ca, .bool false, .slice B m cb] 69)).box (.cells #[.bool nb, .slice C r cc, .bool false, .slice D s cd] 69)).box (.cells #[.bool false, .slice none 0 0, .bool false, .slice none 0 0] 29))
  have LB := Lib.hid (((HB.out.box (.cells #[.bool na, .slice A n ca, .bool false, .slice B m cb] 69)).box (.cells #[.bool nb, .slice C r cc, .bool false, .slice D s cd] 69)).box (.cells #[.bool false, .slice none 0 0, .bool false, .slice none 0 0] 29))
  have LC := Lib.hid (((HC.out.box (.cells #[.bool na, .slice A n ca, .bool false, .slice B m cb] 69)).box (.cells #[.bool nb, .slice C r cc, .bool false, .slice D s cd] 69)).box (.cells #[.bool false, .slice none 0 0, .bool false, .slice none 0 0] 29))
  have LD := Lib.hid (((HD.out.box (.cells #[.bool na, .slice A n ca, .bool false, .slice B m cb] 69)).box (.cells #[.bool nb, .slice C r cc, .bool false, .slice D s cd] 69)).box (.cells #[.bool false, .slice none 0 0, .bool false, .slice none 0 0] 29))
  have BW : Hid (Below w.heap.size w (((w.alloc (.cells #[.bool na, .slice A n ca, .bool false, .slice B m cb] 69)).alloc (.cells #[.bool nb, .slice C r cc, .bool false, .slice D s cd] 69)).alloc (.cells #[.bool false, .slice none 0 0, .bool false, .slice none 0 0] 29))) := below_alloc (below_alloc (below_alloc (Below.refl _ _) _) _) _
  clear HA HB HC HD
  go_wp2_with fail
  generalize ((w.alloc (.cells #[.bool na, .slice A n ca, .bool false, .slice B m cb] 69)).alloc (.cells #[.bool nb, .slice C r cc, .bool false, .slice D s cd] 69)).alloc (.cells #[.bool false, .slice none 0 0, .bool false, .slice none 0 0] 29) = W0 at *
  have hrl := QR.out.lt
  have HKS : Hid (∀ X : World, Below W0.heap.size W0 X → X.cell? ⟨w.heap.size, 0, none⟩ = some (.bool na) ∧ X.cell? ⟨w.heap.size, 1, none⟩ = some (.slice A n ca) ∧ X.cell? ⟨w.heap.size, 2, none⟩ = some (.bool false) ∧ X.cell? ⟨w.heap.size, 3, none⟩ = some (.slice B m cb) ∧ X.cell? ⟨w.heap.size + 1, 0, none⟩ = some (.bool nb) ∧ X.cell? ⟨w.heap.size + 1, 1, none⟩ = some (.slice C r cc) ∧ X.cell? ⟨w.heap.size + 1, 2, none⟩ = some (.bool false) ∧ X.cell? ⟨w.heap.size + 1, 3, none⟩ = some (.slice D s cd)) := fun X h => ⟨(Q3.out.via h).c0, (Q3.out.via h).c1, (Q3.out.via h).c2, (Q3.out.via h).c3, (Q4.out.via h).c0, (Q4.out.via h).c1, (Q4.out.via h).c2, (Q4.out.via h).c3⟩
  go_cut [7] (fun sl wx => ∃ g A3 n3 c3, sl = .pointer (some ⟨g, 0, none⟩) ∧ Pr wx g (.bool (decide (N < 0))) (.slice A3 n3 c3) ∧ Lm wx wx.heap.size A3 n3 c3 (digs N.natAbs) ∧ W0.heap.size ≤ g ∧ Below W0.heap.size W0 wx)
  case first =>
    go_region_held3 (fun w' => w'.cell? ⟨w.heap.size, 0, none⟩ = some (.bool na) ∧ w'.cell? ⟨w.heap.size, 1, none⟩ = some (.slice A n ca) ∧ w'.cell? ⟨w.heap.size, 2, none⟩ = some (.bool false) ∧ w'.cell? ⟨w.heap.size, 3, none⟩ = some (.slice B m cb) ∧ w'.cell? ⟨w.heap.size + 1, 0, none⟩ = some (.bool nb) ∧ w'.cell? ⟨w.heap.size + 1, 1, none⟩ = some (.slice C r cc) ∧ w'.cell? ⟨w.heap.size + 1, 2, none⟩ = some (.bool false) ∧ w'.cell? ⟨w.heap.size + 1, 3, none⟩ = some (.slice D s cd))
      (first | (refine HKS.out _ ?_; (repeat' (first | exact Bd | exact Bc | exact B2 | exact B1 | exact (Below.refl _ _).drew | exact Below.refl _ _ | refine below_alloc ?_ _ | refine Below.drew ?_ | refine Below.setCell ?_ ?_ _)); all_goals (first | omega | (simp; done) | (simp; omega))))
      (first
       | (go_at_call_of 80 (Value.agg #[Value.bool na, Value.slice A n ca]); refine (prod_n _ A D n s ca cd k x Q (by first | exact LA.out.via B2 | exact (LA.out.via B2).box _ | exact LA.out.drew | exact (LA.out.box _).drew | exact LA.out | exact LA.out.box _) (by first | exact LD.out.via B2 | exact (LD.out.via B2).box _ | exact LD.out.drew | exact (LD.out.box _).drew | exact LD.out | exact LD.out.box _) SX.out SQ.out (by omega) HNa.out DQ.out).mono ?_; rintro e wa ⟨A1, n1, c1, rfl, hL1, hb1⟩; have B1 : Below W0.heap.size W0 wa := (by first | exact btr B2 hb1 | exact btr B2 (bbox hb1) | exact (Below.refl _ _).drew.trans hb1 | exact b_one_d hb1 | exact hb1 | exact bbox hb1); have B1s := B1.size; (try (have F0 : Pr _ W0.heap.size (.bool false) (.slice none 0 0) := (by first | exact (Pr.new W0 _ rfl _ _ 24).via hb1 | exact (Pr.new W0 _ rfl _ _ 24).drew.via hb1))); (try (have ⟨F0a, F0b, F0c, F0d, F0e⟩ := F0)); (try (have F0 := (by first | exact F0.via hb1 | exact (F0.alloc _).via hb1))); (try (have F1 : Pr _ wb.heap.size (.bool false) (.slice none 0 0) := (by first | exact (Pr.new wb _ rfl _ _ 24).via hb1))); (try (have ⟨F0a, F0b, F0c, F0d, F0e⟩ := F0)); (try (have ⟨F1a, F1b, F1c, F1d, F1e⟩ := F1)))
       | (go_at_call_of 80 (Value.agg #[Value.bool nb, Value.slice C r cc]); refine (prod_n _ C B r m cc cb k y P (by first | exact LC.out.via B1 | exact (LC.out.via B1).box _ | exact LC.out.drew | exact (LC.out.box _).drew | exact LC.out | exact LC.out.box _) (by first | exact LB.out.via B1 | exact (LB.out.via B1).box _ | exact LB.out.drew | exact (LB.out.box _).drew | exact LB.out | exact LB.out.box _) SY.out SP.out (by omega) HNb.out DP.out).mono ?_; rintro e wb ⟨A2, n2, c2, rfl, hL2, hb2⟩; have B2 : Below W0.heap.size W0 wb := (by first | exact btr B1 hb2 | exact btr B1 (bbox hb2) | exact (Below.refl _ _).drew.trans hb2 | exact b_one_d hb2 | exact hb2 | exact bbox hb2); have B2s := B2.size; (try (have F0 : Pr _ W0.heap.size (.bool false) (.slice none 0 0) := (by first | exact (Pr.new W0 _ rfl _ _ 24).via hb2 | exact (Pr.new W0 _ rfl _ _ 24).drew.via hb2))); (try (have ⟨F0a, F0b, F0c, F0d, F0e⟩ := F0)); (try (have F0 := (by first | exact F0.via hb2 | exact (F0.alloc _).via hb2))); (try (have F1 : Pr _ wa.heap.size (.bool false) (.slice none 0 0) := (by first | exact (Pr.new wa _ rfl _ _ 24).via hb2))); (try (have ⟨F0a, F0b, F0c, F0d, F0e⟩ := F0)); (try (have ⟨F1a, F1b, F1c, F1d, F1e⟩ := F1)))
       | (go_at_call 96; refine (add_n _ A1 A2 n1 n2 c1 c2 (k + k) (x * Q) (y * P) (by first | exact hL1 | exact hL1.box _ | exact hL1.via hb2 | exact (hL1.via hb2).box _ | exact (hL1.box _).via hb2 | exact ((hL1.box _).via hb2).box _) (by first | exact hL2 | exact hL2.box _ | exact hL2.via hb1 | exact (hL2.via hb1).box _ | exact (hL2.box _).via hb1 | exact ((hL2.box _).via hb1).box _) XQ.out YP.out (by omega) rfl rfl).mono ?_; rw [HN.out]; rintro e wc ⟨A3, n3, c3, rfl, hL3, hb3⟩; have Bc : Below W0.heap.size W0 wc := (by first | exact btr B2 hb3 | exact btr B2 (bbox hb3) | exact btr B1 hb3 | exact btr B1 (bbox hb3) | exact (Below.refl _ _).drew.trans hb3 | exact b_one_d hb3 | exact hb3 | exact bbox hb3); have Bcs := Bc.size; (try (have F0 := (by first | exact F0.via hb3 | exact (F0.alloc _).via hb3))); (try (have F1 := (by first | exact F1.via hb3 | exact (F1.alloc _).via hb3))); (try (have F2 : Pr _ wb.heap.size (.bool false) (.slice none 0 0) := (by first | exact (Pr.new wb _ rfl _ _ 24).via hb3))); (try (have F2 : Pr _ wa.heap.size (.bool false) (.slice none 0 0) := (by first | exact (Pr.new wa _ rfl _ _ 24).via hb3))); (try (have ⟨F0a, F0b, F0c, F0d, F0e⟩ := F0)); (try (have ⟨F1a, F1b, F1c, F1d, F1e⟩ := F1)); (try (have ⟨F2a, F2b, F2c, F2d, F2e⟩ := F2)))
       | (go_at_call 84; refine (must_ok _ _ _ _ _).mono ?_; rintro e wd ⟨rfl, hb4⟩; have Bd : Below W0.heap.size W0 wd := (by first | exact btr Bc hb4 | exact btr Bc (bbox hb4) | exact (Below.refl _ _).drew.trans hb4 | exact b_one_d hb4 | exact hb4 | exact bbox hb4); have Bds := Bd.size; have hL4 := (by first | exact hL3.via hb4 | exact (hL3.box _).via hb4); (try (have F0 := (by first | exact F0.via hb4 | exact (F0.alloc _).via hb4))); (try (have F1 := (by first | exact F1.via hb4 | exact (F1.alloc _).via hb4))); (try (have F2 := (by first | exact F2.via hb4 | exact (F2.alloc _).via hb4))); (try (have F3 : Pr _ wc.heap.size (.bool false) (.slice none 0 0) := (by first | exact (Pr.new wc _ rfl _ _ 24).via hb4))); (try (have ⟨F0a, F0b, F0c, F0d, F0e⟩ := F0)); (try (have ⟨F1a, F1b, F1c, F1d, F1e⟩ := F1)); (try (have ⟨F2a, F2b, F2c, F2d, F2e⟩ := F2)); (try (have ⟨F3a, F3b, F3c, F3d, F3e⟩ := F3)))
       | fail)
    all_goals
      go_wp2_with fail
      go_meet
      first
        | exact ⟨_, A3, n3, c3, rfl, Pr.new _ _ rfl _ _ _, hL4.box _, Bd.size, below_alloc Bd _⟩
        | exact ⟨_, A3, n3, c3, rfl, F0.set _ _, hL4.setP F0 _ _, (by first | exact Nat.le_refl _ | exact B1s | exact B2s | exact Bcs), below_set2 Bd (by first | exact Nat.le_refl _ | exact B1s | exact B2s | exact Bcs) _ _⟩
        | exact ⟨_, A3, n3, c3, rfl, F1.set _ _, hL4.setP F1 _ _, (by first | exact Nat.le_refl _ | exact B1s | exact B2s | exact Bcs), below_set2 Bd (by first | exact Nat.le_refl _ | exact B1s | exact B2s | exact Bcs) _ _⟩
        | exact ⟨_, A3, n3, c3, rfl, F2.set _ _, hL4.setP F2 _ _, (by first | exact Nat.le_refl _ | exact B1s | exact B2s | exact Bcs), below_set2 Bd (by first | exact Nat.le_refl _ | exact B1s | exact B2s | exact Bcs) _ _⟩
        | exact ⟨_, A3, n3, c3, rfl, F3.set _ _, hL4.setP F3 _ _, (by first | exact Nat.le_refl _ | exact B1s | exact B2s | exact Bcs), below_set2 Bd (by first | exact Nat.le_refl _ | exact B1s | exact B2s | exact Bcs) _ _⟩
  case rest =>
  obtain ⟨g7, A3, n3, c3, rfl, hP7, hL3, hg7, hbx⟩ := hcut
  obtain ⟨nN, hnN⟩ : ∃ b, decide (N < 0) = b := ⟨_, rfl⟩
  rw [hnN] at hP7
  have HNN := Lib.hid hnN
  have KA := Lib.hid (Q3.out.via hbx)
  have KB := Lib.hid (Q4.out.via hbx)
  have KR := Lib.hid (QR.out.via hbx)
  have MB := Lib.hid (LB.out.via hbx)
  have MD := Lib.hid (LD.out.via hbx)
  have P7 := Lib.hid hP7
  have L7 := Lib.hid hL3
  have BB := Lib.hid (BW.out.trans (hbx.mono BW.out.size))
  clear hnN hP7 hL3 hbx HKS Q3 Q4 QR LA LB LC LD BW XQ YP
  have ⟨_, _, a2, a3, _, _, _, _, al⟩ := KA.out
  have ⟨_, _, b2, b3, _, _, _, _, bl⟩ := KB.out
  go_wp2_with fail
  refine (prod_n _ B D m s cb cd k P Q MB.out MD.out SP.out SQ.out (by omega) DP.out DQ.out).mono ?_
  rintro e w2 ⟨A8, n8, c8, rfl, hL8, hb8⟩
  rw [DPQ.out]
  clear a2 a3 al b2 b3 bl
  have ⟨_, _, a2, a3, _, _, _, _, al⟩ := KA.out.via hb8
  have ⟨_, _, b2, b3, _, _, _, _, bl⟩ := KB.out.via hb8
  have hg8 : g7 < w2.heap.size := (P7.out.via hb8).lt
  have KA' := Lib.hid ((KA.out.via hb8).alloc (.cells #[.bool false, .slice A8 n8 c8] 24))
  have KB' := Lib.hid ((KB.out.via hb8).alloc (.cells #[.bool false, .slice A8 n8 c8] 24))
  have KR' := Lib.hid ((KR.out.via hb8).alloc (.cells #[.bool false, .slice A8 n8 c8] 24))
  have MB' := Lib.hid ((MB.out.via hb8).box (.cells #[.bool false, .slice A8 n8 c8] 24))
  have MD' := Lib.hid ((MD.out.via hb8).box (.cells #[.bool false, .slice A8 n8 c8] 24))
  have P7' := Lib.hid ((P7.out.via hb8).alloc (.cells #[.bool false, .slice A8 n8 c8] 24))
  have L7' := Lib.hid ((L7.out.via hb8).box (.cells #[.bool false, .slice A8 n8 c8] 24))
  have BB' := Lib.hid ((below_alloc (btr BB.out hb8) (.cells #[.bool false, .slice A8 n8 c8] 24)))
  clear KA
  have KA := KA'
  clear KA'
  clear KB
  have KB := KB'
  clear KB'
  clear KR
  have KR := KR'
  clear KR'
  clear MB
  have MB := MB'
  clear MB'
  clear MD
  have MD := MD'
  clear MD'
  clear P7
  have P7 := P7'
  clear P7'
  clear L7
  have L7 := L7'
  clear L7'
  clear BB
  have BB := BB'
  clear BB'
  have P8 := Lib.hid (Pr.new w2 _ rfl (.bool false) (.slice A8 n8 c8) 24)
  have L8 := Lib.hid (hL8.box (.cells #[.bool false, .slice A8 n8 c8] 24))
  clear hL8 hb8
  go_wp2_with fail
  clear a2 a3 al b2 b3 bl
  generalize w2.alloc (.cells #[.bool false, .slice A8 n8 c8] 24) = W2 at *
  generalize w2.heap.size = g8 at *
  refine (gcd_n2 _ B D m s cb cd k P Q MB.out MD.out SP.out SQ.out (by omega) DP.out DQ.out).mono ?_
  rintro e w3 ⟨A9, n9, c9, rfl, hL9, hb9⟩
  have KA' := Lib.hid (KA.out.via hb9)
  have KB' := Lib.hid (KB.out.via hb9)
  have KR' := Lib.hid (KR.out.via hb9)
  have MB' := Lib.hid (MB.out.via hb9)
  have MD' := Lib.hid (MD.out.via hb9)
  have P7' := Lib.hid (P7.out.via hb9)
  have L7' := Lib.hid (L7.out.via hb9)
  have BB' := Lib.hid ((btr BB.out hb9))
  have P8' := Lib.hid (P8.out.via hb9)
  have L8' := Lib.hid (L8.out.via hb9)
  clear KA
  have KA := KA'
  clear KA'
  clear KB
  have KB := KB'
  clear KB'
  clear KR
  have KR := KR'
  clear KR'
  clear MB
  have MB := MB'
  clear MB'
  clear MD
  have MD := MD'
  clear MD'
  clear P7
  have P7 := P7'
  clear P7'
  clear L7
  have L7 := L7'
  clear L7'
  clear BB
  have BB := BB'
  clear BB'
  clear P8
  have P8 := P8'
  clear P8'
  clear L8
  have L8 := L8'
  clear L8'
  have L9 := Lib.hid (hL9)
  clear hL9 hb9
  go_wp2_with fail
  refine (must_ok _ _ _ _ _).mono ?_
  rintro e w4 ⟨rfl, hb10⟩
  have hg9 : g8 < w4.heap.size := (P8.out.via hb10).lt
  have KA' := Lib.hid ((KA.out.via hb10).alloc (.cells #[.bool false, .slice A9 n9 c9] 24))
  have KB' := Lib.hid ((KB.out.via hb10).alloc (.cells #[.bool false, .slice A9 n9 c9] 24))
  have KR' := Lib.hid ((KR.out.via hb10).alloc (.cells #[.bool false, .slice A9 n9 c9] 24))
  have MB' := Lib.hid ((MB.out.via hb10).box (.cells #[.bool false, .slice A9 n9 c9] 24))
  have MD' := Lib.hid ((MD.out.via hb10).box (.cells #[.bool false, .slice A9 n9 c9] 24))
  have P7' := Lib.hid ((P7.out.via hb10).alloc (.cells #[.bool false, .slice A9 n9 c9] 24))
  have L7' := Lib.hid ((L7.out.via hb10).box (.cells #[.bool false, .slice A9 n9 c9] 24))
  have BB' := Lib.hid ((below_alloc (btr BB.out hb10) (.cells #[.bool false, .slice A9 n9 c9] 24)))
  have P8' := Lib.hid ((P8.out.via hb10).alloc (.cells #[.bool false, .slice A9 n9 c9] 24))
  have L8' := Lib.hid ((L8.out.via hb10).box (.cells #[.bool false, .slice A9 n9 c9] 24))
  have L9' := Lib.hid ((L9.out.via hb10).box (.cells #[.bool false, .slice A9 n9 c9] 24))
  clear KA
  have KA := KA'
  clear KA'
  clear KB
  have KB := KB'
  clear KB'
  clear KR
  have KR := KR'
  clear KR'
  clear MB
  have MB := MB'
  clear MB'
  clear MD
  have MD := MD'
  clear MD'
  clear P7
  have P7 := P7'
  clear P7'
  clear L7
  have L7 := L7'
  clear L7'
  clear BB
  have BB := BB'
  clear BB'
  clear P8
  have P8 := P8'
  clear P8'
  clear L8
  have L8 := L8'
  clear L8'
  clear L9
  have L9 := L9'
  clear L9'
  have P9 := Lib.hid (Pr.new w4 _ rfl (.bool false) (.slice A9 n9 c9) 24)
  clear KA
  clear KB
  clear MB
  clear MD
  clear hb10
  have SG := Lib.hid ((sz_gcd2 (x := P) SQ.out (by have := HQ0.out; omega)).mono (show k ≤ 2000 by omega))
  generalize hG : Nat.gcd P.natAbs Q.natAbs = G at *
  have HG0 : Hid (0 < G) := by show _ < _; rw [← hG]; exact Nat.gcd_pos_of_pos_left _ HPn.out
  clear hG
  go_wp2_with fail
  generalize w4.alloc (.cells #[.bool false, .slice A9 n9 c9] 24) = W4 at *
  generalize w4.heap.size = g9 at *
  have SZN : Hid (Sz 2000 N) := SN.out.mono (by omega)
  have SZD : Hid (Sz 2000 (P * Q)) := PQ.out.mono (by omega)
  have HDV : Hid (dvr N (P * Q) = (G * Nat.gcd t.natAbs G : Nat)) := by show _ = _; rw [dvr_pos HPQ.out, HGG.out]
  by_cases hone : G = 1
  · have HD1 : Hid (dvr N (P * Q) = 1) := by show _ = _; rw [HDV.out, hone, Nat.gcd_one_right]; rfl
    subst hone
    refine (isOne_yes _ A9 n9 c9 L9.out).mono ?_
    rintro e w5 ⟨rfl, hb5⟩
    have KR' := Lib.hid (KR.out.via hb5)
    have P7' := Lib.hid (P7.out.via hb5)
    have L7' := Lib.hid (L7.out.via hb5)
    have BB' := Lib.hid ((btr BB.out hb5))
    have P8' := Lib.hid (P8.out.via hb5)
    have L8' := Lib.hid (L8.out.via hb5)
    have L9' := Lib.hid (L9.out.via hb5)
    have P9' := Lib.hid (P9.out.via hb5)
    clear KR
    have KR := KR'
    clear KR'
    clear P7
    have P7 := P7'
    clear P7'
    clear L7
    have L7 := L7'
    clear L7'
    clear BB
    have BB := BB'
    clear BB'
    clear P8
    have P8 := P8'
    clear P8'
    clear L8
    have L8 := L8'
    clear L8'
    clear L9
    have L9 := L9'
    clear L9'
    clear P9
    have P9 := P9'
    clear P9'
    clear hb5
    have ⟨p0, p1, _, _, pl⟩ := P7.out
    have ⟨q0, q1, _, _, ql⟩ := P8.out
    have ⟨r0, r1, r2, r3, f0, f1, f2, f3, rl⟩ := KR.out
    go_wp2
    exact post_f1 Tryz.results95 rfl rfl (KR.out.set (.bool nN) (.slice A3 n3 c3) (.bool false) (.slice A8 n8 c8)) ⟨A3, n3, c3, A8, n8, c8, by rw [HD1.out, Int.ediv_one, Int.ediv_one, HNN.out, DPQ.out], by rw [HD1.out, Int.ediv_one]; exact L7.out.put4 KR.out _ _ _ _, by rw [HD1.out, Int.ediv_one]; exact L8.out.put4 KR.out _ _ _ _, below_put4 BB.out (by omega) _ _ _ _⟩
  · have HN1 : Hid (false = true ∨ digs G ≠ [1]) := .inr fun e => hone (by rw [← digs_val G, e]; rfl)
    clear hone
    refine (isOne_no _ false A9 n9 c9 (digs G) L9.out HN1.out).mono ?_
    rintro e w5 ⟨rfl, hb5⟩
    have KR' := Lib.hid (KR.out.via hb5)
    have P7' := Lib.hid (P7.out.via hb5)
    have L7' := Lib.hid (L7.out.via hb5)
    have BB' := Lib.hid ((btr BB.out hb5))
    have P8' := Lib.hid (P8.out.via hb5)
    have L8' := Lib.hid (L8.out.via hb5)
    have L9' := Lib.hid (L9.out.via hb5)
    have P9' := Lib.hid (P9.out.via hb5)
    clear KR
    have KR := KR'
    clear KR'
    clear P7
    have P7 := P7'
    clear P7'
    clear L7
    have L7 := L7'
    clear L7'
    clear BB
    have BB := BB'
    clear BB'
    clear P8
    have P8 := P8'
    clear P8'
    clear L8
    have L8 := L8'
    clear L8'
    clear L9
    have L9 := L9'
    clear L9'
    clear P9
    have P9 := P9'
    clear P9'
    clear hb5
    have DG : Hid (decide ((G : Int) < 0) = false) := by show _ = _; simp
    have DG2 : Hid (decide ((Nat.gcd t.natAbs G : Int) < 0) = false) := by show _ = _; simp
    have HSG2 : Hid (Sz 2000 (Nat.gcd t.natAbs G : Int)) := by
      show Nat.gcd t.natAbs G < _
      have h1 : Nat.gcd t.natAbs G ≤ G := Nat.gcd_le_right _ HG0.out
      exact Nat.lt_of_le_of_lt h1 SG.out
    have HDV2 : Hid ((G : Int) * (Nat.gcd t.natAbs G : Int) = dvr N (P * Q)) := by show _ = _; rw [HDV.out]; simp
    have DD : Hid (decide (dvr N (P * Q) < 0) = false) := by show _ = _; rw [HDV.out]; exact decide_eq_false (by omega)
    have ⟨p0, p1, _, _, pl⟩ := P7.out
    have ⟨s0, s1, _, _, sl⟩ := P9.out
    go_wp2_with fail
    refine (quotient_x _ A3 A9 n3 n9 c3 c9 2000 N (G : Int) t L7.out L9.out SZN.out SG.out (by omega) (by have := HG0.out; omega) HT.out HNN.out DG.out).mono ?_
    rintro e w6 ⟨A10, n10, c10, g10, A11, n11, c11, rfl, hL10, hb6⟩
    obtain ⟨nt, hnt⟩ : ∃ b, decide (t < 0) = b := ⟨_, rfl⟩
    rw [hnt]
    have HNt := Lib.hid hnt
    clear hnt p0 p1 pl s0 s1 sl
    have hg10 : g9 < w6.heap.size := (P9.out.via hb6).lt
    have KR' := Lib.hid (((KR.out.via hb6).alloc (.cells #[.bool nt, .slice A10 n10 c10] 24)).alloc (.cells #[.bool g10, .slice A11 n11 c11] 24))
    have P7' := Lib.hid (((P7.out.via hb6).alloc (.cells #[.bool nt, .slice A10 n10 c10] 24)).alloc (.cells #[.bool g10, .slice A11 n11 c11] 24))
    have L7' := Lib.hid (((L7.out.via hb6).box (.cells #[.bool nt, .slice A10 n10 c10] 24)).box (.cells #[.bool g10, .slice A11 n11 c11] 24))
    have BB' := Lib.hid ((below_alloc (below_alloc (btr BB.out hb6) (.cells #[.bool nt, .slice A10 n10 c10] 24)) (.cells #[.bool g10, .slice A11 n11 c11] 24)))
    have P8' := Lib.hid (((P8.out.via hb6).alloc (.cells #[.bool nt, .slice A10 n10 c10] 24)).alloc (.cells #[.bool g10, .slice A11 n11 c11] 24))
    have L8' := Lib.hid (((L8.out.via hb6).box (.cells #[.bool nt, .slice A10 n10 c10] 24)).box (.cells #[.bool g10, .slice A11 n11 c11] 24))
    have L9' := Lib.hid (((L9.out.via hb6).box (.cells #[.bool nt, .slice A10 n10 c10] 24)).box (.cells #[.bool g10, .slice A11 n11 c11] 24))
    have P9' := Lib.hid (((P9.out.via hb6).alloc (.cells #[.bool nt, .slice A10 n10 c10] 24)).alloc (.cells #[.bool g10, .slice A11 n11 c11] 24))
    clear KR
    have KR := KR'
    clear KR'
    clear P7
    have P7 := P7'
    clear P7'
    clear L7
    have L7 := L7'
    clear L7'
    clear BB
    have BB := BB'
    clear BB'
    clear P8
    have P8 := P8'
    clear P8'
    clear L8
    have L8 := L8'
    clear L8'
    clear L9
    have L9 := L9'
    clear L9'
    clear P9
    have P9 := P9'
    clear P9'
    have P10 := Lib.hid ((Pr.new w6 _ rfl (.bool nt) (.slice A10 n10 c10) 24).alloc (.cells #[.bool g10, .slice A11 n11 c11] 24))
    have L10 := Lib.hid ((hL10.box (.cells #[.bool nt, .slice A10 n10 c10] 24)).box (.cells #[.bool g10, .slice A11 n11 c11] 24))
    clear hL10 hb6
    have ⟨s0, s1, _, _, sl⟩ := P9.out
    have ⟨u0, u1, _, _, ul⟩ := P10.out
    go_wp2_with fail
    generalize (w6.alloc (.cells #[.bool nt, .slice A10 n10 c10] 24)).alloc (.cells #[.bool g10, .slice A11 n11 c11] 24) = W6 at *
    generalize w6.heap.size = g10' at *
    have HKS : Hid (∀ X : World, Below W6.heap.size W6 X → X.cell? ⟨g9, 0, none⟩ = some (.bool false) ∧ X.cell? ⟨g9, 1, none⟩ = some (.slice A9 n9 c9) ∧ X.cell? ⟨g10', 0, none⟩ = some (.bool nt) ∧ X.cell? ⟨g10', 1, none⟩ = some (.slice A10 n10 c10)) := fun X h => ⟨(P9.out.via h).c0, (P9.out.via h).c1, (P10.out.via h).c0, (P10.out.via h).c1⟩
    have STG : Hid (Sz 2000 t) := by
      show t.natAbs < _
      refine Nat.lt_of_le_of_lt ?_ SZN.out
      rw [HT.out, Int.natAbs_mul]
      exact Nat.le_mul_of_pos_right _ (by have := HG0.out; omega)
    clear s0 s1 sl u0 u1 ul
    have ⟨s0, s1, _, _, sl⟩ := P9.out
    have ⟨u0, u1, _, _, ul⟩ := P10.out
    go_cut [12] (fun sl wx => ∃ g A3 n3 c3, sl = .pointer (some ⟨g, 0, none⟩) ∧ Pr wx g (.bool false) (.slice A3 n3 c3) ∧ Lm wx wx.heap.size A3 n3 c3 (digs (dvr N (P * Q)).natAbs) ∧ W6.heap.size ≤ g ∧ Below W6.heap.size W6 wx)
    case first =>
      go_region_held3 (fun w' => w'.cell? ⟨g9, 0, none⟩ = some (.bool false) ∧ w'.cell? ⟨g9, 1, none⟩ = some (.slice A9 n9 c9) ∧ w'.cell? ⟨g10', 0, none⟩ = some (.bool nt) ∧ w'.cell? ⟨g10', 1, none⟩ = some (.slice A10 n10 c10))
        (first | (refine HKS.out _ ?_; (repeat' (first | exact Bd | exact Bc | exact B1 | exact (Below.refl _ _).drew | exact Below.refl _ _ | refine below_alloc ?_ _ | refine Below.drew ?_ | refine Below.setCell ?_ ?_ _)); all_goals (first | omega | (simp; done) | (simp; omega))))
        (first
         | (go_at_call 39; refine (gcd_n2 _ A10 A9 n10 n9 c10 c9 2000 t (G : Int) (by first | exact L10.out.drew | exact (L10.out.box _).drew | exact L10.out | exact L10.out.box _) (by first | exact L9.out.drew | exact (L9.out.box _).drew | exact L9.out | exact L9.out.box _) STG.out SG.out (by omega) HNt.out DG.out).mono ?_; rintro e wa ⟨A1, n1, c1, rfl, hL1, hb1⟩; have B1 : Below W6.heap.size W6 wa := (by first | exact (Below.refl _ _).drew.trans hb1 | exact b_one_d hb1 | exact hb1 | exact bbox hb1); have B1s := B1.size; (try (have F0 : Pr _ W6.heap.size (.bool false) (.slice none 0 0) := (by first | exact (Pr.new W6 _ rfl _ _ 24).via hb1 | exact (Pr.new W6 _ rfl _ _ 24).drew.via hb1))); (try (have ⟨F0a, F0b, F0c, F0d, F0e⟩ := F0)))
         | (go_at_call 84; refine (must_ok _ _ _ _ _).mono ?_; rintro e wb ⟨rfl, hb2⟩; have Bc : Below W6.heap.size W6 wb := (by first | exact btr B1 hb2 | exact btr B1 (bbox hb2) | exact (Below.refl _ _).drew.trans hb2 | exact b_one_d hb2 | exact hb2 | exact bbox hb2); have Bcs := Bc.size; have hL2 := (by first | exact hL1.via hb2 | exact (hL1.box _).via hb2); (try (have F0 := (by first | exact F0.via hb2 | exact (F0.alloc _).via hb2))); (try (have F1 : Pr _ wa.heap.size (.bool false) (.slice none 0 0) := (by first | exact (Pr.new wa _ rfl _ _ 24).via hb2 | exact (Pr.new wa _ rfl _ _ 24).drew.via hb2))); (try (have ⟨F0a, F0b, F0c, F0d, F0e⟩ := F0)); (try (have ⟨F1a, F1b, F1c, F1d, F1e⟩ := F1)))
         | (go_at_call 80; refine (prod_n _ A9 A1 n9 n1 c9 c1 2000 (G : Int) (Nat.gcd t.natAbs G : Int) (by first | exact L9.out.via Bc | exact (L9.out.via Bc).box _ | exact L9.out.drew | exact (L9.out.box _).drew | exact L9.out | exact L9.out.box _) (by first | exact hL2 | exact hL2.box _) SG.out HSG2.out (by omega) DG.out DG2.out).mono ?_; rw [HDV2.out]; rintro e wc ⟨A3', n3', c3', rfl, hL3', hb3⟩; rw [DD.out]; have Bd : Below W6.heap.size W6 wc := (by first | exact btr Bc hb3 | exact btr Bc (bbox hb3) | exact (Below.refl _ _).drew.trans hb3 | exact b_one_d hb3 | exact hb3 | exact bbox hb3); have Bds := Bd.size; (try (have F0 := (by first | exact F0.via hb3 | exact (F0.alloc _).via hb3))); (try (have F1 := (by first | exact F1.via hb3 | exact (F1.alloc _).via hb3))); (try (have F2 : Pr _ wb.heap.size (.bool false) (.slice none 0 0) := (by first | exact (Pr.new wb _ rfl _ _ 24).via hb3 | exact (Pr.new wb _ rfl _ _ 24).drew.via hb3))); (try (have ⟨F0a, F0b, F0c, F0d, F0e⟩ := F0)); (try (have ⟨F1a, F1b, F1c, F1d, F1e⟩ := F1)); (try (have ⟨F2a, F2b, F2c, F2d, F2e⟩ := F2)))
         | fail)
      all_goals
        go_wp2_with fail
        go_meet
        first
          | exact ⟨_, A3', n3', c3', rfl, Pr.new _ _ rfl _ _ _, hL3'.box _, Bd.size, below_alloc Bd _⟩
          | exact ⟨_, A3', n3', c3', rfl, F0.set _ _, hL3'.setP F0 _ _, (by first | exact Nat.le_refl _ | exact B1s | exact Bcs), below_set2 Bd (by first | exact Nat.le_refl _ | exact B1s | exact Bcs) _ _⟩
          | exact ⟨_, A3', n3', c3', rfl, F1.set _ _, hL3'.setP F1 _ _, (by first | exact Nat.le_refl _ | exact B1s | exact Bcs), below_set2 Bd (by first | exact Nat.le_refl _ | exact B1s | exact Bcs) _ _⟩
          | exact ⟨_, A3', n3', c3', rfl, F2.set _ _, hL3'.setP F2 _ _, (by first | exact Nat.le_refl _ | exact B1s | exact Bcs), below_set2 Bd (by first | exact Nat.le_refl _ | exact B1s | exact Bcs) _ _⟩
    case rest =>
    obtain ⟨g12, A12, n12, c12, rfl, hP12, hL12, hg12, hbx⟩ := hcut
    have P12 := Lib.hid hP12
    have L12 := Lib.hid hL12
    clear hP12 hL12
    have KR' := Lib.hid (KR.out.via hbx)
    have P7' := Lib.hid (P7.out.via hbx)
    have L7' := Lib.hid (L7.out.via hbx)
    have BB' := Lib.hid ((btr BB.out hbx))
    have P8' := Lib.hid (P8.out.via hbx)
    have L8' := Lib.hid (L8.out.via hbx)
    have L9' := Lib.hid (L9.out.via hbx)
    have P9' := Lib.hid (P9.out.via hbx)
    have P10' := Lib.hid (P10.out.via hbx)
    have L10' := Lib.hid (L10.out.via hbx)
    clear KR
    have KR := KR'
    clear KR'
    clear P7
    have P7 := P7'
    clear P7'
    clear L7
    have L7 := L7'
    clear L7'
    clear BB
    have BB := BB'
    clear BB'
    clear P8
    have P8 := P8'
    clear P8'
    clear L8
    have L8 := L8'
    clear L8'
    clear L9
    have L9 := L9'
    clear L9'
    clear P9
    have P9 := P9'
    clear P9'
    clear P10
    have P10 := P10'
    clear P10'
    clear L10
    have L10 := L10'
    clear L10'
    clear hbx s0 s1 sl u0 u1 ul
    have ⟨p0, p1, _, _, pl⟩ := P7.out
    have ⟨q0, q1, _, _, ql⟩ := P8.out
    have ⟨x0, x1, _, _, xl⟩ := P12.out
    go_wp2_with fail
    refine (divided_x _ A3 A8 A12 n3 n8 n12 c3 c8 c12 2000 N (P * Q) (dvr N (P * Q)) (N / dvr N (P * Q)) (P * Q / dvr N (P * Q)) L7.out L8.out L12.out SZN.out SZD.out (sz_dvr SZD.out (by have := HPQ.out; omega)) (by omega) (dvr_ne (by have := HPQ.out; omega)) (dvr_left _ _) (dvr_right _ _) HNN.out DPQ.out (by rw [HDV.out]; exact decide_eq_false (by omega))).mono ?_
    rintro e w13 ⟨A13, n13, c13, B13, m13, d13, rfl, hL13, hM13, hb13⟩
    obtain ⟨np, hnp⟩ : ∃ b, decide (N / dvr N (P * Q) < 0) = b := ⟨_, rfl⟩
    obtain ⟨nq, hnq⟩ : ∃ b, decide (P * Q / dvr N (P * Q) < 0) = b := ⟨_, rfl⟩
    rw [hnp, hnq]
    have HNp := Lib.hid hnp
    have HNq := Lib.hid hnq
    have K13 := KR.out.via hb13
    have L13 := Lib.hid hL13
    have M13 := Lib.hid hM13
    have BE := Lib.hid (btr BB.out hb13)
    have ⟨r0, r1, r2, r3, f0, f1, f2, f3, rl⟩ := K13
    clear hnp hnq hL13 hM13 hb13 p0 p1 pl q0 q1 ql x0 x1 xl
    go_wp2
    exact post_f1 Tryz.results95 rfl rfl (K13.set (.bool np) (.slice A13 n13 c13) (.bool nq) (.slice B13 m13 d13)) ⟨A13, n13, c13, B13, m13, d13, by rw [HNp.out, HNq.out], L13.out.put4 K13 _ _ _ _, M13.out.put4 K13 _ _ _ _, below_put4 BE.out (by omega) _ _ _ _⟩
end Go.Proofs.YtoigmcggkanncaaGreatDoor

/- Package frac: the closures of join and change, where a fraction is not valid. -/
namespace Go.Proofs.YtoigmcggkanncaaGreatDoor
open Go.RowKit

/-- A closure's variable that holds a function. -/
structure Fb (w : World) (g : Nat) (f : FuncId) : Prop where
  c0 : w.cell? ⟨g, 0, none⟩ = some (.func (.func f) #[] #[])
  lt : g < w.heap.size
theorem Fb.via {w w' : World} {g : Nat} {f : FuncId} (h : Fb w g f) (hb : Below w.heap.size w w') : Fb w' g f := ⟨(hb.cell (p := ⟨g, 0, none⟩) h.lt).trans h.c0, Nat.lt_of_lt_of_le h.lt hb.size⟩

end Go.Proofs.YtoigmcggkanncaaGreatDoor

/- Package frac: the closures of join and change, where the fractions are valid. -/
namespace Go.Proofs.YtoigmcggkanncaaGreatDoor
open Go.RowKit

set_option maxRecDepth 100000 in
set_option maxHeartbeats 4000000 in
theorem joinf_ok (w : World) (g0 ga gb : Nat) (f : FuncId) (na da nb db : Bool) (A B C D : Option Addr) (n m r s ca cb cc cd : Nat) (xs ys us vs : List Nat) (hf : Fb w g0 f) (qa : Qd w ga (.bool na) (.slice A n ca) (.bool da) (.slice B m cb)) (qb : Qd w gb (.bool nb) (.slice C r cc) (.bool db) (.slice D s cd))
    (hA : Lm w w.heap.size A n ca xs) (hB : Lm w w.heap.size B m cb ys) (hC : Lm w w.heap.size C r cc us) (hD : Lm w w.heap.size D s cd vs) (hva : fchk na xs da ys = 0) (hvb : fchk nb us db vs = 0) (p q : Int)
    (hcf : ∀ (u v : Value) (W : World), (callFunc f #[u, v]).run Tryz.prog W = .ok (.enter f #[u, v]) W)
    (H : ∀ W, Lm W W.heap.size A n ca xs → Lm W W.heap.size B m cb ys → Lm W W.heap.size C r cc us → Lm W W.heap.size D s cd vs → Calls Tryz.prog f #[fv na A n ca da B m cb, fv nb C r cc db D s cd] W (RFr W p q)) :
    Calls Tryz.prog 78 #[.pointer (some ⟨g0, 0, none⟩), .pointer (some ⟨ga, 0, none⟩), .pointer (some ⟨gb, 0, none⟩)] w (RFr w p q) := by
  have HF := Lib.hid hf
  have QA := Lib.hid qa
  have QB := Lib.hid qb
  have LA := Lib.hid hA
  have LB := Lib.hid hB
  have LC := Lib.hid hC
  have LD := Lib.hid hD
  have HVA := Lib.hid hva
  have HVB := Lib.hid hvb
  have HH := Lib.hid H
  have QR := Lib.hid (Qd.new w _ rfl (.bool false) (.slice none 0 0) (.bool false) (.slice none 0 0) 29)
  have W0B : Hid (Below w.heap.size w (w.alloc (.cells #[.bool false, .slice none 0 0, .bool false, .slice none 0 0] 29))) := below_alloc (Below.refl _ _) _
  have ⟨f0, fl⟩ := hf
  have ⟨a0, a1, a2, a3, _, _, _, _, al⟩ := qa
  have ⟨b0, b1, b2, b3, _, _, _, _, bl⟩ := qb
  clear hA hB hC hD hva hvb H hf qa qb
  go_enter Tryz.func78, Tryz.ntmps78
  go_wp2_with fail
  have HF := Lib.hid (HF.out.via W0B.out)
  have QA := Lib.hid (QA.out.via W0B.out)
  have QB := Lib.hid (QB.out.via W0B.out)
  have LA := Lib.hid (LA.out.via W0B.out)
  have LB := Lib.hid (LB.out.via W0B.out)
  have LC := Lib.hid (LC.out.via W0B.out)
  have LD := Lib.hid (LD.out.via W0B.out)
  have hg0 : g0 < w.heap.size := fl
  have hga : ga < w.heap.size := al
  have hgb : gb < w.heap.size := bl
  clear f0 fl a0 a1 a2 a3 al b0 b1 b2 b3 bl
  generalize w.alloc (.cells #[.bool false, .slice none 0 0, .bool false, .slice none 0 0] 29) = W0 at *
  have HKS : Hid (∀ X : World, Below w.heap.size W0 X → X.cell? ⟨g0, 0, none⟩ = some (.func (.func f) #[] #[]) ∧ X.cell? ⟨ga, 0, none⟩ = some (.bool na) ∧ X.cell? ⟨ga, 1, none⟩ = some (.slice A n ca) ∧ X.cell? ⟨ga, 2, none⟩ = some (.bool da) ∧ X.cell? ⟨ga, 3, none⟩ = some (.slice B m cb) ∧ X.cell? ⟨gb, 0, none⟩ = some (.bool nb) ∧ X.cell? ⟨gb, 1, none⟩ = some (.slice C r cc) ∧ X.cell? ⟨gb, 2, none⟩ = some (.bool db) ∧ X.cell? ⟨gb, 3, none⟩ = some (.slice D s cd)) := fun X h => ⟨(h.cell (p := ⟨g0, 0, none⟩) hg0).trans HF.out.c0, (QA.out.below h hga).c0, (QA.out.below h hga).c1, (QA.out.below h hga).c2, (QA.out.below h hga).c3, (QB.out.below h hgb).c0, (QB.out.below h hgb).c1, (QB.out.below h hgb).c2, (QB.out.below h hgb).c3⟩
  have hw0 : w.heap.size ≤ W0.heap.size := W0B.out.size
  go_region_held3 (fun w' => w'.cell? ⟨g0, 0, none⟩ = some (.func (.func f) #[] #[]) ∧ w'.cell? ⟨ga, 0, none⟩ = some (.bool na) ∧ w'.cell? ⟨ga, 1, none⟩ = some (.slice A n ca) ∧ w'.cell? ⟨ga, 2, none⟩ = some (.bool da) ∧ w'.cell? ⟨ga, 3, none⟩ = some (.slice B m cb) ∧ w'.cell? ⟨gb, 0, none⟩ = some (.bool nb) ∧ w'.cell? ⟨gb, 1, none⟩ = some (.slice C r cc) ∧ w'.cell? ⟨gb, 2, none⟩ = some (.bool db) ∧ w'.cell? ⟨gb, 3, none⟩ = some (.slice D s cd))
    (first | (refine HKS.out _ ?_; (repeat' (first | exact Be.mono hw0 | exact Bd.mono hw0 | exact Bc.mono hw0 | exact (Below.refl _ _).drew | exact Below.refl _ _ | refine Below.setCell ?_ ?_ _)); all_goals (first | omega | (simp; done) | (simp; omega))))
    (first
     | (go_at_call_of 79 (Value.agg #[Value.bool na, Value.slice A n ca, Value.bool da, Value.slice B m cb]); refine (known_ok _ na da A B n m ca cb xs ys LA.out.drew LB.out.drew HVA.out).mono ?_; rintro e wc ⟨rfl, hbc⟩; have Bc : Below W0.heap.size W0 wc := (by first | exact (Below.refl _ _).drew.trans hbc | exact hbc))
     | (go_at_call_of 79 (Value.agg #[Value.bool nb, Value.slice C r cc, Value.bool db, Value.slice D s cd]); refine (known_ok _ nb db C D r s cc cd us vs (by first | exact LC.out.via Bc | exact LC.out.drew) (by first | exact LD.out.via Bc | exact LD.out.drew) HVB.out).mono ?_; rintro e wd ⟨rfl, hbd⟩; have Bd : Below W0.heap.size W0 wd := btr Bc hbd)
     | (refine (HH.out _ (LA.out.via Bd) (LB.out.via Bd) (LC.out.via Bd) (LD.out.via Bd)).mono ?_; rintro e we ⟨A5, n5, c5, B5, m5, d5, rfl, hL5, hM5, hbe⟩; have Be : Below W0.heap.size W0 we := btr Bd hbe; have KR := QR.out.via Be; have ⟨r0, r1, r2, r3, rf0, rf1, rf2, rf3, rl⟩ := KR)
     | fail)
  all_goals
    obtain ⟨np, hnp⟩ : ∃ b, decide (p < 0) = b := ⟨_, rfl⟩
    obtain ⟨nq, hnq⟩ : ∃ b, decide (q < 0) = b := ⟨_, rfl⟩
    rw [hnp, hnq]
    have HNp := Lib.hid hnp
    have HNq := Lib.hid hnq
    have HL5 := Lib.hid hL5
    have HM5 := Lib.hid hM5
    have BE := Lib.hid (btr W0B.out Be)
    clear hnp hnq hL5 hM5
    go_wp2
    exact post_f1 Tryz.results78 rfl rfl (KR.set (.bool np) (.slice A5 n5 c5) (.bool nq) (.slice B5 m5 d5)) ⟨A5, n5, c5, B5, m5, d5, by rw [HNp.out, HNq.out], HL5.out.put4 KR _ _ _ _, HM5.out.put4 KR _ _ _ _, below_put4 BE.out (Nat.le_refl _) _ _ _ _⟩

set_option maxRecDepth 100000 in
set_option maxHeartbeats 4000000 in
theorem joinf_pan (w : World) (g0 ga gb : Nat) (f : FuncId) (na da nb db : Bool) (A B C D : Option Addr) (n m r s ca cb cc cd : Nat) (xs ys us vs : List Nat) (hf : Fb w g0 f) (qa : Qd w ga (.bool na) (.slice A n ca) (.bool da) (.slice B m cb)) (qb : Qd w gb (.bool nb) (.slice C r cc) (.bool db) (.slice D s cd))
    (hA : Lm w w.heap.size A n ca xs) (hB : Lm w w.heap.size B m cb ys) (hC : Lm w w.heap.size C r cc us) (hD : Lm w w.heap.size D s cd vs) (hva : fchk na xs da ys = 0) (hvb : fchk nb us db vs = 0) (x : Int)
    (hcf : ∀ (u v : Value) (W : World), (callFunc f #[u, v]).run Tryz.prog W = .ok (.enter f #[u, v]) W)
    (H : ∀ W, Lm W W.heap.size A n ca xs → Lm W W.heap.size B m cb ys → Lm W W.heap.size C r cc us → Lm W W.heap.size D s cd vs → Calls Tryz.prog f #[fv na A n ca da B m cb, fv nb C r cc db D s cd] W (fun e w' => e = Pan x ∧ Below W.heap.size W w')) :
    Calls Tryz.prog 78 #[.pointer (some ⟨g0, 0, none⟩), .pointer (some ⟨ga, 0, none⟩), .pointer (some ⟨gb, 0, none⟩)] w (fun e w' => e = Pan x ∧ Below w.heap.size w w') := by
  have HF := Lib.hid hf
  have QA := Lib.hid qa
  have QB := Lib.hid qb
  have LA := Lib.hid hA
  have LB := Lib.hid hB
  have LC := Lib.hid hC
  have LD := Lib.hid hD
  have HVA := Lib.hid hva
  have HVB := Lib.hid hvb
  have HH := Lib.hid H
  have QR := Lib.hid (Qd.new w _ rfl (.bool false) (.slice none 0 0) (.bool false) (.slice none 0 0) 29)
  have W0B : Hid (Below w.heap.size w (w.alloc (.cells #[.bool false, .slice none 0 0, .bool false, .slice none 0 0] 29))) := below_alloc (Below.refl _ _) _
  have ⟨f0, fl⟩ := hf
  have ⟨a0, a1, a2, a3, _, _, _, _, al⟩ := qa
  have ⟨b0, b1, b2, b3, _, _, _, _, bl⟩ := qb
  clear hA hB hC hD hva hvb H hf qa qb
  go_enter Tryz.func78, Tryz.ntmps78
  go_wp2_with fail
  have HF := Lib.hid (HF.out.via W0B.out)
  have QA := Lib.hid (QA.out.via W0B.out)
  have QB := Lib.hid (QB.out.via W0B.out)
  have LA := Lib.hid (LA.out.via W0B.out)
  have LB := Lib.hid (LB.out.via W0B.out)
  have LC := Lib.hid (LC.out.via W0B.out)
  have LD := Lib.hid (LD.out.via W0B.out)
  have hg0 : g0 < w.heap.size := fl
  have hga : ga < w.heap.size := al
  have hgb : gb < w.heap.size := bl
  clear f0 fl a0 a1 a2 a3 al b0 b1 b2 b3 bl
  generalize w.alloc (.cells #[.bool false, .slice none 0 0, .bool false, .slice none 0 0] 29) = W0 at *
  refine wp_region_held_drew (S := fun w' => w'.cell? ⟨g0, 0, none⟩ = some (.func (.func f) #[] #[]) ∧ w'.cell? ⟨ga, 0, none⟩ = some (.bool na) ∧ w'.cell? ⟨ga, 1, none⟩ = some (.slice A n ca) ∧ w'.cell? ⟨ga, 2, none⟩ = some (.bool da) ∧ w'.cell? ⟨ga, 3, none⟩ = some (.slice B m cb) ∧ w'.cell? ⟨gb, 0, none⟩ = some (.bool nb) ∧ w'.cell? ⟨gb, 1, none⟩ = some (.slice C r cc) ∧ w'.cell? ⟨gb, 2, none⟩ = some (.bool db) ∧ w'.cell? ⟨gb, 3, none⟩ = some (.slice D s cd)) (by kernel_rfl) ?_ (fun hHeld => ?_)
  · exact ⟨HF.out.c0, QA.out.c0, QA.out.c1, QA.out.c2, QA.out.c3, QB.out.c0, QB.out.c1, QB.out.c2, QB.out.c3⟩
  refine wpAnyH_take (i := 0) (v := ?_) rfl (by kernel_rfl) (by kernel_rfl) (by kernel_rfl) (fun _ _ _ h => h) (Or.inl ⟨by rfl, ?_⟩) (by assumption) ?_
  rotate_left
  · (intro w hSw; (try dsimp only at hSw); go_simp; try with_reducible rfl)
  try simp only [Act.put, List.setIfInBounds_toArray]
  refine wpAnyH_take (i := 1) (v := ?_) rfl (by kernel_rfl) (by kernel_rfl) (by kernel_rfl) (fun _ _ _ h => h) (Or.inl ⟨by rfl, ?_⟩) (by assumption) ?_
  rotate_left
  · (intro w hSw; (try dsimp only at hSw); go_simp; try with_reducible rfl)
  try simp only [Act.put]
  refine wpAnyH_take (i := 3) (v := ?_) rfl (by kernel_rfl) (by kernel_rfl) (by kernel_rfl) (fun _ _ _ h => h) (Or.inl ⟨by rfl, ?_⟩) (by assumption) ?_
  rotate_left
  · (intro w hSw; (try dsimp only at hSw); go_simp; try with_reducible rfl)
  try simp only [Act.put]
  refine wpAnyH_ready (rs := [2]) (by kernel_rfl) (by simp) ?_
  refine AllReadyH.cons rfl (fun K hK => ?_) (AllReadyH.nil)
  go_simp
  refine (known_ok _ na da A B n m ca cb xs ys LA.out.drew LB.out.drew HVA.out).mono ?_
  rintro e wc ⟨rfl, hbc⟩
  have Bc : Below W0.heap.size W0 wc := (Below.refl _ _).drew.trans hbc
  go_wp2_with fail
  refine hK.out _ _ ?_ (fun hHeld => ?_)
  · exact ⟨(HF.out.via Bc).c0, (QA.out.via Bc).c0, (QA.out.via Bc).c1, (QA.out.via Bc).c2, (QA.out.via Bc).c3, (QB.out.via Bc).c0, (QB.out.via Bc).c1, (QB.out.via Bc).c2, (QB.out.via Bc).c3⟩
  clear hK K
  try simp only [Act.put, List.setIfInBounds_toArray, List.set_cons_zero, List.set_cons_succ]
  refine wpAnyH_ready (rs := [4]) (by kernel_rfl) (by simp) ?_
  refine AllReadyH.cons rfl (fun K hK => ?_) (AllReadyH.nil)
  go_simp
  refine (known_ok _ nb db C D r s cc cd us vs (by first | exact LC.out.via Bc | exact LC.out.drew) (by first | exact LD.out.via Bc | exact LD.out.drew) HVB.out).mono ?_
  rintro e wd ⟨rfl, hbd⟩
  have Bd : Below W0.heap.size W0 wd := btr Bc hbd
  go_wp2_with fail
  refine hK.out _ _ ?_ (fun hHeld => ?_)
  · exact ⟨(HF.out.via Bd).c0, (QA.out.via Bd).c0, (QA.out.via Bd).c1, (QA.out.via Bd).c2, (QA.out.via Bd).c3, (QB.out.via Bd).c0, (QB.out.via Bd).c1, (QB.out.via Bd).c2, (QB.out.via Bd).c3⟩
  clear hK K
  try simp only [Act.put, List.setIfInBounds_toArray, List.set_cons_zero, List.set_cons_succ]
  refine wpAnyH_ready (rs := [5]) (by kernel_rfl) (by simp) ?_
  refine AllReadyH.cons rfl (fun K hK => ?_) (AllReadyH.nil)
  go_simp
  refine (HH.out _ (LA.out.via Bd) (LB.out.via Bd) (LC.out.via Bd) (LD.out.via Bd)).mono ?_
  rintro e wp ⟨rfl, hbp⟩
  unfold Pan
  exact ⟨rfl, rfl, btr W0B.out (btr Bd hbp)⟩

set_option maxRecDepth 100000 in
set_option maxHeartbeats 4000000 in
theorem joini_ok (w : World) (g0 ga gb : Nat) (f : FuncId) (na da nb db : Bool) (A B C D : Option Addr) (n m r s ca cb cc cd : Nat) (xs ys us vs : List Nat) (hf : Fb w g0 f) (qa : Qd w ga (.bool na) (.slice A n ca) (.bool da) (.slice B m cb)) (qb : Qd w gb (.bool nb) (.slice C r cc) (.bool db) (.slice D s cd))
    (hA : Lm w w.heap.size A n ca xs) (hB : Lm w w.heap.size B m cb ys) (hC : Lm w w.heap.size C r cc us) (hD : Lm w w.heap.size D s cd vs) (hva : fchk na xs da ys = 0) (hvb : fchk nb us db vs = 0) (x : Int)
    (hcf : ∀ (u v : Value) (W : World), (callFunc f #[u, v]).run Tryz.prog W = .ok (.enter f #[u, v]) W)
    (H : ∀ W, Lm W W.heap.size A n ca xs → Lm W W.heap.size B m cb ys → Lm W W.heap.size C r cc us → Lm W W.heap.size D s cd vs → Calls Tryz.prog f #[fv na A n ca da B m cb, fv nb C r cc db D s cd] W (fun e w' => e = .returned (.int .i64 x) ∧ Below W.heap.size W w')) :
    Calls Tryz.prog 102 #[.pointer (some ⟨g0, 0, none⟩), .pointer (some ⟨ga, 0, none⟩), .pointer (some ⟨gb, 0, none⟩)] w (fun e w' => e = .returned (.int .i64 x) ∧ Below w.heap.size w w') := by
  have HF := Lib.hid hf
  have QA := Lib.hid qa
  have QB := Lib.hid qb
  have LA := Lib.hid hA
  have LB := Lib.hid hB
  have LC := Lib.hid hC
  have LD := Lib.hid hD
  have HVA := Lib.hid hva
  have HVB := Lib.hid hvb
  have HH := Lib.hid H
  have W0B : Hid (Below w.heap.size w w) := Below.refl _ _
  have ⟨f0, fl⟩ := hf
  have ⟨a0, a1, a2, a3, _, _, _, _, al⟩ := qa
  have ⟨b0, b1, b2, b3, _, _, _, _, bl⟩ := qb
  clear hA hB hC hD hva hvb H hf qa qb
  go_enter Tryz.func102, Tryz.ntmps102
  go_wp2_with fail
  have hg0 : g0 < w.heap.size := fl
  have hga : ga < w.heap.size := al
  have hgb : gb < w.heap.size := bl
  clear f0 fl a0 a1 a2 a3 al b0 b1 b2 b3 bl
  have HKS : Hid (∀ X : World, Below w.heap.size w X → X.cell? ⟨g0, 0, none⟩ = some (.func (.func f) #[] #[]) ∧ X.cell? ⟨ga, 0, none⟩ = some (.bool na) ∧ X.cell? ⟨ga, 1, none⟩ = some (.slice A n ca) ∧ X.cell? ⟨ga, 2, none⟩ = some (.bool da) ∧ X.cell? ⟨ga, 3, none⟩ = some (.slice B m cb) ∧ X.cell? ⟨gb, 0, none⟩ = some (.bool nb) ∧ X.cell? ⟨gb, 1, none⟩ = some (.slice C r cc) ∧ X.cell? ⟨gb, 2, none⟩ = some (.bool db) ∧ X.cell? ⟨gb, 3, none⟩ = some (.slice D s cd)) := fun X h => ⟨(h.cell (p := ⟨g0, 0, none⟩) hg0).trans HF.out.c0, (QA.out.below h hga).c0, (QA.out.below h hga).c1, (QA.out.below h hga).c2, (QA.out.below h hga).c3, (QB.out.below h hgb).c0, (QB.out.below h hgb).c1, (QB.out.below h hgb).c2, (QB.out.below h hgb).c3⟩
  have hw0 : w.heap.size ≤ w.heap.size := W0B.out.size
  go_region_held3 (fun w' => w'.cell? ⟨g0, 0, none⟩ = some (.func (.func f) #[] #[]) ∧ w'.cell? ⟨ga, 0, none⟩ = some (.bool na) ∧ w'.cell? ⟨ga, 1, none⟩ = some (.slice A n ca) ∧ w'.cell? ⟨ga, 2, none⟩ = some (.bool da) ∧ w'.cell? ⟨ga, 3, none⟩ = some (.slice B m cb) ∧ w'.cell? ⟨gb, 0, none⟩ = some (.bool nb) ∧ w'.cell? ⟨gb, 1, none⟩ = some (.slice C r cc) ∧ w'.cell? ⟨gb, 2, none⟩ = some (.bool db) ∧ w'.cell? ⟨gb, 3, none⟩ = some (.slice D s cd))
    (first | (refine HKS.out _ ?_; (repeat' (first | exact Be.mono hw0 | exact Bd.mono hw0 | exact Bc.mono hw0 | exact (Below.refl _ _).drew | exact Below.refl _ _ | refine Below.setCell ?_ ?_ _)); all_goals (first | omega | (simp; done) | (simp; omega))))
    (first
     | (go_at_call_of 79 (Value.agg #[Value.bool na, Value.slice A n ca, Value.bool da, Value.slice B m cb]); refine (known_ok _ na da A B n m ca cb xs ys LA.out.drew LB.out.drew HVA.out).mono ?_; rintro e wc ⟨rfl, hbc⟩; have Bc : Below w.heap.size w wc := (by first | exact (Below.refl _ _).drew.trans hbc | exact hbc))
     | (go_at_call_of 79 (Value.agg #[Value.bool nb, Value.slice C r cc, Value.bool db, Value.slice D s cd]); refine (known_ok _ nb db C D r s cc cd us vs (by first | exact LC.out.via Bc | exact LC.out.drew) (by first | exact LD.out.via Bc | exact LD.out.drew) HVB.out).mono ?_; rintro e wd ⟨rfl, hbd⟩; have Bd : Below w.heap.size w wd := btr Bc hbd)
     | (refine (HH.out _ (LA.out.via Bd) (LB.out.via Bd) (LC.out.via Bd) (LD.out.via Bd)).mono ?_; rintro e we ⟨rfl, hbe⟩; have Be : Below w.heap.size w we := btr Bd hbe)
     | fail)
  all_goals
    go_wp2
    go_ret
    exact ⟨rfl, btr W0B.out Be⟩

end Go.Proofs.YtoigmcggkanncaaGreatDoor

/- Package frac: times and over. -/
namespace Go.Proofs.YtoigmcggkanncaaGreatDoor
open Go.RowKit

set_option maxRecDepth 100000 in
set_option maxHeartbeats 4000000 in
theorem times_n (w : World) (A B C D : Option Addr) (n m r s ca cb cc cd k : Nat) (x y P Q : Int) (hA : Lm w w.heap.size A n ca (digs x.natAbs)) (hB : Lm w w.heap.size B m cb (digs P.natAbs)) (hC : Lm w w.heap.size C r cc (digs y.natAbs)) (hD : Lm w w.heap.size D s cd (digs Q.natAbs))
    (hx : Sz k x) (hP : Sz k P) (hy : Sz k y) (hQ : Sz k Q) (hk : k ≤ 300) {na nb : Bool} (ha : decide (x < 0) = na) (hb : decide (y < 0) = nb) (hP0 : 0 < P) (hQ0 : 0 < Q)  :
    Calls Tryz.prog 58 #[fv na A n ca false B m cb, fv nb C r cc false D s cd] w (RFr w (x * y / dvr (x * y) (P * Q)) (P * Q / dvr (x * y) (P * Q))) := by
  have SX := Lib.hid hx
  have SP := Lib.hid hP
  have SY := Lib.hid hy
  have SQ := Lib.hid hQ
  have HNa := Lib.hid ha
  have HNb := Lib.hid hb
  have DP : Hid (decide (P < 0) = false) := decide_eq_false (by omega)
  have DQ : Hid (decide (Q < 0) = false) := decide_eq_false (by omega)
  have XU := Lib.hid (hx.mul hy)
  have PV := Lib.hid (hP.mul hQ)
  have HSG : Hid (0 < P * Q) := Int.mul_pos hP0 hQ0
  have HA := Lib.hid hA
  have HB := Lib.hid hB
  have HC := Lib.hid hC
  have HD := Lib.hid hD
  clear hx hP hy hQ ha hb hP0 hQ0 hA hB hC hD
  go_enter Tryz.func58, Tryz.ntmps58
  have Q3 := Lib.hid (((Qd.new w _ rfl (.bool na) (.slice A n ca) (.bool false) (.slice B m cb) 69).alloc (.cells #[.bool nb, .slice C r cc, .bool false, .slice D s cd] 69)).alloc (.cells #[.bool false, .slice none 0 0, .bool false, .slice none 0 0] 29))
  have Q4 := Lib.hid ((Qd.new (w.alloc (.cells #[.bool na, .slice A n ca, .bool false, .slice B m cb] 69)) (w.heap.size + 1) (by simp) (.bool nb) (.slice C r cc) (.bool false) (.slice D s cd) 69).alloc (.cells #[.bool false, .slice none 0 0, .bool false, .slice none 0 0] 29))
  have QR := Lib.hid (Qd.new ((w.alloc (.cells #[.bool na, .slice A n ca, .bool false, .slice B m cb] 69)).alloc (.cells #[.bool nb, .slice C r cc, .bool false, .slice D s cd] 69)) (w.heap.size + 1 + 1) (by simp) (.bool false) (.slice none 0 0) (.bool false) (.slice none 0 0) 29)
  have LA := Lib.hid (((HA.out.box (.cells #[.bool na, .slice A n ca, .bool false, .slice B m cb] 69)).box (.cells #[.bool nb, .slice C r cc, .bool false, .slice D s cd] 69)).box (.cells #[.bool false, .slice none 0 0, .bool false, .slice none 0 0] 29))
  have LB := Lib.hid (((HB.out.box (.cells #[.bool na, .slice A n ca, .bool false, .slice B m cb] 69)).box (.cells #[.bool nb, .slice C r cc, .bool false, .slice D s cd] 69)).box (.cells #[.bool false, .slice none 0 0, .bool false, .slice none 0 0] 29))
  have LC := Lib.hid (((HC.out.box (.cells #[.bool na, .slice A n ca, .bool false, .slice B m cb] 69)).box (.cells #[.bool nb, .slice C r cc, .bool false, .slice D s cd] 69)).box (.cells #[.bool false, .slice none 0 0, .bool false, .slice none 0 0] 29))
  have LD := Lib.hid (((HD.out.box (.cells #[.bool na, .slice A n ca, .bool false, .slice B m cb] 69)).box (.cells #[.bool nb, .slice C r cc, .bool false, .slice D s cd] 69)).box (.cells #[.bool false, .slice none 0 0, .bool false, .slice none 0 0] 29))
  have BW : Hid (Below w.heap.size w (((w.alloc (.cells #[.bool na, .slice A n ca, .bool false, .slice B m cb] 69)).alloc (.cells #[.bool nb, .slice C r cc, .bool false, .slice D s cd] 69)).alloc (.cells #[.bool false, .slice none 0 0, .bool false, .slice none 0 0] 29))) := below_alloc (below_alloc (below_alloc (Below.refl _ _) _) _) _
  clear HA HB HC HD
  go_wp2_with fail
  generalize ((w.alloc (.cells #[.bool na, .slice A n ca, .bool false, .slice B m cb] 69)).alloc (.cells #[.bool nb, .slice C r cc, .bool false, .slice D s cd] 69)).alloc (.cells #[.bool false, .slice none 0 0, .bool false, .slice none 0 0] 29) = W0 at *
  have hrl := QR.out.lt
  have HW2 : Hid (w.heap.size + 1 + 1 ≤ W0.heap.size) := by show _ ≤ _; omega
  have HKS : Hid (∀ X : World, Below (w.heap.size + 1 + 1) W0 X → X.cell? ⟨w.heap.size, 0, none⟩ = some (.bool na) ∧ X.cell? ⟨w.heap.size, 1, none⟩ = some (.slice A n ca) ∧ X.cell? ⟨w.heap.size, 2, none⟩ = some (.bool false) ∧ X.cell? ⟨w.heap.size, 3, none⟩ = some (.slice B m cb) ∧ X.cell? ⟨w.heap.size + 1, 0, none⟩ = some (.bool nb) ∧ X.cell? ⟨w.heap.size + 1, 1, none⟩ = some (.slice C r cc) ∧ X.cell? ⟨w.heap.size + 1, 2, none⟩ = some (.bool false) ∧ X.cell? ⟨w.heap.size + 1, 3, none⟩ = some (.slice D s cd)) := fun X h => ⟨(Q3.out.below h (by omega)).c0, (Q3.out.below h (by omega)).c1, (Q3.out.below h (by omega)).c2, (Q3.out.below h (by omega)).c3, (Q4.out.below h (by omega)).c0, (Q4.out.below h (by omega)).c1, (Q4.out.below h (by omega)).c2, (Q4.out.below h (by omega)).c3⟩
  go_region_held3 (fun w' => w'.cell? ⟨w.heap.size, 0, none⟩ = some (.bool na) ∧ w'.cell? ⟨w.heap.size, 1, none⟩ = some (.slice A n ca) ∧ w'.cell? ⟨w.heap.size, 2, none⟩ = some (.bool false) ∧ w'.cell? ⟨w.heap.size, 3, none⟩ = some (.slice B m cb) ∧ w'.cell? ⟨w.heap.size + 1, 0, none⟩ = some (.bool nb) ∧ w'.cell? ⟨w.heap.size + 1, 1, none⟩ = some (.slice C r cc) ∧ w'.cell? ⟨w.heap.size + 1, 2, none⟩ = some (.bool false) ∧ w'.cell? ⟨w.heap.size + 1, 3, none⟩ = some (.slice D s cd))
    (first | (refine HKS.out _ ?_; (repeat' (first | exact Bd.mono HW2.out | exact B2.mono HW2.out | exact B1.mono HW2.out | exact (Below.refl _ _).drew | exact Below.refl _ _ | refine Below.setCell ?_ ?_ _)); all_goals (first | omega | (simp; done) | (simp; omega))))
    (first
     | (go_at_call_of 80 (Value.agg #[Value.bool na, Value.slice A n ca]); refine (prod_n _ A C n r ca cc k x y (by first | exact LA.out.via B2 | exact (LA.out.via B2).box _ | exact LA.out.drew | exact (LA.out.box _).drew | exact LA.out | exact LA.out.box _) (by first | exact LC.out.via B2 | exact (LC.out.via B2).box _ | exact LC.out.drew | exact (LC.out.box _).drew | exact LC.out | exact LC.out.box _) SX.out SY.out (by omega) HNa.out HNb.out).mono ?_; rintro e wa ⟨A1, n1, c1, rfl, hL1, hb1⟩; have B1 : Below W0.heap.size W0 wa := (by first | exact btr B2 hb1 | exact btr B2 (bbox hb1) | exact (Below.refl _ _).drew.trans hb1 | exact b_one_d hb1 | exact hb1 | exact bbox hb1); have B1s := B1.size)
     | (go_at_call_of 80 (Value.agg #[Value.bool false, Value.slice B m cb]); refine (prod_n _ B D m s cb cd k P Q (by first | exact LB.out.via B1 | exact (LB.out.via B1).box _ | exact LB.out.drew | exact (LB.out.box _).drew | exact LB.out | exact LB.out.box _) (by first | exact LD.out.via B1 | exact (LD.out.via B1).box _ | exact LD.out.drew | exact (LD.out.box _).drew | exact LD.out | exact LD.out.box _) SP.out SQ.out (by omega) DP.out DQ.out).mono ?_; rintro e wb ⟨A2, n2, c2, rfl, hL2, hb2⟩; have B2 : Below W0.heap.size W0 wb := (by first | exact btr B1 hb2 | exact btr B1 (bbox hb2) | exact (Below.refl _ _).drew.trans hb2 | exact b_one_d hb2 | exact hb2 | exact bbox hb2); have B2s := B2.size)
     | (go_at_call 48; refine (reduced_pos _ A1 A2 n1 n2 c1 c2 (k + k) (x * y) (P * Q) (by first | exact hL1 | exact hL1.box _ | exact hL1.via hb2 | exact (hL1.via hb2).box _ | exact (hL1.box _).via hb2 | exact ((hL1.box _).via hb2).box _) (by first | exact hL2 | exact hL2.box _ | exact hL2.via hb1 | exact (hL2.via hb1).box _ | exact (hL2.box _).via hb1 | exact ((hL2.box _).via hb1).box _) XU.out PV.out (by omega) rfl rfl HSG.out).mono ?_; rintro e wd ⟨A5, n5, c5, B5, m5, d5, rfl, hL5, hM5, hb5⟩; have Bd : Below W0.heap.size W0 wd := (by first | exact btr B2 hb5 | exact btr B2 (bbox hb5) | exact btr B1 hb5 | exact btr B1 (bbox hb5) | exact (Below.refl _ _).drew.trans hb5 | exact b_one_d hb5 | exact hb5 | exact bbox hb5); have Bds := Bd.size; have KR := QR.out.via Bd; have ⟨r0, r1, r2, r3, rf0, rf1, rf2, rf3, rl⟩ := KR)
     | fail)
  all_goals
    obtain ⟨np, hnp⟩ : ∃ b, decide (x * y / dvr (x * y) (P * Q) < 0) = b := ⟨_, rfl⟩
    obtain ⟨nq, hnq⟩ : ∃ b, decide (P * Q / dvr (x * y) (P * Q) < 0) = b := ⟨_, rfl⟩
    rw [hnp, hnq]
    have HNp := Lib.hid hnp
    have HNq := Lib.hid hnq
    have HL5 := Lib.hid hL5
    have HM5 := Lib.hid hM5
    have BE := Lib.hid (btr BW.out Bd)
    clear hnp hnq hL5 hM5
    go_wp2
    exact post_f1 Tryz.results58 rfl rfl (KR.set (.bool np) (.slice A5 n5 c5) (.bool nq) (.slice B5 m5 d5)) ⟨A5, n5, c5, B5, m5, d5, by rw [HNp.out, HNq.out], HL5.out.put4 KR _ _ _ _, HM5.out.put4 KR _ _ _ _, below_put4 BE.out (by omega) _ _ _ _⟩
set_option maxRecDepth 100000 in
set_option maxHeartbeats 4000000 in
theorem over_pos (w : World) (A B C D : Option Addr) (n m r s ca cb cc cd k : Nat) (x y P Q : Int) (hA : Lm w w.heap.size A n ca (digs x.natAbs)) (hB : Lm w w.heap.size B m cb (digs P.natAbs)) (hC : Lm w w.heap.size C r cc (digs y.natAbs)) (hD : Lm w w.heap.size D s cd (digs Q.natAbs))
    (hx : Sz k x) (hP : Sz k P) (hy : Sz k y) (hQ : Sz k Q) (hk : k ≤ 300) {na nb : Bool} (ha : decide (x < 0) = na) (hb : decide (y < 0) = nb) (hP0 : 0 < P) (hQ0 : 0 < Q) (hy0 : 0 < y) :
    Calls Tryz.prog 44 #[fv na A n ca false B m cb, fv nb C r cc false D s cd] w (RFr w (x * Q / dvr (x * Q) (P * y)) (P * y / dvr (x * Q) (P * y))) := by
  have SX := Lib.hid hx
  have SP := Lib.hid hP
  have SY := Lib.hid hy
  have SQ := Lib.hid hQ
  have HNa := Lib.hid ha
  have HNb := Lib.hid hb
  have DP : Hid (decide (P < 0) = false) := decide_eq_false (by omega)
  have DQ : Hid (decide (Q < 0) = false) := decide_eq_false (by omega)
  have XU := Lib.hid (hx.mul hQ)
  have PV := Lib.hid (hP.mul hy)
  have HSG : Hid (0 < P * y) := Int.mul_pos hP0 hy0
  have HA := Lib.hid hA
  have HB := Lib.hid hB
  have HC := Lib.hid hC
  have HD := Lib.hid hD
  clear hx hP hy hQ ha hb hP0 hQ0 hA hB hC hD hy0
  go_enter Tryz.func44, Tryz.ntmps44
  have Q3 := Lib.hid (((Qd.new w _ rfl (.bool na) (.slice A n ca) (.bool false) (.slice B m cb) 69).alloc (.cells #[.bool nb, .slice C r cc, .bool false, .slice D s cd] 69)).alloc (.cells #[.bool false, .slice none 0 0, .bool false, .slice none 0 0] 29))
  have Q4 := Lib.hid ((Qd.new (w.alloc (.cells #[.bool na, .slice A n ca, .bool false, .slice B m cb] 69)) (w.heap.size + 1) (by simp) (.bool nb) (.slice C r cc) (.bool false) (.slice D s cd) 69).alloc (.cells #[.bool false, .slice none 0 0, .bool false, .slice none 0 0] 29))
  have QR := Lib.hid (Qd.new ((w.alloc (.cells #[.bool na, .slice A n ca, .bool false, .slice B m cb] 69)).alloc (.cells #[.bool nb, .slice C r cc, .bool false, .slice D s cd] 69)) (w.heap.size + 1 + 1) (by simp) (.bool false) (.slice none 0 0) (.bool false) (.slice none 0 0) 29)
  have LA := Lib.hid (((HA.out.box (.cells #[.bool na, .slice A n ca, .bool false, .slice B m cb] 69)).box (.cells #[.bool nb, .slice C r cc, .bool false, .slice D s cd] 69)).box (.cells #[.bool false, .slice none 0 0, .bool false, .slice none 0 0] 29))
  have LB := Lib.hid (((HB.out.box (.cells #[.bool na, .slice A n ca, .bool false, .slice B m cb] 69)).box (.cells #[.bool nb, .slice C r cc, .bool false, .slice D s cd] 69)).box (.cells #[.bool false, .slice none 0 0, .bool false, .slice none 0 0] 29))
  have LC := Lib.hid (((HC.out.box (.cells #[.bool na, .slice A n ca, .bool false, .slice B m cb] 69)).box (.cells #[.bool nb, .slice C r cc, .bool false, .slice D s cd] 69)).box (.cells #[.bool false, .slice none 0 0, .bool false, .slice none 0 0] 29))
  have LD := Lib.hid (((HD.out.box (.cells #[.bool na, .slice A n ca, .bool false, .slice B m cb] 69)).box (.cells #[.bool nb, .slice C r cc, .bool false, .slice D s cd] 69)).box (.cells #[.bool false, .slice none 0 0, .bool false, .slice none 0 0] 29))
  have BW : Hid (Below w.heap.size w (((w.alloc (.cells #[.bool na, .slice A n ca, .bool false, .slice B m cb] 69)).alloc (.cells #[.bool nb, .slice C r cc, .bool false, .slice D s cd] 69)).alloc (.cells #[.bool false, .slice none 0 0, .bool false, .slice none 0 0] 29))) := below_alloc (below_alloc (below_alloc (Below.refl _ _) _) _) _
  clear HA HB HC HD
  go_wp2_with fail
  generalize ((w.alloc (.cells #[.bool na, .slice A n ca, .bool false, .slice B m cb] 69)).alloc (.cells #[.bool nb, .slice C r cc, .bool false, .slice D s cd] 69)).alloc (.cells #[.bool false, .slice none 0 0, .bool false, .slice none 0 0] 29) = W0 at *
  have hrl := QR.out.lt
  have HW2 : Hid (w.heap.size + 1 + 1 ≤ W0.heap.size) := by show _ ≤ _; omega
  have HKS : Hid (∀ X : World, Below (w.heap.size + 1 + 1) W0 X → X.cell? ⟨w.heap.size, 0, none⟩ = some (.bool na) ∧ X.cell? ⟨w.heap.size, 1, none⟩ = some (.slice A n ca) ∧ X.cell? ⟨w.heap.size, 2, none⟩ = some (.bool false) ∧ X.cell? ⟨w.heap.size, 3, none⟩ = some (.slice B m cb) ∧ X.cell? ⟨w.heap.size + 1, 0, none⟩ = some (.bool nb) ∧ X.cell? ⟨w.heap.size + 1, 1, none⟩ = some (.slice C r cc) ∧ X.cell? ⟨w.heap.size + 1, 2, none⟩ = some (.bool false) ∧ X.cell? ⟨w.heap.size + 1, 3, none⟩ = some (.slice D s cd)) := fun X h => ⟨(Q3.out.below h (by omega)).c0, (Q3.out.below h (by omega)).c1, (Q3.out.below h (by omega)).c2, (Q3.out.below h (by omega)).c3, (Q4.out.below h (by omega)).c0, (Q4.out.below h (by omega)).c1, (Q4.out.below h (by omega)).c2, (Q4.out.below h (by omega)).c3⟩
  go_region_held3 (fun w' => w'.cell? ⟨w.heap.size, 0, none⟩ = some (.bool na) ∧ w'.cell? ⟨w.heap.size, 1, none⟩ = some (.slice A n ca) ∧ w'.cell? ⟨w.heap.size, 2, none⟩ = some (.bool false) ∧ w'.cell? ⟨w.heap.size, 3, none⟩ = some (.slice B m cb) ∧ w'.cell? ⟨w.heap.size + 1, 0, none⟩ = some (.bool nb) ∧ w'.cell? ⟨w.heap.size + 1, 1, none⟩ = some (.slice C r cc) ∧ w'.cell? ⟨w.heap.size + 1, 2, none⟩ = some (.bool false) ∧ w'.cell? ⟨w.heap.size + 1, 3, none⟩ = some (.slice D s cd))
    (first | (refine HKS.out _ ?_; (repeat' (first | exact Bd.mono HW2.out | exact B2.mono HW2.out | exact B1.mono HW2.out | exact (Below.refl _ _).drew | exact Below.refl _ _ | refine Below.setCell ?_ ?_ _)); all_goals (first | omega | (simp; done) | (simp; omega))))
    (first
     | (go_at_call_of 80 (Value.agg #[Value.bool na, Value.slice A n ca]); refine (prod_n _ A D n s ca cd k x Q (by first | exact LA.out.via B2 | exact (LA.out.via B2).box _ | exact LA.out.drew | exact (LA.out.box _).drew | exact LA.out | exact LA.out.box _) (by first | exact LD.out.via B2 | exact (LD.out.via B2).box _ | exact LD.out.drew | exact (LD.out.box _).drew | exact LD.out | exact LD.out.box _) SX.out SQ.out (by omega) HNa.out DQ.out).mono ?_; rintro e wa ⟨A1, n1, c1, rfl, hL1, hb1⟩; have B1 : Below W0.heap.size W0 wa := (by first | exact btr B2 hb1 | exact btr B2 (bbox hb1) | exact (Below.refl _ _).drew.trans hb1 | exact b_one_d hb1 | exact hb1 | exact bbox hb1); have B1s := B1.size)
     | (go_at_call_of 80 (Value.agg #[Value.bool false, Value.slice B m cb]); refine (prod_n _ B C m r cb cc k P y (by first | exact LB.out.via B1 | exact (LB.out.via B1).box _ | exact LB.out.drew | exact (LB.out.box _).drew | exact LB.out | exact LB.out.box _) (by first | exact LC.out.via B1 | exact (LC.out.via B1).box _ | exact LC.out.drew | exact (LC.out.box _).drew | exact LC.out | exact LC.out.box _) SP.out SY.out (by omega) DP.out HNb.out).mono ?_; rintro e wb ⟨A2, n2, c2, rfl, hL2, hb2⟩; have B2 : Below W0.heap.size W0 wb := (by first | exact btr B1 hb2 | exact btr B1 (bbox hb2) | exact (Below.refl _ _).drew.trans hb2 | exact b_one_d hb2 | exact hb2 | exact bbox hb2); have B2s := B2.size)
     | (go_at_call 48; refine (reduced_pos _ A1 A2 n1 n2 c1 c2 (k + k) (x * Q) (P * y) (by first | exact hL1 | exact hL1.box _ | exact hL1.via hb2 | exact (hL1.via hb2).box _ | exact (hL1.box _).via hb2 | exact ((hL1.box _).via hb2).box _) (by first | exact hL2 | exact hL2.box _ | exact hL2.via hb1 | exact (hL2.via hb1).box _ | exact (hL2.box _).via hb1 | exact ((hL2.box _).via hb1).box _) XU.out PV.out (by omega) rfl rfl HSG.out).mono ?_; rintro e wd ⟨A5, n5, c5, B5, m5, d5, rfl, hL5, hM5, hb5⟩; have Bd : Below W0.heap.size W0 wd := (by first | exact btr B2 hb5 | exact btr B2 (bbox hb5) | exact btr B1 hb5 | exact btr B1 (bbox hb5) | exact (Below.refl _ _).drew.trans hb5 | exact b_one_d hb5 | exact hb5 | exact bbox hb5); have Bds := Bd.size; have KR := QR.out.via Bd; have ⟨r0, r1, r2, r3, rf0, rf1, rf2, rf3, rl⟩ := KR)
     | fail)
  all_goals
    obtain ⟨np, hnp⟩ : ∃ b, decide (x * Q / dvr (x * Q) (P * y) < 0) = b := ⟨_, rfl⟩
    obtain ⟨nq, hnq⟩ : ∃ b, decide (P * y / dvr (x * Q) (P * y) < 0) = b := ⟨_, rfl⟩
    rw [hnp, hnq]
    have HNp := Lib.hid hnp
    have HNq := Lib.hid hnq
    have HL5 := Lib.hid hL5
    have HM5 := Lib.hid hM5
    have BE := Lib.hid (btr BW.out Bd)
    clear hnp hnq hL5 hM5
    go_wp2
    exact post_f1 Tryz.results44 rfl rfl (KR.set (.bool np) (.slice A5 n5 c5) (.bool nq) (.slice B5 m5 d5)) ⟨A5, n5, c5, B5, m5, d5, by rw [HNp.out, HNq.out], HL5.out.put4 KR _ _ _ _, HM5.out.put4 KR _ _ _ _, below_put4 BE.out (by omega) _ _ _ _⟩
set_option maxRecDepth 100000 in
set_option maxHeartbeats 4000000 in
theorem over_neg (w : World) (A B C D : Option Addr) (n m r s ca cb cc cd k : Nat) (x y P Q : Int) (hA : Lm w w.heap.size A n ca (digs x.natAbs)) (hB : Lm w w.heap.size B m cb (digs P.natAbs)) (hC : Lm w w.heap.size C r cc (digs y.natAbs)) (hD : Lm w w.heap.size D s cd (digs Q.natAbs))
    (hx : Sz k x) (hP : Sz k P) (hy : Sz k y) (hQ : Sz k Q) (hk : k ≤ 300) {na nb : Bool} (ha : decide (x < 0) = na) (hb : decide (y < 0) = nb) (hP0 : 0 < P) (hQ0 : 0 < Q) (hy0 : y < 0) :
    Calls Tryz.prog 44 #[fv na A n ca false B m cb, fv nb C r cc false D s cd] w (RFr w (x * Q / dvr (x * Q) (P * y)) (P * y / dvr (x * Q) (P * y))) := by
  have SX := Lib.hid hx
  have SP := Lib.hid hP
  have SY := Lib.hid hy
  have SQ := Lib.hid hQ
  have HNa := Lib.hid ha
  have HNb := Lib.hid hb
  have DP : Hid (decide (P < 0) = false) := decide_eq_false (by omega)
  have DQ : Hid (decide (Q < 0) = false) := decide_eq_false (by omega)
  have XU := Lib.hid (hx.mul hQ)
  have PV := Lib.hid (hP.mul hy)
  have HSG : Hid (P * y < 0) := Int.mul_neg_of_pos_of_neg hP0 hy0
  have HA := Lib.hid hA
  have HB := Lib.hid hB
  have HC := Lib.hid hC
  have HD := Lib.hid hD
  clear hx hP hy hQ ha hb hP0 hQ0 hA hB hC hD hy0
  go_enter Tryz.func44, Tryz.ntmps44
  have Q3 := Lib.hid (((Qd.new w _ rfl (.bool na) (.slice A n ca) (.bool false) (.slice B m cb) 69).alloc (.cells #[.bool nb, .slice C r cc, .bool false, .slice D s cd] 69)).alloc (.cells #[.bool false, .slice none 0 0, .bool false, .slice none 0 0] 29))
  have Q4 := Lib.hid ((Qd.new (w.alloc (.cells #[.bool na, .slice A n ca, .bool false, .slice B m cb] 69)) (w.heap.size + 1) (by simp) (.bool nb) (.slice C r cc) (.bool false) (.slice D s cd) 69).alloc (.cells #[.bool false, .slice none 0 0, .bool false, .slice none 0 0] 29))
  have QR := Lib.hid (Qd.new ((w.alloc (.cells #[.bool na, .slice A n ca, .bool false, .slice B m cb] 69)).alloc (.cells #[.bool nb, .slice C r cc, .bool false, .slice D s cd] 69)) (w.heap.size + 1 + 1) (by simp) (.bool false) (.slice none 0 0) (.bool false) (.slice none 0 0) 29)
  have LA := Lib.hid (((HA.out.box (.cells #[.bool na, .slice A n ca, .bool false, .slice B m cb] 69)).box (.cells #[.bool nb, .slice C r cc, .bool false, .slice D s cd] 69)).box (.cells #[.bool false, .slice none 0 0, .bool false, .slice none 0 0] 29))
  have LB := Lib.hid (((HB.out.box (.cells #[.bool na, .slice A n ca, .bool false, .slice B m cb] 69)).box (.cells #[.bool nb, .slice C r cc, .bool false, .slice D s cd] 69)).box (.cells #[.bool false, .slice none 0 0, .bool false, .slice none 0 0] 29))
  have LC := Lib.hid (((HC.out.box (.cells #[.bool na, .slice A n ca, .bool false, .slice B m cb] 69)).box (.cells #[.bool nb, .slice C r cc, .bool false, .slice D s cd] 69)).box (.cells #[.bool false, .slice none 0 0, .bool false, .slice none 0 0] 29))
  have LD := Lib.hid (((HD.out.box (.cells #[.bool na, .slice A n ca, .bool false, .slice B m cb] 69)).box (.cells #[.bool nb, .slice C r cc, .bool false, .slice D s cd] 69)).box (.cells #[.bool false, .slice none 0 0, .bool false, .slice none 0 0] 29))
  have BW : Hid (Below w.heap.size w (((w.alloc (.cells #[.bool na, .slice A n ca, .bool false, .slice B m cb] 69)).alloc (.cells #[.bool nb, .slice C r cc, .bool false, .slice D s cd] 69)).alloc (.cells #[.bool false, .slice none 0 0, .bool false, .slice none 0 0] 29))) := below_alloc (below_alloc (below_alloc (Below.refl _ _) _) _) _
  clear HA HB HC HD
  go_wp2_with fail
  generalize ((w.alloc (.cells #[.bool na, .slice A n ca, .bool false, .slice B m cb] 69)).alloc (.cells #[.bool nb, .slice C r cc, .bool false, .slice D s cd] 69)).alloc (.cells #[.bool false, .slice none 0 0, .bool false, .slice none 0 0] 29) = W0 at *
  have hrl := QR.out.lt
  have HW2 : Hid (w.heap.size + 1 + 1 ≤ W0.heap.size) := by show _ ≤ _; omega
  have HKS : Hid (∀ X : World, Below (w.heap.size + 1 + 1) W0 X → X.cell? ⟨w.heap.size, 0, none⟩ = some (.bool na) ∧ X.cell? ⟨w.heap.size, 1, none⟩ = some (.slice A n ca) ∧ X.cell? ⟨w.heap.size, 2, none⟩ = some (.bool false) ∧ X.cell? ⟨w.heap.size, 3, none⟩ = some (.slice B m cb) ∧ X.cell? ⟨w.heap.size + 1, 0, none⟩ = some (.bool nb) ∧ X.cell? ⟨w.heap.size + 1, 1, none⟩ = some (.slice C r cc) ∧ X.cell? ⟨w.heap.size + 1, 2, none⟩ = some (.bool false) ∧ X.cell? ⟨w.heap.size + 1, 3, none⟩ = some (.slice D s cd)) := fun X h => ⟨(Q3.out.below h (by omega)).c0, (Q3.out.below h (by omega)).c1, (Q3.out.below h (by omega)).c2, (Q3.out.below h (by omega)).c3, (Q4.out.below h (by omega)).c0, (Q4.out.below h (by omega)).c1, (Q4.out.below h (by omega)).c2, (Q4.out.below h (by omega)).c3⟩
  go_region_held3 (fun w' => w'.cell? ⟨w.heap.size, 0, none⟩ = some (.bool na) ∧ w'.cell? ⟨w.heap.size, 1, none⟩ = some (.slice A n ca) ∧ w'.cell? ⟨w.heap.size, 2, none⟩ = some (.bool false) ∧ w'.cell? ⟨w.heap.size, 3, none⟩ = some (.slice B m cb) ∧ w'.cell? ⟨w.heap.size + 1, 0, none⟩ = some (.bool nb) ∧ w'.cell? ⟨w.heap.size + 1, 1, none⟩ = some (.slice C r cc) ∧ w'.cell? ⟨w.heap.size + 1, 2, none⟩ = some (.bool false) ∧ w'.cell? ⟨w.heap.size + 1, 3, none⟩ = some (.slice D s cd))
    (first | (refine HKS.out _ ?_; (repeat' (first | exact Bd.mono HW2.out | exact B2.mono HW2.out | exact B1.mono HW2.out | exact (Below.refl _ _).drew | exact Below.refl _ _ | refine Below.setCell ?_ ?_ _)); all_goals (first | omega | (simp; done) | (simp; omega))))
    (first
     | (go_at_call_of 80 (Value.agg #[Value.bool na, Value.slice A n ca]); refine (prod_n _ A D n s ca cd k x Q (by first | exact LA.out.via B2 | exact (LA.out.via B2).box _ | exact LA.out.drew | exact (LA.out.box _).drew | exact LA.out | exact LA.out.box _) (by first | exact LD.out.via B2 | exact (LD.out.via B2).box _ | exact LD.out.drew | exact (LD.out.box _).drew | exact LD.out | exact LD.out.box _) SX.out SQ.out (by omega) HNa.out DQ.out).mono ?_; rintro e wa ⟨A1, n1, c1, rfl, hL1, hb1⟩; have B1 : Below W0.heap.size W0 wa := (by first | exact btr B2 hb1 | exact btr B2 (bbox hb1) | exact (Below.refl _ _).drew.trans hb1 | exact b_one_d hb1 | exact hb1 | exact bbox hb1); have B1s := B1.size)
     | (go_at_call_of 80 (Value.agg #[Value.bool false, Value.slice B m cb]); refine (prod_n _ B C m r cb cc k P y (by first | exact LB.out.via B1 | exact (LB.out.via B1).box _ | exact LB.out.drew | exact (LB.out.box _).drew | exact LB.out | exact LB.out.box _) (by first | exact LC.out.via B1 | exact (LC.out.via B1).box _ | exact LC.out.drew | exact (LC.out.box _).drew | exact LC.out | exact LC.out.box _) SP.out SY.out (by omega) DP.out HNb.out).mono ?_; rintro e wb ⟨A2, n2, c2, rfl, hL2, hb2⟩; have B2 : Below W0.heap.size W0 wb := (by first | exact btr B1 hb2 | exact btr B1 (bbox hb2) | exact (Below.refl _ _).drew.trans hb2 | exact b_one_d hb2 | exact hb2 | exact bbox hb2); have B2s := B2.size)
     | (go_at_call 48; refine (reduced_neg _ A1 A2 n1 n2 c1 c2 (k + k) (x * Q) (P * y) (by first | exact hL1 | exact hL1.box _ | exact hL1.via hb2 | exact (hL1.via hb2).box _ | exact (hL1.box _).via hb2 | exact ((hL1.box _).via hb2).box _) (by first | exact hL2 | exact hL2.box _ | exact hL2.via hb1 | exact (hL2.via hb1).box _ | exact (hL2.box _).via hb1 | exact ((hL2.box _).via hb1).box _) XU.out PV.out (by omega) rfl rfl HSG.out).mono ?_; rintro e wd ⟨A5, n5, c5, B5, m5, d5, rfl, hL5, hM5, hb5⟩; have Bd : Below W0.heap.size W0 wd := (by first | exact btr B2 hb5 | exact btr B2 (bbox hb5) | exact btr B1 hb5 | exact btr B1 (bbox hb5) | exact (Below.refl _ _).drew.trans hb5 | exact b_one_d hb5 | exact hb5 | exact bbox hb5); have Bds := Bd.size; have KR := QR.out.via Bd; have ⟨r0, r1, r2, r3, rf0, rf1, rf2, rf3, rl⟩ := KR)
     | fail)
  all_goals
    obtain ⟨np, hnp⟩ : ∃ b, decide (x * Q / dvr (x * Q) (P * y) < 0) = b := ⟨_, rfl⟩
    obtain ⟨nq, hnq⟩ : ∃ b, decide (P * y / dvr (x * Q) (P * y) < 0) = b := ⟨_, rfl⟩
    rw [hnp, hnq]
    have HNp := Lib.hid hnp
    have HNq := Lib.hid hnq
    have HL5 := Lib.hid hL5
    have HM5 := Lib.hid hM5
    have BE := Lib.hid (btr BW.out Bd)
    clear hnp hnq hL5 hM5
    go_wp2
    exact post_f1 Tryz.results44 rfl rfl (KR.set (.bool np) (.slice A5 n5 c5) (.bool nq) (.slice B5 m5 d5)) ⟨A5, n5, c5, B5, m5, d5, by rw [HNp.out, HNq.out], HL5.out.put4 KR _ _ _ _, HM5.out.put4 KR _ _ _ _, below_put4 BE.out (by omega) _ _ _ _⟩
end Go.Proofs.YtoigmcggkanncaaGreatDoor

/- Package frac: over by 0, compare. -/
namespace Go.Proofs.YtoigmcggkanncaaGreatDoor
open Go.RowKit

theorem toI_z (x : Int) : toI (decide (x < 0)) x.natAbs = x := by
  unfold toI
  by_cases h : x < 0
  · simp [h]; omega
  · simp [h]; omega
theorem cmp_n2 (w : World) (A B : Option Addr) (n m ca cb k : Nat) (x y : Int) (hA : Lm w w.heap.size A n ca (digs x.natAbs)) (hB : Lm w w.heap.size B m cb (digs y.natAbs)) (hx : Sz k x) (hy : Sz k y) (hk : k ≤ 2000) {na nb : Bool} (ha : decide (x < 0) = na) (hb : decide (y < 0) = nb) :
    Calls Tryz.prog 103 #[.agg #[.bool na, .slice A n ca], .agg #[.bool nb, .slice B m cb]] w fun e w' => e = .returned (.tuple #[.int .i64 (cmpZ x y), .int .i64 0]) ∧ Below w.heap.size w w' := by
  subst ha hb
  have h := cmp_ok w _ _ A B n m ca cb _ _ hA hB (chkB_z hx (by omega) hy (by omega))
  rw [toI_z, toI_z] at h
  exact h

set_option maxRecDepth 100000 in
set_option maxHeartbeats 4000000 in
theorem over_zero (w : World) (A B C D : Option Addr) (n m r s ca cb cc cd k : Nat) (x y P Q : Int) (hA : Lm w w.heap.size A n ca (digs x.natAbs)) (hB : Lm w w.heap.size B m cb (digs P.natAbs)) (hC : Lm w w.heap.size C r cc (digs y.natAbs)) (hD : Lm w w.heap.size D s cd (digs Q.natAbs))
    (hx : Sz k x) (hP : Sz k P) (hy : Sz k y) (hQ : Sz k Q) (hk : k ≤ 300) {na nb : Bool} (ha : decide (x < 0) = na) (hb : decide (y < 0) = nb) (hP0 : 0 < P) (hQ0 : 0 < Q) (hy0 : y = 0) :
    Calls Tryz.prog 44 #[fv na A n ca false B m cb, fv nb C r cc false D s cd] w (fun e w' => e = Pan 18 ∧ Below w.heap.size w w') := by
  have SX := Lib.hid hx
  have SP := Lib.hid hP
  have SY := Lib.hid hy
  have SQ := Lib.hid hQ
  have HNa := Lib.hid ha
  have HNb := Lib.hid hb
  have DP : Hid (decide (P < 0) = false) := decide_eq_false (by omega)
  have DQ : Hid (decide (Q < 0) = false) := decide_eq_false (by omega)
  have XU := Lib.hid (hx.mul hQ)
  have PV := Lib.hid (hP.mul hy)
  have HSG : Hid (P * y = 0) := by show _ = _; rw [hy0]; simp
  have HA := Lib.hid hA
  have HB := Lib.hid hB
  have HC := Lib.hid hC
  have HD := Lib.hid hD
  clear hx hP hy hQ ha hb hP0 hQ0 hA hB hC hD hy0
  go_enter Tryz.func44, Tryz.ntmps44
  have Q3 := Lib.hid (((Qd.new w _ rfl (.bool na) (.slice A n ca) (.bool false) (.slice B m cb) 69).alloc (.cells #[.bool nb, .slice C r cc, .bool false, .slice D s cd] 69)).alloc (.cells #[.bool false, .slice none 0 0, .bool false, .slice none 0 0] 29))
  have Q4 := Lib.hid ((Qd.new (w.alloc (.cells #[.bool na, .slice A n ca, .bool false, .slice B m cb] 69)) (w.heap.size + 1) (by simp) (.bool nb) (.slice C r cc) (.bool false) (.slice D s cd) 69).alloc (.cells #[.bool false, .slice none 0 0, .bool false, .slice none 0 0] 29))
  have LA := Lib.hid (((HA.out.box (.cells #[.bool na, .slice A n ca, .bool false, .slice B m cb] 69)).box (.cells #[.bool nb, .slice C r cc, .bool false, .slice D s cd] 69)).box (.cells #[.bool false, .slice none 0 0, .bool false, .slice none 0 0] 29))
  have LB := Lib.hid (((HB.out.box (.cells #[.bool na, .slice A n ca, .bool false, .slice B m cb] 69)).box (.cells #[.bool nb, .slice C r cc, .bool false, .slice D s cd] 69)).box (.cells #[.bool false, .slice none 0 0, .bool false, .slice none 0 0] 29))
  have LC := Lib.hid (((HC.out.box (.cells #[.bool na, .slice A n ca, .bool false, .slice B m cb] 69)).box (.cells #[.bool nb, .slice C r cc, .bool false, .slice D s cd] 69)).box (.cells #[.bool false, .slice none 0 0, .bool false, .slice none 0 0] 29))
  have LD := Lib.hid (((HD.out.box (.cells #[.bool na, .slice A n ca, .bool false, .slice B m cb] 69)).box (.cells #[.bool nb, .slice C r cc, .bool false, .slice D s cd] 69)).box (.cells #[.bool false, .slice none 0 0, .bool false, .slice none 0 0] 29))
  have BW : Hid (Below w.heap.size w (((w.alloc (.cells #[.bool na, .slice A n ca, .bool false, .slice B m cb] 69)).alloc (.cells #[.bool nb, .slice C r cc, .bool false, .slice D s cd] 69)).alloc (.cells #[.bool false, .slice none 0 0, .bool false, .slice none 0 0] 29))) := below_alloc (below_alloc (below_alloc (Below.refl _ _) _) _) _
  clear HA HB HC HD
  go_wp2_with fail
  generalize ((w.alloc (.cells #[.bool na, .slice A n ca, .bool false, .slice B m cb] 69)).alloc (.cells #[.bool nb, .slice C r cc, .bool false, .slice D s cd] 69)).alloc (.cells #[.bool false, .slice none 0 0, .bool false, .slice none 0 0] 29) = W0 at *
  refine wp_region_held_drew (S := fun w' => w'.cell? ⟨w.heap.size, 0, none⟩ = some (.bool na) ∧ w'.cell? ⟨w.heap.size, 1, none⟩ = some (.slice A n ca) ∧ w'.cell? ⟨w.heap.size, 2, none⟩ = some (.bool false) ∧ w'.cell? ⟨w.heap.size, 3, none⟩ = some (.slice B m cb) ∧ w'.cell? ⟨w.heap.size + 1, 0, none⟩ = some (.bool nb) ∧ w'.cell? ⟨w.heap.size + 1, 1, none⟩ = some (.slice C r cc) ∧ w'.cell? ⟨w.heap.size + 1, 2, none⟩ = some (.bool false) ∧ w'.cell? ⟨w.heap.size + 1, 3, none⟩ = some (.slice D s cd)) (by kernel_rfl) ?_ (fun hHeld => ?_)
  · exact ⟨(Q3.out).c0, (Q3.out).c1, (Q3.out).c2, (Q3.out).c3, (Q4.out).c0, (Q4.out).c1, (Q4.out).c2, (Q4.out).c3⟩
  refine wpAnyH_take (i := 0) (v := ?_) rfl (by kernel_rfl) (by kernel_rfl) (by kernel_rfl) (fun _ _ _ h => h) (Or.inl ⟨by rfl, ?_⟩) (by assumption) ?_
  rotate_left
  · (intro w hSw; (try dsimp only at hSw); go_simp; try with_reducible rfl)
  try simp only [Act.put, List.setIfInBounds_toArray]
  refine wpAnyH_take (i := 1) (v := ?_) rfl (by kernel_rfl) (by kernel_rfl) (by kernel_rfl) (fun _ _ _ h => h) (Or.inl ⟨by rfl, ?_⟩) (by assumption) ?_
  rotate_left
  · (intro w hSw; (try dsimp only at hSw); go_simp; try with_reducible rfl)
  try simp only [Act.put]
  refine wpAnyH_take (i := 2) (v := ?_) rfl (by kernel_rfl) (by kernel_rfl) (by kernel_rfl) (fun _ _ _ h => h) (Or.inl ⟨by rfl, ?_⟩) (by assumption) ?_
  rotate_left
  · (intro w hSw; (try dsimp only at hSw); go_simp; try with_reducible rfl)
  try simp only [Act.put]
  refine wpAnyH_take (i := 3) (v := ?_) rfl (by kernel_rfl) (by kernel_rfl) (by kernel_rfl) (fun _ _ _ h => h) (Or.inl ⟨by rfl, ?_⟩) (by assumption) ?_
  rotate_left
  · (intro w hSw; (try dsimp only at hSw); go_simp; try with_reducible rfl)
  try simp only [Act.put]
  refine wpAnyH_take (i := 5) (v := ?_) rfl (by kernel_rfl) (by kernel_rfl) (by kernel_rfl) (fun _ _ _ h => h) (Or.inl ⟨by rfl, ?_⟩) (by assumption) ?_
  rotate_left
  · (intro w hSw; (try dsimp only at hSw); go_simp; try with_reducible rfl)
  try simp only [Act.put]
  refine wpAnyH_take (i := 6) (v := ?_) rfl (by kernel_rfl) (by kernel_rfl) (by kernel_rfl) (fun _ _ _ h => h) (Or.inl ⟨by rfl, ?_⟩) (by assumption) ?_
  rotate_left
  · (intro w hSw; (try dsimp only at hSw); go_simp; try with_reducible rfl)
  try simp only [Act.put]
  refine wpAnyH_take (i := 7) (v := ?_) rfl (by kernel_rfl) (by kernel_rfl) (by kernel_rfl) (fun _ _ _ h => h) (Or.inl ⟨by rfl, ?_⟩) (by assumption) ?_
  rotate_left
  · (intro w hSw; (try dsimp only at hSw); go_simp; try with_reducible rfl)
  try simp only [Act.put]
  refine wpAnyH_take (i := 8) (v := ?_) rfl (by kernel_rfl) (by kernel_rfl) (by kernel_rfl) (fun _ _ _ h => h) (Or.inl ⟨by rfl, ?_⟩) (by assumption) ?_
  rotate_left
  · (intro w hSw; (try dsimp only at hSw); go_simp; try with_reducible rfl)
  try simp only [Act.put]
  refine wpAnyH_ready (rs := [4]) (by kernel_rfl) (by simp) ?_
  refine AllReadyH.cons rfl (fun K hK => ?_) (AllReadyH.nil)
  go_simp
  refine (prod_n _ A D n s ca cd k x Q LA.out.drew LD.out.drew SX.out SQ.out (by omega) HNa.out DQ.out).mono ?_
  rintro e wa ⟨A1, n1, c1, rfl, hL1, hb1⟩
  have B1 : Below W0.heap.size W0 wa := (Below.refl _ _).drew.trans hb1
  obtain ⟨n3, hn3⟩ : ∃ b, decide (x * Q < 0) = b := ⟨_, rfl⟩
  rw [hn3]
  have HN3 := Lib.hid hn3
  have L1 := Lib.hid hL1
  clear hn3 hL1
  go_wp2_with fail
  refine hK.out _ _ ?_ (fun hHeld => ?_)
  · exact ⟨(Q3.out.via B1).c0, (Q3.out.via B1).c1, (Q3.out.via B1).c2, (Q3.out.via B1).c3, (Q4.out.via B1).c0, (Q4.out.via B1).c1, (Q4.out.via B1).c2, (Q4.out.via B1).c3⟩
  clear hK K
  try simp only [Act.put, List.setIfInBounds_toArray, List.set_cons_zero, List.set_cons_succ]
  refine wpAnyH_ready (rs := [9]) (by kernel_rfl) (by simp) ?_
  refine AllReadyH.cons rfl (fun K hK => ?_) (AllReadyH.nil)
  go_simp
  refine (prod_n _ B C m r cb cc k P y (LB.out.via B1) (LC.out.via B1) SP.out SY.out (by omega) DP.out HNb.out).mono ?_
  rintro e wb ⟨A2, n2, c2, rfl, hL2, hb2⟩
  have B2 : Below W0.heap.size W0 wb := btr B1 hb2
  obtain ⟨n4, hn4⟩ : ∃ b, decide (P * y < 0) = b := ⟨_, rfl⟩
  rw [hn4]
  have HN4 := Lib.hid hn4
  have L1 := Lib.hid (L1.out.via hb2)
  have L2 := Lib.hid hL2
  clear hn4 hL2
  go_wp2_with fail
  refine hK.out _ _ ?_ (fun hHeld => ?_)
  · exact ⟨(Q3.out.via B2).c0, (Q3.out.via B2).c1, (Q3.out.via B2).c2, (Q3.out.via B2).c3, (Q4.out.via B2).c0, (Q4.out.via B2).c1, (Q4.out.via B2).c2, (Q4.out.via B2).c3⟩
  clear hK K
  try simp only [Act.put, List.setIfInBounds_toArray, List.set_cons_zero, List.set_cons_succ]
  refine wpAnyH_take (i := 10) (v := ?_) rfl (by kernel_rfl) (by kernel_rfl) (by kernel_rfl) (fun _ _ _ h => h) (Or.inl ⟨by rfl, ?_⟩) (by assumption) ?_
  rotate_left
  · (intro w hSw; (try dsimp only at hSw); go_simp; try with_reducible rfl)
  try simp only [Act.put, List.setIfInBounds_toArray]
  refine wpAnyH_ready (rs := [11]) (by kernel_rfl) (by simp) ?_
  refine AllReadyH.cons rfl (fun K hK => ?_) (AllReadyH.nil)
  go_simp
  refine (reduced_zero _ A1 A2 n1 n2 c1 c2 (k + k) (x * Q) (P * y) L1.out L2.out XU.out PV.out (by omega) HN3.out HN4.out HSG.out).mono ?_
  rintro e wp ⟨rfl, hbp⟩
  unfold Pan
  exact ⟨rfl, rfl, btr BW.out (btr B2 hbp)⟩

set_option maxRecDepth 100000 in
set_option maxHeartbeats 4000000 in
theorem compare_n (w : World) (A B C D : Option Addr) (n m r s ca cb cc cd k : Nat) (x y P Q : Int) (hA : Lm w w.heap.size A n ca (digs x.natAbs)) (hB : Lm w w.heap.size B m cb (digs P.natAbs)) (hC : Lm w w.heap.size C r cc (digs y.natAbs)) (hD : Lm w w.heap.size D s cd (digs Q.natAbs))
    (hx : Sz k x) (hP : Sz k P) (hy : Sz k y) (hQ : Sz k Q) (hk : k ≤ 300) {na nb : Bool} (ha : decide (x < 0) = na) (hb : decide (y < 0) = nb) (hP0 : 0 < P) (hQ0 : 0 < Q) :
    Calls Tryz.prog 62 #[fv na A n ca false B m cb, fv nb C r cc false D s cd] w (fun e w' => e = .returned (.int .i64 (cmpZ (x * Q) (y * P))) ∧ Below w.heap.size w w') := by
  have SX := Lib.hid hx
  have SP := Lib.hid hP
  have SY := Lib.hid hy
  have SQ := Lib.hid hQ
  have HNa := Lib.hid ha
  have HNb := Lib.hid hb
  have DP : Hid (decide (P < 0) = false) := decide_eq_false (by omega)
  have DQ : Hid (decide (Q < 0) = false) := decide_eq_false (by omega)
  have XU := Lib.hid (hx.mul hQ)
  have PV := Lib.hid (hy.mul hP)
  have HA := Lib.hid hA
  have HB := Lib.hid hB
  have HC := Lib.hid hC
  have HD := Lib.hid hD
  clear hx hP hy hQ ha hb hP0 hQ0 hA hB hC hD
  go_enter Tryz.func62, Tryz.ntmps62
  have Q3 := Lib.hid (((Qd.new w _ rfl (.bool na) (.slice A n ca) (.bool false) (.slice B m cb) 69).alloc (.cells #[.bool nb, .slice C r cc, .bool false, .slice D s cd] 69)))
  have Q4 := Lib.hid ((Qd.new (w.alloc (.cells #[.bool na, .slice A n ca, .bool false, .slice B m cb] 69)) (w.heap.size + 1) (by simp) (.bool nb) (.slice C r cc) (.bool false) (.slice D s cd) 69))
  have LA := Lib.hid (((HA.out.box (.cells #[.bool na, .slice A n ca, .bool false, .slice B m cb] 69)).box (.cells #[.bool nb, .slice C r cc, .bool false, .slice D s cd] 69)))
  have LB := Lib.hid (((HB.out.box (.cells #[.bool na, .slice A n ca, .bool false, .slice B m cb] 69)).box (.cells #[.bool nb, .slice C r cc, .bool false, .slice D s cd] 69)))
  have LC := Lib.hid (((HC.out.box (.cells #[.bool na, .slice A n ca, .bool false, .slice B m cb] 69)).box (.cells #[.bool nb, .slice C r cc, .bool false, .slice D s cd] 69)))
  have LD := Lib.hid (((HD.out.box (.cells #[.bool na, .slice A n ca, .bool false, .slice B m cb] 69)).box (.cells #[.bool nb, .slice C r cc, .bool false, .slice D s cd] 69)))
  have BW : Hid (Below w.heap.size w ((w.alloc (.cells #[.bool na, .slice A n ca, .bool false, .slice B m cb] 69)).alloc (.cells #[.bool nb, .slice C r cc, .bool false, .slice D s cd] 69))) := below_alloc (below_alloc (Below.refl _ _) _) _
  clear HA HB HC HD
  go_wp2_with fail
  generalize (w.alloc (.cells #[.bool na, .slice A n ca, .bool false, .slice B m cb] 69)).alloc (.cells #[.bool nb, .slice C r cc, .bool false, .slice D s cd] 69) = W0 at *
  have hw2 : w.heap.size + 1 < W0.heap.size := Q4.out.lt
  have HKS : Hid (∀ X : World, Below W0.heap.size W0 X → X.cell? ⟨w.heap.size, 0, none⟩ = some (.bool na) ∧ X.cell? ⟨w.heap.size, 1, none⟩ = some (.slice A n ca) ∧ X.cell? ⟨w.heap.size, 2, none⟩ = some (.bool false) ∧ X.cell? ⟨w.heap.size, 3, none⟩ = some (.slice B m cb) ∧ X.cell? ⟨w.heap.size + 1, 0, none⟩ = some (.bool nb) ∧ X.cell? ⟨w.heap.size + 1, 1, none⟩ = some (.slice C r cc) ∧ X.cell? ⟨w.heap.size + 1, 2, none⟩ = some (.bool false) ∧ X.cell? ⟨w.heap.size + 1, 3, none⟩ = some (.slice D s cd)) := fun X h => ⟨(Q3.out.below h (by omega)).c0, (Q3.out.below h (by omega)).c1, (Q3.out.below h (by omega)).c2, (Q3.out.below h (by omega)).c3, (Q4.out.below h (by omega)).c0, (Q4.out.below h (by omega)).c1, (Q4.out.below h (by omega)).c2, (Q4.out.below h (by omega)).c3⟩
  go_region_held3 (fun w' => w'.cell? ⟨w.heap.size, 0, none⟩ = some (.bool na) ∧ w'.cell? ⟨w.heap.size, 1, none⟩ = some (.slice A n ca) ∧ w'.cell? ⟨w.heap.size, 2, none⟩ = some (.bool false) ∧ w'.cell? ⟨w.heap.size, 3, none⟩ = some (.slice B m cb) ∧ w'.cell? ⟨w.heap.size + 1, 0, none⟩ = some (.bool nb) ∧ w'.cell? ⟨w.heap.size + 1, 1, none⟩ = some (.slice C r cc) ∧ w'.cell? ⟨w.heap.size + 1, 2, none⟩ = some (.bool false) ∧ w'.cell? ⟨w.heap.size + 1, 3, none⟩ = some (.slice D s cd))
    (first | (refine HKS.out _ ?_; (repeat' (first | exact B3 | exact B2 | exact B1 | exact (Below.refl _ _).drew | exact Below.refl _ _ | refine Below.setCell ?_ ?_ _)); all_goals (first | omega | (simp; done) | (simp; omega))))
    (first
     | (go_at_call_of 80 (Value.agg #[Value.bool na, Value.slice A n ca]); refine (prod_n _ A D n s ca cd k x Q (by first | exact LA.out.drew | exact LA.out) (by first | exact LD.out.drew | exact LD.out) SX.out SQ.out (by omega) HNa.out DQ.out).mono ?_; rintro e wa ⟨A1, n1, c1, rfl, hL1, hb1⟩; have B1 : Below W0.heap.size W0 wa := (by first | exact (Below.refl _ _).drew.trans hb1 | exact hb1))
     | (go_at_call_of 80 (Value.agg #[Value.bool nb, Value.slice C r cc]); refine (prod_n _ C B r m cc cb k y P (LC.out.via B1) (LB.out.via B1) SY.out SP.out (by omega) HNb.out DP.out).mono ?_; rintro e wb ⟨A2, n2, c2, rfl, hL2, hb2⟩; have B2 : Below W0.heap.size W0 wb := btr B1 hb2)
     | (go_at_call 103; refine (cmp_n2 _ A1 A2 n1 n2 c1 c2 (k + k) (x * Q) (y * P) (hL1.via hb2) hL2 XU.out PV.out (by omega) rfl rfl).mono ?_; rintro e wd ⟨rfl, hb3⟩; have B3 : Below W0.heap.size W0 wd := btr B2 hb3)
     | (go_at_call 86; refine (musti_ok _ _).mono ?_; rintro e we ⟨rfl, rfl⟩)
     | fail)
  all_goals
    go_wp2
    go_ret
    exact ⟨rfl, btr BW.out B3⟩
end Go.Proofs.YtoigmcggkanncaaGreatDoor

/- Package frac: negative. -/
namespace Go.Proofs.YtoigmcggkanncaaGreatDoor
open Go.RowKit

theorem abs_n2 (w : World) (A : Option Addr) (n ca k : Nat) (x : Int) (hA : Lm w w.heap.size A n ca (digs x.natAbs)) (hx : Sz k x) (hk : k ≤ 2000) (h0 : 0 < x) :
    Calls Tryz.prog 100 #[.agg #[.bool false, .slice A n ca]] w (RN w x) := by
  have hc := chk_z hx (show k ≤ 4096 by omega)
  have hf : decide (x < 0) = false := decide_eq_false (by omega)
  rw [hf] at hc
  have h := abs_ok w false A n ca _ hA hc
  refine h.mono fun e w' hr => ?_
  have hl : (digs x.natAbs).length ≤ 4096 := Nat.le_trans hx.len (by omega)
  have hr2 := rw_rn hl hr
  have e1 : toI false x.natAbs = x := by unfold toI; simp; omega
  rw [e1] at hr2
  exact hr2

set_option maxRecDepth 100000 in
set_option maxHeartbeats 4000000 in
theorem negative_n (w : World) (A B : Option Addr) (n m ca cb k : Nat) (x P : Int) (hA : Lm w w.heap.size A n ca (digs x.natAbs)) (hB : Lm w w.heap.size B m cb (digs P.natAbs)) (hx : Sz k x) (hP : Sz k P) (hk : k ≤ 2000) {na : Bool} (ha : decide (x < 0) = na) (hP0 : 0 < P) :
    Calls Tryz.prog 60 #[fv na A n ca false B m cb] w (RFr w (-x) P) := by
  have SX := Lib.hid hx
  have SP := Lib.hid hP
  have HNa := Lib.hid ha
  have HP0 := Lib.hid hP0
  have HA := Lib.hid hA
  have HB := Lib.hid hB
  clear hx hP ha hP0 hA hB
  go_enter Tryz.func60, Tryz.ntmps60
  have Q3 := Lib.hid ((Qd.new w _ rfl (.bool na) (.slice A n ca) (.bool false) (.slice B m cb) 69).alloc (.cells #[.bool false, .slice none 0 0, .bool false, .slice none 0 0] 29))
  have QR := Lib.hid (Qd.new (w.alloc (.cells #[.bool na, .slice A n ca, .bool false, .slice B m cb] 69)) (w.heap.size + 1) (by simp) (.bool false) (.slice none 0 0) (.bool false) (.slice none 0 0) 29)
  have LA := Lib.hid ((HA.out.box (.cells #[.bool na, .slice A n ca, .bool false, .slice B m cb] 69)).box (.cells #[.bool false, .slice none 0 0, .bool false, .slice none 0 0] 29))
  have LB := Lib.hid ((HB.out.box (.cells #[.bool na, .slice A n ca, .bool false, .slice B m cb] 69)).box (.cells #[.bool false, .slice none 0 0, .bool false, .slice none 0 0] 29))
  have BW : Hid (Below w.heap.size w ((w.alloc (.cells #[.bool na, .slice A n ca, .bool false, .slice B m cb] 69)).alloc (.cells #[.bool false, .slice none 0 0, .bool false, .slice none 0 0] 29))) := below_alloc (below_alloc (Below.refl _ _) _) _
  clear HA HB
  go_wp2_with fail
  generalize (w.alloc (.cells #[.bool na, .slice A n ca, .bool false, .slice B m cb] 69)).alloc (.cells #[.bool false, .slice none 0 0, .bool false, .slice none 0 0] 29) = W0 at *
  have hrl := QR.out.lt
  have HW2 : Hid (w.heap.size + 1 ≤ W0.heap.size) := by show _ ≤ _; omega
  have HKS : Hid (∀ X : World, Below (w.heap.size + 1) W0 X → X.cell? ⟨w.heap.size, 0, none⟩ = some (.bool na) ∧ X.cell? ⟨w.heap.size, 1, none⟩ = some (.slice A n ca) ∧ X.cell? ⟨w.heap.size, 2, none⟩ = some (.bool false) ∧ X.cell? ⟨w.heap.size, 3, none⟩ = some (.slice B m cb)) := fun X h => ⟨(Q3.out.below h (by omega)).c0, (Q3.out.below h (by omega)).c1, (Q3.out.below h (by omega)).c2, (Q3.out.below h (by omega)).c3⟩
  go_region_held3 (fun w' => w'.cell? ⟨w.heap.size, 0, none⟩ = some (.bool na) ∧ w'.cell? ⟨w.heap.size, 1, none⟩ = some (.slice A n ca) ∧ w'.cell? ⟨w.heap.size, 2, none⟩ = some (.bool false) ∧ w'.cell? ⟨w.heap.size, 3, none⟩ = some (.slice B m cb))
    (first | (refine HKS.out _ ?_; (repeat' (first | exact Bd.mono HW2.out | exact B3.mono HW2.out | exact B2.mono HW2.out | exact B1.mono HW2.out | exact (Below.refl _ _).drew | exact Below.refl _ _ | refine Below.setCell ?_ ?_ _)); all_goals (first | omega | (simp; done) | (simp; omega))))
    (first
     | (go_at_call 85; refine (neg_n2 _ A n ca k x (by first | exact LA.out.drew | exact LA.out) SX.out (by omega) HNa.out).mono ?_; rintro e wa ⟨A1, n1, c1, rfl, hL1, hb1⟩; obtain ⟨np, hnp⟩ : ∃ b, decide (-x < 0) = b := ⟨_, rfl⟩; rw [hnp]; have B1 : Below W0.heap.size W0 wa := (by first | exact (Below.refl _ _).drew.trans hb1 | exact hb1))
     | (have hz3 := hb3; go_at_call 84; refine (must_ok _ _ _ _ _).mono ?_; rintro e wd ⟨rfl, hb4⟩; have Bd : Below W0.heap.size W0 wd := btr B3 hb4; have KR := QR.out.via Bd; have ⟨r0, r1, r2, r3, rf0, rf1, rf2, rf3, rl⟩ := KR)
     | (go_at_call 84; refine (must_ok _ _ _ _ _).mono ?_; rintro e wb ⟨rfl, hb2⟩; have B2 : Below W0.heap.size W0 wb := btr B1 hb2)
     | (go_at_call 100; refine (abs_n2 _ B m cb k P (LB.out.via B2) SP.out (by omega) HP0.out).mono ?_; rintro e wc ⟨A2, n2, c2, rfl, hL2, hb3⟩; have B3 : Below W0.heap.size W0 wc := btr B2 hb3)
     | fail)
  all_goals
    obtain ⟨nq, hnq⟩ : ∃ b, decide (P < 0) = b := ⟨_, rfl⟩
    rw [hnq]
    have HNp := Lib.hid hnp
    have HNq := Lib.hid hnq
    have HL5 := Lib.hid (((hL1.via hb2).via hb3).via hb4)
    have HM5 := Lib.hid (hL2.via hb4)
    have BE := Lib.hid (btr BW.out Bd)
    clear hnp hnq hL1 hL2
    go_wp2
    exact post_f1 Tryz.results60 rfl rfl (KR.set (.bool np) (.slice A1 n1 c1) (.bool nq) (.slice A2 n2 c2)) ⟨A1, n1, c1, A2, n2, c2, by rw [HNp.out, HNq.out], HL5.out.put4 KR _ _ _ _, HM5.out.put4 KR _ _ _ _, below_put4 BE.out (by omega) _ _ _ _⟩
end Go.Proofs.YtoigmcggkanncaaGreatDoor

/- Package frac: change, Neg. -/
namespace Go.Proofs.YtoigmcggkanncaaGreatDoor
open Go.RowKit

set_option maxRecDepth 100000 in
set_option maxHeartbeats 2000000 in
theorem changef_ok (w : World) (g0 ga : Nat) (f : FuncId) (na da : Bool) (A B : Option Addr) (n m ca cb : Nat) (xs ys : List Nat) (hf : Fb w g0 f) (qa : Qd w ga (.bool na) (.slice A n ca) (.bool da) (.slice B m cb)) (hA : Lm w w.heap.size A n ca xs) (hB : Lm w w.heap.size B m cb ys) (hv : fchk na xs da ys = 0) (p q : Int)
    (hcf : ∀ (u : Value) (W : World), (callFunc f #[u]).run Tryz.prog W = .ok (.enter f #[u]) W)
    (H : ∀ W, Lm W W.heap.size A n ca xs → Lm W W.heap.size B m cb ys → Calls Tryz.prog f #[fv na A n ca da B m cb] W (RFr W p q)) :
    Calls Tryz.prog 99 #[.pointer (some ⟨g0, 0, none⟩), .pointer (some ⟨ga, 0, none⟩)] w (RFr w p q) := by
  have HF := Lib.hid hf
  have QA := Lib.hid qa
  have LA := Lib.hid hA
  have LB := Lib.hid hB
  have HV := Lib.hid hv
  have HH := Lib.hid H
  have QR := Lib.hid (Qd.new w _ rfl (.bool false) (.slice none 0 0) (.bool false) (.slice none 0 0) 29)
  have W0B : Hid (Below w.heap.size w (w.alloc (.cells #[.bool false, .slice none 0 0, .bool false, .slice none 0 0] 29))) := below_alloc (Below.refl _ _) _
  have ⟨f0, fl⟩ := hf
  have ⟨a0, a1, a2, a3, _, _, _, _, al⟩ := qa
  clear hA hB hv hf qa H
  go_enter Tryz.func99, Tryz.ntmps99
  go_wp2_with fail
  have HF := Lib.hid (HF.out.via W0B.out)
  have QA := Lib.hid (QA.out.via W0B.out)
  have LA := Lib.hid (LA.out.via W0B.out)
  have LB := Lib.hid (LB.out.via W0B.out)
  have hg0 : g0 < w.heap.size := fl
  have hga : ga < w.heap.size := al
  clear f0 fl a0 a1 a2 a3 al
  generalize w.alloc (.cells #[.bool false, .slice none 0 0, .bool false, .slice none 0 0] 29) = W0 at *
  have HKS : Hid (∀ X : World, Below w.heap.size W0 X → X.cell? ⟨g0, 0, none⟩ = some (.func (.func f) #[] #[]) ∧ X.cell? ⟨ga, 0, none⟩ = some (.bool na) ∧ X.cell? ⟨ga, 1, none⟩ = some (.slice A n ca) ∧ X.cell? ⟨ga, 2, none⟩ = some (.bool da) ∧ X.cell? ⟨ga, 3, none⟩ = some (.slice B m cb)) := fun X h => ⟨(h.cell (p := ⟨g0, 0, none⟩) hg0).trans HF.out.c0, (QA.out.below h hga).c0, (QA.out.below h hga).c1, (QA.out.below h hga).c2, (QA.out.below h hga).c3⟩
  have hw0 : w.heap.size ≤ W0.heap.size := W0B.out.size
  go_region_held3 (fun w' => w'.cell? ⟨g0, 0, none⟩ = some (.func (.func f) #[] #[]) ∧ w'.cell? ⟨ga, 0, none⟩ = some (.bool na) ∧ w'.cell? ⟨ga, 1, none⟩ = some (.slice A n ca) ∧ w'.cell? ⟨ga, 2, none⟩ = some (.bool da) ∧ w'.cell? ⟨ga, 3, none⟩ = some (.slice B m cb))
    (first | (refine HKS.out _ ?_; (repeat' (first | exact Be.mono hw0 | exact Bc.mono hw0 | exact (Below.refl _ _).drew | exact Below.refl _ _ | refine Below.setCell ?_ ?_ _)); all_goals (first | omega | (simp; done) | (simp; omega))))
    (first
     | (go_at_call 79; refine (known_ok _ na da A B n m ca cb xs ys (by first | exact LA.out.drew | exact LA.out) (by first | exact LB.out.drew | exact LB.out) HV.out).mono ?_; rintro e wc ⟨rfl, hbc⟩; have Bc : Below W0.heap.size W0 wc := (by first | exact (Below.refl _ _).drew.trans hbc | exact hbc))
     | (refine (HH.out _ (LA.out.via Bc) (LB.out.via Bc)).mono ?_; rintro e we ⟨A5, n5, c5, B5, m5, d5, rfl, hL5, hM5, hbe⟩; have Be : Below W0.heap.size W0 we := btr Bc hbe; have KR := QR.out.via Be; have ⟨r0, r1, r2, r3, rf0, rf1, rf2, rf3, rl⟩ := KR)
     | fail)
  all_goals
    obtain ⟨np, hnp⟩ : ∃ b, decide (p < 0) = b := ⟨_, rfl⟩
    obtain ⟨nq, hnq⟩ : ∃ b, decide (q < 0) = b := ⟨_, rfl⟩
    rw [hnp, hnq]
    have HNp := Lib.hid hnp
    have HNq := Lib.hid hnq
    have HL5 := Lib.hid hL5
    have HM5 := Lib.hid hM5
    have BE := Lib.hid (btr W0B.out Be)
    clear hnp hnq hL5 hM5
    go_wp2
    exact post_f1 Tryz.results99 rfl rfl (KR.set (.bool np) (.slice A5 n5 c5) (.bool nq) (.slice B5 m5 d5)) ⟨A5, n5, c5, B5, m5, d5, by rw [HNp.out, HNq.out], HL5.out.put4 KR _ _ _ _, HM5.out.put4 KR _ _ _ _, below_put4 BE.out (Nat.le_refl _) _ _ _ _⟩

set_option maxRecDepth 100000 in
set_option maxHeartbeats 2000000 in
theorem change_g (w : World) (f : FuncId) (na da : Bool) (A B : Option Addr) (n m ca cb : Nat) (xs ys : List Nat) (hA : Lm w w.heap.size A n ca xs) (hB : Lm w w.heap.size B m cb ys) (np nq : Bool) (l1 l2 : List Nat) (err : Int)
    (H : ∀ W g0 ga, Fb W g0 f → Qd W ga (.bool na) (.slice A n ca) (.bool da) (.slice B m cb) → Lm W W.heap.size A n ca xs → Lm W W.heap.size B m cb ys → Calls Tryz.prog 45 #[.func (.func 99) #[] #[.pointer (some ⟨g0, 0, none⟩), .pointer (some ⟨ga, 0, none⟩)]] W (RG W np l1 nq l2 err)) :
    Calls Tryz.prog 59 #[fv na A n ca da B m cb, .func (.func f) #[] #[]] w (RG w np l1 nq l2 err) := by
  have hmf : ∀ (fn : Fn) (first cap : Array Value) (w : World), (Instr.makeFunc fn first cap).run Tryz.prog w = .ok (.func fn first cap) w := fun _ _ _ _ => rfl
  have HH := Lib.hid H
  have HA := Lib.hid hA
  have HB := Lib.hid hB
  clear H hA hB
  go_enter Tryz.func59, Tryz.ntmps59
  have QA := Lib.hid (((Qd.new w _ rfl (.bool na) (.slice A n ca) (.bool da) (.slice B m cb) 29).alloc (.cells #[.func (.func f) #[] #[]] 68)).alloc (.cells #[.bool false, .slice none 0 0, .bool false, .slice none 0 0] 29))
  have QF : Hid (Fb (((w.alloc (.cells #[.bool na, .slice A n ca, .bool da, .slice B m cb] 29)).alloc (.cells #[.func (.func f) #[] #[]] 68)).alloc (.cells #[.bool false, .slice none 0 0, .bool false, .slice none 0 0] 29)) (w.heap.size + 1) f) := ⟨by go_simp, by simp⟩
  have QR := Lib.hid (Qd.new ((w.alloc (.cells #[.bool na, .slice A n ca, .bool da, .slice B m cb] 29)).alloc (.cells #[.func (.func f) #[] #[]] 68)) (w.heap.size + 1 + 1) (by simp) (.bool false) (.slice none 0 0) (.bool false) (.slice none 0 0) 29)
  have BW : Hid (Below w.heap.size w (((w.alloc (.cells #[.bool na, .slice A n ca, .bool da, .slice B m cb] 29)).alloc (.cells #[.func (.func f) #[] #[]] 68)).alloc (.cells #[.bool false, .slice none 0 0, .bool false, .slice none 0 0] 29))) := below_alloc (below_alloc (below_alloc (Below.refl _ _) _) _) _
  have LA : Hid (Lm (((w.alloc (.cells #[.bool na, .slice A n ca, .bool da, .slice B m cb] 29)).alloc (.cells #[.func (.func f) #[] #[]] 68)).alloc (.cells #[.bool false, .slice none 0 0, .bool false, .slice none 0 0] 29)) (((w.alloc (.cells #[.bool na, .slice A n ca, .bool da, .slice B m cb] 29)).alloc (.cells #[.func (.func f) #[] #[]] 68)).alloc (.cells #[.bool false, .slice none 0 0, .bool false, .slice none 0 0] 29)).heap.size A n ca xs) := (((HA.out.box _).box _).box _)
  have LB : Hid (Lm (((w.alloc (.cells #[.bool na, .slice A n ca, .bool da, .slice B m cb] 29)).alloc (.cells #[.func (.func f) #[] #[]] 68)).alloc (.cells #[.bool false, .slice none 0 0, .bool false, .slice none 0 0] 29)) (((w.alloc (.cells #[.bool na, .slice A n ca, .bool da, .slice B m cb] 29)).alloc (.cells #[.func (.func f) #[] #[]] 68)).alloc (.cells #[.bool false, .slice none 0 0, .bool false, .slice none 0 0] 29)).heap.size B m cb ys) := (((HB.out.box _).box _).box _)
  clear HA HB
  go_wp2_with fail
  refine (HH.out _ (w.heap.size + 1) w.heap.size QF.out QA.out LA.out LB.out).mono ?_
  rintro e w1 ⟨A1, n1, c1, B1, m1, d1, rfl, hL, hM, hb⟩
  have Q := Lib.hid (QR.out.via hb)
  have L1 := Lib.hid hL
  have M1 := Lib.hid hM
  have BB := Lib.hid (btr BW.out hb)
  have ⟨q0, q1, q2, q3, f0, f1, f2, f3, ql⟩ := Q.out
  clear hL hM hb
  go_wp2
  exact post_f Tryz.results59 rfl rfl (Q.out.set (.bool np) (.slice A1 n1 c1) (.bool nq) (.slice B1 m1 d1)) ⟨A1, n1, c1, B1, m1, d1, rfl, L1.out.put4 Q.out _ _ _ _, M1.out.put4 Q.out _ _ _ _, below_put4 BB.out (by omega) _ _ _ _⟩

set_option maxRecDepth 100000 in
set_option maxHeartbeats 2000000 in
theorem fneg_g (w : World) (na da : Bool) (A B : Option Addr) (n m ca cb : Nat) (xs ys : List Nat) (hA : Lm w w.heap.size A n ca xs) (hB : Lm w w.heap.size B m cb ys) (np nq : Bool) (l1 l2 : List Nat) (err : Int)
    (H : ∀ W, Lm W W.heap.size A n ca xs → Lm W W.heap.size B m cb ys → Calls Tryz.prog 59 #[fv na A n ca da B m cb, .func (.func 60) #[] #[]] W (RG W np l1 nq l2 err)) :
    Calls Tryz.prog 22 #[fv na A n ca da B m cb] w (RG w np l1 nq l2 err) := by
  have HH := Lib.hid H
  have HA := Lib.hid hA
  have HB := Lib.hid hB
  clear H hA hB
  go_enter Tryz.func22, Tryz.ntmps22
  have QR := Lib.hid (Qd.new (w.alloc (.cells #[.bool na, .slice A n ca, .bool da, .slice B m cb] 29)) (w.heap.size + 1) (by simp) (.bool false) (.slice none 0 0) (.bool false) (.slice none 0 0) 29)
  have BW : Hid (Below w.heap.size w ((w.alloc (.cells #[.bool na, .slice A n ca, .bool da, .slice B m cb] 29)).alloc (.cells #[.bool false, .slice none 0 0, .bool false, .slice none 0 0] 29))) := below_alloc (below_alloc (Below.refl _ _) _) _
  have LA : Hid (Lm ((w.alloc (.cells #[.bool na, .slice A n ca, .bool da, .slice B m cb] 29)).alloc (.cells #[.bool false, .slice none 0 0, .bool false, .slice none 0 0] 29)) ((w.alloc (.cells #[.bool na, .slice A n ca, .bool da, .slice B m cb] 29)).alloc (.cells #[.bool false, .slice none 0 0, .bool false, .slice none 0 0] 29)).heap.size A n ca xs) := ((HA.out.box _).box _)
  have LB : Hid (Lm ((w.alloc (.cells #[.bool na, .slice A n ca, .bool da, .slice B m cb] 29)).alloc (.cells #[.bool false, .slice none 0 0, .bool false, .slice none 0 0] 29)) ((w.alloc (.cells #[.bool na, .slice A n ca, .bool da, .slice B m cb] 29)).alloc (.cells #[.bool false, .slice none 0 0, .bool false, .slice none 0 0] 29)).heap.size B m cb ys) := ((HB.out.box _).box _)
  clear HA HB
  go_wp2_with fail
  refine (HH.out _ LA.out LB.out).mono ?_
  rintro e w1 ⟨A1, n1, c1, B1, m1, d1, rfl, hL, hM, hb⟩
  have Q := Lib.hid (QR.out.via hb)
  have L1 := Lib.hid hL
  have M1 := Lib.hid hM
  have BB := Lib.hid (btr BW.out hb)
  have ⟨q0, q1, q2, q3, f0, f1, f2, f3, ql⟩ := Q.out
  clear hL hM hb
  go_wp2
  exact post_f Tryz.results22 rfl rfl (Q.out.set (.bool np) (.slice A1 n1 c1) (.bool nq) (.slice B1 m1 d1)) ⟨A1, n1, c1, B1, m1, d1, rfl, L1.out.put4 Q.out _ _ _ _, M1.out.put4 Q.out _ _ _ _, below_put4 BB.out (by omega) _ _ _ _⟩

end Go.Proofs.YtoigmcggkanncaaGreatDoor

/- Package frac: attempt of an int. -/
namespace Go.Proofs.YtoigmcggkanncaaGreatDoor
open Go.RowKit

theorem catchi_idle (p : Addr) (w : World) :
    CallsD Tryz.prog 136 #[.pointer (some p)] .returning w fun e u' w' => e = .returned (.tuple #[]) ∧ u' = .returning ∧ w' = w := by
  refine callsD_of_wpS Tryz.func136 rfl fun c₀ cs hu => ?_
  apply wpS_seq
  apply wpS_region
  simp [wpOpsS, go_sem, recoverD, hu, Tryz.ntmps136, Exit.thenS]
  apply wpS_seq
  apply wpS_region
  simp [wpOpsS, go_sem, Exit.thenS]
  refine wpS_cond (t := false) (by simp [Act.eval, Array.replicate]) ?_
  simp only [Bool.false_eq_true, if_false]
  refine wpS_of_wp (wp_skip ?_)
  cases c₀
  simp_all [bodyPostS, results, Tryz.results136]

/-- A call returns an int and an error. -/
def RIE (w : World) (x err : Int) (e : Ending) (w' : World) : Prop := e = .returned (.tuple #[.int .i64 x, .int .i64 err]) ∧ Below w.heap.size w w'
/-- The world in which attempt[int] calls: with the box of the error. -/
def Wai (w : World) : World := w.alloc (.cells #[.int .i64 0] 26)
theorem wai_below (w : World) : Below w.heap.size w (Wai w) := (Below.refl _ _).alloc (Nat.le_refl _) _
theorem wai_c (w : World) : (Wai w).cell? ⟨w.heap.size, 0, none⟩ = some (.int .i64 0) ∧ (Wai w).frozen? ⟨w.heap.size, 0, none⟩ = false := by unfold Wai; constructor <;> go_simp
theorem wai_size (w : World) : (Wai w).heap.size = w.heap.size + 1 := by unfold Wai; simp
theorem res_ie {fn : Func} {r s : Nat} (hr : fn.results = #[.tmp s, .cell r 26]) {tmps : Array Value} {w : World} {h : Nat} {x y : Value} (ht : tmps.getD s undef = x)
    (hs : tmps.getD r undef = .pointer (some ⟨h, 0, none⟩)) (hy : w.cell? ⟨h, 0, none⟩ = some y) : (results fn tmps).run Tryz.prog w = .ok (.tuple #[x, y]) w := by
  rw [Array.getD_eq_getD_getElem?] at ht hs
  simp [results, hr, go_sem, ht, hs, hy]

set_option maxRecDepth 100000 in
set_option maxHeartbeats 1000000 in
theorem attempti_ok (w : World) (f : FuncId) (first cap : Array Value) (x : Int) (hcf : ∀ W, (callFunc f (first ++ cap)).run Tryz.prog W = .ok (.enter f (first ++ cap)) W)
    (H : Calls Tryz.prog f (first ++ cap) (Wai w) (fun e w' => e = .returned (.int .i64 x) ∧ Below (Wai w).heap.size (Wai w) w')) :
    Calls Tryz.prog 101 #[.func (.func f) first cap] w (RIE w x 0) := by
  have hmf : ∀ (fn : Fn) (first cap : Array Value) (w : World), (Instr.makeFunc fn first cap).run Tryz.prog w = .ok (.func fn first cap) w := fun _ _ _ _ => rfl
  have HH := Lib.hid H
  clear H
  go_enter_defers Tryz.func101, Tryz.ntmps101
  go_wp2_with fail
  refine HH.out.mono ?_
  rintro e w1 ⟨rfl, hb⟩
  have hc : w1.cell? ⟨w.heap.size, 0, none⟩ = some (.int .i64 0) := (hb.cell (p := ⟨w.heap.size, 0, none⟩) (by rw [wai_size]; simp)).trans (wai_c w).1
  have hf : w1.frozen? ⟨w.heap.size, 0, none⟩ = false := (hb.frozen (p := ⟨w.heap.size, 0, none⟩) (by rw [wai_size]; simp)).trans (wai_c w).2
  have HB := Lib.hid ((wai_below w).trans (hb.mono (wai_below w).size))
  clear hb
  go_wp2
  refine leaves_cons (f := 136) (args := #[.pointer (some ⟨w.heap.size, 0, none⟩)]) (by simp) (by simp [go_sem]) ?_
  refine (catchi_idle _ _).mono ?_
  rintro e u' w'' ⟨rfl, rfl, rfl⟩
  exact ⟨_, res_ie Tryz.results101 rfl rfl (World.cell?_setCell_same _ _ _ hc), rfl, HB.out.setCell (p := ⟨w.heap.size, 0, none⟩) (Nat.le_refl _) _⟩

end Go.Proofs.YtoigmcggkanncaaGreatDoor

/- Package frac: join, and the functions of two fractions. -/
namespace Go.Proofs.YtoigmcggkanncaaGreatDoor
open Go.RowKit

set_option maxRecDepth 100000 in
set_option maxHeartbeats 1000000 in
theorem join_g (w : World) (f : FuncId) (na da nb db : Bool) (A B C D : Option Addr) (n m r s ca cb cc cd : Nat) (xs ys us vs : List Nat) (hA : Lm w w.heap.size A n ca xs) (hB : Lm w w.heap.size B m cb ys) (hC : Lm w w.heap.size C r cc us) (hD : Lm w w.heap.size D s cd vs) (np nq : Bool) (l1 l2 : List Nat) (err : Int)
    (H : ∀ W g0 ga gb, Fb W g0 f → Qd W ga (.bool na) (.slice A n ca) (.bool da) (.slice B m cb) → Qd W gb (.bool nb) (.slice C r cc) (.bool db) (.slice D s cd) → Lm W W.heap.size A n ca xs → Lm W W.heap.size B m cb ys → Lm W W.heap.size C r cc us → Lm W W.heap.size D s cd vs → Calls Tryz.prog 45 #[.func (.func 78) #[] #[.pointer (some ⟨g0, 0, none⟩), .pointer (some ⟨ga, 0, none⟩), .pointer (some ⟨gb, 0, none⟩)]] W (RG W np l1 nq l2 err)) :
    Calls Tryz.prog 43 #[fv na A n ca da B m cb, fv nb C r cc db D s cd, .func (.func f) #[] #[]] w (RG w np l1 nq l2 err) := by
  have hmf : ∀ (fn : Fn) (first cap : Array Value) (w : World), (Instr.makeFunc fn first cap).run Tryz.prog w = .ok (.func fn first cap) w := fun _ _ _ _ => rfl
  have HH := Lib.hid H
  have HA := Lib.hid hA
  have HB := Lib.hid hB
  have HC := Lib.hid hC
  have HD := Lib.hid hD
  clear H hA hB hC hD
  go_enter Tryz.func43, Tryz.ntmps43
  have QA := Lib.hid ((((Qd.new w _ rfl (.bool na) (.slice A n ca) (.bool da) (.slice B m cb) 29).alloc (.cells #[.bool nb, .slice C r cc, .bool db, .slice D s cd] 29)).alloc (.cells #[.func (.func f) #[] #[]] 67)).alloc (.cells #[.bool false, .slice none 0 0, .bool false, .slice none 0 0] 29))
  have QB := Lib.hid (((Qd.new (w.alloc (.cells #[.bool na, .slice A n ca, .bool da, .slice B m cb] 29)) (w.heap.size + 1) (by simp) (.bool nb) (.slice C r cc) (.bool db) (.slice D s cd) 29).alloc (.cells #[.func (.func f) #[] #[]] 67)).alloc (.cells #[.bool false, .slice none 0 0, .bool false, .slice none 0 0] 29))
  have QF : Hid (Fb ((((w.alloc (.cells #[.bool na, .slice A n ca, .bool da, .slice B m cb] 29)).alloc (.cells #[.bool nb, .slice C r cc, .bool db, .slice D s cd] 29)).alloc (.cells #[.func (.func f) #[] #[]] 67)).alloc (.cells #[.bool false, .slice none 0 0, .bool false, .slice none 0 0] 29)) (w.heap.size + 1 + 1) f) := ⟨by go_simp, by simp⟩
  have QR := Lib.hid (Qd.new (((w.alloc (.cells #[.bool na, .slice A n ca, .bool da, .slice B m cb] 29)).alloc (.cells #[.bool nb, .slice C r cc, .bool db, .slice D s cd] 29)).alloc (.cells #[.func (.func f) #[] #[]] 67)) (w.heap.size + 1 + 1 + 1) (by simp) (.bool false) (.slice none 0 0) (.bool false) (.slice none 0 0) 29)
  have BW : Hid (Below w.heap.size w ((((w.alloc (.cells #[.bool na, .slice A n ca, .bool da, .slice B m cb] 29)).alloc (.cells #[.bool nb, .slice C r cc, .bool db, .slice D s cd] 29)).alloc (.cells #[.func (.func f) #[] #[]] 67)).alloc (.cells #[.bool false, .slice none 0 0, .bool false, .slice none 0 0] 29))) := below_alloc (below_alloc (below_alloc (below_alloc (Below.refl _ _) _) _) _) _
  have LA : Hid (Lm ((((w.alloc (.cells #[.bool na, .slice A n ca, .bool da, .slice B m cb] 29)).alloc (.cells #[.bool nb, .slice C r cc, .bool db, .slice D s cd] 29)).alloc (.cells #[.func (.func f) #[] #[]] 67)).alloc (.cells #[.bool false, .slice none 0 0, .bool false, .slice none 0 0] 29)) ((((w.alloc (.cells #[.bool na, .slice A n ca, .bool da, .slice B m cb] 29)).alloc (.cells #[.bool nb, .slice C r cc, .bool db, .slice D s cd] 29)).alloc (.cells #[.func (.func f) #[] #[]] 67)).alloc (.cells #[.bool false, .slice none 0 0, .bool false, .slice none 0 0] 29)).heap.size A n ca xs) := (((HA.out.box _).box _).box _).box _
  have LB : Hid (Lm ((((w.alloc (.cells #[.bool na, .slice A n ca, .bool da, .slice B m cb] 29)).alloc (.cells #[.bool nb, .slice C r cc, .bool db, .slice D s cd] 29)).alloc (.cells #[.func (.func f) #[] #[]] 67)).alloc (.cells #[.bool false, .slice none 0 0, .bool false, .slice none 0 0] 29)) ((((w.alloc (.cells #[.bool na, .slice A n ca, .bool da, .slice B m cb] 29)).alloc (.cells #[.bool nb, .slice C r cc, .bool db, .slice D s cd] 29)).alloc (.cells #[.func (.func f) #[] #[]] 67)).alloc (.cells #[.bool false, .slice none 0 0, .bool false, .slice none 0 0] 29)).heap.size B m cb ys) := (((HB.out.box _).box _).box _).box _
  have LC : Hid (Lm ((((w.alloc (.cells #[.bool na, .slice A n ca, .bool da, .slice B m cb] 29)).alloc (.cells #[.bool nb, .slice C r cc, .bool db, .slice D s cd] 29)).alloc (.cells #[.func (.func f) #[] #[]] 67)).alloc (.cells #[.bool false, .slice none 0 0, .bool false, .slice none 0 0] 29)) ((((w.alloc (.cells #[.bool na, .slice A n ca, .bool da, .slice B m cb] 29)).alloc (.cells #[.bool nb, .slice C r cc, .bool db, .slice D s cd] 29)).alloc (.cells #[.func (.func f) #[] #[]] 67)).alloc (.cells #[.bool false, .slice none 0 0, .bool false, .slice none 0 0] 29)).heap.size C r cc us) := (((HC.out.box _).box _).box _).box _
  have LD : Hid (Lm ((((w.alloc (.cells #[.bool na, .slice A n ca, .bool da, .slice B m cb] 29)).alloc (.cells #[.bool nb, .slice C r cc, .bool db, .slice D s cd] 29)).alloc (.cells #[.func (.func f) #[] #[]] 67)).alloc (.cells #[.bool false, .slice none 0 0, .bool false, .slice none 0 0] 29)) ((((w.alloc (.cells #[.bool na, .slice A n ca, .bool da, .slice B m cb] 29)).alloc (.cells #[.bool nb, .slice C r cc, .bool db, .slice D s cd] 29)).alloc (.cells #[.func (.func f) #[] #[]] 67)).alloc (.cells #[.bool false, .slice none 0 0, .bool false, .slice none 0 0] 29)).heap.size D s cd vs) := (((HD.out.box _).box _).box _).box _
  clear HA HB HC HD
  go_wp2_with fail
  refine (HH.out _ (w.heap.size + 1 + 1) w.heap.size (w.heap.size + 1) QF.out QA.out QB.out LA.out LB.out LC.out LD.out).mono ?_
  rintro e w1 ⟨A1, n1, c1, B1, m1, d1, rfl, hL, hM, hb⟩
  have Q := Lib.hid (QR.out.via hb)
  have L1 := Lib.hid hL
  have M1 := Lib.hid hM
  have BB := Lib.hid (btr BW.out hb)
  have ⟨q0, q1, q2, q3, f0, f1, f2, f3, ql⟩ := Q.out
  clear hL hM hb
  go_wp2
  exact post_f Tryz.results43 rfl rfl (Q.out.set (.bool np) (.slice A1 n1 c1) (.bool nq) (.slice B1 m1 d1)) ⟨A1, n1, c1, B1, m1, d1, rfl, L1.out.put4 Q.out _ _ _ _, M1.out.put4 Q.out _ _ _ _, below_put4 BB.out (by omega) _ _ _ _⟩

set_option maxRecDepth 100000 in
set_option maxHeartbeats 1000000 in
theorem joini_g (w : World) (f : FuncId) (na da nb db : Bool) (A B C D : Option Addr) (n m r s ca cb cc cd : Nat) (xs ys us vs : List Nat) (hA : Lm w w.heap.size A n ca xs) (hB : Lm w w.heap.size B m cb ys) (hC : Lm w w.heap.size C r cc us) (hD : Lm w w.heap.size D s cd vs) (v err : Int)
    (H : ∀ W g0 ga gb, Fb W g0 f → Qd W ga (.bool na) (.slice A n ca) (.bool da) (.slice B m cb) → Qd W gb (.bool nb) (.slice C r cc) (.bool db) (.slice D s cd) → Lm W W.heap.size A n ca xs → Lm W W.heap.size B m cb ys → Lm W W.heap.size C r cc us → Lm W W.heap.size D s cd vs → Calls Tryz.prog 101 #[.func (.func 102) #[] #[.pointer (some ⟨g0, 0, none⟩), .pointer (some ⟨ga, 0, none⟩), .pointer (some ⟨gb, 0, none⟩)]] W (RIE W v err)) :
    Calls Tryz.prog 61 #[fv na A n ca da B m cb, fv nb C r cc db D s cd, .func (.func f) #[] #[]] w (RIE w v err) := by
  have hmf : ∀ (fn : Fn) (first cap : Array Value) (w : World), (Instr.makeFunc fn first cap).run Tryz.prog w = .ok (.func fn first cap) w := fun _ _ _ _ => rfl
  have HH := Lib.hid H
  have HA := Lib.hid hA
  have HB := Lib.hid hB
  have HC := Lib.hid hC
  have HD := Lib.hid hD
  clear H hA hB hC hD
  go_enter Tryz.func61, Tryz.ntmps61
  have QA := Lib.hid ((((Qd.new w _ rfl (.bool na) (.slice A n ca) (.bool da) (.slice B m cb) 29).alloc (.cells #[.bool nb, .slice C r cc, .bool db, .slice D s cd] 29)).alloc (.cells #[.func (.func f) #[] #[]] 81)))
  have QB := Lib.hid (((Qd.new (w.alloc (.cells #[.bool na, .slice A n ca, .bool da, .slice B m cb] 29)) (w.heap.size + 1) (by simp) (.bool nb) (.slice C r cc) (.bool db) (.slice D s cd) 29).alloc (.cells #[.func (.func f) #[] #[]] 81)))
  have QF : Hid (Fb (((w.alloc (.cells #[.bool na, .slice A n ca, .bool da, .slice B m cb] 29)).alloc (.cells #[.bool nb, .slice C r cc, .bool db, .slice D s cd] 29)).alloc (.cells #[.func (.func f) #[] #[]] 81)) (w.heap.size + 1 + 1) f) := ⟨by go_simp, by simp⟩
  have BW : Hid (Below w.heap.size w (((w.alloc (.cells #[.bool na, .slice A n ca, .bool da, .slice B m cb] 29)).alloc (.cells #[.bool nb, .slice C r cc, .bool db, .slice D s cd] 29)).alloc (.cells #[.func (.func f) #[] #[]] 81))) := below_alloc (below_alloc (below_alloc (Below.refl _ _) _) _) _
  have LA : Hid (Lm (((w.alloc (.cells #[.bool na, .slice A n ca, .bool da, .slice B m cb] 29)).alloc (.cells #[.bool nb, .slice C r cc, .bool db, .slice D s cd] 29)).alloc (.cells #[.func (.func f) #[] #[]] 81)) (((w.alloc (.cells #[.bool na, .slice A n ca, .bool da, .slice B m cb] 29)).alloc (.cells #[.bool nb, .slice C r cc, .bool db, .slice D s cd] 29)).alloc (.cells #[.func (.func f) #[] #[]] 81)).heap.size A n ca xs) := (((HA.out.box _).box _).box _)
  have LB : Hid (Lm (((w.alloc (.cells #[.bool na, .slice A n ca, .bool da, .slice B m cb] 29)).alloc (.cells #[.bool nb, .slice C r cc, .bool db, .slice D s cd] 29)).alloc (.cells #[.func (.func f) #[] #[]] 81)) (((w.alloc (.cells #[.bool na, .slice A n ca, .bool da, .slice B m cb] 29)).alloc (.cells #[.bool nb, .slice C r cc, .bool db, .slice D s cd] 29)).alloc (.cells #[.func (.func f) #[] #[]] 81)).heap.size B m cb ys) := (((HB.out.box _).box _).box _)
  have LC : Hid (Lm (((w.alloc (.cells #[.bool na, .slice A n ca, .bool da, .slice B m cb] 29)).alloc (.cells #[.bool nb, .slice C r cc, .bool db, .slice D s cd] 29)).alloc (.cells #[.func (.func f) #[] #[]] 81)) (((w.alloc (.cells #[.bool na, .slice A n ca, .bool da, .slice B m cb] 29)).alloc (.cells #[.bool nb, .slice C r cc, .bool db, .slice D s cd] 29)).alloc (.cells #[.func (.func f) #[] #[]] 81)).heap.size C r cc us) := (((HC.out.box _).box _).box _)
  have LD : Hid (Lm (((w.alloc (.cells #[.bool na, .slice A n ca, .bool da, .slice B m cb] 29)).alloc (.cells #[.bool nb, .slice C r cc, .bool db, .slice D s cd] 29)).alloc (.cells #[.func (.func f) #[] #[]] 81)) (((w.alloc (.cells #[.bool na, .slice A n ca, .bool da, .slice B m cb] 29)).alloc (.cells #[.bool nb, .slice C r cc, .bool db, .slice D s cd] 29)).alloc (.cells #[.func (.func f) #[] #[]] 81)).heap.size D s cd vs) := (((HD.out.box _).box _).box _)
  clear HA HB HC HD
  go_wp2_with fail
  refine (HH.out _ (w.heap.size + 1 + 1) w.heap.size (w.heap.size + 1) QF.out QA.out QB.out LA.out LB.out LC.out LD.out).mono ?_
  rintro e w1 ⟨rfl, hb⟩
  have BB := Lib.hid (btr BW.out hb)
  clear hb
  go_wp2
  go_ret2
  exact ⟨rfl, BB.out⟩

set_option maxRecDepth 100000 in
set_option maxHeartbeats 1000000 in
theorem fadd_g (w : World) (na da nb db : Bool) (A B C D : Option Addr) (n m r s ca cb cc cd : Nat) (xs ys us vs : List Nat) (hA : Lm w w.heap.size A n ca xs) (hB : Lm w w.heap.size B m cb ys) (hC : Lm w w.heap.size C r cc us) (hD : Lm w w.heap.size D s cd vs) (np nq : Bool) (l1 l2 : List Nat) (err : Int)
    (H : ∀ W, Lm W W.heap.size A n ca xs → Lm W W.heap.size B m cb ys → Lm W W.heap.size C r cc us → Lm W W.heap.size D s cd vs → Calls Tryz.prog 43 #[fv na A n ca da B m cb, fv nb C r cc db D s cd, .func (.func 54) #[] #[]] W (RG W np l1 nq l2 err)) :
    Calls Tryz.prog 15 #[fv na A n ca da B m cb, fv nb C r cc db D s cd] w (RG w np l1 nq l2 err) := by
  have HH := Lib.hid H
  have HA := Lib.hid hA
  have HB := Lib.hid hB
  have HC := Lib.hid hC
  have HD := Lib.hid hD
  clear H hA hB hC hD
  go_enter Tryz.func15, Tryz.ntmps15
  have QR := Lib.hid (Qd.new ((w.alloc (.cells #[.bool na, .slice A n ca, .bool da, .slice B m cb] 29)).alloc (.cells #[.bool nb, .slice C r cc, .bool db, .slice D s cd] 29)) (w.heap.size + 1 + 1) (by simp) (.bool false) (.slice none 0 0) (.bool false) (.slice none 0 0) 29)
  have BW : Hid (Below w.heap.size w (((w.alloc (.cells #[.bool na, .slice A n ca, .bool da, .slice B m cb] 29)).alloc (.cells #[.bool nb, .slice C r cc, .bool db, .slice D s cd] 29)).alloc (.cells #[.bool false, .slice none 0 0, .bool false, .slice none 0 0] 29))) := below_alloc (below_alloc (below_alloc (Below.refl _ _) _) _) _
  have LA : Hid (Lm (((w.alloc (.cells #[.bool na, .slice A n ca, .bool da, .slice B m cb] 29)).alloc (.cells #[.bool nb, .slice C r cc, .bool db, .slice D s cd] 29)).alloc (.cells #[.bool false, .slice none 0 0, .bool false, .slice none 0 0] 29)) (((w.alloc (.cells #[.bool na, .slice A n ca, .bool da, .slice B m cb] 29)).alloc (.cells #[.bool nb, .slice C r cc, .bool db, .slice D s cd] 29)).alloc (.cells #[.bool false, .slice none 0 0, .bool false, .slice none 0 0] 29)).heap.size A n ca xs) := ((HA.out.box _).box _).box _
  have LB : Hid (Lm (((w.alloc (.cells #[.bool na, .slice A n ca, .bool da, .slice B m cb] 29)).alloc (.cells #[.bool nb, .slice C r cc, .bool db, .slice D s cd] 29)).alloc (.cells #[.bool false, .slice none 0 0, .bool false, .slice none 0 0] 29)) (((w.alloc (.cells #[.bool na, .slice A n ca, .bool da, .slice B m cb] 29)).alloc (.cells #[.bool nb, .slice C r cc, .bool db, .slice D s cd] 29)).alloc (.cells #[.bool false, .slice none 0 0, .bool false, .slice none 0 0] 29)).heap.size B m cb ys) := ((HB.out.box _).box _).box _
  have LC : Hid (Lm (((w.alloc (.cells #[.bool na, .slice A n ca, .bool da, .slice B m cb] 29)).alloc (.cells #[.bool nb, .slice C r cc, .bool db, .slice D s cd] 29)).alloc (.cells #[.bool false, .slice none 0 0, .bool false, .slice none 0 0] 29)) (((w.alloc (.cells #[.bool na, .slice A n ca, .bool da, .slice B m cb] 29)).alloc (.cells #[.bool nb, .slice C r cc, .bool db, .slice D s cd] 29)).alloc (.cells #[.bool false, .slice none 0 0, .bool false, .slice none 0 0] 29)).heap.size C r cc us) := ((HC.out.box _).box _).box _
  have LD : Hid (Lm (((w.alloc (.cells #[.bool na, .slice A n ca, .bool da, .slice B m cb] 29)).alloc (.cells #[.bool nb, .slice C r cc, .bool db, .slice D s cd] 29)).alloc (.cells #[.bool false, .slice none 0 0, .bool false, .slice none 0 0] 29)) (((w.alloc (.cells #[.bool na, .slice A n ca, .bool da, .slice B m cb] 29)).alloc (.cells #[.bool nb, .slice C r cc, .bool db, .slice D s cd] 29)).alloc (.cells #[.bool false, .slice none 0 0, .bool false, .slice none 0 0] 29)).heap.size D s cd vs) := ((HD.out.box _).box _).box _
  clear HA HB HC HD
  go_wp2_with fail
  refine (HH.out _ LA.out LB.out LC.out LD.out).mono ?_
  rintro e w1 ⟨A1, n1, c1, B1, m1, d1, rfl, hL, hM, hb⟩
  have Q := Lib.hid (QR.out.via hb)
  have L1 := Lib.hid hL
  have M1 := Lib.hid hM
  have BB := Lib.hid (btr BW.out hb)
  have ⟨q0, q1, q2, q3, f0, f1, f2, f3, ql⟩ := Q.out
  clear hL hM hb
  go_wp2
  exact post_f Tryz.results15 rfl rfl (Q.out.set (.bool np) (.slice A1 n1 c1) (.bool nq) (.slice B1 m1 d1)) ⟨A1, n1, c1, B1, m1, d1, rfl, L1.out.put4 Q.out _ _ _ _, M1.out.put4 Q.out _ _ _ _, below_put4 BB.out (by omega) _ _ _ _⟩

set_option maxRecDepth 100000 in
set_option maxHeartbeats 1000000 in
theorem fsub_g (w : World) (na da nb db : Bool) (A B C D : Option Addr) (n m r s ca cb cc cd : Nat) (xs ys us vs : List Nat) (hA : Lm w w.heap.size A n ca xs) (hB : Lm w w.heap.size B m cb ys) (hC : Lm w w.heap.size C r cc us) (hD : Lm w w.heap.size D s cd vs) (np nq : Bool) (l1 l2 : List Nat) (err : Int)
    (H : ∀ W, Lm W W.heap.size A n ca xs → Lm W W.heap.size B m cb ys → Lm W W.heap.size C r cc us → Lm W W.heap.size D s cd vs → Calls Tryz.prog 43 #[fv na A n ca da B m cb, fv nb C r cc db D s cd, .func (.func 57) #[] #[]] W (RG W np l1 nq l2 err)) :
    Calls Tryz.prog 20 #[fv na A n ca da B m cb, fv nb C r cc db D s cd] w (RG w np l1 nq l2 err) := by
  have HH := Lib.hid H
  have HA := Lib.hid hA
  have HB := Lib.hid hB
  have HC := Lib.hid hC
  have HD := Lib.hid hD
  clear H hA hB hC hD
  go_enter Tryz.func20, Tryz.ntmps20
  have QR := Lib.hid (Qd.new ((w.alloc (.cells #[.bool na, .slice A n ca, .bool da, .slice B m cb] 29)).alloc (.cells #[.bool nb, .slice C r cc, .bool db, .slice D s cd] 29)) (w.heap.size + 1 + 1) (by simp) (.bool false) (.slice none 0 0) (.bool false) (.slice none 0 0) 29)
  have BW : Hid (Below w.heap.size w (((w.alloc (.cells #[.bool na, .slice A n ca, .bool da, .slice B m cb] 29)).alloc (.cells #[.bool nb, .slice C r cc, .bool db, .slice D s cd] 29)).alloc (.cells #[.bool false, .slice none 0 0, .bool false, .slice none 0 0] 29))) := below_alloc (below_alloc (below_alloc (Below.refl _ _) _) _) _
  have LA : Hid (Lm (((w.alloc (.cells #[.bool na, .slice A n ca, .bool da, .slice B m cb] 29)).alloc (.cells #[.bool nb, .slice C r cc, .bool db, .slice D s cd] 29)).alloc (.cells #[.bool false, .slice none 0 0, .bool false, .slice none 0 0] 29)) (((w.alloc (.cells #[.bool na, .slice A n ca, .bool da, .slice B m cb] 29)).alloc (.cells #[.bool nb, .slice C r cc, .bool db, .slice D s cd] 29)).alloc (.cells #[.bool false, .slice none 0 0, .bool false, .slice none 0 0] 29)).heap.size A n ca xs) := ((HA.out.box _).box _).box _
  have LB : Hid (Lm (((w.alloc (.cells #[.bool na, .slice A n ca, .bool da, .slice B m cb] 29)).alloc (.cells #[.bool nb, .slice C r cc, .bool db, .slice D s cd] 29)).alloc (.cells #[.bool false, .slice none 0 0, .bool false, .slice none 0 0] 29)) (((w.alloc (.cells #[.bool na, .slice A n ca, .bool da, .slice B m cb] 29)).alloc (.cells #[.bool nb, .slice C r cc, .bool db, .slice D s cd] 29)).alloc (.cells #[.bool false, .slice none 0 0, .bool false, .slice none 0 0] 29)).heap.size B m cb ys) := ((HB.out.box _).box _).box _
  have LC : Hid (Lm (((w.alloc (.cells #[.bool na, .slice A n ca, .bool da, .slice B m cb] 29)).alloc (.cells #[.bool nb, .slice C r cc, .bool db, .slice D s cd] 29)).alloc (.cells #[.bool false, .slice none 0 0, .bool false, .slice none 0 0] 29)) (((w.alloc (.cells #[.bool na, .slice A n ca, .bool da, .slice B m cb] 29)).alloc (.cells #[.bool nb, .slice C r cc, .bool db, .slice D s cd] 29)).alloc (.cells #[.bool false, .slice none 0 0, .bool false, .slice none 0 0] 29)).heap.size C r cc us) := ((HC.out.box _).box _).box _
  have LD : Hid (Lm (((w.alloc (.cells #[.bool na, .slice A n ca, .bool da, .slice B m cb] 29)).alloc (.cells #[.bool nb, .slice C r cc, .bool db, .slice D s cd] 29)).alloc (.cells #[.bool false, .slice none 0 0, .bool false, .slice none 0 0] 29)) (((w.alloc (.cells #[.bool na, .slice A n ca, .bool da, .slice B m cb] 29)).alloc (.cells #[.bool nb, .slice C r cc, .bool db, .slice D s cd] 29)).alloc (.cells #[.bool false, .slice none 0 0, .bool false, .slice none 0 0] 29)).heap.size D s cd vs) := ((HD.out.box _).box _).box _
  clear HA HB HC HD
  go_wp2_with fail
  refine (HH.out _ LA.out LB.out LC.out LD.out).mono ?_
  rintro e w1 ⟨A1, n1, c1, B1, m1, d1, rfl, hL, hM, hb⟩
  have Q := Lib.hid (QR.out.via hb)
  have L1 := Lib.hid hL
  have M1 := Lib.hid hM
  have BB := Lib.hid (btr BW.out hb)
  have ⟨q0, q1, q2, q3, f0, f1, f2, f3, ql⟩ := Q.out
  clear hL hM hb
  go_wp2
  exact post_f Tryz.results20 rfl rfl (Q.out.set (.bool np) (.slice A1 n1 c1) (.bool nq) (.slice B1 m1 d1)) ⟨A1, n1, c1, B1, m1, d1, rfl, L1.out.put4 Q.out _ _ _ _, M1.out.put4 Q.out _ _ _ _, below_put4 BB.out (by omega) _ _ _ _⟩

set_option maxRecDepth 100000 in
set_option maxHeartbeats 1000000 in
theorem fmul_g (w : World) (na da nb db : Bool) (A B C D : Option Addr) (n m r s ca cb cc cd : Nat) (xs ys us vs : List Nat) (hA : Lm w w.heap.size A n ca xs) (hB : Lm w w.heap.size B m cb ys) (hC : Lm w w.heap.size C r cc us) (hD : Lm w w.heap.size D s cd vs) (np nq : Bool) (l1 l2 : List Nat) (err : Int)
    (H : ∀ W, Lm W W.heap.size A n ca xs → Lm W W.heap.size B m cb ys → Lm W W.heap.size C r cc us → Lm W W.heap.size D s cd vs → Calls Tryz.prog 43 #[fv na A n ca da B m cb, fv nb C r cc db D s cd, .func (.func 58) #[] #[]] W (RG W np l1 nq l2 err)) :
    Calls Tryz.prog 21 #[fv na A n ca da B m cb, fv nb C r cc db D s cd] w (RG w np l1 nq l2 err) := by
  have HH := Lib.hid H
  have HA := Lib.hid hA
  have HB := Lib.hid hB
  have HC := Lib.hid hC
  have HD := Lib.hid hD
  clear H hA hB hC hD
  go_enter Tryz.func21, Tryz.ntmps21
  have QR := Lib.hid (Qd.new ((w.alloc (.cells #[.bool na, .slice A n ca, .bool da, .slice B m cb] 29)).alloc (.cells #[.bool nb, .slice C r cc, .bool db, .slice D s cd] 29)) (w.heap.size + 1 + 1) (by simp) (.bool false) (.slice none 0 0) (.bool false) (.slice none 0 0) 29)
  have BW : Hid (Below w.heap.size w (((w.alloc (.cells #[.bool na, .slice A n ca, .bool da, .slice B m cb] 29)).alloc (.cells #[.bool nb, .slice C r cc, .bool db, .slice D s cd] 29)).alloc (.cells #[.bool false, .slice none 0 0, .bool false, .slice none 0 0] 29))) := below_alloc (below_alloc (below_alloc (Below.refl _ _) _) _) _
  have LA : Hid (Lm (((w.alloc (.cells #[.bool na, .slice A n ca, .bool da, .slice B m cb] 29)).alloc (.cells #[.bool nb, .slice C r cc, .bool db, .slice D s cd] 29)).alloc (.cells #[.bool false, .slice none 0 0, .bool false, .slice none 0 0] 29)) (((w.alloc (.cells #[.bool na, .slice A n ca, .bool da, .slice B m cb] 29)).alloc (.cells #[.bool nb, .slice C r cc, .bool db, .slice D s cd] 29)).alloc (.cells #[.bool false, .slice none 0 0, .bool false, .slice none 0 0] 29)).heap.size A n ca xs) := ((HA.out.box _).box _).box _
  have LB : Hid (Lm (((w.alloc (.cells #[.bool na, .slice A n ca, .bool da, .slice B m cb] 29)).alloc (.cells #[.bool nb, .slice C r cc, .bool db, .slice D s cd] 29)).alloc (.cells #[.bool false, .slice none 0 0, .bool false, .slice none 0 0] 29)) (((w.alloc (.cells #[.bool na, .slice A n ca, .bool da, .slice B m cb] 29)).alloc (.cells #[.bool nb, .slice C r cc, .bool db, .slice D s cd] 29)).alloc (.cells #[.bool false, .slice none 0 0, .bool false, .slice none 0 0] 29)).heap.size B m cb ys) := ((HB.out.box _).box _).box _
  have LC : Hid (Lm (((w.alloc (.cells #[.bool na, .slice A n ca, .bool da, .slice B m cb] 29)).alloc (.cells #[.bool nb, .slice C r cc, .bool db, .slice D s cd] 29)).alloc (.cells #[.bool false, .slice none 0 0, .bool false, .slice none 0 0] 29)) (((w.alloc (.cells #[.bool na, .slice A n ca, .bool da, .slice B m cb] 29)).alloc (.cells #[.bool nb, .slice C r cc, .bool db, .slice D s cd] 29)).alloc (.cells #[.bool false, .slice none 0 0, .bool false, .slice none 0 0] 29)).heap.size C r cc us) := ((HC.out.box _).box _).box _
  have LD : Hid (Lm (((w.alloc (.cells #[.bool na, .slice A n ca, .bool da, .slice B m cb] 29)).alloc (.cells #[.bool nb, .slice C r cc, .bool db, .slice D s cd] 29)).alloc (.cells #[.bool false, .slice none 0 0, .bool false, .slice none 0 0] 29)) (((w.alloc (.cells #[.bool na, .slice A n ca, .bool da, .slice B m cb] 29)).alloc (.cells #[.bool nb, .slice C r cc, .bool db, .slice D s cd] 29)).alloc (.cells #[.bool false, .slice none 0 0, .bool false, .slice none 0 0] 29)).heap.size D s cd vs) := ((HD.out.box _).box _).box _
  clear HA HB HC HD
  go_wp2_with fail
  refine (HH.out _ LA.out LB.out LC.out LD.out).mono ?_
  rintro e w1 ⟨A1, n1, c1, B1, m1, d1, rfl, hL, hM, hb⟩
  have Q := Lib.hid (QR.out.via hb)
  have L1 := Lib.hid hL
  have M1 := Lib.hid hM
  have BB := Lib.hid (btr BW.out hb)
  have ⟨q0, q1, q2, q3, f0, f1, f2, f3, ql⟩ := Q.out
  clear hL hM hb
  go_wp2
  exact post_f Tryz.results21 rfl rfl (Q.out.set (.bool np) (.slice A1 n1 c1) (.bool nq) (.slice B1 m1 d1)) ⟨A1, n1, c1, B1, m1, d1, rfl, L1.out.put4 Q.out _ _ _ _, M1.out.put4 Q.out _ _ _ _, below_put4 BB.out (by omega) _ _ _ _⟩

set_option maxRecDepth 100000 in
set_option maxHeartbeats 1000000 in
theorem fdiv_g (w : World) (na da nb db : Bool) (A B C D : Option Addr) (n m r s ca cb cc cd : Nat) (xs ys us vs : List Nat) (hA : Lm w w.heap.size A n ca xs) (hB : Lm w w.heap.size B m cb ys) (hC : Lm w w.heap.size C r cc us) (hD : Lm w w.heap.size D s cd vs) (np nq : Bool) (l1 l2 : List Nat) (err : Int)
    (H : ∀ W, Lm W W.heap.size A n ca xs → Lm W W.heap.size B m cb ys → Lm W W.heap.size C r cc us → Lm W W.heap.size D s cd vs → Calls Tryz.prog 43 #[fv na A n ca da B m cb, fv nb C r cc db D s cd, .func (.func 44) #[] #[]] W (RG W np l1 nq l2 err)) :
    Calls Tryz.prog 11 #[fv na A n ca da B m cb, fv nb C r cc db D s cd] w (RG w np l1 nq l2 err) := by
  have HH := Lib.hid H
  have HA := Lib.hid hA
  have HB := Lib.hid hB
  have HC := Lib.hid hC
  have HD := Lib.hid hD
  clear H hA hB hC hD
  go_enter Tryz.func11, Tryz.ntmps11
  have QR := Lib.hid (Qd.new ((w.alloc (.cells #[.bool na, .slice A n ca, .bool da, .slice B m cb] 29)).alloc (.cells #[.bool nb, .slice C r cc, .bool db, .slice D s cd] 29)) (w.heap.size + 1 + 1) (by simp) (.bool false) (.slice none 0 0) (.bool false) (.slice none 0 0) 29)
  have BW : Hid (Below w.heap.size w (((w.alloc (.cells #[.bool na, .slice A n ca, .bool da, .slice B m cb] 29)).alloc (.cells #[.bool nb, .slice C r cc, .bool db, .slice D s cd] 29)).alloc (.cells #[.bool false, .slice none 0 0, .bool false, .slice none 0 0] 29))) := below_alloc (below_alloc (below_alloc (Below.refl _ _) _) _) _
  have LA : Hid (Lm (((w.alloc (.cells #[.bool na, .slice A n ca, .bool da, .slice B m cb] 29)).alloc (.cells #[.bool nb, .slice C r cc, .bool db, .slice D s cd] 29)).alloc (.cells #[.bool false, .slice none 0 0, .bool false, .slice none 0 0] 29)) (((w.alloc (.cells #[.bool na, .slice A n ca, .bool da, .slice B m cb] 29)).alloc (.cells #[.bool nb, .slice C r cc, .bool db, .slice D s cd] 29)).alloc (.cells #[.bool false, .slice none 0 0, .bool false, .slice none 0 0] 29)).heap.size A n ca xs) := ((HA.out.box _).box _).box _
  have LB : Hid (Lm (((w.alloc (.cells #[.bool na, .slice A n ca, .bool da, .slice B m cb] 29)).alloc (.cells #[.bool nb, .slice C r cc, .bool db, .slice D s cd] 29)).alloc (.cells #[.bool false, .slice none 0 0, .bool false, .slice none 0 0] 29)) (((w.alloc (.cells #[.bool na, .slice A n ca, .bool da, .slice B m cb] 29)).alloc (.cells #[.bool nb, .slice C r cc, .bool db, .slice D s cd] 29)).alloc (.cells #[.bool false, .slice none 0 0, .bool false, .slice none 0 0] 29)).heap.size B m cb ys) := ((HB.out.box _).box _).box _
  have LC : Hid (Lm (((w.alloc (.cells #[.bool na, .slice A n ca, .bool da, .slice B m cb] 29)).alloc (.cells #[.bool nb, .slice C r cc, .bool db, .slice D s cd] 29)).alloc (.cells #[.bool false, .slice none 0 0, .bool false, .slice none 0 0] 29)) (((w.alloc (.cells #[.bool na, .slice A n ca, .bool da, .slice B m cb] 29)).alloc (.cells #[.bool nb, .slice C r cc, .bool db, .slice D s cd] 29)).alloc (.cells #[.bool false, .slice none 0 0, .bool false, .slice none 0 0] 29)).heap.size C r cc us) := ((HC.out.box _).box _).box _
  have LD : Hid (Lm (((w.alloc (.cells #[.bool na, .slice A n ca, .bool da, .slice B m cb] 29)).alloc (.cells #[.bool nb, .slice C r cc, .bool db, .slice D s cd] 29)).alloc (.cells #[.bool false, .slice none 0 0, .bool false, .slice none 0 0] 29)) (((w.alloc (.cells #[.bool na, .slice A n ca, .bool da, .slice B m cb] 29)).alloc (.cells #[.bool nb, .slice C r cc, .bool db, .slice D s cd] 29)).alloc (.cells #[.bool false, .slice none 0 0, .bool false, .slice none 0 0] 29)).heap.size D s cd vs) := ((HD.out.box _).box _).box _
  clear HA HB HC HD
  go_wp2_with fail
  refine (HH.out _ LA.out LB.out LC.out LD.out).mono ?_
  rintro e w1 ⟨A1, n1, c1, B1, m1, d1, rfl, hL, hM, hb⟩
  have Q := Lib.hid (QR.out.via hb)
  have L1 := Lib.hid hL
  have M1 := Lib.hid hM
  have BB := Lib.hid (btr BW.out hb)
  have ⟨q0, q1, q2, q3, f0, f1, f2, f3, ql⟩ := Q.out
  clear hL hM hb
  go_wp2
  exact post_f Tryz.results11 rfl rfl (Q.out.set (.bool np) (.slice A1 n1 c1) (.bool nq) (.slice B1 m1 d1)) ⟨A1, n1, c1, B1, m1, d1, rfl, L1.out.put4 Q.out _ _ _ _, M1.out.put4 Q.out _ _ _ _, below_put4 BB.out (by omega) _ _ _ _⟩

set_option maxRecDepth 100000 in
set_option maxHeartbeats 1000000 in
theorem fcmp_g (w : World) (na da nb db : Bool) (A B C D : Option Addr) (n m r s ca cb cc cd : Nat) (xs ys us vs : List Nat) (hA : Lm w w.heap.size A n ca xs) (hB : Lm w w.heap.size B m cb ys) (hC : Lm w w.heap.size C r cc us) (hD : Lm w w.heap.size D s cd vs) (v err : Int)
    (H : ∀ W, Lm W W.heap.size A n ca xs → Lm W W.heap.size B m cb ys → Lm W W.heap.size C r cc us → Lm W W.heap.size D s cd vs → Calls Tryz.prog 61 #[fv na A n ca da B m cb, fv nb C r cc db D s cd, .func (.func 62) #[] #[]] W (RIE W v err)) :
    Calls Tryz.prog 24 #[fv na A n ca da B m cb, fv nb C r cc db D s cd] w (RIE w v err) := by
  have HH := Lib.hid H
  have HA := Lib.hid hA
  have HB := Lib.hid hB
  have HC := Lib.hid hC
  have HD := Lib.hid hD
  clear H hA hB hC hD
  go_enter Tryz.func24, Tryz.ntmps24
  have BW : Hid (Below w.heap.size w ((w.alloc (.cells #[.bool na, .slice A n ca, .bool da, .slice B m cb] 29)).alloc (.cells #[.bool nb, .slice C r cc, .bool db, .slice D s cd] 29))) := below_alloc (below_alloc (Below.refl _ _) _) _
  have LA : Hid (Lm ((w.alloc (.cells #[.bool na, .slice A n ca, .bool da, .slice B m cb] 29)).alloc (.cells #[.bool nb, .slice C r cc, .bool db, .slice D s cd] 29)) ((w.alloc (.cells #[.bool na, .slice A n ca, .bool da, .slice B m cb] 29)).alloc (.cells #[.bool nb, .slice C r cc, .bool db, .slice D s cd] 29)).heap.size A n ca xs) := ((HA.out.box _).box _)
  have LB : Hid (Lm ((w.alloc (.cells #[.bool na, .slice A n ca, .bool da, .slice B m cb] 29)).alloc (.cells #[.bool nb, .slice C r cc, .bool db, .slice D s cd] 29)) ((w.alloc (.cells #[.bool na, .slice A n ca, .bool da, .slice B m cb] 29)).alloc (.cells #[.bool nb, .slice C r cc, .bool db, .slice D s cd] 29)).heap.size B m cb ys) := ((HB.out.box _).box _)
  have LC : Hid (Lm ((w.alloc (.cells #[.bool na, .slice A n ca, .bool da, .slice B m cb] 29)).alloc (.cells #[.bool nb, .slice C r cc, .bool db, .slice D s cd] 29)) ((w.alloc (.cells #[.bool na, .slice A n ca, .bool da, .slice B m cb] 29)).alloc (.cells #[.bool nb, .slice C r cc, .bool db, .slice D s cd] 29)).heap.size C r cc us) := ((HC.out.box _).box _)
  have LD : Hid (Lm ((w.alloc (.cells #[.bool na, .slice A n ca, .bool da, .slice B m cb] 29)).alloc (.cells #[.bool nb, .slice C r cc, .bool db, .slice D s cd] 29)) ((w.alloc (.cells #[.bool na, .slice A n ca, .bool da, .slice B m cb] 29)).alloc (.cells #[.bool nb, .slice C r cc, .bool db, .slice D s cd] 29)).heap.size D s cd vs) := ((HD.out.box _).box _)
  clear HA HB HC HD
  go_wp2_with fail
  refine (HH.out _ LA.out LB.out LC.out LD.out).mono ?_
  rintro e w1 ⟨rfl, hb⟩
  have BB := Lib.hid (btr BW.out hb)
  clear hb
  go_wp2
  go_ret2
  exact ⟨rfl, BB.out⟩

end Go.Proofs.YtoigmcggkanncaaGreatDoor

