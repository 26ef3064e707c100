/- The reference's Mul. -/
import Derived.Test.YtdbilpmhejigpaaR11
namespace Go.Proofs.Ytdbilpmhejigpaa
open Go.RowKit

set_option maxRecDepth 100000 in
set_option maxHeartbeats 1000000 in
theorem rmul_bad (w : World) (na nb : Bool) (A B : Option Addr) (n m ca cb : Nat) (xs ys : List Nat) (hA : Lm w w.heap.size A n ca xs) (hB : Lm w w.heap.size B m cb ys) (hv : chkB na xs nb ys = 8) :
    Calls Try.prog 12 #[.agg #[.bool na, .slice A n ca], .agg #[.bool nb, .slice B m cb]] w (RW w false [] 8) := by
  have HA := Lib.hid hA
  have HB := Lib.hid hB
  have HV := Lib.hid hv
  clear hv
  go_enter Try.func12, Try.ntmps12
  go_wp2_with fail
  refine (rboth_any _ _ _ _ _ _ _ _ _ _ _ (((HA.out.box _).box _).box _) (((HB.out.box _).box _).box _) 8 HV.out).mono ?_
  rintro e w1 ⟨rfl, hb1⟩
  have ⟨hx0, hx1, hy0, hy1, hz0, hz1, hf0, hf1, hsz⟩ := box3 hb1
  go_wp2_with fail
  refine (rboth_any _ _ _ _ _ _ _ _ _ _ _ ((((HA.out.box _).box _).box _).via hb1) ((((HB.out.box _).box _).box _).via hb1) 8 HV.out).mono ?_
  rintro e w2 ⟨rfl, hb2⟩
  have hky2 := keep2 hb2 hsz ⟨hz0, hz1⟩
  have ⟨hkf0, hkf1⟩ := keepF hb2 hsz ⟨hf0, hf1⟩
  go_wp2
  exact post_ws Try.results12 rfl rfl hky2.1 hky2.2 ⟨none, 0, 0, rfl, Lm.nil _ _, below_set2 ((bbox (bbox (bbox hb1))).trans (hb2.mono (by omega))) (by omega) _ _⟩

set_option maxRecDepth 100000 in
set_option maxHeartbeats 1000000 in
theorem rmul_ok (w : World) (na nb : Bool) (A B : Option Addr) (n m ca cb a b : Nat) (hA : Lm w w.heap.size A n ca (digs a)) (hB : Lm w w.heap.size B m cb (digs b)) (hv : chkB na (digs a) nb (digs b) = 0) :
    Calls Try.prog 12 #[.agg #[.bool na, .slice A n ca], .agg #[.bool nb, .slice B m cb]] w (RW w (mkN (na != nb) (a * b)) (mkL (a * b)) (mkE (a * b))) := by
  have h41 := (chk_ok.1 (chkB_ok.1 hv).1).1
  have h42 := (chk_ok.1 (chkB_ok.1 hv).2).1
  rw [hA.len] at h41
  rw [hB.len] at h42
  have HA := Lib.hid hA
  have HB := Lib.hid hB
  have HV := Lib.hid hv
  have HP : Hid (val (digs b) * val (digs a) = a * b) := by show _ = _; rw [digs_val, digs_val, Nat.mul_comm]
  clear hv hA hB
  cases na <;> cases nb
  · go_enter Try.func12, Try.ntmps12
    go_wp2_with fail
    refine (rboth_any _ _ _ _ _ _ _ _ _ _ _ (((HA.out.box _).box _).box _) (((HB.out.box _).box _).box _) 0 HV.out).mono ?_
    rintro e w1 ⟨rfl, hb1⟩
    have ⟨PA0, PB0, PR0⟩ := boxes3 w 24 24 24 (.bool false) (.slice A n ca) (.bool false) (.slice B m cb) (.bool false) (.slice none 0 0)
    have PA := PA0.via hb1
    have PB := PB0.via hb1
    have PR := PR0.via hb1
    have LA := Lib.hid ((((HA.out.box _).box _).box _).via hb1)
    have LB := Lib.hid ((((HB.out.box _).box _).box _).via hb1)
    have HB0 := Lib.hid (bbox (bbox (bbox hb1)))
    clear PA0 PB0 PR0 hb1
    have ⟨a0, a1, _, _, _⟩ := PA
    have ⟨b0, b1, _, _, _⟩ := PB
    have ⟨r0, r1, rf0, rf1, rl⟩ := PR
    go_wp2_with fail
    go_region_held3 (fun w' => (w'.cell? ⟨w.heap.size, 0, none⟩ = some (.bool false) ∧ w'.cell? ⟨w.heap.size, 1, none⟩ = some (.slice A n ca)) ∧ (w'.cell? ⟨w.heap.size + 1, 0, none⟩ = some (.bool false) ∧ w'.cell? ⟨w.heap.size + 1, 1, none⟩ = some (.slice B m cb)))
      (first | exact ⟨⟨a0, a1⟩, ⟨b0, b1⟩⟩ | exact ⟨⟨PAs.c0, PAs.c1⟩, ⟨PBs.c0, PBs.c1⟩⟩ | exact ⟨⟨PAt.c0, PAt.c1⟩, ⟨PBt.c0, PBt.c1⟩⟩ | exact ⟨⟨PAu.c0, PAu.c1⟩, ⟨PBu.c0, PBu.c1⟩⟩ | go_keep)
      (first
       | (go_at_call 41; refine (rtimes_any _ _ _ _ _ _ _ (digs a) (digs b) (a * b) LA.out.drew LB.out.drew (by omega) (by omega) HP.out).mono ?_; rintro e ws ⟨As, cs, ts, rfl, hLs, hvs, hbs⟩; have HVS := Lib.hid hvs; clear hvs; have Bs := (Below.refl w1.heap.size w1).drew.trans hbs; have PAs := PA.via Bs; have PBs := PB.via Bs; have PRs := PR.via Bs)
       | (go_at_call 40; refine (rmade_any _ _ _ _ _ ts (a * b) hLs HVS.out (by omega)).mono ?_; rintro e wt ⟨At, nt, ct, rfl, hLt, hbt⟩; have PAt := PAs.via hbt; have PBt := PBs.via hbt; have PRt := PRs.via hbt; have HBt : Hid (Below w.heap.size w wt) := HB0.out.trans ((Bs.trans (hbt.mono Bs.size)).mono HB0.out.size); have ⟨r0t, r1t, rf0t, rf1t, rlt⟩ := PRt; have PAu := PAt.far (h := w.heap.size + 1 + 1) (by omega) (.bool (mkN false (a * b))) (.slice At nt ct); have PBu := PBt.far (h := w.heap.size + 1 + 1) (by omega) (.bool (mkN false (a * b))) (.slice At nt ct)))
    go_wp2
    exact post_ws Try.results12 rfl rfl PRt.c0 PRt.c1 ⟨At, nt, ct, rfl, hLt.setP PRt _ _, below_set2 HBt.out (by omega) _ _⟩
  · go_enter Try.func12, Try.ntmps12
    go_wp2_with fail
    refine (rboth_any _ _ _ _ _ _ _ _ _ _ _ (((HA.out.box _).box _).box _) (((HB.out.box _).box _).box _) 0 HV.out).mono ?_
    rintro e w1 ⟨rfl, hb1⟩
    have ⟨PA0, PB0, PR0⟩ := boxes3 w 24 24 24 (.bool false) (.slice A n ca) (.bool true) (.slice B m cb) (.bool false) (.slice none 0 0)
    have PA := PA0.via hb1
    have PB := PB0.via hb1
    have PR := PR0.via hb1
    have LA := Lib.hid ((((HA.out.box _).box _).box _).via hb1)
    have LB := Lib.hid ((((HB.out.box _).box _).box _).via hb1)
    have HB0 := Lib.hid (bbox (bbox (bbox hb1)))
    clear PA0 PB0 PR0 hb1
    have ⟨a0, a1, _, _, _⟩ := PA
    have ⟨b0, b1, _, _, _⟩ := PB
    have ⟨r0, r1, rf0, rf1, rl⟩ := PR
    go_wp2_with fail
    go_region_held3 (fun w' => (w'.cell? ⟨w.heap.size, 0, none⟩ = some (.bool false) ∧ w'.cell? ⟨w.heap.size, 1, none⟩ = some (.slice A n ca)) ∧ (w'.cell? ⟨w.heap.size + 1, 0, none⟩ = some (.bool true) ∧ w'.cell? ⟨w.heap.size + 1, 1, none⟩ = some (.slice B m cb)))
      (first | exact ⟨⟨a0, a1⟩, ⟨b0, b1⟩⟩ | exact ⟨⟨PAs.c0, PAs.c1⟩, ⟨PBs.c0, PBs.c1⟩⟩ | exact ⟨⟨PAt.c0, PAt.c1⟩, ⟨PBt.c0, PBt.c1⟩⟩ | exact ⟨⟨PAu.c0, PAu.c1⟩, ⟨PBu.c0, PBu.c1⟩⟩ | go_keep)
      (first
       | (go_at_call 41; refine (rtimes_any _ _ _ _ _ _ _ (digs a) (digs b) (a * b) LA.out.drew LB.out.drew (by omega) (by omega) HP.out).mono ?_; rintro e ws ⟨As, cs, ts, rfl, hLs, hvs, hbs⟩; have HVS := Lib.hid hvs; clear hvs; have Bs := (Below.refl w1.heap.size w1).drew.trans hbs; have PAs := PA.via Bs; have PBs := PB.via Bs; have PRs := PR.via Bs)
       | (go_at_call 40; refine (rmade_any _ _ _ _ _ ts (a * b) hLs HVS.out (by omega)).mono ?_; rintro e wt ⟨At, nt, ct, rfl, hLt, hbt⟩; have PAt := PAs.via hbt; have PBt := PBs.via hbt; have PRt := PRs.via hbt; have HBt : Hid (Below w.heap.size w wt) := HB0.out.trans ((Bs.trans (hbt.mono Bs.size)).mono HB0.out.size); have ⟨r0t, r1t, rf0t, rf1t, rlt⟩ := PRt; have PAu := PAt.far (h := w.heap.size + 1 + 1) (by omega) (.bool (mkN true (a * b))) (.slice At nt ct); have PBu := PBt.far (h := w.heap.size + 1 + 1) (by omega) (.bool (mkN true (a * b))) (.slice At nt ct)))
    go_wp2
    exact post_ws Try.results12 rfl rfl PRt.c0 PRt.c1 ⟨At, nt, ct, rfl, hLt.setP PRt _ _, below_set2 HBt.out (by omega) _ _⟩
  · go_enter Try.func12, Try.ntmps12
    go_wp2_with fail
    refine (rboth_any _ _ _ _ _ _ _ _ _ _ _ (((HA.out.box _).box _).box _) (((HB.out.box _).box _).box _) 0 HV.out).mono ?_
    rintro e w1 ⟨rfl, hb1⟩
    have ⟨PA0, PB0, PR0⟩ := boxes3 w 24 24 24 (.bool true) (.slice A n ca) (.bool false) (.slice B m cb) (.bool false) (.slice none 0 0)
    have PA := PA0.via hb1
    have PB := PB0.via hb1
    have PR := PR0.via hb1
    have LA := Lib.hid ((((HA.out.box _).box _).box _).via hb1)
    have LB := Lib.hid ((((HB.out.box _).box _).box _).via hb1)
    have HB0 := Lib.hid (bbox (bbox (bbox hb1)))
    clear PA0 PB0 PR0 hb1
    have ⟨a0, a1, _, _, _⟩ := PA
    have ⟨b0, b1, _, _, _⟩ := PB
    have ⟨r0, r1, rf0, rf1, rl⟩ := PR
    go_wp2_with fail
    go_region_held3 (fun w' => (w'.cell? ⟨w.heap.size, 0, none⟩ = some (.bool true) ∧ w'.cell? ⟨w.heap.size, 1, none⟩ = some (.slice A n ca)) ∧ (w'.cell? ⟨w.heap.size + 1, 0, none⟩ = some (.bool false) ∧ w'.cell? ⟨w.heap.size + 1, 1, none⟩ = some (.slice B m cb)))
      (first | exact ⟨⟨a0, a1⟩, ⟨b0, b1⟩⟩ | exact ⟨⟨PAs.c0, PAs.c1⟩, ⟨PBs.c0, PBs.c1⟩⟩ | exact ⟨⟨PAt.c0, PAt.c1⟩, ⟨PBt.c0, PBt.c1⟩⟩ | exact ⟨⟨PAu.c0, PAu.c1⟩, ⟨PBu.c0, PBu.c1⟩⟩ | go_keep)
      (first
       | (go_at_call 41; refine (rtimes_any _ _ _ _ _ _ _ (digs a) (digs b) (a * b) LA.out.drew LB.out.drew (by omega) (by omega) HP.out).mono ?_; rintro e ws ⟨As, cs, ts, rfl, hLs, hvs, hbs⟩; have HVS := Lib.hid hvs; clear hvs; have Bs := (Below.refl w1.heap.size w1).drew.trans hbs; have PAs := PA.via Bs; have PBs := PB.via Bs; have PRs := PR.via Bs)
       | (go_at_call 40; refine (rmade_any _ _ _ _ _ ts (a * b) hLs HVS.out (by omega)).mono ?_; rintro e wt ⟨At, nt, ct, rfl, hLt, hbt⟩; have PAt := PAs.via hbt; have PBt := PBs.via hbt; have PRt := PRs.via hbt; have HBt : Hid (Below w.heap.size w wt) := HB0.out.trans ((Bs.trans (hbt.mono Bs.size)).mono HB0.out.size); have ⟨r0t, r1t, rf0t, rf1t, rlt⟩ := PRt; have PAu := PAt.far (h := w.heap.size + 1 + 1) (by omega) (.bool (mkN true (a * b))) (.slice At nt ct); have PBu := PBt.far (h := w.heap.size + 1 + 1) (by omega) (.bool (mkN true (a * b))) (.slice At nt ct)))
    go_wp2
    exact post_ws Try.results12 rfl rfl PRt.c0 PRt.c1 ⟨At, nt, ct, rfl, hLt.setP PRt _ _, below_set2 HBt.out (by omega) _ _⟩
  · go_enter Try.func12, Try.ntmps12
    go_wp2_with fail
    refine (rboth_any _ _ _ _ _ _ _ _ _ _ _ (((HA.out.box _).box _).box _) (((HB.out.box _).box _).box _) 0 HV.out).mono ?_
    rintro e w1 ⟨rfl, hb1⟩
    have ⟨PA0, PB0, PR0⟩ := boxes3 w 24 24 24 (.bool true) (.slice A n ca) (.bool true) (.slice B m cb) (.bool false) (.slice none 0 0)
    have PA := PA0.via hb1
    have PB := PB0.via hb1
    have PR := PR0.via hb1
    have LA := Lib.hid ((((HA.out.box _).box _).box _).via hb1)
    have LB := Lib.hid ((((HB.out.box _).box _).box _).via hb1)
    have HB0 := Lib.hid (bbox (bbox (bbox hb1)))
    clear PA0 PB0 PR0 hb1
    have ⟨a0, a1, _, _, _⟩ := PA
    have ⟨b0, b1, _, _, _⟩ := PB
    have ⟨r0, r1, rf0, rf1, rl⟩ := PR
    go_wp2_with fail
    go_region_held3 (fun w' => (w'.cell? ⟨w.heap.size, 0, none⟩ = some (.bool true) ∧ w'.cell? ⟨w.heap.size, 1, none⟩ = some (.slice A n ca)) ∧ (w'.cell? ⟨w.heap.size + 1, 0, none⟩ = some (.bool true) ∧ w'.cell? ⟨w.heap.size + 1, 1, none⟩ = some (.slice B m cb)))
      (first | exact ⟨⟨a0, a1⟩, ⟨b0, b1⟩⟩ | exact ⟨⟨PAs.c0, PAs.c1⟩, ⟨PBs.c0, PBs.c1⟩⟩ | exact ⟨⟨PAt.c0, PAt.c1⟩, ⟨PBt.c0, PBt.c1⟩⟩ | exact ⟨⟨PAu.c0, PAu.c1⟩, ⟨PBu.c0, PBu.c1⟩⟩ | go_keep)
      (first
       | (go_at_call 41; refine (rtimes_any _ _ _ _ _ _ _ (digs a) (digs b) (a * b) LA.out.drew LB.out.drew (by omega) (by omega) HP.out).mono ?_; rintro e ws ⟨As, cs, ts, rfl, hLs, hvs, hbs⟩; have HVS := Lib.hid hvs; clear hvs; have Bs := (Below.refl w1.heap.size w1).drew.trans hbs; have PAs := PA.via Bs; have PBs := PB.via Bs; have PRs := PR.via Bs)
       | (go_at_call 40; refine (rmade_any _ _ _ _ _ ts (a * b) hLs HVS.out (by omega)).mono ?_; rintro e wt ⟨At, nt, ct, rfl, hLt, hbt⟩; have PAt := PAs.via hbt; have PBt := PBs.via hbt; have PRt := PRs.via hbt; have HBt : Hid (Below w.heap.size w wt) := HB0.out.trans ((Bs.trans (hbt.mono Bs.size)).mono HB0.out.size); have ⟨r0t, r1t, rf0t, rf1t, rlt⟩ := PRt; have PAu := PAt.far (h := w.heap.size + 1 + 1) (by omega) (.bool (mkN false (a * b))) (.slice At nt ct); have PBu := PBt.far (h := w.heap.size + 1 + 1) (by omega) (.bool (mkN false (a * b))) (.slice At nt ct)))
    go_wp2
    exact post_ws Try.results12 rfl rfl PRt.c0 PRt.c1 ⟨At, nt, ct, rfl, hLt.setP PRt _ _, below_set2 HBt.out (by omega) _ _⟩
end Go.Proofs.Ytdbilpmhejigpaa
