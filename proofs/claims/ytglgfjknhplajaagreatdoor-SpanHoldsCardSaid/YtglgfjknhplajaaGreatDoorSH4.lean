/- Lemmas, part 4. -/
import Derived.RegionTactic
import Derived.Laws.MathBits
import Derived.Deep.DeepCutAuto
import Derived.Deep.CutBlock
import Derived.Lib.ItoaNum
import Derived.Lib.UnsafeStr
import Derived.Lib.OthersKept
import Derived.Laws.RangeAny
import Derived.Lib.OwnKind
import Derived.Laws.OwnMore
import Derived.Lib.Strings
import Derived.Lib.Slices
import Derived.Lib.Walk
import Derived.ChangeAlike
import Derived.Test.YtglgfjknhplajaaGreatDoorSH3
/- The reference's Mul. -/
namespace Go.Proofs.YtglgfjknhplajaaGreatDoor
open Go.RowKit

set_option maxRecDepth 100000 in
set_option maxHeartbeats 1000000 in
theorem rmul_bad (w : World) (na nb : Bool) (A B : Option Addr) (n m ca cb : Nat) (xs ys : List Nat) (hA : Lm w w.heap.size A n ca xs) (hB : Lm w w.heap.size B m cb ys) (hv : chkB na xs nb ys = 8) :
    Calls Tryz.prog 43 #[.agg #[.bool na, .slice A n ca], .agg #[.bool nb, .slice B m cb]] w (RW w false [] 8) := by
  have HA := Lib.hid hA
  have HB := Lib.hid hB
  have HV := Lib.hid hv
  clear hv
  go_enter Tryz.func43, Tryz.ntmps43
  go_wp2_with fail
  refine (rboth_any _ _ _ _ _ _ _ _ _ _ _ (((HA.out.box _).box _).box _) (((HB.out.box _).box _).box _) 8 HV.out).mono ?_
  rintro e w1 ⟨rfl, hb1⟩
  have ⟨hx0, hx1, hy0, hy1, hz0, hz1, hf0, hf1, hsz⟩ := box3 hb1
  go_wp2_with fail
  refine (rboth_any _ _ _ _ _ _ _ _ _ _ _ ((((HA.out.box _).box _).box _).via hb1) ((((HB.out.box _).box _).box _).via hb1) 8 HV.out).mono ?_
  rintro e w2 ⟨rfl, hb2⟩
  have hky2 := keep2 hb2 hsz ⟨hz0, hz1⟩
  have ⟨hkf0, hkf1⟩ := keepF hb2 hsz ⟨hf0, hf1⟩
  go_wp2
  exact post_ws Tryz.results43 rfl rfl hky2.1 hky2.2 ⟨none, 0, 0, rfl, Lm.nil _ _, below_set2 ((bbox (bbox (bbox hb1))).trans (hb2.mono (by omega))) (by omega) _ _⟩

set_option maxRecDepth 100000 in
set_option maxHeartbeats 1000000 in
theorem rmul_ok (w : World) (na nb : Bool) (A B : Option Addr) (n m ca cb a b : Nat) (hA : Lm w w.heap.size A n ca (digs a)) (hB : Lm w w.heap.size B m cb (digs b)) (hv : chkB na (digs a) nb (digs b) = 0) :
    Calls Tryz.prog 43 #[.agg #[.bool na, .slice A n ca], .agg #[.bool nb, .slice B m cb]] w (RW w (mkN (na != nb) (a * b)) (mkL (a * b)) (mkE (a * b))) := by
  have h41 := (chk_ok.1 (chkB_ok.1 hv).1).1
  have h42 := (chk_ok.1 (chkB_ok.1 hv).2).1
  rw [hA.len] at h41
  rw [hB.len] at h42
  have HA := Lib.hid hA
  have HB := Lib.hid hB
  have HV := Lib.hid hv
  have HP : Hid (val (digs b) * val (digs a) = a * b) := by show _ = _; rw [digs_val, digs_val, Nat.mul_comm]
  clear hv hA hB
  cases na <;> cases nb
  · go_enter Tryz.func43, Tryz.ntmps43
    go_wp2_with fail
    refine (rboth_any _ _ _ _ _ _ _ _ _ _ _ (((HA.out.box _).box _).box _) (((HB.out.box _).box _).box _) 0 HV.out).mono ?_
    rintro e w1 ⟨rfl, hb1⟩
    have ⟨PA0, PB0, PR0⟩ := boxes3 w 29 29 29 (.bool false) (.slice A n ca) (.bool false) (.slice B m cb) (.bool false) (.slice none 0 0)
    have PA := PA0.via hb1
    have PB := PB0.via hb1
    have PR := PR0.via hb1
    have LA := Lib.hid ((((HA.out.box _).box _).box _).via hb1)
    have LB := Lib.hid ((((HB.out.box _).box _).box _).via hb1)
    have HB0 := Lib.hid (bbox (bbox (bbox hb1)))
    clear PA0 PB0 PR0 hb1
    have ⟨a0, a1, _, _, _⟩ := PA
    have ⟨b0, b1, _, _, _⟩ := PB
    have ⟨r0, r1, rf0, rf1, rl⟩ := PR
    go_wp2_with fail
    go_region_held3 (fun w' => (w'.cell? ⟨w.heap.size, 0, none⟩ = some (.bool false) ∧ w'.cell? ⟨w.heap.size, 1, none⟩ = some (.slice A n ca)) ∧ (w'.cell? ⟨w.heap.size + 1, 0, none⟩ = some (.bool false) ∧ w'.cell? ⟨w.heap.size + 1, 1, none⟩ = some (.slice B m cb)))
      (first | exact ⟨⟨a0, a1⟩, ⟨b0, b1⟩⟩ | exact ⟨⟨PAs.c0, PAs.c1⟩, ⟨PBs.c0, PBs.c1⟩⟩ | exact ⟨⟨PAt.c0, PAt.c1⟩, ⟨PBt.c0, PBt.c1⟩⟩ | exact ⟨⟨PAu.c0, PAu.c1⟩, ⟨PBu.c0, PBu.c1⟩⟩ | go_keep)
      (first
       | (go_at_call 66; refine (rtimes_any _ _ _ _ _ _ _ (digs a) (digs b) (a * b) LA.out.drew LB.out.drew (by omega) (by omega) HP.out).mono ?_; rintro e ws ⟨As, cs, ts, rfl, hLs, hvs, hbs⟩; have HVS := Lib.hid hvs; clear hvs; have Bs := (Below.refl w1.heap.size w1).drew.trans hbs; have PAs := PA.via Bs; have PBs := PB.via Bs; have PRs := PR.via Bs)
       | (go_at_call 54; refine (rmade_any _ _ _ _ _ ts (a * b) hLs HVS.out (by omega)).mono ?_; rintro e wt ⟨At, nt, ct, rfl, hLt, hbt⟩; have PAt := PAs.via hbt; have PBt := PBs.via hbt; have PRt := PRs.via hbt; have HBt : Hid (Below w.heap.size w wt) := HB0.out.trans ((Bs.trans (hbt.mono Bs.size)).mono HB0.out.size); have ⟨r0t, r1t, rf0t, rf1t, rlt⟩ := PRt; have PAu := PAt.far (h := w.heap.size + 1 + 1) (by omega) (.bool (mkN false (a * b))) (.slice At nt ct); have PBu := PBt.far (h := w.heap.size + 1 + 1) (by omega) (.bool (mkN false (a * b))) (.slice At nt ct)))
    go_wp2
    exact post_ws Tryz.results43 rfl rfl PRt.c0 PRt.c1 ⟨At, nt, ct, rfl, hLt.setP PRt _ _, below_set2 HBt.out (by omega) _ _⟩
  · go_enter Tryz.func43, Tryz.ntmps43
    go_wp2_with fail
    refine (rboth_any _ _ _ _ _ _ _ _ _ _ _ (((HA.out.box _).box _).box _) (((HB.out.box _).box _).box _) 0 HV.out).mono ?_
    rintro e w1 ⟨rfl, hb1⟩
    have ⟨PA0, PB0, PR0⟩ := boxes3 w 29 29 29 (.bool false) (.slice A n ca) (.bool true) (.slice B m cb) (.bool false) (.slice none 0 0)
    have PA := PA0.via hb1
    have PB := PB0.via hb1
    have PR := PR0.via hb1
    have LA := Lib.hid ((((HA.out.box _).box _).box _).via hb1)
    have LB := Lib.hid ((((HB.out.box _).box _).box _).via hb1)
    have HB0 := Lib.hid (bbox (bbox (bbox hb1)))
    clear PA0 PB0 PR0 hb1
    have ⟨a0, a1, _, _, _⟩ := PA
    have ⟨b0, b1, _, _, _⟩ := PB
    have ⟨r0, r1, rf0, rf1, rl⟩ := PR
    go_wp2_with fail
    go_region_held3 (fun w' => (w'.cell? ⟨w.heap.size, 0, none⟩ = some (.bool false) ∧ w'.cell? ⟨w.heap.size, 1, none⟩ = some (.slice A n ca)) ∧ (w'.cell? ⟨w.heap.size + 1, 0, none⟩ = some (.bool true) ∧ w'.cell? ⟨w.heap.size + 1, 1, none⟩ = some (.slice B m cb)))
      (first | exact ⟨⟨a0, a1⟩, ⟨b0, b1⟩⟩ | exact ⟨⟨PAs.c0, PAs.c1⟩, ⟨PBs.c0, PBs.c1⟩⟩ | exact ⟨⟨PAt.c0, PAt.c1⟩, ⟨PBt.c0, PBt.c1⟩⟩ | exact ⟨⟨PAu.c0, PAu.c1⟩, ⟨PBu.c0, PBu.c1⟩⟩ | go_keep)
      (first
       | (go_at_call 66; refine (rtimes_any _ _ _ _ _ _ _ (digs a) (digs b) (a * b) LA.out.drew LB.out.drew (by omega) (by omega) HP.out).mono ?_; rintro e ws ⟨As, cs, ts, rfl, hLs, hvs, hbs⟩; have HVS := Lib.hid hvs; clear hvs; have Bs := (Below.refl w1.heap.size w1).drew.trans hbs; have PAs := PA.via Bs; have PBs := PB.via Bs; have PRs := PR.via Bs)
       | (go_at_call 54; refine (rmade_any _ _ _ _ _ ts (a * b) hLs HVS.out (by omega)).mono ?_; rintro e wt ⟨At, nt, ct, rfl, hLt, hbt⟩; have PAt := PAs.via hbt; have PBt := PBs.via hbt; have PRt := PRs.via hbt; have HBt : Hid (Below w.heap.size w wt) := HB0.out.trans ((Bs.trans (hbt.mono Bs.size)).mono HB0.out.size); have ⟨r0t, r1t, rf0t, rf1t, rlt⟩ := PRt; have PAu := PAt.far (h := w.heap.size + 1 + 1) (by omega) (.bool (mkN true (a * b))) (.slice At nt ct); have PBu := PBt.far (h := w.heap.size + 1 + 1) (by omega) (.bool (mkN true (a * b))) (.slice At nt ct)))
    go_wp2
    exact post_ws Tryz.results43 rfl rfl PRt.c0 PRt.c1 ⟨At, nt, ct, rfl, hLt.setP PRt _ _, below_set2 HBt.out (by omega) _ _⟩
  · go_enter Tryz.func43, Tryz.ntmps43
    go_wp2_with fail
    refine (rboth_any _ _ _ _ _ _ _ _ _ _ _ (((HA.out.box _).box _).box _) (((HB.out.box _).box _).box _) 0 HV.out).mono ?_
    rintro e w1 ⟨rfl, hb1⟩
    have ⟨PA0, PB0, PR0⟩ := boxes3 w 29 29 29 (.bool true) (.slice A n ca) (.bool false) (.slice B m cb) (.bool false) (.slice none 0 0)
    have PA := PA0.via hb1
    have PB := PB0.via hb1
    have PR := PR0.via hb1
    have LA := Lib.hid ((((HA.out.box _).box _).box _).via hb1)
    have LB := Lib.hid ((((HB.out.box _).box _).box _).via hb1)
    have HB0 := Lib.hid (bbox (bbox (bbox hb1)))
    clear PA0 PB0 PR0 hb1
    have ⟨a0, a1, _, _, _⟩ := PA
    have ⟨b0, b1, _, _, _⟩ := PB
    have ⟨r0, r1, rf0, rf1, rl⟩ := PR
    go_wp2_with fail
    go_region_held3 (fun w' => (w'.cell? ⟨w.heap.size, 0, none⟩ = some (.bool true) ∧ w'.cell? ⟨w.heap.size, 1, none⟩ = some (.slice A n ca)) ∧ (w'.cell? ⟨w.heap.size + 1, 0, none⟩ = some (.bool false) ∧ w'.cell? ⟨w.heap.size + 1, 1, none⟩ = some (.slice B m cb)))
      (first | exact ⟨⟨a0, a1⟩, ⟨b0, b1⟩⟩ | exact ⟨⟨PAs.c0, PAs.c1⟩, ⟨PBs.c0, PBs.c1⟩⟩ | exact ⟨⟨PAt.c0, PAt.c1⟩, ⟨PBt.c0, PBt.c1⟩⟩ | exact ⟨⟨PAu.c0, PAu.c1⟩, ⟨PBu.c0, PBu.c1⟩⟩ | go_keep)
      (first
       | (go_at_call 66; refine (rtimes_any _ _ _ _ _ _ _ (digs a) (digs b) (a * b) LA.out.drew LB.out.drew (by omega) (by omega) HP.out).mono ?_; rintro e ws ⟨As, cs, ts, rfl, hLs, hvs, hbs⟩; have HVS := Lib.hid hvs; clear hvs; have Bs := (Below.refl w1.heap.size w1).drew.trans hbs; have PAs := PA.via Bs; have PBs := PB.via Bs; have PRs := PR.via Bs)
       | (go_at_call 54; refine (rmade_any _ _ _ _ _ ts (a * b) hLs HVS.out (by omega)).mono ?_; rintro e wt ⟨At, nt, ct, rfl, hLt, hbt⟩; have PAt := PAs.via hbt; have PBt := PBs.via hbt; have PRt := PRs.via hbt; have HBt : Hid (Below w.heap.size w wt) := HB0.out.trans ((Bs.trans (hbt.mono Bs.size)).mono HB0.out.size); have ⟨r0t, r1t, rf0t, rf1t, rlt⟩ := PRt; have PAu := PAt.far (h := w.heap.size + 1 + 1) (by omega) (.bool (mkN true (a * b))) (.slice At nt ct); have PBu := PBt.far (h := w.heap.size + 1 + 1) (by omega) (.bool (mkN true (a * b))) (.slice At nt ct)))
    go_wp2
    exact post_ws Tryz.results43 rfl rfl PRt.c0 PRt.c1 ⟨At, nt, ct, rfl, hLt.setP PRt _ _, below_set2 HBt.out (by omega) _ _⟩
  · go_enter Tryz.func43, Tryz.ntmps43
    go_wp2_with fail
    refine (rboth_any _ _ _ _ _ _ _ _ _ _ _ (((HA.out.box _).box _).box _) (((HB.out.box _).box _).box _) 0 HV.out).mono ?_
    rintro e w1 ⟨rfl, hb1⟩
    have ⟨PA0, PB0, PR0⟩ := boxes3 w 29 29 29 (.bool true) (.slice A n ca) (.bool true) (.slice B m cb) (.bool false) (.slice none 0 0)
    have PA := PA0.via hb1
    have PB := PB0.via hb1
    have PR := PR0.via hb1
    have LA := Lib.hid ((((HA.out.box _).box _).box _).via hb1)
    have LB := Lib.hid ((((HB.out.box _).box _).box _).via hb1)
    have HB0 := Lib.hid (bbox (bbox (bbox hb1)))
    clear PA0 PB0 PR0 hb1
    have ⟨a0, a1, _, _, _⟩ := PA
    have ⟨b0, b1, _, _, _⟩ := PB
    have ⟨r0, r1, rf0, rf1, rl⟩ := PR
    go_wp2_with fail
    go_region_held3 (fun w' => (w'.cell? ⟨w.heap.size, 0, none⟩ = some (.bool true) ∧ w'.cell? ⟨w.heap.size, 1, none⟩ = some (.slice A n ca)) ∧ (w'.cell? ⟨w.heap.size + 1, 0, none⟩ = some (.bool true) ∧ w'.cell? ⟨w.heap.size + 1, 1, none⟩ = some (.slice B m cb)))
      (first | exact ⟨⟨a0, a1⟩, ⟨b0, b1⟩⟩ | exact ⟨⟨PAs.c0, PAs.c1⟩, ⟨PBs.c0, PBs.c1⟩⟩ | exact ⟨⟨PAt.c0, PAt.c1⟩, ⟨PBt.c0, PBt.c1⟩⟩ | exact ⟨⟨PAu.c0, PAu.c1⟩, ⟨PBu.c0, PBu.c1⟩⟩ | go_keep)
      (first
       | (go_at_call 66; refine (rtimes_any _ _ _ _ _ _ _ (digs a) (digs b) (a * b) LA.out.drew LB.out.drew (by omega) (by omega) HP.out).mono ?_; rintro e ws ⟨As, cs, ts, rfl, hLs, hvs, hbs⟩; have HVS := Lib.hid hvs; clear hvs; have Bs := (Below.refl w1.heap.size w1).drew.trans hbs; have PAs := PA.via Bs; have PBs := PB.via Bs; have PRs := PR.via Bs)
       | (go_at_call 54; refine (rmade_any _ _ _ _ _ ts (a * b) hLs HVS.out (by omega)).mono ?_; rintro e wt ⟨At, nt, ct, rfl, hLt, hbt⟩; have PAt := PAs.via hbt; have PBt := PBs.via hbt; have PRt := PRs.via hbt; have HBt : Hid (Below w.heap.size w wt) := HB0.out.trans ((Bs.trans (hbt.mono Bs.size)).mono HB0.out.size); have ⟨r0t, r1t, rf0t, rf1t, rlt⟩ := PRt; have PAu := PAt.far (h := w.heap.size + 1 + 1) (by omega) (.bool (mkN false (a * b))) (.slice At nt ct); have PBu := PBt.far (h := w.heap.size + 1 + 1) (by omega) (.bool (mkN false (a * b))) (.slice At nt ct)))
    go_wp2
    exact post_ws Tryz.results43 rfl rfl PRt.c0 PRt.c1 ⟨At, nt, ct, rfl, hLt.setP PRt _ _, below_set2 HBt.out (by omega) _ _⟩
end Go.Proofs.YtglgfjknhplajaaGreatDoor

/- The reference's arithmetic on numbers of known size, and DivMod of the code, in whole numbers. -/
namespace Go.Proofs.YtglgfjknhplajaaGreatDoor
open Go.RowKit

theorem mkN_toI {neg : Bool} {v : Nat} (hl : (digs v).length ≤ 4096) : mkN neg v = decide (toI neg v < 0) := by
  rw [← toI_neg]
  unfold mkN
  rw [decide_eq_true hl, Bool.true_and]
  by_cases h : toI neg v < 0
  · rw [decide_eq_true h, decide_eq_true (show v ≠ 0 from fun e => by subst e; unfold toI at h; cases neg <;> simp at h)]; rfl
  · rw [decide_eq_false h]; rfl
theorem rw_rn {w : World} {neg : Bool} {v : Nat} (hl : (digs v).length ≤ 4096) {e : Ending} {w' : World} (h : RW w (mkN neg v) (mkL v) (mkE v) e w') : RN w (toI neg v) e w' := by
  have h2 : mkL v = digs v := by unfold mkL; rw [if_pos hl]
  have h3 : mkE v = 0 := by unfold mkE; rw [if_pos hl]
  rw [mkN_toI hl, h2, h3] at h
  unfold RN
  rw [toI_abs]
  exact h
section
variable (w : World) (A B : Option Addr) (n m ca cb k : Nat) (x y : Int) (hA : Lm w w.heap.size A n ca (digs x.natAbs)) (hB : Lm w w.heap.size B m cb (digs y.natAbs)) (hx : Sz k x) (hy : Sz k y) (hk : k ≤ 2000)
include hA hx hk
theorem rcheck_n {na : Bool} (ha : decide (x < 0) = na) : Calls Tryz.prog 82 #[.agg #[.bool na, .slice A n ca]] w fun e w' => e = .returned (.int .i64 0) ∧ Below w.heap.size w w' := by
  subst ha
  exact rcheck_ok w _ A n ca _ hA (chk_z hx (by omega))
include hB hy
theorem radd_n {na nb : Bool} (ha : decide (x < 0) = na) (hb : decide (y < 0) = nb) : Calls Tryz.prog 55 #[.agg #[.bool na, .slice A n ca], .agg #[.bool nb, .slice B m cb]] w (RN w (x + y)) := by
  subst ha hb
  have h := radd_ok w _ _ A B n m ca cb _ _ hA hB (chkB_z hx (by omega) hy (by omega))
  rw [toI_self, toI_self] at h
  exact h.mono fun e w' hr => rz_rn (hx.add hy) (by omega) hr
theorem rmul_n {na nb : Bool} (ha : decide (x < 0) = na) (hb : decide (y < 0) = nb) : Calls Tryz.prog 43 #[.agg #[.bool na, .slice A n ca], .agg #[.bool nb, .slice B m cb]] w (RN w (x * y)) := by
  subst ha hb
  have h := rmul_ok w _ _ A B n m ca cb _ _ hA hB (chkB_z hx (by omega) hy (by omega))
  have e1 := rz_of w (decide (x < 0) != decide (y < 0)) (x.natAbs * y.natAbs) (z := x * y) (by rw [← toI_mul, toI_self, toI_self])
  rw [e1] at h
  exact h.mono fun e w' hr => rz_rn (hx.mul hy) (by omega) hr
theorem rcompared_n {na nb : Bool} (ha : decide (x < 0) = na) (hb : decide (y < 0) = nb) : Calls Tryz.prog 44 #[.agg #[.bool na, .slice A n ca], .agg #[.bool nb, .slice B m cb]] w fun e w' => e = .returned (.int .i64 (cmpZ x y)) ∧ Below w.heap.size w w' := by
  have _ := hx
  have _ := hy
  have _ := hk
  subst ha hb
  have h := rcompared_any w (decide (x < 0)) (decide (y < 0)) A B n m ca cb _ _ hA hB (fun h e => by have h1 : x < 0 := (by simpa using h); omega) (fun h e => by have h1 : y < 0 := (by simpa using h); omega)
  rw [toI_self, toI_self] at h
  exact h
end

/-- A call returns quotient and remainder, rounded down. -/
def RD2 (w : World) (x y : Int) (e : Ending) (w' : World) : Prop := ∃ q r : Int, x = q * y + r ∧ r.natAbs < y.natAbs ∧ (r = 0 ∨ decide (r < 0) = decide (y < 0)) ∧ q.natAbs ≤ x.natAbs ∧
  ∃ A n c A' n' c', e = .returned (.tuple #[.agg #[.bool (decide (q < 0)), .slice A n c], .agg #[.bool (decide (r < 0)), .slice A' n' c'], .int .i64 0]) ∧ Lm w' w'.heap.size A n c (digs q.natAbs) ∧ Lm w' w'.heap.size A' n' c' (digs r.natAbs) ∧ Below w.heap.size w w'
theorem rww_rd2 {w : World} {x y : Int} {n1 n2 : Bool} {v1 v2 : Nat} (h1 : (digs v1).length ≤ 4096) (h2 : (digs v2).length ≤ 4096) (e1 : x = toI n1 v1 * y + toI n2 v2) (e2 : v2 < y.natAbs) (e3 : v2 = 0 ∨ n2 = decide (y < 0)) (e4 : v1 ≤ x.natAbs)
    {e : Ending} {w' : World} (h : RWW w (mkN n1 v1) (digs v1) (mkN n2 v2) (digs v2) 0 e w') : RD2 w x y e w' := by
  refine ⟨toI n1 v1, toI n2 v2, e1, by rw [toI_abs]; exact e2, ?_, by rw [toI_abs]; exact e4, ?_⟩
  · rcases e3 with e3 | e3
    · left; subst e3; unfold toI; split <;> rfl
    · rcases Nat.eq_zero_or_pos v2 with h0 | h0
      · left; subst h0; unfold toI; split <;> rfl
      · right
        subst e3
        unfold toI
        by_cases hy : y < 0
        · rw [decide_eq_true hy, if_pos rfl]; simp; omega
        · rw [decide_eq_false hy, if_neg (by simp)]; simp
  · rw [mkN_toI h1, mkN_toI h2] at h
    rw [toI_abs, toI_abs]
    exact h
theorem divmod_n (w : World) (A B : Option Addr) (n m ca cb k : Nat) (x y : Int) (hA : Lm w w.heap.size A n ca (digs x.natAbs)) (hB : Lm w w.heap.size B m cb (digs y.natAbs)) (hx : Sz k x) (hy : Sz k y) (hk : k ≤ 2000) (hy0 : y ≠ 0)
    {na nb : Bool} (ha : decide (x < 0) = na) (hb : decide (y < 0) = nb) :
    Calls Tryz.prog 46 #[.agg #[.bool na, .slice A n ca], .agg #[.bool nb, .slice B m cb]] w (RD2 w x y) := by
  have hv := chkB_z hx (show k ≤ 4096 by omega) hy (show k ≤ 4096 by omega)
  rw [ha, hb] at hv
  have hxl : (digs x.natAbs).length ≤ 4096 := Nat.le_trans hx.len (by omega)
  have hyl : (digs y.natAbs).length ≤ 4096 := Nat.le_trans hy.len (by omega)
  have hbp : 0 < y.natAbs := by omega
  have ex : toI na x.natAbs = x := by rw [← ha]; exact toI_self x
  have ey : toI nb y.natAbs = y := by rw [← hb]; exact toI_self y
  have hdm := Nat.div_add_mod x.natAbs y.natAbs
  have hml := Nat.mod_lt x.natAbs hbp
  have hdl := Nat.div_le_self x.natAbs y.natAbs
  have hm2 := Nat.mod_le x.natAbs y.natAbs
  have key : ∀ (s t : Bool), toI t y.natAbs = y → toI s (x.natAbs / y.natAbs) * y + toI (s != t) (x.natAbs % y.natAbs) = toI (s != t) x.natAbs := by
    intro s t ht
    have e := toI_mul s t (x.natAbs / y.natAbs) y.natAbs
    rw [ht] at e
    rw [e, toI_same rfl, Nat.mul_comm, hdm]
  by_cases hs : na = nb
  · refine (divmod_same w na nb A B n m ca cb _ _ hA hB hv hbp hs).mono fun e w' h => rww_rd2 (Nat.le_trans (digs_mono hdl) hxl) (Nat.le_trans (digs_mono hm2) hxl) ?_ hml (.inr hb.symm) hdl h
    have h1 := key false nb ey
    subst hs
    rw [show (false != na) = na from by cases na <;> rfl, ex] at h1
    exact h1.symm
  · have hs2 : na = true ∧ nb = false ∨ na = false ∧ nb = true := by cases na <;> cases nb <;> simp_all
    have hnn : (true != nb) = na := by cases na <;> cases nb <;> simp_all
    have h1 := key true nb ey
    rw [hnn, ex] at h1
    rcases Nat.eq_zero_or_pos (x.natAbs % y.natAbs) with h0 | h0
    · refine (divmod_exact w na nb A B n m ca cb _ _ hA hB hv hbp hs2 h0).mono fun e w' h => rww_rd2 (Nat.le_trans (digs_mono hdl) hxl) (Nat.le_trans (digs_mono hm2) hxl) ?_ hml (.inl h0) hdl h
      have h6 : ∀ s : Bool, toI s 0 = 0 := by intro s; unfold toI; cases s <;> rfl
      rw [h0, h6] at h1
      rw [h0, h6]
      exact h1.symm
    · have hq1 : x.natAbs / y.natAbs + 1 ≤ x.natAbs := by
        have h2 : 2 ≤ y.natAbs := by omega
        have h3 := Nat.mul_le_mul_right (x.natAbs / y.natAbs) h2
        omega
      refine (divmod_down w na nb A B n m ca cb _ _ hA hB hv hbp hs2 h0).mono fun e w' h => rww_rd2 (Nat.le_trans (digs_mono hq1) hxl) (Nat.le_trans (digs_mono (show y.natAbs - x.natAbs % y.natAbs ≤ y.natAbs by omega)) hyl) ?_ (by omega) (.inr hb.symm) hq1 h
      have h4 : toI true (x.natAbs / y.natAbs + 1) = toI true (x.natAbs / y.natAbs) - 1 := by unfold toI; simp; omega
      rw [h4, Int.sub_mul, Int.one_mul]
      have h5 : toI nb (y.natAbs - x.natAbs % y.natAbs) - y = toI na (x.natAbs % y.natAbs) := by
        rw [← ey, toI_abs]
        unfold toI
        cases na <;> cases nb <;> simp_all <;> omega
      omega
end Go.Proofs.YtglgfjknhplajaaGreatDoor

/- Package frac: must, quotient, divided. -/
namespace Go.Proofs.YtglgfjknhplajaaGreatDoor
open Go.RowKit

/-- The results of a function that returns two numbers. -/
theorem res_w2 {fn : Func} {r s : Nat} (hr : fn.results = #[.cell r 29, .cell s 29]) {tmps : Array Value} {w : World} {g h : Nat} {x y x' y' : Value}
    (ht : tmps.getD r undef = .pointer (some ⟨g, 0, none⟩)) (hs : tmps.getD s undef = .pointer (some ⟨h, 0, none⟩)) (p : Pr w g x y) (q : Pr w h x' y') :
    (results fn tmps).run Tryz.prog w = .ok (.tuple #[.agg #[x, y], .agg #[x', y']]) w := by
  rw [Array.getD_eq_getD_getElem?] at ht hs
  simp [results, hr, go_sem, ht, hs, p.c0, p.c1, q.c0, q.c1]
/-- A call returns quotient and remainder, rounded down, without an error. -/
def RQR (w : World) (x y : Int) (e : Ending) (w' : World) : Prop := ∃ q r : Int, x = q * y + r ∧ r.natAbs < y.natAbs ∧ (r = 0 ∨ decide (r < 0) = decide (y < 0)) ∧ q.natAbs ≤ x.natAbs ∧
  ∃ A n c A' n' c', e = .returned (.tuple #[.agg #[.bool (decide (q < 0)), .slice A n c], .agg #[.bool (decide (r < 0)), .slice A' n' c']]) ∧ Lm w' w'.heap.size A n c (digs q.natAbs) ∧ Lm w' w'.heap.size A' n' c' (digs r.natAbs) ∧ Below w.heap.size w w'
end Go.Proofs.YtglgfjknhplajaaGreatDoor

/- The reference's left and short. -/
namespace Go.Proofs.YtglgfjknhplajaaGreatDoor
open Go.RowKit

/-- .. in a block of its own. -/
def RLo (w : World) (N v : Nat) (e : Ending) (w' : World) : Prop := ∃ A c ts, e = .returned (.slice A N c) ∧ Ow w' w.heap.size (.slice A N c) ts ∧ Good ts ∧ ts.length = N ∧ val ts = v ∧ Below w.heap.size w w'

set_option maxRecDepth 100000 in
set_option maxHeartbeats 1000000 in
theorem rleft_own (w : World) (A : Option Addr) (n c s : Nat) (xs : List Nat) (v : Nat) (hA : Lm w w.heap.size A n c xs) (hn : n ≤ 100000000) (hs32 : s < 32) (hv : val xs * 2 ^ s = v) :
    Calls Tryz.prog 108 #[.slice A n c, .int .u64 (s : Int)] w (RLo w (n + 1) v) := by
  have h1 := hA.cap
  have h2 := hA.max
  have HA := Lib.hid hA
  have HV := Lib.hid hv
  clear hA hv
  go_enter Tryz.func108, Tryz.ntmps108
  go_wp2
  go_loopw [5, 6, 7] (fun u cy i wr => ∃ k : Nat, k ≤ n ∧ i = .int .i64 k ∧ cy = .int .u64 ((mulK [] xs (2 ^ s) k).2 : Nat) ∧ Ow wr w.heap.size u (mulK [] xs (2 ^ s) k).1 ∧ Below w.heap.size w wr) (fun _ _ i _ => n - (intOf i).toNat)
  case atStart => exact ⟨0, Nat.zero_le _, rfl, rfl, Ow.nil _ _, Below.refl _ _⟩
  case round =>
    obtain ⟨k, hk, rfl, rfl, hO, hb⟩ := hrel
    have HO := Lib.hid hO
    have HBl := Lib.hid hb
    clear hO hb
    have hp31 : 2 ^ s ≤ 2147483648 := Nat.pow_le_pow_right (by omega) (show s ≤ 31 by omega)
    have hcy := shl_carry HA.out.good hp31 k
    have HLn := Lib.hid (mulK_len [] xs (2 ^ s) k)
    have hc32 : (mulK [] xs (2 ^ s) k).2 < 4294967296 := by omega
    clear hcy
    by_cases hlt : k < n
    · obtain ⟨b, bo, rfl, hbb, hcx⟩ := (HA.out.below HBl.out).cell hlt
      have hxg := HA.out.good.get k
      have hmx : xs[k]?.getD 0 * 2 ^ s ≤ 4294967295 * 2147483648 := Nat.mul_le_mul (by omega) hp31
      obtain ⟨S, hS⟩ : ∃ S : Nat, S = (mulK [] xs (2 ^ s) k).2 + (xs[k]?.getD 0 * 2 ^ s + 0) := ⟨_, rfl⟩
      have HX : Hid (IntKind.u64.wrap ((((mulK [] xs (2 ^ s) k).2 : Nat) : Int) + IntKind.u64.wrap (((xs[k]?.getD 0 : Nat) : Int) * 2 ^ s)) = (S : Int)) := by
        show _ = _
        rw [cast_shl, Nat.mul_comm, wrap_nat, Nat.mod_eq_of_lt (by omega), IntKind.wrap_u64]
        omega
      have HS : Hid (mulK [] xs (2 ^ s) (k + 1) = ((mulK [] xs (2 ^ s) k).1 ++ [S % 4294967296], S / 4294967296)) := by show _ = _; rw [hS]; rfl
      clear hS
      have hSb : S < 18446744073709551616 := by have := HX.out; rw [IntKind.wrap_u64] at this; omega
      go_wp2_with (at_builtin; refine wpList_append_u32 _ rfl _ _ rfl w.heap.size _ _ rfl HO.out _ (S % 4294967296) 1 (by rw [HX.out]; omega) (by have := HLn.out; omega) HBl.out.size rfl ?_; intro u' w1 hO1 hg1)
      go_roundw
      case rel =>
        refine ⟨k + 1, by omega, by go_num, ?_, hO1.eq ?_, HO.out.below HBl.out HBl.out.size hg1⟩
        · rw [HX.out, HS.out]
          exact congrArg (Value.int IntKind.u64) (Int.natCast_ediv _ _).symm
        · rw [HS.out]
      case measure => simp [intOf]; omega
    · obtain rfl : k = n := by omega
      have hgd : Hid (Good ((mulK [] xs (2 ^ s) k).1 ++ [(mulK [] xs (2 ^ s) k).2])) := (mulK_good _ _ _ _).append (Good.nil.cons hc32)
      have hlen : Hid (((mulK [] xs (2 ^ s) k).1 ++ [(mulK [] xs (2 ^ s) k).2]).length = k + 1) := by show _ = _; rw [List.length_append, HLn.out]; rfl
      have hvs : Hid (val ((mulK [] xs (2 ^ s) k).1 ++ [(mulK [] xs (2 ^ s) k).2]) = v) := by
        show _ = _
        have e := mulK_val [] xs (2 ^ s) k
        rw [val_snoc, mulK_len, e, List.take_of_length_le (by rw [HA.out.len]; exact Nat.le_refl _), ← HV.out]
        simp only [List.take_nil, val_nil, Nat.add_zero]
      go_wp2_with (at_builtin; refine wpList_append_u32 _ rfl _ _ rfl w.heap.size _ _ rfl HO.out _ ((mulK [] xs (2 ^ s) k).2) 1 (by omega) (by have := HLn.out; omega) HBl.out.size rfl ?_; intro u1 w1 hO1 hg1)
      go_ret
      obtain ⟨A1, c1, rfl, hL1⟩ := hO1.lm hgd.out
      rw [hlen.out] at hL1 hO1 ⊢
      exact ⟨A1, c1, _, rfl, hO1, hgd.out, hlen.out, hvs.out, HO.out.below HBl.out HBl.out.size hg1⟩

set_option maxRecDepth 100000 in
set_option maxHeartbeats 1000000 in
theorem rshort_any (w : World) (A : Option Addr) (n c d : Nat) (xs : List Nat) (v : Nat) (hA : Lm w w.heap.size A n c xs) (hn : n ≤ 100000000) (hd : 0 < d) (hd9 : d < 4294967296) (hv : val xs = v) :
    Calls Tryz.prog 107 #[.slice A n c, .int .u32 (d : Int)] w (RD w (v / d) (v % d)) := by
  have h1 := hA.cap
  have h2 := hA.max
  have hG := hA.good
  have hn' := hA.len
  have HA := Lib.hid hA
  have HV := Lib.hid hv
  have hd0 : ¬ ((d : Int) = 0) := by omega
  clear hA hv
  have hmk := fun w => run_make_u32 (n : Int) (n : Int) n rfl rfl (by omega) w
  go_enter Tryz.func107, Tryz.ntmps107
  go_wp2
  clear hmk
  go_loopw [7, 8] (fun r i wr => ∃ k : Nat, k ≤ n ∧ i = .int .i64 ((k : Int) - 1) ∧ r = .int .u64 ((dvL d (xs.drop k)).2 : Nat) ∧ Ld wr w.heap.size (zer k ++ (dvL d (xs.drop k)).1) ∧ Below w.heap.size w wr) (fun _ i _ => (intOf i + 1).toNat)
  case atStart => exact ⟨n, Nat.le_refl _, rfl, by rw [List.drop_of_length_le (by omega)]; rfl, by rw [List.drop_of_length_le (by omega)]; show Ld _ _ (zer n ++ []); rw [List.append_nil]; exact Ld.new _ _, (Below.refl _ _).alloc (Nat.le_refl _) _⟩
  case round =>
    obtain ⟨k, hk, rfl, rfl, hO, hb⟩ := hrel
    have HO := Lib.hid hO
    have HBl := Lib.hid hb
    have hgs := hO.lt
    clear hO hb
    have hlen : (zer k ++ (dvL d (xs.drop k)).1).length = n := by rw [List.length_append, dvL_len, zer_len, List.length_drop]; omega
    have HLen := Lib.hid hlen
    have hr := dvL_lt hd (xs.drop k)
    rcases k with _ | k
    · have HQ := Lib.hid (dvL_quot hd xs)
      have HGq := Lib.hid (dvL_good hd hG)
      have HL : Hid (Lm wr wr.heap.size (some ⟨w.heap.size, 0, none⟩) n n (dvL d xs).1) := by
        have e := HO.out.lm (by rw [List.drop_zero]; exact (zer_good 0).append HGq.out) (off := 0) (n := n) (c := n) (by omega) (Nat.le_refl _) (by omega)
        rw [List.drop_zero, List.take_of_length_le (by omega)] at e
        exact e
      have HVq : Hid (val (dvL d xs).1 = v / d) := by show _ = _; rw [HQ.out.1, HV.out]
      have HVr : Hid (val [(dvL d xs).2] = v % d) := by show _ = _; rw [val_one, HQ.out.2, HV.out]
      rw [List.drop_zero] at hr ⊢
      clear hlen hn'
      go_wp2_with fail
      refine (rtrim_any _ _ _ _ _ (v / d) HL.out HVq.out (by omega)).mono ?_
      rintro e w1 ⟨A1, c1, rfl, hL1, hb1⟩
      have HL1 := Lib.hid hL1
      have HB1 := Lib.hid (HBl.out.trans (hb1.mono HBl.out.size))
      clear hL1 hb1
      go_wp2_with fail
      refine (rtrim_any _ _ _ _ _ (v % d) (Lm.one w1 (dvL d xs).2 _ (by omega) (by omega)) HVr.out (by omega)).mono ?_
      rintro e w2 ⟨A2, c2, rfl, hL2, hb2⟩
      go_wp2
      go_ret2
      exact ⟨A1, c1, A2, c2, rfl, HL1.out.via (bbox hb2), hL2, HB1.out.trans ((bbox hb2).mono HB1.out.size)⟩
    · have hct := HO.out.cell (i := k) (by omega)
      have hfr := HO.out.frozen k
      obtain ⟨b, bo, rfl, hbb, hcx⟩ := (HA.out.below HBl.out).cell (k := k) (by omega)
      have hxg := hG.get k
      have HStep : Hid (dvL d (xs.drop k) = (((dvL d (xs.drop (k + 1))).2 * 4294967296 + xs[k]?.getD 0) / d :: (dvL d (xs.drop (k + 1))).1, ((dvL d (xs.drop (k + 1))).2 * 4294967296 + xs[k]?.getD 0) % d)) := by
        show _ = _
        rw [drop_cons_ xs k (by omega)]; rfl
      have hq : ((dvL d (xs.drop (k + 1))).2 * 4294967296 + xs[k]?.getD 0) / d < 4294967296 := by
        rw [Nat.div_lt_iff_lt_mul hd]
        have : ((dvL d (xs.drop (k + 1))).2 + 1) * 4294967296 ≤ d * 4294967296 := Nat.mul_le_mul_right _ hr
        omega
      obtain ⟨T, hT⟩ : ∃ T : Nat, T = (dvL d (xs.drop (k + 1))).2 * 4294967296 + xs[k]?.getD 0 := ⟨_, rfl⟩
      have hTi : (((dvL d (xs.drop (k + 1))).2 : Nat) : Int) * 4294967296 + ((xs[k]?.getD 0 : Nat) : Int) = (T : Int) := by rw [hT]; omega
      rw [← hT] at hq HStep
      have hT9 : T < 18446744073709551616 := by omega
      clear hT hlen hn'
      have HQ : Hid (IntKind.u64.wrap ((T : Int) / (d : Int)) % 4294967296 = ((T / d : Nat) : Int)) := by
        show _ = _
        rw [← Int.natCast_ediv, wrap_nat]
        generalize T / d = q at hq ⊢
        omega
      have HR : Hid ((T : Int) % (d : Int) = ((T % d : Nat) : Int)) := by
        show _ = _
        rw [← Int.natCast_emod]
      go_wp2
      go_roundw
      case rel =>
        refine ⟨k, by omega, by go_num, ?_, ?_, HBl.out.setCell (p := ⟨w.heap.size, k, none⟩) (Nat.le_refl _) _⟩
        · rw [HStep.out]
          exact congrArg (Value.int IntKind.u64) HR.out
        · rw [HQ.out, HStep.out]
          have e := HO.out.set_ k (T / d)
          have e2 : (zer (k + 1) ++ (dvL d (xs.drop (k + 1))).1).set k (T / d) = zer k ++ (T / d :: (dvL d (xs.drop (k + 1))).1) := by
            have e3 := set_mid (zer k) [] ([0] ++ (dvL d (xs.drop (k + 1))).1) (T / d) (by simp)
            rw [zer_len] at e3
            have e4 : zer (k + 1) = zer k ++ [0] := by unfold zer; exact List.replicate_succ'
            rw [e4, List.append_assoc]
            exact e3
          rw [e2] at e
          exact e
      case measure => simp [intOf]
end Go.Proofs.YtglgfjknhplajaaGreatDoor

/- The reference's long division, in numbers. -/
namespace Go.Proofs.YtglgfjknhplajaaGreatDoor
open Go.RowKit

/-- The reference's two carries together are the code's one. -/
theorem dg_step {S c b m p : Nat} (hS : c + b = S) (hb : b ≤ 1) (hp : p < 4294967296) :
    (p + 8589934592 - (c + m) % 4294967296 - b) % 4294967296 = (p + 4294967296 - (S + m) % 4294967296) % 4294967296 ∧
    (c + m) / 4294967296 + (if p < (c + m) % 4294967296 + b then 1 else 0) = (S + m) / 4294967296 + (if p < (S + m) % 4294967296 then 1 else 0) := by
  subst hS
  constructor
  · omega
  · split <;> split <;> omega

/-- What is left once nothing is to be borrowed. -/
theorem dg_done {X V T q : Nat} (hV : 0 < V) (h : T + V * q = X) (hq : X / V ≤ q) : X / V = q ∧ T = X % V := by
  have h1 : q ≤ X / V := by
    rw [Nat.le_div_iff_mul_le hV, Nat.mul_comm]
    omega
  have h2 : X / V = q := by omega
  refine ⟨h2, ?_⟩
  have h3 := Nat.div_add_mod X V
  rw [h2] at h3
  omega
/-- As long as something is to be borrowed, the digit is too great. -/
theorem dg_more {X V T q P : Nat} (_ : 0 < V) (h : T + V * q = X + P) (hT : T < P) : 1 ≤ q ∧ X / V ≤ q - 1 := by
  have h1 : X < V * q := by omega
  have h2 : X / V < q := Nat.div_lt_of_lt_mul h1
  generalize X / V = z at *
  exact ⟨by omega, by omega⟩
/-- Adding the divisor back: the carry is 0 or 1. -/
theorem dg_back {X V T T' q P cy : Nat} (hq : 1 ≤ q) (h : T + V * q = X + P) (hb : T' + P * cy = T + V) (hc : cy ≤ 1) : T' + V * (q - 1) = X + P * (1 - cy) := by
  have e : V * q = V * (q - 1) + V := by
    obtain ⟨r, rfl⟩ : ∃ r, q = r + 1 := ⟨q - 1, by omega⟩
    rw [Nat.add_sub_cancel, Nat.mul_add, Nat.mul_one]
  rcases Nat.eq_zero_or_pos cy with h0 | h0
  · subst h0; simp at hb ⊢; omega
  · obtain rfl : cy = 1 := by omega
    simp at hb ⊢; omega

/-! ### The rest moved back to the right -/
def shrL (s : Nat) (rs : List Nat) : Nat → List Nat
  | 0 => []
  | k + 1 => shrL s rs k ++ [(rs[k]?.getD 0 + 4294967296 * rs[k + 1]?.getD 0) / 2 ^ s % 4294967296]
theorem shrL_len (s : Nat) (rs : List Nat) (k : Nat) : (shrL s rs k).length = k := by
  induction k with
  | zero => rfl
  | succ k ih => unfold shrL; rw [List.length_append, ih]; rfl
theorem limb_at {rs : List Nat} (g : Good rs) (k : Nat) : val rs / 4294967296 ^ k = rs[k]?.getD 0 + 4294967296 * val (rs.drop (k + 1)) := by
  rw [← val_drop rs g k, val_step]
theorem pow_split (s : Nat) (hs : s < 32) : (4294967296 : Nat) = 2 ^ s * 2 ^ (32 - s) := by
  rw [← Nat.pow_add, show s + (32 - s) = 32 by omega]
theorem shr_limb {rs : List Nat} (g : Good rs) (s : Nat) (hs : s < 32) (k : Nat) : val rs / 2 ^ s / 4294967296 ^ k % 4294967296 = (rs[k]?.getD 0 + 4294967296 * rs[k + 1]?.getD 0) / 2 ^ s % 4294967296 := by
  rw [Nat.div_div_eq_div_mul, Nat.mul_comm, ← Nat.div_div_eq_div_mul, limb_at g k, val_step]
  generalize rs[k]?.getD 0 = x
  generalize rs[k + 1]?.getD 0 = y
  generalize val (rs.drop (k + 1 + 1)) = z
  have e : x + 4294967296 * (y + 4294967296 * z) = (x + 4294967296 * y) + 2 ^ s * (4294967296 * (2 ^ (32 - s) * z)) := by
    have e1 : 2 ^ s * (4294967296 * (2 ^ (32 - s) * z)) = 4294967296 * (4294967296 * z) := by
      rw [Nat.mul_left_comm, ← Nat.mul_assoc (2 ^ s), ← pow_split s hs]
    rw [e1]; omega
  rw [e, Nat.add_mul_div_left _ _ (Nat.pow_pos (by omega)), Nat.add_mul_mod_self_left]
theorem shrL_lims {rs : List Nat} (g : Good rs) (s : Nat) (hs : s < 32) (k : Nat) : shrL s rs k = lims (val rs / 2 ^ s) k := by
  induction k with
  | zero => rfl
  | succ k ih => unfold shrL lims; rw [ih, shr_limb g s hs k]
theorem shrL_val {rs : List Nat} (g : Good rs) (s : Nat) (hs : s < 32) {n : Nat} (hn : rs.length = n) : val (shrL s rs n) = val rs / 2 ^ s := by
  rw [shrL_lims g s hs, lims_val]
  have h := val_lt g
  rw [hn] at h
  exact Nat.mod_eq_of_lt (Nat.lt_of_le_of_lt (Nat.div_le_self _ _) h)
end Go.Proofs.YtglgfjknhplajaaGreatDoor

/- The reference's digit. -/
namespace Go.Proofs.YtglgfjknhplajaaGreatDoor
open Go.RowKit

theorem spl_get {cs M : List Nat} {off k : Nat} (h : off + M.length ≤ cs.length) (hk : k < M.length) : (spl cs off M)[off + k]?.getD 0 = M[k]?.getD 0 := by
  have hl : (cs.take off).length = off := by rw [List.length_take]; omega
  unfold spl
  rw [List.getElem?_append_right (by omega), hl, Nat.add_sub_cancel_left, List.getElem?_append_left hk]
theorem spl_seti {cs M : List Nat} {off k : Nat} (t : Nat) (h : off + M.length ≤ cs.length) (hk : k < M.length) : (spl cs off M).set (off + k) t = spl cs off (M.set k t) := by
  have hl : (cs.take off).length = off := by rw [List.length_take]; omega
  unfold spl
  rw [List.set_append_right _ _ (by omega), hl, Nat.add_sub_cancel_left, List.set_append_left _ _ hk, List.length_set]

set_option maxRecDepth 100000 in
set_option maxHeartbeats 4000000 in
theorem rdigit_any (w : World) (g off c n cb : Nat) (B : Option Addr) (cs ys : List Nat) (V : Nat) (hO : Ob w g cs) (hG : Good cs) (hB : Lm w g B n cb ys) (hn2 : 2 ≤ n) (hn9 : n ≤ 1000000000) (hc : n + 1 ≤ c) (hc9 : c ≤ 9223372036854775807)
    (hoff : off + n < cs.length) (hV : val ys = V) (hV0 : 0 < V) (h1 : 1 ≤ ys[n - 1]?.getD 0) (hle : cs[off + n]?.getD 0 ≤ ys[n - 1]?.getD 0)
    (hX : val ((cs.drop off).take (n + 1)) / V ≤ gs (ys[n - 1]?.getD 0) (ys[n - 2]?.getD 0) (cs[off + n]?.getD 0) (cs[off + (n - 1)]?.getD 0) (cs[off + (n - 2)]?.getD 0)) :
    Calls Tryz.prog 109 #[.slice (some ⟨g, off, none⟩) (n + 1) c, .slice B n cb] w fun e w' => e = .returned (.int .u32 ((val ((cs.drop off).take (n + 1)) / V : Nat) : Int)) ∧
      (∃ P, P.length = n + 1 ∧ Good P ∧ val P = val ((cs.drop off).take (n + 1)) % V ∧ Ob w' g (spl cs off P)) ∧ w.grownBy w' (some g) := by
  have hcap := hB.cap
  have hmax := hB.max
  have g1 := hB.good.get (n - 1)
  have g2 := hB.good.get (n - 2)
  have gh := hG.get (off + n)
  have gu1 := hG.get (off + (n - 1))
  have gu2 := hG.get (off + (n - 2))
  have ch := hO.cell (i := off + n) (by omega)
  have cu1 := hO.cell (i := off + (n - 1)) (by omega)
  have cu2 := hO.cell (i := off + (n - 2)) (by omega)
  have hgs := hO.lt
  have HO := Lib.hid hO
  have HG := Lib.hid hG
  have HB := Lib.hid hB
  have HV := Lib.hid hV
  have HOff := Lib.hid hoff
  obtain ⟨X, HXd⟩ : ∃ X, Hid (X = val ((cs.drop off).take (n + 1))) := ⟨_, rfl⟩
  rw [← HXd.out] at hX ⊢
  obtain ⟨bb, bo, rfl, hbb, cb1⟩ := hB.cell (k := n - 1) (by omega)
  obtain ⟨bb', bo', e, _, cb2⟩ := hB.cell (k := n - 2) (by omega)
  cases e
  clear hO hB hG hV
  generalize ys[n - 1]?.getD 0 = b1 at *
  generalize ys[n - 2]?.getD 0 = b2 at *
  generalize cs[off + n]?.getD 0 = h at *
  generalize cs[off + (n - 1)]?.getD 0 = u1 at *
  generalize cs[off + (n - 2)]?.getD 0 = u2 at *
  have i1 : ((n : Int) - 1).toNat = n - 1 := by omega
  have i2 : ((n : Int) - 2).toNat = n - 2 := by omega
  obtain ⟨hi, hhi⟩ : ∃ hi : Nat, hi = h * 4294967296 + u1 := ⟨_, rfl⟩
  have hq0' : (hi : Int) / (b1 : Int) = ((hi / b1 : Nat) : Int) := by rw [← Int.natCast_ediv]
  have hr0' : (hi : Int) % (b1 : Int) = ((hi % b1 : Nat) : Int) := by rw [← Int.natCast_emod]
  have hq0 : (hi : Int).tdiv (b1 : Int) = ((hi / b1 : Nat) : Int) := by rw [Int.tdiv_eq_ediv_of_nonneg (by omega), ← Int.natCast_ediv]
  have hr0 : (hi : Int).tmod (b1 : Int) = ((hi % b1 : Nat) : Int) := by rw [Int.tmod_eq_emod_of_nonneg (by omega), ← Int.natCast_emod]
  have hb0 : ¬ ((b1 : Int) = 0) := by omega
  have hdm := Nat.div_add_mod hi b1
  have hrl := Nat.mod_lt hi (show 0 < b1 by omega)
  have hD9 := Nat.div_le_self hi b1
  generalize hi / b1 = D0 at *
  generalize hi % b1 = R0 at *
  have hi9 : hi < 18446744073709551616 := by omega
  have hbit : IntKind.u64.wrap ((h : Int) * 4294967296 + (u1 : Int)) = (hi : Int) := by rw [IntKind.wrap_u64]; omega
  obtain ⟨Q, hQ⟩ : ∃ Q, Q = gs b1 b2 h u1 u2 := ⟨_, rfl⟩
  have hQ0 : Q ≤ D0 := by rw [hQ]; exact gs_start gu2 (by rw [← hhi]; exact hdm) hrl
  rw [← hQ] at hX
  have HI := Lib.hid hhi
  have HQ := Lib.hid hQ
  have HXq := Lib.hid hX
  clear hhi hQ hX
  go_enter Tryz.func109, Tryz.ntmps109
  go_wp2
  go_quiet (fail)
  go_wp2
  go_quiet (fail)
  go_upto_block 0 with (fail)
  go_cut [7] (fun s7 wx => ∃ D d : Nat, s7 = .int .u64 (D : Int) ∧ Q ≤ D ∧ D ≤ 4294967295 ∧ wx = w.drewN d)
  case first =>
    go_wp2
    go_loopw [7, 8] (fun x r wr => ∃ D R d : Nat, x = .int .u64 (D : Int) ∧ r = .int .u64 (R : Int) ∧ D * b1 + R = hi ∧ Q ≤ D ∧ wr = w.drewN d) (fun x _ _ => (intOf x).toNat)
    case atStart => exact ⟨D0, R0, _, rfl, rfl, by rw [Nat.mul_comm]; exact hdm, hQ0, drewN_add w _ _⟩
    case round =>
      obtain ⟨D, R, d, rfl, rfl, hDR, hQD, rfl⟩ := hrel
      have hDle : D ≤ hi := by
        have := Nat.le_mul_of_pos_right D (show 0 < b1 by omega)
        omega
      have hRle : R ≤ hi := by omega
      have HDR := Lib.hid hDR
      clear hDR
      by_cases hd : 4294967296 ≤ D
      · have hlt : Q < D := by rw [HQ.out]; exact gs_lt (by omega) (by rw [← HI.out]; exact HDR.out) (.inl (by omega))
        have HDM : Hid ((D - 1) * b1 + (R + b1) = D * b1 + R) := by show _ = _; rw [Nat.sub_mul, Nat.one_mul]; have := Nat.le_mul_of_pos_left b1 (show 0 < D by omega); omega
        have hRb : R + b1 ≤ hi := by have := HDM.out; have := HDR.out; omega
        have hdi : (4294967296 : Int) ≤ (D : Int) := by omega
        go_wp2_with fail
        go_quiet (fail)
        go_wp2
        all_goals
          first
          | (go_meet; exact ⟨D - 1, _, by go_num, by omega, by omega, by first | exact drewN_add w _ _ | rfl⟩)
          | (go_roundw
             case rel => exact ⟨D - 1, R + b1, _, by go_num, by go_num, by rw [← HDR.out]; exact HDM.out, by omega, rfl⟩
             case measure => simp [intOf]; omega)
      · have hdd : decide ((4294967296 : Int) ≤ (D : Int)) = false := by simp; omega
        by_cases hR : R < 4294967296
        · have hRi : (R : Int) < 4294967296 := by omega
          have hmul := mul_bd (show D < 4294967296 by omega) g2
          obtain ⟨T, hT⟩ : ∃ T : Nat, T = R * 4294967296 + u2 := ⟨_, rfl⟩
          have hbit2 : IntKind.u64.wrap ((R : Int) * 4294967296 + (u2 : Int)) = (T : Int) := by rw [IntKind.wrap_u64]; omega
          have HT := Lib.hid hT
          clear hT
          by_cases hp : T < D * b2
          · have hlt : Q < D := by rw [HQ.out]; exact gs_lt (by omega) (by rw [← HI.out]; exact HDR.out) (.inr (by rw [← HT.out]; exact hp))
            have HDM : Hid ((D - 1) * b1 + (R + b1) = D * b1 + R) := by show _ = _; rw [Nat.sub_mul, Nat.one_mul]; have := Nat.le_mul_of_pos_left b1 (show 0 < D by omega); omega
            have hRb : R + b1 ≤ hi := by have := HDM.out; have := HDR.out; omega
            have hpi : (T : Int) < (D : Int) * (b2 : Int) := by rw [← Int.natCast_mul]; omega
            clear hp
            by_cases hR2 : R + b1 < 4294967296
            case' pos => have hR2i : (R : Int) + (b1 : Int) < 4294967296 := by omega
            case' pos => have hR2d : decide ((4294967296 : Int) ≤ (R : Int) + (b1 : Int)) = false := by simp; omega
            case' neg => have hR2i : (4294967296 : Int) ≤ (R : Int) + (b1 : Int) := by omega
            all_goals have hD1i : (D : Int) - 1 < 4294967296 := by omega
            all_goals clear hR2
            all_goals
              go_wp2_with fail
              go_quiet (fail)
              go_wp2
            · go_meet
              exact ⟨D - 1, _, by go_num, by omega, by omega, by first | exact drewN_add w _ _ | rfl⟩
            · go_roundw
              case rel => exact ⟨D - 1, R + b1, _, by go_num, by go_num, by rw [← HDR.out]; exact HDM.out, by omega, rfl⟩
              case measure => simp [intOf]; omega
          · have hpd : decide ((T : Int) < (D : Int) * (b2 : Int)) = false := by rw [← Int.natCast_mul]; simp; omega
            go_wp2_with fail
            go_quiet (fail)
            go_wp2
            go_meet
            exact ⟨D, _, rfl, hQD, by omega, drewN_add w _ _⟩
        · have hRd : decide ((R : Int) < 4294967296) = false := by simp; omega
          go_wp2_with fail
          go_quiet (fail)
          go_wp2
          go_meet
          exact ⟨D, _, rfl, hQD, by omega, drewN_add w _ _⟩
  case rest =>
    obtain ⟨D, d, rfl, hQD, hDq, rfl⟩ := hcut
    clear hq0' hr0' hq0 hr0 hb0 hdm hrl hD9 hbit hQ0 hle i1 i2 ch cu1 cu2 cb1 cb2 gh gu1 gu2 g2 hi9 HI hoff
    have HXD : Hid (X / V ≤ D) := Nat.le_trans HXq.out hQD
    clear HXq hQD HQ
    have HCar := Lib.hid (fun k => sbK_carry (HG.out.drop off) HB.out.good (show D < 4294967296 by omega) k)
    go_wp2
    go_loopw [9, 10, 11] (fun bw cy i wr => ∃ k cc bw' : Nat, k ≤ n + 1 ∧ i = .int .i64 k ∧ cy = .int .u64 (cc : Int) ∧ bw = .int .i64 (bw' : Int) ∧ bw' ≤ 1 ∧ cc + bw' = (sbK (cs.drop off) ys D k).2 ∧ (n < k → cc = 0) ∧ Ob wr g (spl cs off (sbK (cs.drop off) ys D k).1) ∧ w.grownBy wr (some g)) (fun _ _ i _ => n + 1 - (intOf i).toNat)
    case atStart => exact ⟨0, 0, 0, Nat.zero_le _, rfl, rfl, rfl, Nat.zero_le _, rfl, fun _ => rfl, by show Ob _ g (spl cs off []); rw [spl_nil]; exact HO.out, grownBy_drewN (World.grownBy.refl w _) d⟩
    case round =>
      obtain ⟨k, cc, bw, hk, rfl, rfl, rfl, hbw, hcb, hcz, hOk, hgk⟩ := hrel
      by_cases hkn : k ≤ n
      · have hoff := HOff.out
        have hln := sbK_len (cs.drop off) ys D k
        have hct := hOk.cell (i := off + k) (by rw [spl_len (by omega)]; omega)
        have hat := spl_at (cs := cs) (off := off) (ts := (sbK (cs.drop off) ys D k).1) (by omega)
        rw [hln] at hat
        rw [hat] at hct
        have hfr := hOk.frozen (off + k)
        have hpg := HG.out.get (off + k)
        have hcl := HCar.out k
        have hyg := HB.out.good.get k
        have hmul := mul_bd (show D < 4294967296 by omega) hyg
        have HCb := Lib.hid hcb
        have HOk := Lib.hid hOk
        have HGk := Lib.hid hgk
        have HLn := Lib.hid hln
        have hcl2 : cc < 4294967296 := by omega
        clear hcb hOk hgk hln hat hcl hcz hoff
        have HFin : Hid (∀ (wz : World) (E bw2 : Nat), E = cc + ys[k]?.getD 0 * D → bw2 = (if cs[off + k]?.getD 0 < E % 4294967296 + bw then 1 else 0) → Ob wz g ((spl cs off (sbK (cs.drop off) ys D k).1).set (off + k) ((cs[off + k]?.getD 0 + 8589934592 - E % 4294967296 - bw) % 4294967296)) → w.grownBy wz (some g) →
            ∃ k' cc' bw' : Nat, k' ≤ n + 1 ∧ Value.int .i64 ((k : Int) + 1) = .int .i64 k' ∧ Value.int .u64 ((E : Int) / 4294967296) = .int .u64 (cc' : Int) ∧ Value.int .i64 (bw2 : Int) = .int .i64 (bw' : Int) ∧ bw' ≤ 1 ∧ cc' + bw' = (sbK (cs.drop off) ys D k').2 ∧ (n < k' → cc' = 0) ∧ Ob wz g (spl cs off (sbK (cs.drop off) ys D k').1) ∧ w.grownBy wz (some g)) := by
          intro wz E bw2 h1 h2 h3 h4
          have hst := dg_step (m := ys[k]?.getD 0 * D) HCb.out hbw hpg
          rw [← h1, ← h2] at hst
          have hdr : (cs.drop off)[k]?.getD 0 = cs[off + k]?.getD 0 := by rw [List.getElem?_drop]
          have e2 : (sbK (cs.drop off) ys D (k + 1)).2 = ((sbK (cs.drop off) ys D k).2 + ys[k]?.getD 0 * D) / 4294967296 + (if (cs.drop off)[k]?.getD 0 < ((sbK (cs.drop off) ys D k).2 + ys[k]?.getD 0 * D) % 4294967296 then 1 else 0) := rfl
          have e1 : (sbK (cs.drop off) ys D (k + 1)).1 = (sbK (cs.drop off) ys D k).1 ++ [((cs.drop off)[k]?.getD 0 + 4294967296 - ((sbK (cs.drop off) ys D k).2 + ys[k]?.getD 0 * D) % 4294967296) % 4294967296] := rfl
          rw [hdr] at e1 e2
          refine ⟨k + 1, E / 4294967296, bw2, by omega, by go_num, congrArg (Value.int IntKind.u64) (Int.natCast_ediv _ _).symm, rfl, by rw [h2]; split <;> omega, by rw [e2, hst.2], ?_, ?_, h4⟩
          · intro hlt
            have hz := getD_over (xs := ys) (k := k) (by rw [HB.out.len]; omega)
            rw [hz, Nat.zero_mul, Nat.add_zero] at h1
            rw [h1]
            exact Nat.div_eq_of_lt hcl2
          · have hs := spl_set (cs := cs) (off := off) (ts := (sbK (cs.drop off) ys D k).1) ((cs[off + k]?.getD 0 + 8589934592 - E % 4294967296 - bw) % 4294967296) (by have := HOff.out; rw [HLn.out]; omega)
            rw [HLn.out] at hs
            rw [e1, ← hst.1, ← hs]
            exact h3
        by_cases hkl : k < n
        · obtain ⟨b1', bo1', e1, _, hcy⟩ := (HB.out.grownLt HGk.out (Nat.le_of_lt hgs)).cell hkl
          cases e1
          obtain ⟨E, hE⟩ : ∃ E : Nat, E = cc + ys[k]?.getD 0 * D := ⟨_, rfl⟩
          rw [Nat.mul_comm] at hmul
          have hE9 : E < 18446744073709551616 := by omega
          have hEw : IntKind.u64.wrap ((cc : Int) + IntKind.u64.wrap ((D : Int) * ((ys[k]?.getD 0 : Nat) : Int))) = (E : Int) := by
            rw [← Int.natCast_mul, Nat.mul_comm, IntKind.wrap_u64, IntKind.wrap_u64]
            omega
          obtain ⟨m, hm⟩ : ∃ m, m = E % 4294967296 := ⟨_, rfl⟩
          have hand : bits .and .u64 (E : Int) 4294967295 = (m : Int) := by rw [and_low32 _ (by omega) (by omega), hm]; omega
          have hm9 : m < 4294967296 := by omega
          have HE := Lib.hid hE
          have HM := Lib.hid hm
          clear hE hmul hm
          by_cases hng : cs[off + k]?.getD 0 < m + bw
          · have hti : ((cs[off + k]?.getD 0 : Nat) : Int) - (m : Int) - (bw : Int) < 0 := by omega
            go_wp2
            go_roundw
            case rel =>
              have e3 : (((cs[off + k]?.getD 0 : Nat) : Int) - (m : Int) - (bw : Int) + 4294967296) = (((cs[off + k]?.getD 0 + 8589934592 - E % 4294967296 - bw) % 4294967296 : Nat) : Int) := by have := HM.out; omega
              rw [e3]
              exact HFin.out _ E 1 HE.out (by rw [if_pos (by have := HM.out; omega)]) (HOk.out.set_ (off + k) _) (grownBy_trans HGk.out (grownBy_setCellAt _ _ _ _))
            case measure => simp [intOf]; omega
          · have hti : 0 ≤ ((cs[off + k]?.getD 0 : Nat) : Int) - (m : Int) - (bw : Int) := by omega
            have htd : decide (((cs[off + k]?.getD 0 : Nat) : Int) - (m : Int) - (bw : Int) < 0) = false := by simp; omega
            go_wp2
            go_roundw
            case rel =>
              have e3 : (((cs[off + k]?.getD 0 : Nat) : Int) - (m : Int) - (bw : Int)) = (((cs[off + k]?.getD 0 + 8589934592 - E % 4294967296 - bw) % 4294967296 : Nat) : Int) := by have := HM.out; omega
              rw [e3]
              exact HFin.out _ E 0 HE.out (by rw [if_neg (by have := HM.out; omega)]) (HOk.out.set_ (off + k) _) (grownBy_trans HGk.out (grownBy_setCellAt _ _ _ _))
            case measure => simp [intOf]; omega
        · obtain rfl : k = n := by omega
          have hand : bits .and .u64 (cc : Int) 4294967295 = (cc : Int) := by rw [and_low32 _ (by omega) (by omega)]; omega
          have HZ : Hid (cc = cc + ys[k]?.getD 0 * D) := by
            show _ = _
            rw [getD_over (xs := ys) (k := k) (by rw [HB.out.len]; omega), Nat.zero_mul, Nat.add_zero]
          clear hmul
          by_cases hng : cs[off + k]?.getD 0 < cc + bw
          · have hti : ((cs[off + k]?.getD 0 : Nat) : Int) - (cc : Int) - (bw : Int) < 0 := by omega
            go_wp2
            go_roundw
            case rel =>
              have e3 : (((cs[off + k]?.getD 0 : Nat) : Int) - (cc : Int) - (bw : Int) + 4294967296) = (((cs[off + k]?.getD 0 + 8589934592 - cc % 4294967296 - bw) % 4294967296 : Nat) : Int) := by omega
              rw [e3]
              exact HFin.out _ cc 1 HZ.out (by rw [if_pos (by omega)]) (HOk.out.set_ (off + k) _) (grownBy_trans HGk.out (grownBy_setCellAt _ _ _ _))
            case measure => simp [intOf]
          · have hti : 0 ≤ ((cs[off + k]?.getD 0 : Nat) : Int) - (cc : Int) - (bw : Int) := by omega
            have htd : decide (((cs[off + k]?.getD 0 : Nat) : Int) - (cc : Int) - (bw : Int) < 0) = false := by simp; omega
            go_wp2
            go_roundw
            case rel =>
              have e3 : (((cs[off + k]?.getD 0 : Nat) : Int) - (cc : Int) - (bw : Int)) = (((cs[off + k]?.getD 0 + 8589934592 - cc % 4294967296 - bw) % 4294967296 : Nat) : Int) := by omega
              rw [e3]
              exact HFin.out _ cc 0 HZ.out (by rw [if_neg (by omega)]) (HOk.out.set_ (off + k) _) (grownBy_trans HGk.out (grownBy_setCellAt _ _ _ _))
            case measure => simp [intOf]
      · obtain rfl : k = n + 1 := by omega
        have hcc : cc = 0 := hcz (by omega)
        have HI3 : Hid (val (sbK (cs.drop off) ys D (n + 1)).1 + V * D = X + 4294967296 ^ (n + 1) * bw) := by
          show _ = _
          have e := sbK_val (xs := ys) (HG.out.drop off) D (n + 1)
          rw [List.take_of_length_le (by rw [HB.out.len]; omega), HV.out, ← HXd.out, ← hcb, hcc, Nat.zero_add] at e
          exact e
        have HOk := Lib.hid hOk
        have HGk := Lib.hid hgk
        have HLn := Lib.hid (sbK_len (cs.drop off) ys D (n + 1))
        have HTg := Lib.hid (sbK_good (cs.drop off) ys D (n + 1))
        clear hcb hcc hcz hOk hgk hkn hk
        go_wp2
        go_loopw [7, 9] (fun q bz wr' => ∃ (qq bb' : Nat) (T : List Nat), q = .int .u64 (qq : Int) ∧ bz = .int .i64 (bb' : Int) ∧ bb' ≤ 1 ∧ qq ≤ 4294967295 ∧ X / V ≤ qq ∧ T.length = n + 1 ∧ Good T ∧ val T + V * qq = X + 4294967296 ^ (n + 1) * bb' ∧ Ob wr' g (spl cs off T) ∧ w.grownBy wr' (some g)) (fun q _ _ => (intOf q).toNat)
        case atStart => exact ⟨D, bw, _, rfl, rfl, hbw, hDq, HXD.out, HLn.out, HTg.out, HI3.out, HOk.out, HGk.out⟩
        case round =>
          obtain ⟨qq, bb', T, rfl, rfl, hb1', hq9, hXq, hTl, hTG, hTv, hOT, hgT⟩ := hrel
          have HTl := Lib.hid hTl
          have HTG := Lib.hid hTG
          have HTv := Lib.hid hTv
          have HXq := Lib.hid hXq
          have HOT := Lib.hid hOT
          have HGT := Lib.hid hgT
          clear hTl hTG hTv hXq hOT hgT
          rcases Nat.eq_zero_or_pos bb' with h0 | h0
          · subst h0
            have HDn := Lib.hid (dg_done hV0 (by have e := HTv.out; rw [Nat.mul_zero, Nat.add_zero] at e; exact e) HXq.out)
            go_wp2
            go_ret
            exact ⟨ret_int (by rw [HDn.out.1]), ⟨T, HTl.out, HTG.out, HDn.out.2, HOT.out⟩, HGT.out⟩
          · obtain rfl : bb' = 1 := by omega
            have hTlt := val_lt HTG.out
            rw [HTl.out] at hTlt
            have hmo := dg_more hV0 (by have e := HTv.out; rw [Nat.mul_one] at e; exact e) hTlt
            have hq1 := hmo.1
            have HXq1 := Lib.hid hmo.2
            clear hmo hTlt
            go_wp2
            go_loopw [10, 13] (fun cy i wj => ∃ k : Nat, k ≤ n + 1 ∧ i = .int .i64 k ∧ cy = .int .u64 ((addK T ys k).2 : Nat) ∧ Ob wj g (spl cs off (spl T 0 (addK T ys k).1)) ∧ w.grownBy wj (some g)) (fun _ i _ => n + 1 - (intOf i).toNat)
            case atStart => exact ⟨0, Nat.zero_le _, rfl, rfl, by show Ob _ g (spl cs off (spl T 0 [])); rw [spl_nil]; exact HOT.out, HGT.out⟩
            case round =>
              obtain ⟨k, hk, rfl, rfl, hOj, hgj⟩ := hrel
              have HOj := Lib.hid hOj
              clear hOj
              have hcar := addK_carry HTG.out HB.out.good k
              have HAl := Lib.hid (addK_len T ys k)
              by_cases hkn : k ≤ n
              · have HMl : Hid ((spl T 0 (addK T ys k).1).length = n + 1) := by show _ = _; rw [spl_len (by rw [HAl.out, HTl.out]; omega), HTl.out]
                have hct := HOj.out.cell (i := off + k) (by have := HOff.out; rw [spl_len (by rw [HMl.out]; omega)]; omega)
                have hge : (spl cs off (spl T 0 (addK T ys k).1))[off + k]?.getD 0 = T[k]?.getD 0 := by
                  rw [spl_get (by have := HOff.out; rw [HMl.out]; omega) (by rw [HMl.out]; omega)]
                  have e := spl_at (cs := T) (off := 0) (ts := (addK T ys k).1) (by rw [HAl.out, HTl.out]; omega)
                  rw [HAl.out, Nat.zero_add] at e
                  exact e
                rw [hge] at hct
                have hfr := HOj.out.frozen (off + k)
                have hTg := HTG.out.get k
                have hyg := HB.out.good.get k
                have HFin : Hid (∀ (wz : World) (E : Int), E = (((addK T ys k).2 + (T[k]?.getD 0 + ys[k]?.getD 0) : Nat) : Int) → Ob wz g ((spl cs off (spl T 0 (addK T ys k).1)).set (off + k) (((addK T ys k).2 + (T[k]?.getD 0 + ys[k]?.getD 0)) % 4294967296)) → w.grownBy wz (some g) →
                    ∃ k' : Nat, k' ≤ n + 1 ∧ Value.int .i64 ((k : Int) + 1) = .int .i64 k' ∧ Value.int .u64 (E / 4294967296) = .int .u64 ((addK T ys k').2 : Nat) ∧ Ob wz g (spl cs off (spl T 0 (addK T ys k').1)) ∧ w.grownBy wz (some g)) := by
                  intro wz E h1 h2 h3
                  refine ⟨k + 1, by omega, by go_num, ?_, ?_, h3⟩
                  · rw [h1]
                    exact congrArg (Value.int IntKind.u64) (Int.natCast_ediv _ _).symm
                  · rw [spl_seti _ (by have := HOff.out; rw [HMl.out]; omega) (by rw [HMl.out]; omega)] at h2
                    have e := spl_set (cs := T) (off := 0) (ts := (addK T ys k).1) (((addK T ys k).2 + (T[k]?.getD 0 + ys[k]?.getD 0)) % 4294967296) (by rw [HAl.out, HTl.out]; omega)
                    rw [HAl.out, Nat.zero_add] at e
                    rw [e] at h2
                    exact h2
                clear hge
                by_cases hkl : k < n
                · obtain ⟨b1', bo1', e1, _, hcy⟩ := (HB.out.grownLt hgj (Nat.le_of_lt hgs)).cell hkl
                  cases e1
                  go_wp2
                  go_roundw
                  case rel =>
                    refine HFin.out _ _ (by omega) ?_ (grownBy_trans hgj (grownBy_setCellAt _ _ _ _))
                    have e := HOj.out.set_ (off + k) (((addK T ys k).2 + (T[k]?.getD 0 + ys[k]?.getD 0)) % 4294967296)
                    have e3 : ((((addK T ys k).2 + (T[k]?.getD 0 + ys[k]?.getD 0)) % 4294967296 : Nat) : Int) = (((addK T ys k).2 : Nat) + ((T[k]?.getD 0 : Nat) : Int) + ((ys[k]?.getD 0 : Nat) : Int)) % 4294967296 := by omega
                    rw [e3] at e
                    exact e
                  case measure => simp [intOf]; omega
                · obtain rfl : k = n := by omega
                  have HZ := Lib.hid (getD_over (xs := ys) (k := k) (by rw [HB.out.len]; omega))
                  go_wp2
                  go_roundw
                  case rel =>
                    have hz := HZ.out
                    refine HFin.out _ _ (by omega) ?_ (grownBy_trans hgj (grownBy_setCellAt _ _ _ _))
                    have e := HOj.out.set_ (off + k) (((addK T ys k).2 + (T[k]?.getD 0 + ys[k]?.getD 0)) % 4294967296)
                    have e3 : ((((addK T ys k).2 + (T[k]?.getD 0 + ys[k]?.getD 0)) % 4294967296 : Nat) : Int) = (((addK T ys k).2 : Nat) + ((T[k]?.getD 0 : Nat) : Int)) % 4294967296 := by omega
                    rw [e3] at e
                    exact e
                  case measure => simp [intOf]
              · obtain rfl : k = n + 1 := by omega
                have HE : Hid (spl T 0 (addK T ys (n + 1)).1 = (addK T ys (n + 1)).1) := by
                  show T.take 0 ++ ((addK T ys (n + 1)).1 ++ T.drop (0 + (addK T ys (n + 1)).1.length)) = _
                  rw [HAl.out, List.drop_of_length_le (by rw [HTl.out]; omega), List.append_nil]; rfl
                have HBk : Hid (val (addK T ys (n + 1)).1 + V * (qq - 1) = X + 4294967296 ^ (n + 1) * (1 - (addK T ys (n + 1)).2)) := by
                  refine dg_back hq1 (by have e := HTv.out; rw [Nat.mul_one] at e; exact e) ?_ hcar
                  rw [addK_val, List.take_of_length_le (by rw [HTl.out]; exact Nat.le_refl _), List.take_of_length_le (by rw [HB.out.len]; omega), HV.out]
                go_wp2
                go_roundw
                case rel =>
                  refine ⟨qq - 1, 1 - (addK T ys (n + 1)).2, (addK T ys (n + 1)).1, by go_num, by go_num, by omega, by omega, HXq1.out, HAl.out, addK_good _ _ _, HBk.out, ?_, hgj⟩
                  have e := HOj.out
                  rw [HE.out] at e
                  exact e
                case measure => simp [intOf]; omega
end Go.Proofs.YtglgfjknhplajaaGreatDoor

/- The reference's over. -/
namespace Go.Proofs.YtglgfjknhplajaaGreatDoor
open Go.RowKit

set_option maxRecDepth 100000 in
set_option maxHeartbeats 1000000 in
theorem rover_less (w : World) (A B : Option Addr) (n m ca cb b v : Nat) (xs : List Nat) (hA : Lm w w.heap.size A n ca xs) (hB : Lm w w.heap.size B m cb (digs b)) (hv : val xs = v) (hC : cmpL xs (digs b) = -1) (hlt : v < b) (hn9 : n ≤ 1000000) :
    Calls Tryz.prog 81 #[.slice A n ca, .slice B m cb] w (RD w (v / b) (v % b)) := by
  have HC := Lib.hid hC
  have HA := Lib.hid hA
  have HB := Lib.hid hB
  have HV := Lib.hid hv
  have hcB := hB.cap
  have hxB := hB.max
  rw [Nat.div_eq_of_lt hlt, Nat.mod_eq_of_lt hlt]
  clear hA hB hlt hv hC
  go_enter Tryz.func81, Tryz.ntmps81
  go_wp2_with fail
  refine (rcompare_any A B n m ca cb xs (digs b) w HA.out HB.out).mono ?_
  rintro e w1 ⟨he, d, rfl⟩
  rw [HC.out] at he
  subst he
  go_wp2_with fail
  refine (rtrim_any _ _ _ _ xs v (HA.out.drewN d) HV.out (by omega)).mono ?_
  rintro e w2 ⟨A2, c2, rfl, hL2, hb2⟩
  go_wp2
  go_ret2
  refine ⟨none, 0, A2, c2, rfl, Lm.nil _ _, hL2, (bdrewN (Below.refl w.heap.size w) d).trans hb2⟩

set_option maxRecDepth 100000 in
set_option maxHeartbeats 1000000 in
theorem rover_one (w : World) (A B : Option Addr) (n ca cb b v : Nat) (xs : List Nat) (hA : Lm w w.heap.size A n ca xs) (hB : Lm w w.heap.size B 1 cb (digs b)) (hv : val xs = v) (hC : 0 ≤ cmpL xs (digs b)) (hn9 : n ≤ 1000000) :
    Calls Tryz.prog 81 #[.slice A n ca, .slice B 1 cb] w (RD w (v / b) (v % b)) := by
  obtain ⟨z, hz, HC⟩ : ∃ z : Int, decide (z < 0) = false ∧ Hid (cmpL xs (digs b) = z) := ⟨_, by simp; omega, rfl⟩
  have hb0 : 0 < b := by rw [← digs_pos, hB.len]; omega
  have hbe : (digs b)[0]?.getD 0 = b := by
    have h1 := val_take_succ' (digs b) 0
    rw [List.take_of_length_le (by rw [hB.len]; omega), digs_val] at h1
    simpa [val_nil] using h1.symm
  have hb9 := hB.good.get 0
  obtain ⟨bb, bo, rfl, hbb, cb1⟩ := hB.cell (k := 0) (by omega)
  rw [hbe] at cb1 hb9
  rw [Nat.add_zero] at cb1
  have hcB := hB.cap
  have hxB := hB.max
  have HA := Lib.hid hA
  have HB := Lib.hid hB
  have HV := Lib.hid hv
  clear hA hB hbe hv hC
  go_enter Tryz.func81, Tryz.ntmps81
  go_wp2_with fail
  refine (rcompare_any A (some ⟨bb, bo, none⟩) n 1 ca cb xs (digs b) w HA.out HB.out).mono ?_
  rintro e w1 ⟨he, d, rfl⟩
  rw [HC.out] at he
  subst he
  go_wp2_with fail
  refine (rshort_any (w.drewN d) A n ca b xs v (HA.out.drewN d) (by omega) hb0 hb9 HV.out).mono ?_
  rintro e w2 ⟨Q, cq, R, cr, rfl, hQ, hR, hb2⟩
  go_wp2
  go_ret2
  exact ⟨Q, cq, R, cr, rfl, hQ, hR, (bdrewN (Below.refl w.heap.size w) d).trans hb2⟩

theorem up_aux {x s l : Nat} (l1 : 1 ≤ l) (l2 : 2 ^ (l - 1) ≤ x) (l3 : x < 2 ^ l) (h1 : 2 ^ 31 ≤ x * 2 ^ s) (h2 : x * 2 ^ s < 2 ^ 32) : s = 32 - l := by
  have m1 := Nat.mul_le_mul_right (2 ^ s) l2
  have m2 := (Nat.mul_lt_mul_right (a := 2 ^ s) (Nat.pow_pos (by decide))).2 l3
  have a1 := Nat.lt_of_le_of_lt m1 h2
  have a2 := Nat.lt_of_le_of_lt h1 m2
  rw [← Nat.pow_add] at a1 a2
  have b1 := (Nat.pow_lt_pow_iff_right (by decide : 1 < 2)).1 a1
  have b2 := (Nat.pow_lt_pow_iff_right (by decide : 1 < 2)).1 a2
  clear a1 a2 m1 m2 h1 h2 l2 l3
  omega
theorem up_of {x s : Nat} (h0 : x ≠ 0) (h : x < 4294967296) (h1 : 2147483648 ≤ x * 2 ^ s) (h2 : x * 2 ^ s < 4294967296) : s = 32 - Lib.bitLen x := by
  have hb := bitLen_bounds h0 h
  generalize Lib.bitLen x = l at hb ⊢
  exact up_aux hb.1 hb.2.1 hb.2.2 h1 h2
/-- A limb more than a number has is 0. -/
theorem take_dgs {ts : List Nat} {V m : Nat} (g : Good ts) (hl : ts.length = m + 1) (hv : val ts = V) (hV : (digs V).length = m) : ts.take m = digs V := by
  have h1 := val_short (xs := ts) (j := m) (by rw [hv]; exact digs_len.1 (Nat.le_of_eq hV))
  exact eq_of_val (g.take m) (digs_good V) (by rw [List.length_take, hl, hV]; omega) (by rw [h1.1, hv, digs_val])
theorem part_whole {rs : List Nat} {m k : Nat} (h : val (rs.drop k) = val ((rs.drop k).take m) + 4294967296 ^ m * rs[k + m]?.getD 0) : val ((rs.drop k).take (m + 1)) = val (rs.drop k) := by
  rw [val_take_succ', List.getElem?_drop]
  exact h.symm
theorem part_done2 {rs P : List Nat} {m k v : Nat} (hP : P.length = m + 1) (hk : k + m < rs.length) (hz : val (rs.drop (k + m + 1)) = 0) (hv : val P = v) :
    val ((spl rs k P).drop k) = v ∧ val (spl rs k P) = val (rs.take k) + 4294967296 ^ k * v := by
  have hl : (rs.take k).length = k := by rw [List.length_take]; omega
  have e : val (P ++ rs.drop (k + P.length)) = v := by
    have hz2 : val (rs.drop (k + P.length)) = 0 := by rw [hP, ← Nat.add_assoc]; exact hz
    rw [val_append, hv, hz2, Nat.mul_zero, Nat.add_zero]
  unfold spl
  constructor
  · rw [List.drop_append_of_le_length (by omega), List.drop_of_length_le (by omega), List.nil_append]
    exact e
  · rw [val_append, hl, e]
end Go.Proofs.YtglgfjknhplajaaGreatDoor

/- The reference's over: long division. -/
namespace Go.Proofs.YtglgfjknhplajaaGreatDoor
open Go.RowKit

theorem rleft_any (w : World) (A : Option Addr) (n c s : Nat) (xs : List Nat) (v : Nat) (hA : Lm w w.heap.size A n c xs) (hn : n ≤ 100000000) (hs32 : s < 32) (hv : val xs * 2 ^ s = v) :
    Calls Tryz.prog 108 #[.slice A n c, .int .u64 (s : Int)] w (RL w (n + 1) v) :=
  (rleft_own w A n c s xs v hA hn hs32 hv).mono fun e w' ⟨A, c, ts, he, hO, hG, hl, hv, hb⟩ => by
    obtain ⟨A', c', e3, hL⟩ := hO.lm hG
    rw [hl] at e3 hL
    cases e3
    exact ⟨A, c, ts, he, hL, hv, hb⟩

set_option maxRecDepth 100000 in
set_option maxHeartbeats 4000000 in
theorem rover_long (w : World) (A B : Option Addr) (n m ca cb a b : Nat) (hA : Lm w w.heap.size A n ca (digs a)) (hB : Lm w w.heap.size B m cb (digs b)) (hle : b ≤ a) (hm2 : 2 ≤ m) (hn9 : n ≤ 1000000) :
    Calls Tryz.prog 81 #[.slice A n ca, .slice B m cb] w (RD w (a / b) (a % b)) := by
  obtain ⟨z, hz, HC⟩ : ∃ z : Int, decide (z < 0) = false ∧ Hid (cmpL (digs a) (digs b) = z) := ⟨_, by rw [cmpL_norm (digs_good _) (digs_good _) (digs_norm _) (digs_norm _), digs_val, digs_val]; unfold cmpN; rw [if_neg (by omega)]; split <;> decide, rfl⟩
  have hcA := hA.cap
  have hxA := hA.max
  have hcB := hB.cap
  have hxB := hB.max
  have hlA := hA.len
  have hlB := hB.len
  have hmn : m ≤ n := by rw [← hlA, ← hlB]; exact digs_mono hle
  have hm1 : ((m : Int) == 1) = false := by simp; omega
  have hbp : 0 < b := digs_pos.1 (by omega)
  have gt := hB.good.get (m - 1)
  have htp := top_pos hbp
  rw [hlB] at htp
  obtain ⟨bb, bo, e, hbb, cb1⟩ := hB.cell (k := m - 1) (by omega)
  subst e
  have hf := up_facts hlB (by omega)
  have HF := Lib.hid hf
  have HLA := Lib.hid hlA
  have HLB := Lib.hid hlB
  have HA := Lib.hid hA
  have HB := Lib.hid hB
  have HLe := Lib.hid hle
  have i1 : ((m : Int) - 1).toNat = m - 1 := by omega
  obtain ⟨top, hto⟩ : ∃ top, top = (digs b)[m - 1]?.getD 0 := ⟨_, rfl⟩
  rw [← hto] at gt htp cb1
  have HTop := Lib.hid hto
  have ht0 : 0 < top := by omega
  clear hA hB hlA hlB hf hle hto htp
  go_enter Tryz.func81, Tryz.ntmps81
  go_wp2_with fail
  refine (rcompare_any A (some ⟨bb, bo, none⟩) n m ca cb (digs a) (digs b) w HA.out HB.out).mono ?_
  rintro e w1 ⟨he, d, rfl⟩
  rw [HC.out] at he
  subst he
  have HB0 : Hid (Below w.heap.size w (w.drewN d)) := bdrewN (Below.refl _ _) d
  have LA := Lib.hid (HA.out.drewN d)
  have LB := Lib.hid (HB.out.drewN d)
  have cb2 : (w.drewN d).cell? ⟨bb, bo + (m - 1), none⟩ = some (.int .u32 (top : Int)) := cb1
  have hsz : Hid ((w.drewN d).heap.size = w.heap.size) := (rfl : _ = _)
  generalize w.drewN d = w1 at *
  clear HA HB cb1
  go_wp2_with fail
  go_loop [7] (fun x => ∃ s : Nat, s ≤ 31 ∧ x = .int .u64 (s : Int) ∧ top * 2 ^ s < 4294967296) (fun x => 32 - (intOf x).toNat)
  case atStart => exact ⟨0, by omega, rfl, by rw [Nat.pow_zero, Nat.mul_one]; exact gt⟩
  case round =>
    obtain ⟨s, hs, rfl, hts⟩ := hrel
    obtain ⟨P, hP⟩ : ∃ P, P = top * 2 ^ s := ⟨_, rfl⟩
    have hw : IntKind.u32.wrap ((top : Int) * 2 ^ s) = (P : Int) := by
      rw [cast_shl, Nat.mul_comm, ← hP, IntKind.wrap_u32]
      omega
    have HP := Lib.hid hP
    rw [← hP] at hts
    clear hP
    by_cases hp : P < 2147483648
    · have hpi : (P : Int) < 2147483648 := by omega
      clear hp
      go_wp2
      go_round
      case rel => exact ⟨s + 1, by
        have e := HP.out
        rcases Nat.lt_or_ge s 31 with h | h
        · omega
        · obtain rfl : s = 31 := by omega
          have h5 := Nat.mul_le_mul_right (2 ^ 31) ht0
          omega, by go_num, by rw [Nat.pow_succ, ← Nat.mul_assoc, ← HP.out]; omega⟩
      case measure => simp [intOf]; omega
    · have hpi : (2147483648 : Int) ≤ (P : Int) := by omega
      have hpd : decide ((P : Int) < 2147483648) = false := by simp; omega
      have hup := up_of (x := top) (s := s) (by omega) gt (by rw [← HP.out]; omega) (by rw [← HP.out]; exact hts)
      rw [HTop.out] at hup
      have HF2 := HF.out
      rw [← hup] at HF2
      obtain ⟨V, hV⟩ : ∃ V, V = b * 2 ^ s := ⟨_, rfl⟩
      obtain ⟨U, hU⟩ : ∃ U, U = a * 2 ^ s := ⟨_, rfl⟩
      rw [← hV] at HF2
      have HVF := Lib.hid HF2
      have HUB : Hid (U < 2147483648 * 4294967296 ^ n) := by
        show _ < _
        have h1 := digs_len.1 (Nat.le_of_eq HLA.out)
        rw [hU, Nat.mul_comm]
        exact Nat.mul_lt_mul_of_le_of_lt (Nat.pow_le_pow_right (by omega) hs) h1 (by decide)
      have HDiv : Hid (U / V = a / b ∧ U % V = a % b * 2 ^ s) := by
        show _ ∧ _
        rw [hU, hV]
        exact ⟨Nat.mul_div_mul_right _ _ (Nat.pow_pos (by omega)), Nat.mul_mod_mul_right _ _ _⟩
      have HV : Hid (val (digs b) * 2 ^ s = V) := by show _ = _; rw [digs_val, hV]
      have HU : Hid (val (digs a) * 2 ^ s = U) := by show _ = _; rw [digs_val, hU]
      have hV0 : 0 < V := by rw [hV]; exact Nat.mul_pos hbp (Nat.pow_pos (by omega))
      have HVb := Lib.hid hV
      clear hup HF2 hV hU HP hp hts
      go_wp2_with fail
      clear hw hpi hpd
      refine (rleft_any w1 _ m cb s (digs b) V LB.out (by omega) (by omega) HV.out).mono ?_
      rintro e w2 ⟨A2, c2, ts, rfl, hL2, hv2, hb2⟩
      have HL2 := Lib.hid (hL2.take (Nat.le_succ m))
      have HT2 := Lib.hid (take_dgs hL2.good hL2.len hv2 HVF.out.2.2.1)
      have hcap2 := hL2.cap
      have hmax2 := hL2.max
      rw [HT2.out] at HL2
      have LA2 := Lib.hid (LA.out.via hb2)
      have HB2 := Lib.hid (HB0.out.trans (hb2.mono HB0.out.size))
      clear hL2 hv2 hb2
      go_wp2_with fail
      refine (rleft_own w2 A n ca s (digs a) U LA2.out (by omega) (by omega) HU.out).mono ?_
      rintro e w3 ⟨A3, c3, us, rfl, hO3, hG3, hl3, hv3, hb3⟩
      obtain ⟨A3', c3', e3, hL3⟩ := hO3.lm hG3
      have hcap3 := hL3.cap
      have hmax3 := hL3.max
      rw [hl3] at e3 hL3 hcap3
      cases e3
      obtain ⟨gu, rfl, -, hgu, hOb3⟩ := hO3.ob (by omega)
      have HX3 := Lib.hid (HL2.out.below hb3)
      have HB3 := Lib.hid (HB2.out.trans (hb3.mono HB2.out.size))
      have HO3 := Lib.hid hOb3
      have HG3 := Lib.hid hG3
      have HV3 := Lib.hid hv3
      have HL3l := Lib.hid hl3
      have hs3 := hOb3.lt
      clear hO3 hL3 hOb3 hG3 hv3 hl3 hb3
      have hmk2 := fun w => run_make_u32 ((n : Int) + 1 - (m : Int)) ((n : Int) + 1 - (m : Int)) (n + 1 - m) (by omega) (by omega) (by omega) w
      go_wp2_with fail
      clear hmk2
      go_loopw [11] (fun i wr => ∃ (k : Nat) (rs qs : List Nat), k ≤ n + 1 - m ∧ i = .int .i64 ((k : Int) - 1) ∧ Ob wr gu rs ∧ Good rs ∧ rs.length = n + 1 ∧ Ld wr w3.heap.size qs ∧ Good qs ∧ qs.length = n + 1 - m ∧
          val (rs.drop k) < V ∧ val rs + 4294967296 ^ k * (V * val (qs.drop k)) = U ∧ Below w2.heap.size w3 wr) (fun i _ => (intOf i + 1).toNat)
      case atStart =>
        refine ⟨n + 1 - m, us, zer (n + 1 - m), Nat.le_refl _, rfl, HO3.out.below ((Below.refl _ _).alloc (Nat.le_refl _) _) hs3, HG3.out, HL3l.out, Ld.new _ _, zer_good _, zer_len _, ?_, ?_, (Below.refl _ _).alloc (by omega) _⟩
        · rw [val_drop _ HG3.out, HV3.out]
          refine Nat.div_lt_of_lt_mul (Nat.lt_of_lt_of_le HUB.out ?_)
          have h5 := Nat.mul_le_mul_left (4294967296 ^ (n + 1 - m)) HVF.out.2.1
          rw [Nat.mul_left_comm, ← Nat.pow_add, show n + 1 - m + (m - 1) = n by omega] at h5
          exact h5
        · rw [HV3.out, List.drop_of_length_le (by rw [zer_len]; exact Nat.le_refl _)]
          simp [val_nil]
      case round =>
        obtain ⟨k, rs, qs, hk, rfl, hR, hGR, hlR, hQ, hGQ, hlQ, hI1, hI2, hb⟩ := hrel
        have HR := Lib.hid hR
        have HQ := Lib.hid hQ
        have HI1 := Lib.hid hI1
        have HI2 := Lib.hid hI2
        have HBl := Lib.hid hb
        have HGR := Lib.hid hGR
        have HGQ := Lib.hid hGQ
        have HlR := Lib.hid hlR
        have HlQ := Lib.hid hlQ
        have hgur := hR.lt
        clear hR hQ hI1 hI2 hb hGR hGQ hlR hlQ
        rcases k with _ | k
        · rw [show (((0 : Nat) : Int) - 1) = -1 from rfl]
          have hQe : Hid (val qs = a / b) := by
            show _ = _
            have h1 := HI1.out
            have h2 := HI2.out
            simp only [List.drop_zero, Nat.pow_zero, Nat.one_mul] at h1 h2
            rw [← HDiv.out.1, ← h2, Nat.add_mul_div_left _ _ hV0, Nat.div_eq_of_lt h1, Nat.zero_add]
          have hRv : Hid (val rs < V) := by have h1 := HI1.out; rw [List.drop_zero] at h1; exact h1
          have hRe : Hid (val rs = a % b * 2 ^ s) := by
            show _ = _
            have h2 := HI2.out
            simp only [List.drop_zero, Nat.pow_zero, Nat.one_mul] at h2
            rw [← HDiv.out.2, ← h2, Nat.add_mul_mod_self_left, Nat.mod_eq_of_lt hRv.out]
          have hRt : Hid (val (rs.take m) = a % b * 2 ^ s) := by
            show _ = _
            rw [← hRe.out]
            exact (val_short (Nat.lt_trans hRv.out (digs_len.1 (Nat.le_of_eq HVF.out.2.2.1)))).1
          have HLq : Hid (Lm wr wr.heap.size (some ⟨w3.heap.size, 0, none⟩) (n + 1 - m) (n + 1 - m) qs) := by
            have e := HQ.out.lm HGQ.out (off := 0) (n := n + 1 - m) (c := n + 1 - m) (by rw [HlQ.out]; omega) (Nat.le_refl _) (by omega)
            rwa [List.drop_zero, List.take_of_length_le (by rw [HlQ.out]; exact Nat.le_refl _)] at e
          have HLr : Hid (Lm wr wr.heap.size (some ⟨gu, 0, none⟩) m c3 (rs.take m)) := by
            have e := HR.out.lm HGR.out (off := 0) (n := m) (c := c3) (by rw [HlR.out]; omega) (by omega) (by omega)
            rwa [List.drop_zero] at e
          have HGt := Lib.hid (HGR.out.take m)
          have HSv : Hid (val (shrL s (rs.take m) m) = a % b) := by
            show _ = _
            rw [shrL_val HGt.out s (by omega) HLr.out.len, hRt.out, Nat.mul_div_cancel _ (Nat.pow_pos (by omega))]
          obtain ⟨r0, hr0⟩ : ∃ r0, r0 = rs.take m := ⟨_, rfl⟩
          rw [← hr0] at HLr HGt HSv
          clear hr0 hRt
          go_wp2
          go_loopw [13, 14] (fun u i wz => ∃ k : Nat, k ≤ m ∧ i = .int .i64 k ∧ Ow wz wr.heap.size u (shrL s r0 k) ∧ Below wr.heap.size wr wz) (fun _ i _ => m - (intOf i).toNat)
          case atStart => exact ⟨0, Nat.zero_le _, rfl, Ow.nil _ _, Below.refl _ _⟩
          case round =>
            obtain ⟨k, hk2, rfl, hO, hb⟩ := hrel
            have HO := Lib.hid hO
            have HBz := Lib.hid hb
            have HSl := Lib.hid (shrL_len s r0 k)
            clear hO hb
            by_cases hlt : k < m
            · obtain ⟨b1', bo1', e1, _, hcx⟩ := (HLr.out.below HBz.out).cell hlt
              cases e1
              have hxg := HGt.out.get k
              have hyg := HGt.out.get (k + 1)
              by_cases hlt2 : k + 1 < m
              · obtain ⟨b2', bo2', e2, _, hcy⟩ := (HLr.out.below HBz.out).cell hlt2
                cases e2
                rw [Nat.zero_add] at hcx hcy
                have HX : Hid ((((r0[k]?.getD 0 : Nat) : Int) + ((r0[k + 1]?.getD 0 : Nat) : Int) * 4294967296) / 2 ^ s % 4294967296 = (((r0[k]?.getD 0 + 4294967296 * r0[k + 1]?.getD 0) / 2 ^ s % 4294967296 : Nat) : Int)) := by
                  show _ = _
                  have e : ((r0[k]?.getD 0 : Nat) : Int) + ((r0[k + 1]?.getD 0 : Nat) : Int) * 4294967296 = ((r0[k]?.getD 0 + 4294967296 * r0[k + 1]?.getD 0 : Nat) : Int) := by omega
                  rw [e, cast_shr, Int.natCast_emod]
                  rfl
                go_wp2_with (at_builtin; refine wpList_append_u32 _ rfl _ _ rfl _ _ _ rfl HO.out _ ((r0[k]?.getD 0 + 4294967296 * r0[k + 1]?.getD 0) / 2 ^ s % 4294967296) 1 HX.out (by rw [HSl.out]; omega) HBz.out.size rfl ?_; intro u' w6 hO6 hg6)
                go_roundw
                case rel => exact ⟨k + 1, by omega, by go_num, hO6, HO.out.below HBz.out HBz.out.size hg6⟩
                case measure => simp [intOf]; omega
              · have HZ := Lib.hid (getD_over (xs := r0) (k := k + 1) (by rw [HLr.out.len]; omega))
                rw [Nat.zero_add] at hcx
                have HX : Hid (((r0[k]?.getD 0 : Nat) : Int) / 2 ^ s % 4294967296 = (((r0[k]?.getD 0 + 4294967296 * r0[k + 1]?.getD 0) / 2 ^ s % 4294967296 : Nat) : Int)) := by
                  show _ = _
                  rw [HZ.out, Nat.mul_zero, Nat.add_zero, cast_shr, Int.natCast_emod]
                  rfl
                have HY : Hid (((r0[k]?.getD 0 : Nat) : Int) / 2 ^ s = ((r0[k]?.getD 0 / 2 ^ s : Nat) : Int)) := cast_shr _ _
                have hy9 := Nat.div_le_self (r0[k]?.getD 0) (2 ^ s)
                have HW : Hid ((r0[k]?.getD 0 + 4294967296 * r0[k + 1]?.getD 0) / 2 ^ s % 4294967296 = r0[k]?.getD 0 / 2 ^ s) := by
                  show _ = _
                  rw [HZ.out, Nat.mul_zero, Nat.add_zero]
                  exact Nat.mod_eq_of_lt (by omega)
                have HWY : Hid (((r0[k]?.getD 0 : Nat) : Int) / 2 ^ s = (((r0[k]?.getD 0 + 4294967296 * r0[k + 1]?.getD 0) / 2 ^ s % 4294967296 : Nat) : Int)) := by show _ = _; rw [HW.out, HY.out]
                clear hy9
                go_wp2_with (at_builtin; refine wpList_append_u32 _ rfl _ _ rfl _ _ _ rfl HO.out _ ((r0[k]?.getD 0 + 4294967296 * r0[k + 1]?.getD 0) / 2 ^ s % 4294967296) 1 (by first | exact HX.out | exact HWY.out) (by rw [HSl.out]; omega) HBz.out.size rfl ?_; intro u' w6 hO6 hg6)
                go_roundw
                case rel => exact ⟨k + 1, by omega, by go_num, hO6, HO.out.below HBz.out HBz.out.size hg6⟩
                case measure => simp [intOf]; omega
            · obtain rfl : k = m := by omega
              have HGs : Hid (Good (shrL s r0 k)) := by
                show Good _
                rw [shrL_lims HGt.out s (by omega)]
                exact lims_good _ _
              obtain ⟨A7, c7, rfl, hL7⟩ := HO.out.lm HGs.out
              rw [HSl.out] at hL7 ⊢
              have HL7 := Lib.hid hL7
              have HLq7 := Lib.hid (HLq.out.via HBz.out)
              clear hL7
              go_wp2_with fail
              refine (rtrim_any _ _ _ _ _ (a / b) HLq7.out hQe.out (by omega)).mono ?_
              rintro e w8 ⟨A8, c8, rfl, hL8, hb8⟩
              have HL8 := Lib.hid hL8
              have HL78 := Lib.hid (HL7.out.via hb8)
              have HB8 := Lib.hid hb8
              clear hL8 hb8
              go_wp2_with fail
              refine (rtrim_any _ _ _ _ _ (a % b) HL78.out HSv.out (by omega)).mono ?_
              rintro e w9 ⟨A9, c9, rfl, hL9, hb9⟩
              go_wp2
              go_ret2
              have hs23 := HBl.out.size
              have hsz1 := HB3.out.size
              refine ⟨A8, c8, A9, c9, rfl, HL8.out.via hb9, hL9, ?_⟩
              have q1 := HB3.out.trans (HBl.out.mono HB2.out.size)
              have q2 := q1.trans (HBz.out.mono q1.size)
              have q3 := q2.trans (HB8.out.mono q2.size)
              exact q3.trans (hb9.mono q3.size)
        · have hkm : k + m < rs.length := by rw [HlR.out]; omega
          have HP := Lib.hid (part_facts HGR.out HVF.out.2.2.1 hm2 hkm HI1.out)
          have HW := Lib.hid (part_whole HP.out.1)
          have HLb : Hid (Lm wr gu A2 m c2 (digs V)) := (HX3.out.below HBl.out).mono hgu
          have hcut1 : ((k : Int) + 1 - 1) = (k : Int) := by omega
          go_wp2_with fail
          rw [show k + m + 1 - k = m + 1 by omega]
          refine (rdigit_any wr gu k (c3 - k) m c2 A2 rs (digs V) V HR.out HGR.out HLb.out hm2 (by omega) (by omega) (by omega) hkm (digs_val V) hV0 HP.out.2.2.2.2.1 HP.out.2.1 (by rw [HW.out]; exact HP.out.2.2.2.2.2.1)).mono ?_
          rw [HW.out]
          rintro e w5 ⟨rfl, ⟨P5, hPl, hPg, hPv, hO5⟩, hg5⟩
          have hgu3 : ¬ (w3.heap.size = gu) := by omega
          have hQ5 := HQ.out.grown hg5 (fun e => by injection e with e; omega)
          have hcq := hQ5.cell (i := k) (by rw [HlQ.out]; omega)
          have hfq := hQ5.frozen k
          have hD9 : val (rs.drop k) / V ≤ 4294967295 := Nat.le_trans HP.out.2.2.2.2.2.1 (gs_le _ _ _ _ _)
          have HPD := Lib.hid (part_done2 (rs := rs) (P := P5) (m := m) (k := k) hPl hkm HP.out.2.2.2.1 hPv)
          have HO5 := Lib.hid hO5
          have HG5 := Lib.hid hg5
          have HQ5 := Lib.hid hQ5
          have HPg := Lib.hid hPg
          have HPl := Lib.hid hPl
          have hml : val (rs.drop k) % V < V := Nat.mod_lt _ hV0
          clear hPl hPg hPv hO5 hg5 hQ5
          have HD9 := Lib.hid hD9
          clear hD9
          go_wp2
          go_roundw
          case rel =>
            refine ⟨k, _, _, by omega, rfl, HO5.out.grown (grownBy_setCellAt _ _ _ _) (fun e => by injection e with e; omega), spl_good HGR.out HPg.out, by rw [spl_len (by rw [HPl.out]; omega), HlR.out], HQ5.out.set_ k _, HGQ.out.set (by have := HD9.out; omega) k, by rw [List.length_set, HlQ.out], ?_, ?_, ?_⟩
            · rw [HPD.out.1]; exact hml
            · exact inv_step (by omega) rfl HI2.out HPD.out.2 (val_set_drop _ (by rw [HlQ.out]; omega))
            · exact (HBl.out.grown HG5.out (by have := HBl.out.size; omega) (fun b e => by injection e with e; omega)).setCell (p := ⟨w3.heap.size, k, none⟩) (by show w2.heap.size ≤ w3.heap.size; omega) _
          case measure => simp [intOf]

/-- over, by a divisor other than 0. -/
theorem rover_any (w : World) (A B : Option Addr) (n m ca cb a b : Nat) (hA : Lm w w.heap.size A n ca (digs a)) (hB : Lm w w.heap.size B m cb (digs b)) (hb : 0 < b) (hn9 : n ≤ 1000000) :
    Calls Tryz.prog 81 #[.slice A n ca, .slice B m cb] w (RD w (a / b) (a % b)) := by
  have hc := cmpL_norm (digs_good a) (digs_good b) (digs_norm a) (digs_norm b)
  rw [digs_val, digs_val] at hc
  rcases Nat.lt_or_ge a b with h | h
  · exact rover_less w A B n m ca cb b a _ hA hB (digs_val a) (by rw [hc]; exact cmpN_lt h) h hn9
  · have hm : 0 < m := by rw [← hB.len, digs_pos]; exact hb
    rcases Nat.lt_or_ge m 2 with h1 | h1
    · obtain rfl : m = 1 := by omega
      refine rover_one w A B n ca cb b a _ hA hB (digs_val a) ?_ hn9
      rw [hc]
      unfold cmpN
      rw [if_neg (by omega)]
      split <;> decide
    · exact rover_long w A B n m ca cb a b hA hB h h1 hn9
end Go.Proofs.YtglgfjknhplajaaGreatDoor

/- Decimal texts of numbers, in groups of nine digits. -/
namespace Go.Proofs.YtglgfjknhplajaaGreatDoor

/-- A number's lowest k decimal digits. -/
def padk : Nat → Nat → List UInt8
  | 0, _ => []
  | k + 1, x => padk k (x / 10) ++ [UInt8.ofNat (48 + x % 10)]
theorem padk_len (k x : Nat) : (padk k x).length = k := by
  induction k generalizing x with
  | zero => rfl
  | succ k ih => simp [padk, ih]
theorem dec_small {u : Nat} (h : u < 10) : Lib.decDigits u = [UInt8.ofNat (48 + u)] := Lib.decDigits_one h
theorem dec_big {u : Nat} (h : 10 ≤ u) : Lib.decDigits u = Lib.decDigits (u / 10) ++ [UInt8.ofNat (48 + u % 10)] := by
  rw [Lib.decDigits, dif_neg (by omega)]
theorem dec_pad (k : Nat) : ∀ (q x : Nat), 0 < q → x < 10 ^ k → Lib.decDigits (q * 10 ^ k + x) = Lib.decDigits q ++ padk k x := by
  induction k with
  | zero => intro q x hq hx; rw [Nat.pow_zero] at hx; obtain rfl : x = 0 := by omega
            simp [padk]
  | succ k ih =>
    intro q x hq hx
    have hp : 0 < 10 ^ k := Nat.pow_pos (by omega)
    rw [Nat.pow_succ] at hx ⊢
    have h1 : 10 ≤ q * (10 ^ k * 10) + x := by
      have := Nat.mul_le_mul hq (show 1 * 10 ≤ 10 ^ k * 10 by omega)
      omega
    have e1 : q * (10 ^ k * 10) = 10 * (q * 10 ^ k) := by rw [← Nat.mul_assoc, Nat.mul_comm]
    rw [dec_big h1, padk, ← List.append_assoc, ← ih q (x / 10) hq (by omega)]
    rw [e1]
    congr 2
    · congr 1; omega
    · congr 2; omega
/-- The groups of nine digits of a number, the lowest one first. -/
def gB (v : Nat) : List Nat := if h : v = 0 then [] else v % 1000000000 :: gB (v / 1000000000)
termination_by v
decreasing_by omega
theorem gB_zero : gB 0 = [] := by rw [gB]; rfl
theorem gB_pos {v : Nat} (h : 0 < v) : gB v = v % 1000000000 :: gB (v / 1000000000) := by rw [gB, dif_neg (by omega)]
theorem gB_lt : ∀ (v : Nat), ∀ x ∈ gB v, x < 1000000000 := by
  intro v
  induction v using Nat.strongRecOn with
  | _ v ih =>
    rcases Nat.eq_zero_or_pos v with h | h
    · subst h; rw [gB_zero]; intro x hx; cases hx
    · rw [gB_pos h]
      intro x hx
      rcases List.mem_cons.1 hx with rfl | hx
      · omega
      · exact ih _ (by omega) x hx
theorem gB_good (v : Nat) : Good (gB v) := fun x hx => by have := gB_lt v x hx; omega
theorem gB_drop : ∀ (v k : Nat), k ≤ (gB v).length → (gB v).drop k = gB (v / 1000000000 ^ k) := by
  intro v k
  induction k generalizing v with
  | zero => intro _; simp
  | succ k ih =>
    intro hk
    rcases Nat.eq_zero_or_pos v with h | h
    · subst h; rw [gB_zero] at hk; simp at hk
    · rw [gB_pos h] at hk ⊢
      rw [List.drop_succ_cons, ih _ (by simpa using hk), Nat.div_div_eq_div_mul, Nat.pow_succ, Nat.mul_comm]
theorem gB_get {v k : Nat} (hk : k < (gB v).length) : (gB v)[k]?.getD 0 = v / 1000000000 ^ k % 1000000000 ∧ 0 < v / 1000000000 ^ k := by
  have h1 := gB_drop v k (by omega)
  have h2 := List.drop_eq_getElem_cons hk
  have h3 : 0 < v / 1000000000 ^ k := by
    refine Nat.pos_of_ne_zero fun e => ?_
    rw [e, gB_zero, h2] at h1
    cases h1
  rw [gB_pos h3, h2] at h1
  injection h1 with h4 _
  exact ⟨by rw [List.getElem?_eq_getElem hk]; exact h4, h3⟩
theorem gB_len_pos {v : Nat} (h : 0 < v) : 0 < (gB v).length := by rw [gB_pos h]; simp
theorem gB_top {v : Nat} (h : 0 < v) : v / 1000000000 ^ ((gB v).length) = 0 ∧ v / 1000000000 ^ ((gB v).length - 1) < 1000000000 := by
  have h1 := gB_drop v _ (Nat.le_refl _)
  rw [List.drop_length] at h1
  have h2 : v / 1000000000 ^ ((gB v).length) = 0 := by
    refine Nat.eq_zero_of_not_pos fun h3 => ?_
    rw [gB_pos h3] at h1
    cases h1
  refine ⟨h2, ?_⟩
  have h4 := gB_len_pos h
  rw [show (gB v).length = ((gB v).length - 1) + 1 from by omega, Nat.pow_succ, ← Nat.div_div_eq_div_mul] at h2
  omega
/-- The text grows by a group. -/
theorem dec_step {v k : Nat} (hk : 0 < v / 1000000000 ^ (k + 1)) : Lib.decDigits (v / 1000000000 ^ k) = Lib.decDigits (v / 1000000000 ^ (k + 1)) ++ padk 9 (v / 1000000000 ^ k % 1000000000) := by
  rw [Nat.pow_succ, ← Nat.div_div_eq_div_mul] at hk ⊢
  generalize v / 1000000000 ^ k = u at *
  have h := dec_pad 9 (u / 1000000000) (u % 1000000000) hk (by omega)
  rw [← h]
  congr 1
  omega
/-- The text of a number: a sign and its digits. -/
def txt (neg : Bool) (v : Nat) : List UInt8 := (if neg = true then [45] else []) ++ Lib.decDigits v
theorem padk_pre {x j : Nat} (hj : j < 9) : padk (j + 1) (x / 10 ^ (8 - j)) = padk j (x / 10 ^ (9 - j)) ++ [UInt8.ofNat (48 + x / 10 ^ (8 - j) % 10)] := by
  rw [padk, Nat.div_div_eq_div_mul, ← Nat.pow_succ, show (8 - j).succ = 9 - j from by omega]
theorem gB_len_le {v n : Nat} (h : v < 4294967296 ^ n) : (gB v).length ≤ 2 * n + 0 := by
  refine Nat.le_of_not_lt fun hk => ?_
  have h1 := (gB_get (k := 2 * n) (by omega)).2
  have h2 : (4294967296 : Nat) ^ n ≤ 1000000000 ^ (2 * n) := by
    rw [Nat.pow_mul]
    exact Nat.pow_le_pow_left (by decide) n
  rw [Nat.div_eq_of_lt (by omega)] at h1
  omega
/-- The text that rounds over the indices ks have made. -/
def txP (gs ks : List Nat) : List UInt8 := ks.foldl (fun t k => t ++ (if k < gs.length - 1 then padk 9 (gs[k]?.getD 0) else Lib.decDigits (gs[k]?.getD 0))) []
theorem txP_snoc (gs ks : List Nat) (k : Nat) : txP gs (ks ++ [k]) = txP gs ks ++ (if k < gs.length - 1 then padk 9 (gs[k]?.getD 0) else Lib.decDigits (gs[k]?.getD 0)) := by
  unfold txP; rw [List.foldl_append]; rfl
theorem dec_len (k : Nat) : ∀ (u : Nat), u < 10 ^ (k + 1) → (Lib.decDigits u).length ≤ k + 1 := by
  induction k with
  | zero => intro u h; rw [dec_small (by simpa using h)]; simp
  | succ k ih =>
    intro u h
    rcases Nat.lt_or_ge u 10 with h1 | h1
    · rw [dec_small h1]; simp
    · rw [dec_big h1, List.length_append]
      have := ih (u / 10) (by rw [Nat.pow_succ] at h; omega)
      simp only [List.length_cons, List.length_nil]
      omega
theorem txP_len {gs : List Nat} (hg : Good gs) (ks : List Nat) : (txP gs ks).length ≤ 10 * ks.length := by
  have H : ∀ (ks : List Nat) (n : Nat), ks.length = n → (txP gs ks).length ≤ 10 * n := by
    intro ks n
    induction n generalizing ks with
    | zero => intro h; rw [List.eq_nil_of_length_eq_zero h]; exact Nat.le_refl _
    | succ n ih =>
      intro h
      have hne : ks ≠ [] := fun e => by rw [e] at h; cases h
      rw [← List.dropLast_concat_getLast hne, txP_snoc, List.length_append]
      have h1 := ih ks.dropLast (by rw [List.length_dropLast]; omega)
      split
      · rw [padk_len]; omega
      · have := dec_len 9 (gs[ks.getLast hne]?.getD 0) (by have := hg.get (ks.getLast hne); omega)
        omega
  exact H ks _ rfl
end Go.Proofs.YtglgfjknhplajaaGreatDoor

/- wide.isText: whether bytes are the text of an absolute value. -/
namespace Go.Proofs.YtglgfjknhplajaaGreatDoor
open Go.RowKit

def isDig (c : UInt8) : Bool := decide (48 ≤ c.toNat) && decide (c.toNat ≤ 57)
def txtOk (l : List UInt8) : Bool := l.all isDig && (decide (l = [48]) || (decide (l ≠ []) && decide (l[0]?.getD 0 ≠ 48)))
def decV (l : List UInt8) : Nat := l.foldl (fun a c => a * 10 + (c.toNat - 48)) 0
theorem str_get (l : List UInt8) (k : Nat) (_ : k < l.length) (h2 : k < (⟨l.toArray⟩ : ByteArray).size) : (⟨l.toArray⟩ : ByteArray)[k]'h2 = l[k] := rfl
theorem str_size (l : List UInt8) : (⟨l.toArray⟩ : ByteArray).size = l.length := by simp [ByteArray.size]

end Go.Proofs.YtglgfjknhplajaaGreatDoor

/- wide.pushGroup: an absolute value whose text has nine digits more. -/
namespace Go.Proofs.YtglgfjknhplajaaGreatDoor
open Go.RowKit

/-- The limbs of a product with y and a sum with g, from the lowest one on, and what is carried. -/
def mgK (g : Nat) (xs : List Nat) (y : Nat) : Nat → List Nat × Nat
  | 0 => ([], g)
  | k + 1 => ((mgK g xs y k).1 ++ [((mgK g xs y k).2 + xs[k]?.getD 0 * y) % 4294967296], ((mgK g xs y k).2 + xs[k]?.getD 0 * y) / 4294967296)
theorem mgK_len (g : Nat) (xs : List Nat) (y k : Nat) : (mgK g xs y k).1.length = k := by
  induction k with
  | zero => rfl
  | succ k ih => simp [mgK, ih]
theorem mgK_good (g : Nat) (xs : List Nat) (y k : Nat) : Good (mgK g xs y k).1 := by
  induction k with
  | zero => exact Good.nil
  | succ k ih => exact ih.append (Good.nil.cons (Nat.mod_lt _ (by omega)))
theorem mgK_carry {g : Nat} {xs : List Nat} {y : Nat} (hx : Good xs) (hg : g < 1000000000) (hy : y ≤ 1000000000) (k : Nat) : (mgK g xs y k).2 ≤ 1000000000 := by
  induction k with
  | zero => show g ≤ _; omega
  | succ k ih =>
    show ((mgK g xs y k).2 + xs[k]?.getD 0 * y) / 4294967296 ≤ _
    have h1 := hx.get k
    have h2 : xs[k]?.getD 0 * y ≤ 4294967295 * 1000000000 := Nat.mul_le_mul (by omega) hy
    omega
theorem mgK_val (g : Nat) (xs : List Nat) (y k : Nat) : val (mgK g xs y k).1 + 4294967296 ^ k * (mgK g xs y k).2 = val (xs.take k) * y + g := by
  induction k with
  | zero => simp [mgK, val_nil]
  | succ k ih =>
    have h1 : (mgK g xs y (k + 1)).1 = (mgK g xs y k).1 ++ [((mgK g xs y k).2 + xs[k]?.getD 0 * y) % 4294967296] := rfl
    have h2 : (mgK g xs y (k + 1)).2 = ((mgK g xs y k).2 + xs[k]?.getD 0 * y) / 4294967296 := rfl
    rw [h1, h2, val_snoc, mgK_len, val_take_succ', pow_succ_]
    generalize (mgK g xs y k).2 = c at *
    generalize xs[k]?.getD 0 = x at *
    have h3 := Nat.div_add_mod (c + x * y) 4294967296
    generalize (c + x * y) / 4294967296 = q at *
    generalize (c + x * y) % 4294967296 = r at *
    have h4 : 4294967296 ^ k * r + 4294967296 * 4294967296 ^ k * q = 4294967296 ^ k * (4294967296 * q + r) := by grind
    have h5 : (val (xs.take k) + 4294967296 ^ k * x) * y = val (xs.take k) * y + 4294967296 ^ k * (x * y) := by grind
    rw [h3, Nat.mul_add] at h4
    rw [h5]
    omega
theorem norm_of_ge {xs : List Nat} (g : Good xs) (h : 0 < xs.length → 4294967296 ^ (xs.length - 1) ≤ val xs) : Norm xs := by
  intro h0
  have hne : xs ≠ [] := fun e => by subst e; cases h0
  have hl : 0 < xs.length := List.length_pos_iff.2 hne
  have h1 := h hl
  have h2 := val_split xs (xs.length - 1) (by omega)
  have h3 : val (xs.drop (xs.length - 1)) = 0 := by
    rw [val_step, show xs.length - 1 + 1 = xs.length from by omega, List.drop_length, val_nil, (last_get hl).1 h0]
  rw [h3, Nat.mul_zero, Nat.add_zero] at h2
  have h5 := val_lt (g.take (xs.length - 1))
  rw [List.length_take, Nat.min_eq_left (by omega)] at h5
  omega
/-- With the carry as a last limb, where there is one, these are the number's limbs. -/
theorem mg_digs {g V n : Nat} (hn : (digs V).length = n) (hg : g < 1000000000) (hc : 0 < (mgK g (digs V) 1000000000 n).2) : (mgK g (digs V) 1000000000 n).1 ++ [(mgK g (digs V) 1000000000 n).2] = digs (V * 1000000000 + g) := by
  have hcy := mgK_carry (digs_good V) hg (Nat.le_refl 1000000000) n
  have hv := mgK_val g (digs V) 1000000000 n
  rw [List.take_of_length_le (by omega), digs_val] at hv
  refine eq_digs ((mgK_good _ _ _ _).append (Good.nil.cons (by omega))) ?_ (by rw [val_snoc, mgK_len]; exact hv)
  intro h0
  rw [List.getLast?_append] at h0
  simp at h0
  omega
theorem mg_digs0 {g V n : Nat} (hn : (digs V).length = n) (hc : (mgK g (digs V) 1000000000 n).2 = 0) : (mgK g (digs V) 1000000000 n).1 = digs (V * 1000000000 + g) := by
  have hv := mgK_val g (digs V) 1000000000 n
  rw [List.take_of_length_le (by omega), digs_val, hc, Nat.mul_zero, Nat.add_zero] at hv
  refine eq_digs (mgK_good _ _ _ _) (norm_of_ge (mgK_good _ _ _ _) fun h0 => ?_) hv
  rw [mgK_len] at h0 ⊢
  rw [hv]
  have h1 := val_ge (digs_norm V) (n - 1) (by omega)
  rw [digs_val] at h1
  omega

/-- A call returns the limbs of v in a slice of the call's own. -/
def ROw (w : World) (B v : Nat) (e : Ending) (w' : World) : Prop := ∃ A c, e = .returned (.slice A (digs v).length c) ∧ Ow w' B (.slice A (digs v).length c) (digs v) ∧ Below B w w' ∧ Lib.OthersKept 76 none w w'
theorem Ow.slice {w : World} {B n c : Nat} {A : Option Addr} {ts : List Nat} (h : Ow w B (.slice A n c) ts) (hn : 0 < ts.length) : ∃ g, A = some ⟨g, 0, none⟩ := by
  rcases h.2 with ⟨_, h0⟩ | ⟨g, cap, cur, e, _⟩
  · omega
  · injection e with e1 _ _
    exact ⟨g, e1⟩

end Go.Proofs.YtglgfjknhplajaaGreatDoor

/- wide.read: the absolute value with a text. -/
namespace Go.Proofs.YtglgfjknhplajaaGreatDoor
open Go.RowKit

theorem decV_snoc (l : List UInt8) (c : UInt8) : decV (l ++ [c]) = decV l * 10 + (c.toNat - 48) := by
  unfold decV; rw [List.foldl_append]; rfl
theorem decV_take {l : List UInt8} {p : Nat} (h : p < l.length) : decV (l.take (p + 1)) = decV (l.take p) * 10 + ((l[p]'h).toNat - 48) := by
  rw [take_snoc_ l p h, decV_snoc]
theorem all_get {l : List UInt8} (h : l.all isDig = true) {p : Nat} (hp : p < l.length) : 48 ≤ (l[p]'hp).toNat ∧ (l[p]'hp).toNat ≤ 57 := by
  have h1 := List.all_eq_true.1 h _ (List.getElem_mem hp)
  unfold isDig at h1
  simpa using h1
theorem fold_lt : ∀ (l : List UInt8) (a : Nat), l.all isDig = true → l.foldl (fun a c => a * 10 + (c.toNat - 48)) a < (a + 1) * 10 ^ l.length
  | [], a, _ => by simp
  | c :: t, a, h => by
    rw [List.all_cons, Bool.and_eq_true] at h
    have h1 := fold_lt t (a * 10 + (c.toNat - 48)) h.2
    have h2 : c.toNat ≤ 57 := by
      have := h.1
      unfold isDig at this
      simp at this
      exact this.2
    have h3 : (a * 10 + (c.toNat - 48) + 1) * 10 ^ t.length ≤ ((a + 1) * 10) * 10 ^ t.length := Nat.mul_le_mul_right _ (by omega)
    rw [List.foldl_cons, List.length_cons, Nat.pow_succ, Nat.mul_comm (10 ^ t.length), ← Nat.mul_assoc]
    exact Nat.lt_of_lt_of_le h1 h3
theorem decV_lt {l : List UInt8} (h : l.all isDig = true) : decV l < 10 ^ l.length := by
  have := fold_lt l 0 h
  rw [Nat.zero_add, Nat.one_mul] at this
  exact this
theorem all_take {l : List UInt8} (h : l.all isDig = true) (k : Nat) : (l.take k).all isDig = true := by
  rw [List.all_eq_true] at h ⊢
  exact fun c hc => h c (List.mem_of_mem_take hc)
theorem decT_len {l : List UInt8} (h : l.all isDig = true) (k : Nat) : (digs (decV (l.take k))).length ≤ l.length := by
  have h1 := digs_len.2 (Nat.lt_of_lt_of_le (decV_lt (all_take h k)) (Nat.pow_le_pow_left (show 10 ≤ 4294967296 by omega) _))
  rw [List.length_take] at h1
  omega
/-- Where the last whole group ends. -/
def fl (L p : Nat) : Nat := if p < L % 9 then 0 else p - (p - L % 9) % 9
theorem fl_le (L p : Nat) : fl L p ≤ p := by unfold fl; split <;> omega
theorem fl_lt (L p : Nat) : p - fl L p ≤ 8 := by unfold fl; split <;> omega
theorem fl_hit {L p : Nat} (hp : p < L) (h : (L - 1 - p) % 9 = 0) : fl L (p + 1) = p + 1 ∧ (fl L p = 0 ∨ p + 1 - fl L p = 9) := by unfold fl; split <;> split <;> omega
theorem fl_miss {L p : Nat} (hp : p < L) (h : (L - 1 - p) % 9 ≠ 0) : fl L (p + 1) = fl L p := by unfold fl; split <;> split <;> omega
theorem ten_bd {d G : Nat} (h : d ≤ 8) (hG : G < 10 ^ d) : G < 100000000 := Nat.lt_of_lt_of_le hG (by
  have := Nat.pow_le_pow_right (show 1 ≤ 10 by omega) h
  exact this)
theorem Ow.iterAt {w : World} {B : Nat} {v : Value} {ts : List Nat} (h : Ow w B v ts) {k : Nat} {s : ByteArray} {pos : Nat} (hk : w.heap[k]? = some (.stringIter s pos)) (p : Nat) : Ow (w.iterAt k s p) B v ts := by
  refine ⟨h.1, ?_⟩
  rcases h.2 with h0 | ⟨g, cap, cur, e, hb, hg, r⟩
  · exact .inl h0
  · refine .inr ⟨g, cap, cur, e, hb, ?_, r⟩
    rw [Lib.iterAt_other w k g s p (fun e1 => by rw [e1, hk] at hg; cases hg)]
    exact hg
theorem read_step {L p f G d D1 D2 D3 T : Nat} (hT : T = 10 ^ 9) (hp : p < L) (hf : f = fl L p) (h1 : D1 = D2 * 10 ^ (p - f) + G) (h3 : D3 = D1 * 10 + d) (h0 : fl L p = 0 → D2 = 0) (hit : (L - 1 - p) % 9 = 0) : D3 = D2 * T + (G * 10 + d) := by
  have h4 := (fl_hit hp hit).2
  rw [← hf] at h4 h0
  rcases h4 with h5 | h5
  · rw [h0 h5, Nat.zero_mul, Nat.zero_add] at h1
    rw [h0 h5, Nat.zero_mul, Nat.zero_add, h3, h1]
  · have e : T = 10 ^ (p - f) * 10 := by rw [← Nat.pow_succ, show (p - f).succ = 9 from by omega, hT]
    rw [e, h3, h1, Nat.add_mul, Nat.mul_assoc, Nat.add_assoc]

end Go.Proofs.YtglgfjknhplajaaGreatDoor

/- strings.CutPrefix of a minus sign. -/
namespace Go.Proofs.YtglgfjknhplajaaGreatDoor
open Go.RowKit

/-- Whether a text begins with a minus sign, and what is behind it. -/
def minus : List UInt8 → Bool × List UInt8
  | 45 :: t => (true, t)
  | l => (false, l)
theorem minus_pfx (l : List UInt8) : Lib.hasPrefix l [45] = (minus l).1 ∧ Lib.trimPrefix l [45] = (minus l).2 := by
  cases l with
  | nil => exact ⟨rfl, rfl⟩
  | cons c t =>
    by_cases h : c = 45
    · subst h
      exact ⟨rfl, rfl⟩
    · have h0 : (45 == c) = false := by simpa using fun e => h e.symm
      have h1 : Lib.hasPrefix (c :: t) [45] = false := by
        unfold Lib.hasPrefix
        simp [List.isPrefixOf, h0]
      have h2 : minus (c :: t) = (false, c :: t) := by
        unfold minus
        split
        · rename_i e
          injection e with e1 _
          exact absurd e1 h
        · rfl
      rw [h1, h2]
      exact ⟨rfl, by unfold Lib.trimPrefix; rw [h1]; rfl⟩
theorem minus_len (l : List UInt8) : (minus l).2.length ≤ l.length := by
  unfold minus
  split
  · exact Nat.le_succ _
  · exact Nat.le_refl _
end Go.Proofs.YtglgfjknhplajaaGreatDoor

/- wide.Parse: the number with a text. -/
namespace Go.Proofs.YtglgfjknhplajaaGreatDoor
open Go.RowKit

/-- Whether bytes are the text of a number. -/
def pOk (l : List UInt8) : Bool := txtOk (minus l).2 && !((minus l).1 && decide ((minus l).2 = [48]))
theorem txtOk_all {l : List UInt8} (h : txtOk l = true) : l.all isDig = true := by
  unfold txtOk at h
  rw [Bool.and_eq_true] at h
  exact h.1
theorem eq_zero_text (t : List UInt8) : ((⟨t.toArray⟩ : ByteArray).toList == (⟨#[48]⟩ : ByteArray).toList) = decide (t = [48]) := by
  rw [Lib.toList_data, Lib.toList_data]
  by_cases h : t = [48]
  · subst h; rfl
  · rw [decide_eq_false h]
    simpa using h

theorem boxes1 {w w1 : World} {t0 : TypeId} {a0 a1 : Value} (hb : Below (w.alloc (.cells #[a0, a1] t0)).heap.size (w.alloc (.cells #[a0, a1] t0)) w1) : Pr w1 w.heap.size a0 a1 := (Pr.new w _ rfl a0 a1 t0).via hb

end Go.Proofs.YtglgfjknhplajaaGreatDoor

/- Decimal texts and numbers: one is the other's. -/
namespace Go.Proofs.YtglgfjknhplajaaGreatDoor
open Go.RowKit

theorem dig_toNat {d : Nat} (h : d < 10) : (UInt8.ofNat (48 + d)).toNat = 48 + d := by
  rw [UInt8.toNat_ofNat']
  exact Nat.mod_eq_of_lt (by omega)
theorem dig_isDig {d : Nat} (h : d < 10) : isDig (UInt8.ofNat (48 + d)) = true := by
  unfold isDig
  rw [dig_toNat h, decide_eq_true (by omega), decide_eq_true (by omega)]
  rfl
theorem decV_one (c : UInt8) : decV [c] = c.toNat - 48 := by
  show 0 * 10 + _ = _
  omega
theorem decV_dec (u : Nat) : decV (Lib.decDigits u) = u := by
  induction u using Nat.strongRecOn with
  | _ u ih =>
    by_cases h : u < 10
    · rw [dec_small h, decV_one, dig_toNat h]
      omega
    · rw [dec_big (by omega), decV_snoc, ih (u / 10) (by omega), dig_toNat (Nat.mod_lt _ (by omega))]
      omega
theorem dec_all (u : Nat) : (Lib.decDigits u).all isDig = true := by
  induction u using Nat.strongRecOn with
  | _ u ih =>
    by_cases h : u < 10
    · rw [dec_small h, List.all_cons, dig_isDig h]
      rfl
    · rw [dec_big (by omega), List.all_append, ih (u / 10) (by omega), List.all_cons, dig_isDig (Nat.mod_lt _ (by omega))]
      rfl
theorem dec_head (u : Nat) (h0 : 0 < u) : Lib.decDigits u ≠ [] ∧ (Lib.decDigits u)[0]?.getD 0 ≠ 48 := by
  induction u using Nat.strongRecOn with
  | _ u ih =>
    by_cases h : u < 10
    · rw [dec_small h]
      refine ⟨by simp, fun e => ?_⟩
      have e2 : (UInt8.ofNat (48 + u)).toNat = 48 := congrArg UInt8.toNat e
      rw [dig_toNat h] at e2
      omega
    · have h1 := ih (u / 10) (by omega) (by omega)
      rw [dec_big (by omega)]
      refine ⟨by simp, ?_⟩
      rw [List.getElem?_append_left (List.length_pos_iff.2 h1.1)]
      exact h1.2
theorem dec_ok (u : Nat) : txtOk (Lib.decDigits u) = true := by
  unfold txtOk
  rw [dec_all, Bool.true_and]
  rcases Nat.eq_zero_or_pos u with h | h
  · subst h
    rw [dec_small (by omega)]
    rfl
  · have h1 := dec_head u h
    rw [decide_eq_true h1.1, decide_eq_true h1.2]
    simp
theorem minus_dig {l : List UInt8} (h : l.all isDig = true) : minus l = (false, l) := by
  unfold minus
  split
  · rename_i t
    have h1 : isDig 45 = true := by
      rw [List.all_cons, Bool.and_eq_true] at h
      exact h.1
    exact absurd h1 (by decide)
  · rfl
theorem minus_txt (neg : Bool) (v : Nat) : minus (txt neg v) = (neg, Lib.decDigits v) := by
  unfold txt
  cases neg with
  | true => rfl
  | false =>
    rw [if_neg (by simp), List.nil_append]
    exact minus_dig (dec_all v)
theorem pOk_txt {neg : Bool} {v : Nat} (h : neg = true → v ≠ 0) : pOk (txt neg v) = true := by
  unfold pOk
  rw [minus_txt, dec_ok, Bool.true_and, Bool.not_eq_true']
  cases neg with
  | false => rfl
  | true =>
    rw [Bool.true_and]
    refine decide_eq_false fun e => (dec_head v (Nat.pos_of_ne_zero (h rfl))).2 ?_
    show (Lib.decDigits v)[0]?.getD 0 = 48
    rw [show Lib.decDigits v = [48] from e]
    rfl
theorem dec_short {v n : Nat} (h : (digs v).length ≤ n) (h0 : 0 < n) : (Lib.decDigits v).length ≤ 10 * n := by
  have h1 := digs_len.1 h
  have h2 : v < 10 ^ (10 * n) := by
    rw [Nat.pow_mul]
    exact Nat.lt_of_lt_of_le h1 (Nat.pow_le_pow_left (show 4294967296 ≤ 10 ^ 10 by decide) n)
  have h3 := dec_len (10 * n - 1) v (by rw [Nat.sub_add_cancel (by omega)]; exact h2)
  omega
theorem txt_short {v n : Nat} (neg : Bool) (h : (digs v).length ≤ n) (h0 : 0 < n) : (txt neg v).length ≤ 10 * n + 1 := by
  have := dec_short h h0
  unfold txt
  rw [List.length_append]
  cases neg <;> simp <;> omega
theorem dec_decV : ∀ (k : Nat) (t : List UInt8), t.length = k + 1 → t.all isDig = true → t[0]?.getD 0 ≠ 48 → Lib.decDigits (decV t) = t
  | 0, t, hk, ha, _ => by
    obtain ⟨c, rfl⟩ := List.length_eq_one_iff.1 hk
    have hc : isDig c = true := by simpa using ha
    unfold isDig at hc
    rw [Bool.and_eq_true, decide_eq_true_eq, decide_eq_true_eq] at hc
    rw [decV_one, dec_small (by omega), show 48 + (c.toNat - 48) = c.toNat from by omega, UInt8.ofNat_toNat]
  | k + 1, t, hk, ha, h0 => by
    obtain ⟨s, c, rfl⟩ : ∃ s c, t = s ++ [c] := ⟨t.dropLast, t.getLast (fun e => by subst e; cases hk), (List.dropLast_concat_getLast _).symm⟩
    rw [List.length_append, List.length_singleton] at hk
    have hs : s.length = k + 1 := by omega
    rw [List.all_append, Bool.and_eq_true] at ha
    have hc : isDig c = true := by simpa using ha.2
    unfold isDig at hc
    rw [Bool.and_eq_true, decide_eq_true_eq, decide_eq_true_eq] at hc
    rw [List.getElem?_append_left (by omega)] at h0
    have ih := dec_decV k s hs ha.1 h0
    have hp : 0 < decV s := by
      rcases Nat.eq_zero_or_pos (decV s) with e | e
      · rw [e, dec_small (by omega)] at ih
        rw [← ih] at h0
        exact absurd rfl h0
      · exact e
    rw [decV_snoc, dec_big (by omega), show (decV s * 10 + (c.toNat - 48)) / 10 = decV s from by omega, show (decV s * 10 + (c.toNat - 48)) % 10 = c.toNat - 48 from by omega, ih,
      show 48 + (c.toNat - 48) = c.toNat from by omega, UInt8.ofNat_toNat]
theorem dec_txt {t : List UInt8} (h : txtOk t = true) : Lib.decDigits (decV t) = t := by
  unfold txtOk at h
  rw [Bool.and_eq_true, Bool.or_eq_true, decide_eq_true_eq, Bool.and_eq_true, decide_eq_true_eq, decide_eq_true_eq] at h
  rcases h.2 with e | ⟨e1, e2⟩
  · subst e
    rw [decV_one]
    exact dec_small (by decide)
  · have hl := List.length_pos_iff.2 e1
    exact dec_decV (t.length - 1) t (by omega) h.1 e2
theorem minus_back (l : List UInt8) : (if (minus l).1 = true then [45] else []) ++ (minus l).2 = l := by
  unfold minus
  split <;> rfl
/-- The number that a text means. -/
def pZ (l : List UInt8) : Int := toI (minus l).1 (decV (minus l).2)
theorem pZ_abs (l : List UInt8) : (pZ l).natAbs = decV (minus l).2 := toI_abs _ _
theorem pZ_neg {l : List UInt8} (h : pOk l = true) : decide (pZ l < 0) = (minus l).1 := by
  unfold pOk at h
  rw [Bool.and_eq_true, Bool.not_eq_true'] at h
  unfold pZ toI
  cases hm : (minus l).1 with
  | false => simp
  | true =>
    rw [hm, Bool.true_and] at h
    have hne : decV (minus l).2 ≠ 0 := fun e => by
      have e2 := dec_txt h.1
      rw [e, dec_small (by omega)] at e2
      have h2 := h.2
      rw [← e2] at h2
      exact absurd h2 (by decide)
    simp
    omega
theorem pZ_txt {l : List UInt8} (h : pOk l = true) : txt (decide (pZ l < 0)) (pZ l).natAbs = l := by
  rw [pZ_neg h, pZ_abs]
  unfold pOk at h
  rw [Bool.and_eq_true] at h
  unfold txt
  rw [dec_txt h.1]
  exact minus_back l
theorem txt_pZ (x : Int) : pZ (txt (decide (x < 0)) x.natAbs) = x ∧ pOk (txt (decide (x < 0)) x.natAbs) = true := by
  constructor
  · unfold pZ
    rw [minus_txt, decV_dec, toI_self]
  · refine pOk_txt fun h => ?_
    have : x < 0 := by simpa using h
    omega
theorem pZ_sz {l : List UInt8} (h : pOk l = true) {k : Nat} (hl : l.length ≤ k) : Sz k (pZ l) := by
  unfold Sz
  rw [pZ_abs]
  unfold pOk at h
  rw [Bool.and_eq_true] at h
  have h1 := decV_lt (txtOk_all h.1)
  have h2 := minus_len l
  exact Nat.lt_of_lt_of_le h1 (Nat.le_trans (Nat.pow_le_pow_right (by omega) (show (minus l).2.length ≤ k by omega)) (Nat.pow_le_pow_left (by omega) k))
end Go.Proofs.YtglgfjknhplajaaGreatDoor

/- planisphereref01.Text. -/
namespace Go.Proofs.YtglgfjknhplajaaGreatDoor
open Go.RowKit

theorem padk_cons (k x : Nat) : padk (k + 1) x = UInt8.ofNat (48 + x / 10 ^ k % 10) :: padk k x := by
  induction k generalizing x with
  | zero => simp [padk]
  | succ k ih =>
    show padk (k + 1) (x / 10) ++ [UInt8.ofNat (48 + x % 10)] = _
    rw [ih]
    show _ = UInt8.ofNat (48 + x / 10 ^ (k + 1) % 10) :: (padk k (x / 10) ++ [UInt8.ofNat (48 + x % 10)])
    rw [Nat.div_div_eq_div_mul, Nat.pow_succ, Nat.mul_comm 10]
    rfl
theorem dec_padk : ∀ (k r : Nat), 10 ^ k ≤ r → r < 10 ^ (k + 1) → Lib.decDigits r = padk (k + 1) r := by
  intro k
  induction k with
  | zero =>
    intro r h1 h2
    rw [dec_small (by omega)]
    show _ = [] ++ [UInt8.ofNat (48 + r % 10)]
    rw [Nat.mod_eq_of_lt (show r < 10 by omega)]
    rfl
  | succ k ih =>
    intro r h1 h2
    have h3 : 10 ^ (k + 1) = 10 ^ k * 10 := Nat.pow_succ ..
    have h4 : 10 ^ (k + 1 + 1) = 10 ^ (k + 1) * 10 := Nat.pow_succ ..
    have h5 : 0 < 10 ^ k := Nat.pow_pos (by omega)
    rw [dec_big (by omega), ih (r / 10) (by omega) (by omega)]
    rfl
/-- The number that a slice of limbs reads as. -/
def rdN (w : World) : Value → Nat
  | .slice (some ad) n _ => val ((List.range n).map fun j => match w.cell? ⟨ad.block, ad.off + j, none⟩ with | some (.int _ z) => z.toNat | _ => 0)
  | _ => 0
theorem rdN_lm {w : World} {B n c v : Nat} {A : Option Addr} (h : Lm w B A n c (digs v)) : rdN w (.slice A n c) = v := by
  rw [← digs_val v]
  generalize digs v = xs at h
  rcases A with _ | ad
  · rcases Nat.eq_zero_or_pos n with h0 | h0
    · obtain rfl : xs = [] := List.eq_nil_of_length_eq_zero (by rw [h.len]; exact h0)
      rfl
    · obtain ⟨b, off, e, _⟩ := h.at_ h0
      cases e
  · show val _ = _
    congr 1
    refine List.ext_getElem? fun j => ?_
    by_cases hj : j < n
    · obtain ⟨b, off, e, _, hc⟩ := h.cell hj
      injection e with e
      subst e
      rw [List.getElem?_map, List.getElem?_range hj]
      show some (match w.cell? ⟨b, off + j, none⟩ with | some (.int _ z) => z.toNat | _ => 0) = _
      rw [hc, get_nat xs j (by rw [h.len]; exact hj)]
      rfl
    · rw [List.getElem?_eq_none (by simp; omega), List.getElem?_eq_none (by rw [h.len]; omega)]
/-- The digits of q ahead of a text. -/
def dcs (q : Nat) (s : List UInt8) : List UInt8 := if q = 0 then s else Lib.decDigits q ++ s
theorem dcs_step {q : Nat} (hq : 0 < q) (s : List UInt8) {i : Nat} (h9 : i ≤ 9) (h1 : 0 < q / 1000000000 → i = 9) (h2 : q / 1000000000 = 0 → q % 1000000000 / 10 ^ i = 0) (h3 : q / 1000000000 = 0 → 0 < i → 0 < q % 1000000000 / 10 ^ (i - 1)) :
    dcs q s = dcs (q / 1000000000) (padk i (q % 1000000000) ++ s) := by
  unfold dcs
  rw [if_neg (by omega)]
  rcases Nat.eq_zero_or_pos (q / 1000000000) with h | h
  · rw [if_pos h]
    have hr : q % 1000000000 = q := by omega
    rw [hr] at h2 h3 ⊢
    have hi : 0 < i := by
      refine Nat.pos_of_ne_zero fun e => ?_
      subst e
      have := h2 h
      simp at this
      omega
    obtain ⟨k, rfl⟩ : ∃ k, i = k + 1 := ⟨i - 1, by omega⟩
    have e1 : 10 ^ k ≤ q := by
      have e := h3 h hi
      rw [Nat.add_sub_cancel] at e
      exact (Nat.div_pos_iff.1 e).2
    have e2 : q < 10 ^ (k + 1) := by
      have e := h2 h
      exact Nat.lt_of_div_eq_zero (Nat.pow_pos (by omega)) e
    rw [dec_padk k q e1 e2]
  · rw [if_neg (by omega), h1 h, ← List.append_assoc, ← dec_pad 9 _ _ h (Nat.mod_lt _ (by omega))]
    congr 2
    omega
theorem dcs_len (q : Nat) (ss : List UInt8) : ss.length ≤ (dcs q ss).length := by
  unfold dcs
  split
  · exact Nat.le_refl _
  · rw [List.length_append]; omega
theorem dcs_v (v : Nat) : dcs v [] = if v = 0 then [] else Lib.decDigits v := by
  unfold dcs
  split
  · rfl
  · exact List.append_nil _
theorem digit_str {d : Nat} (h : d < 10) : (⟨#[48, 49, 50, 51, 52, 53, 54, 55, 56, 57]⟩ : ByteArray).extract d (d + 1) = ⟨[UInt8.ofNat (48 + d)].toArray⟩ := by
  rw [show (⟨#[48, 49, 50, 51, 52, 53, 54, 55, 56, 57]⟩ : ByteArray) = ⟨([48, 49, 50, 51, 52, 53, 54, 55, 56, 57] : List UInt8).toArray⟩ from rfl, Lib.extract_eq]
  match d, h with
  | 0, _ => rfl
  | 1, _ => rfl
  | 2, _ => rfl
  | 3, _ => rfl
  | 4, _ => rfl
  | 5, _ => rfl
  | 6, _ => rfl
  | 7, _ => rfl
  | 8, _ => rfl
  | 9, _ => rfl
theorem cat_str (a b : List UInt8) : (⟨a.toArray⟩ : ByteArray) ++ ⟨b.toArray⟩ = ⟨(a ++ b).toArray⟩ := by
  apply ByteArray.ext
  simp
theorem eq_str (a b : List UInt8) : ((⟨a.toArray⟩ : ByteArray).toList == (⟨b.toArray⟩ : ByteArray).toList) = decide (a = b) := by
  rw [Lib.toList_data, Lib.toList_data]
  by_cases h : a = b
  · subst h; simp
  · rw [decide_eq_false h]
    simpa using h

end Go.Proofs.YtglgfjknhplajaaGreatDoor

/- The reference's Gcd. -/
namespace Go.Proofs.YtglgfjknhplajaaGreatDoor
open Go.RowKit

set_option maxRecDepth 100000 in
set_option maxHeartbeats 1000000 in
theorem rgcd_bad (w : World) (na nb : Bool) (A B : Option Addr) (n m ca cb : Nat) (xs ys : List Nat) (hA : Lm w w.heap.size A n ca xs) (hB : Lm w w.heap.size B m cb ys) (hv : chkB na xs nb ys = 8) :
    Calls Tryz.prog 51 #[.agg #[.bool na, .slice A n ca], .agg #[.bool nb, .slice B m cb]] w (RW w false [] 8) := by
  have HA := Lib.hid hA
  have HB := Lib.hid hB
  have HV := Lib.hid hv
  clear hv
  go_enter Tryz.func51, Tryz.ntmps51
  go_wp2_with fail
  refine (rboth_any _ _ _ _ _ _ _ _ _ _ _ (((HA.out.box _).box _).box _) (((HB.out.box _).box _).box _) 8 HV.out).mono ?_
  rintro e w1 ⟨rfl, hb1⟩
  have ⟨hx0, hx1, hy0, hy1, hz0, hz1, hf0, hf1, hsz⟩ := box3 hb1
  go_wp2_with fail
  refine (rboth_any _ _ _ _ _ _ _ _ _ _ _ ((((HA.out.box _).box _).box _).via hb1) ((((HB.out.box _).box _).box _).via hb1) 8 HV.out).mono ?_
  rintro e w2 ⟨rfl, hb2⟩
  have hky2 := keep2 hb2 hsz ⟨hz0, hz1⟩
  have ⟨hkf0, hkf1⟩ := keepF hb2 hsz ⟨hf0, hf1⟩
  go_wp2
  exact post_ws Tryz.results51 rfl rfl hky2.1 hky2.2 ⟨none, 0, 0, rfl, Lm.nil _ _, below_set2 ((bbox (bbox (bbox hb1))).trans (hb2.mono (by omega))) (by omega) _ _⟩

set_option maxRecDepth 100000 in
set_option maxHeartbeats 1000000 in
theorem rgcd_ok (w : World) (na nb : Bool) (A B : Option Addr) (n m ca cb a b : Nat) (hA : Lm w w.heap.size A n ca (digs a)) (hB : Lm w w.heap.size B m cb (digs b)) (hv : chkB na (digs a) nb (digs b) = 0) :
    Calls Tryz.prog 51 #[.agg #[.bool na, .slice A n ca], .agg #[.bool nb, .slice B m cb]] w (RW w (mkN false (Nat.gcd a b)) (mkL (Nat.gcd a b)) (mkE (Nat.gcd a b))) := by
  have h41 := (chk_ok.1 (chkB_ok.1 hv).1).1
  have h42 := (chk_ok.1 (chkB_ok.1 hv).2).1
  have HA := Lib.hid hA
  have HB := Lib.hid hB
  have HV := Lib.hid hv
  clear hv hA hB
  go_enter Tryz.func51, Tryz.ntmps51
  go_wp2_with fail
  refine (rboth_any _ _ _ _ _ _ _ _ _ _ _ (((HA.out.box _).box _).box _) (((HB.out.box _).box _).box _) 0 HV.out).mono ?_
  rintro e w1 ⟨rfl, hb1⟩
  have ⟨PA0, PB0, PR0⟩ := boxes3 w 29 29 29 (.bool na) (.slice A n ca) (.bool nb) (.slice B m cb) (.bool false) (.slice none 0 0)
  have PA := Lib.hid (PA0.via hb1)
  have PB := Lib.hid (PB0.via hb1)
  have PR := Lib.hid (PR0.via hb1)
  have LA := Lib.hid ((((HA.out.box _).box _).box _).via hb1)
  have LB := Lib.hid ((((HB.out.box _).box _).box _).via hb1)
  have HB0 := Lib.hid (bbox (bbox (bbox hb1)))
  clear PA0 PB0 PR0 hb1
  have ⟨a0, a1, _, _, _⟩ := PA.out
  have ⟨b0, b1, _, _, _⟩ := PB.out
  go_wp2
  go_quiet (fail)
  go_wp2
  go_loopw [6, 7] (fun xv yv wr => ∃ (p q n' m' c2 c3 : Nat) (A2 B3 : Option Addr), xv = .slice A2 n' c2 ∧ yv = .slice B3 m' c3 ∧ Lm wr wr.heap.size A2 n' c2 (digs p) ∧ Lm wr wr.heap.size B3 m' c3 (digs q) ∧ (digs p).length ≤ 4096 ∧ (digs q).length ≤ 4096 ∧ Nat.gcd p q = Nat.gcd a b ∧
      Pr wr (w.heap.size + 1 + 1) (.bool false) (.slice none 0 0) ∧ Below w.heap.size w wr) (fun _ yv wr => rdN wr yv)
  case atStart => exact ⟨a, b, n, m, ca, cb, A, B, rfl, rfl, LA.out.drewN nq, LB.out.drewN nq, h41, h42, rfl, PR.out.drewN nq, bdrewN HB0.out nq⟩
  case round =>
    obtain ⟨p, q, n', m', c2, c3, A2, B3, rfl, rfl, hp, hq, lp, lq, hg, hP, hB⟩ := hrel
    have Lp := Lib.hid hp
    have Lq := Lib.hid hq
    have HP := Lib.hid hP
    have HBl := Lib.hid hB
    have HG := Lib.hid hg
    have hn4 : n' ≤ 4096 := by rw [← hp.len]; exact lp
    have hm4 : m' ≤ 4096 := by rw [← hq.len]; exact lq
    have hcq := hq.cap
    have hxq := hq.max
    clear hp hq hP hB hg a0 a1 b0 b1
    rcases Nat.eq_zero_or_pos q with h0 | h0
    · subst h0
      obtain rfl : m' = 0 := Lq.out.len.symm
      have HG2 : Hid (val (digs p) = Nat.gcd a b) := by show _ = _; rw [digs_val, ← HG.out, Nat.gcd_zero_right]
      go_wp2_with fail
      refine (rmade_any _ _ _ _ _ _ (Nat.gcd a b) Lp.out HG2.out (by omega)).mono ?_
      rintro e w3 ⟨A3, n3, c3, rfl, hL3, hb3⟩
      have HP3 := Lib.hid (HP.out.via hb3)
      have HB3 := Lib.hid (HBl.out.trans (hb3.mono HBl.out.size))
      clear hb3
      have ⟨r0, r1, _, _, _⟩ := HP3.out
      go_wp2
      exact post_ws Tryz.results51 rfl rfl r0 r1 ⟨A3, n3, c3, rfl, hL3.setP HP3.out _ _, below_set2 HB3.out (by omega) _ _⟩
    · have hm : 0 < m' := by rw [← Lq.out.len, digs_pos]; exact h0
      have hml := Nat.mod_lt p h0
      have HM := Lib.hid hml
      clear hml
      go_wp2_with fail
      refine (rover_any _ _ _ _ _ _ _ p q Lp.out Lq.out h0 (by omega)).mono ?_
      rintro e w2 ⟨Q, cq, R, cr, rfl, hQ, hR, hb2⟩
      have HR := Lib.hid hR
      have HQ := Lib.hid (Lq.out.via hb2)
      have HP2 := Lib.hid (HP.out.via hb2)
      have HB2 := Lib.hid (HBl.out.trans (hb2.mono HBl.out.size))
      clear hR hQ hb2
      go_wp2
      go_roundw
      case rel =>
        refine ⟨q, p % q, m', _, c3, cr, B3, R, rfl, rfl, HQ.out, HR.out, lq, Nat.le_trans (digs_mono (Nat.le_of_lt HM.out)) lq, ?_, HP2.out, HB2.out⟩
        rw [← HG.out, Nat.gcd_comm p q, Nat.gcd_rec q p, Nat.gcd_comm]
      case measure =>
        rw [rdN_lm HR.out, rdN_lm Lq.out]
        exact HM.out
end Go.Proofs.YtglgfjknhplajaaGreatDoor

/- Lehmer steps (Collins condition), in whole numbers. -/
namespace Go.Proofs.YtglgfjknhplajaaGreatDoor
/-- The loop's state: the two numbers that are looked at (x, y), the factors of the last three numbers; a, b: the numbers themselves, of which X and Y are the highest digits. -/
structure Leh (X Y a b P s c x y A0 B0 A1 B1 A2 B2 : Int) : Prop where
  sq : s * s = 1
  hx : x = s * (A1 * X - B1 * Y)
  hy : y = -s * (A2 * X - B2 * Y)
  y0 : 0 ≤ y
  yx : y ≤ x
  xX : x ≤ X
  a0 : 0 ≤ A0
  b0 : 0 ≤ B0
  a1 : 0 ≤ A1
  b1 : 0 ≤ B1
  a2 : 0 ≤ A2
  b2 : 1 ≤ B2
  ab : A2 ≤ B2
  sm : A1 + A2 ≤ B1 + B2
  bb : B1 ≤ B2
  a1b : A1 ≤ B2
  det : B2 * x + B1 * y = X
  gcd : Int.gcd (s * (A1 * a - B1 * b)) (-s * (A2 * a - B2 * b)) = Int.gcd a b
  cm : -1 ≤ c
  sum : (c = -1 ∧ s * (A1 * a - B1 * b) = a ∧ -s * (A2 * a - B2 * b) = b) ∨ (0 ≤ c ∧ s * (A1 * a - B1 * b) + -s * (A2 * a - B2 * b) ≤ a)
  par : (s = 1 ∧ c % 2 = 1) ∨ (s = -1 ∧ c % 2 = 0)
  /-- what stands if the last step is taken -/
  tk : 0 ≤ c → 0 ≤ s * (A1 * a - B1 * b) ∧ s * (A1 * a - B1 * b) ≤ -s * (A0 * a - B0 * b) ∧ Int.gcd (-s * (A0 * a - B0 * b)) (s * (A1 * a - B1 * b)) = Int.gcd a b ∧
    A0 < 4294967296 ∧ B0 < 4294967296 ∧ A1 < 4294967296 ∧ B1 < 4294967296 ∧ (1 ≤ c → -s * (A0 * a - B0 * b) + s * (A1 * a - B1 * b) ≤ a)

theorem Leh.start {X Y a b P : Int} (h0 : 0 ≤ Y) (h1 : Y ≤ X) : Leh X Y a b P 1 (-1) X Y 0 0 1 0 0 1 := by
  refine ⟨by omega, by omega, by omega, h0, h1, by omega, by omega, by omega, by omega, by omega, by omega, by omega, by omega, by omega, by omega, by omega, by omega, ?_, by omega, .inl ⟨rfl, by omega, by omega⟩, .inl ⟨rfl, rfl⟩, fun h => absurd h (by omega)⟩
  rw [show (1 : Int) * (1 * a - 0 * b) = a from by omega, show (-1 : Int) * (0 * a - 1 * b) = b from by omega]

theorem gcd_step (u v q : Int) : Int.gcd v (u - q * v) = Int.gcd u v := by
  rw [Int.gcd_comm u v, Int.sub_eq_add_neg, ← Int.neg_mul]
  exact Int.gcd_add_mul_right_right v u (-q)

theorem leh_low {P m n a0 b0 t : Int} (s : Int) (hs : s * s = 1) (hm : 0 ≤ m) (hn : 0 ≤ n) (hmn : m ≤ n) (ha : 0 ≤ a0) (ha' : a0 ≤ P) (hb : 0 ≤ b0) (hb' : b0 ≤ P) (ht : n ≤ t) : 0 ≤ t * P + s * (m * a0 - n * b0) := by
  have hP : 0 ≤ P := by omega
  have e1 : m * a0 ≤ n * P := Int.le_trans (Int.mul_le_mul_of_nonneg_right hmn ha) (Int.mul_le_mul_of_nonneg_left ha' hn)
  have e2 : n * b0 ≤ n * P := Int.mul_le_mul_of_nonneg_left hb' hn
  have e3 : n * P ≤ t * P := Int.mul_le_mul_of_nonneg_right ht hP
  have e4 : 0 ≤ m * a0 := Int.mul_nonneg hm ha
  have e5 : 0 ≤ n * b0 := Int.mul_nonneg hn hb
  have e6 : s = 1 ∨ s = -1 := by
    have : (s - 1) * (s + 1) = 0 := by grind
    rcases Int.mul_eq_zero.1 this with h | h
    · left; omega
    · right; omega
  rcases e6 with rfl | rfl
  · omega
  · omega

theorem sq_lt {B x X : Int} (hB : 0 ≤ B) (hx : B ≤ x) (h : B * x ≤ X) (hX : X < 18446744073709551616) : B < 4294967296 := by
  refine Int.lt_of_not_ge fun h2 => ?_
  have e1 : (4294967296 : Int) * 4294967296 ≤ B * x := Int.mul_le_mul h2 (by omega) (by omega) hB
  omega

theorem Leh.step {X Y a b P s c x y A0 B0 A1 B1 A2 B2 ra rb q r : Int} (h : Leh X Y a b P s c x y A0 B0 A1 B1 A2 B2) (ha : a = X * P + ra) (hb : b = Y * P + rb) (ra0 : 0 ≤ ra) (raP : ra ≤ P) (rb0 : 0 ≤ rb) (rbP : rb ≤ P) (hX : X < 18446744073709551616)
    (hc1 : B2 ≤ y) (hc2 : B1 + B2 ≤ x - y) (hq : x = q * y + r) (hr0 : 0 ≤ r) (hr : r < y) :
    Leh X Y a b P (-s) (c + 1) y r A1 B1 A2 B2 (A1 + q * A2) (B1 + q * B2) ∧ 1 ≤ q ∧ B1 + q * B2 ≤ X ∧ A1 + q * A2 ≤ B1 + q * B2 ∧ q ≤ X ∧ q * y ≤ x ∧ q * A2 ≤ X ∧ q * B2 ≤ X := by
  have hy1 : 1 ≤ y := Int.le_trans h.b2 hc1
  have hq1 : 1 ≤ q := by
    refine Int.le_of_not_gt fun h2 => ?_
    have : q * y ≤ 0 := Int.mul_nonpos_of_nonpos_of_nonneg (by omega) (by omega)
    have := h.yx; have := h.b1; have := h.b2; omega
  have hqA : A2 ≤ q * A2 := by have := Int.mul_le_mul_of_nonneg_right hq1 h.a2; rwa [Int.one_mul] at this
  have hqB : B2 ≤ q * B2 := by have := Int.mul_le_mul_of_nonneg_right hq1 (show 0 ≤ B2 by have := h.b2; omega); rwa [Int.one_mul] at this
  have hqAB : (q - 1) * A2 ≤ (q - 1) * B2 := Int.mul_le_mul_of_nonneg_left h.ab (by omega)
  have hqAB' : q * A2 - A2 ≤ q * B2 - B2 := by rw [Int.sub_mul, Int.sub_mul] at hqAB; omega
  have hdet : (B1 + q * B2) * y + B2 * r = X := by
    have := h.det
    rw [hq] at this
    grind
  have hBr : 0 ≤ B2 * r := Int.mul_nonneg (by have := h.b2; omega) hr0
  have hB1q : B1 + q * B2 ≤ X := by
    have e1 : (B1 + q * B2) * 1 ≤ (B1 + q * B2) * y := Int.mul_le_mul_of_nonneg_left hy1 (by have := h.b1; have := h.b2; omega)
    omega
  have hqy : q * y ≤ x := by omega
  have hqX : q ≤ X := by
    have e1 : q * 1 ≤ q * y := Int.mul_le_mul_of_nonneg_left hy1 (by omega)
    have := h.xX
    omega
  have hv2 : 0 ≤ -s * (A2 * a - B2 * b) := by
    have e1 := leh_low (-s) (P := P) (m := A2) (n := B2) (a0 := ra) (b0 := rb) (t := y) (by have := h.sq; grind) h.a2 (by have := h.b2; omega) h.ab ra0 raP rb0 rbP hc1
    have e2 : -s * (A2 * a - B2 * b) = y * P + -s * (A2 * ra - B2 * rb) := by rw [h.hy, ha, hb]; grind
    rw [e2]; exact e1
  have hv12 : -s * (A2 * a - B2 * b) ≤ s * (A1 * a - B1 * b) := by
    have e1 := leh_low s (P := P) (m := A1 + A2) (n := B1 + B2) (a0 := ra) (b0 := rb) (t := x - y) h.sq (by have := h.a1; have := h.a2; omega) (by have := h.b1; have := h.b2; omega) h.sm ra0 raP rb0 rbP hc2
    have e2 : s * (A1 * a - B1 * b) - -s * (A2 * a - B2 * b) = (x - y) * P + s * ((A1 + A2) * ra - (B1 + B2) * rb) := by rw [h.hx, h.hy, ha, hb]; grind
    omega
  have hlin : - -s * ((A1 + q * A2) * a - (B1 + q * B2) * b) = s * (A1 * a - B1 * b) - q * (-s * (A2 * a - B2 * b)) := by grind
  have hqv : -s * (A2 * a - B2 * b) ≤ q * (-s * (A2 * a - B2 * b)) := by
    have := Int.mul_le_mul_of_nonneg_right hq1 hv2
    rwa [Int.one_mul] at this
  have hB2 : B2 < 4294967296 := by
    refine sq_lt (X := X) (x := x) (by have := h.b2; omega) (by have := h.yx; omega) ?_ hX
    have := h.det
    have e1 : 0 ≤ B1 * y := Int.mul_nonneg h.b1 h.y0
    omega
  have hsum : s * (A1 * a - B1 * b) + -s * (A2 * a - B2 * b) - q * (-s * (A2 * a - B2 * b)) ≤ a := by
    rcases h.sum with ⟨_, e1, e2⟩ | ⟨_, e1⟩ <;> omega
  refine ⟨⟨?_, ?_, ?_, hr0, by omega, by have := h.xX; have := h.yx; omega, h.a1, h.b1, h.a2, by have := h.b2; omega, ?_, by have := h.b1; have := h.b2; omega, ?_, ?_, ?_, ?_, ?_, ?_, by have := h.cm; omega, ?_, ?_, ?_⟩, hq1, hB1q, ?_, hqX, hqy, ?_, ?_⟩
  · have := h.sq; grind
  · have := h.hy; exact this
  · have e1 := h.hx
    have e2 := h.hy
    have : r = x - q * y := by omega
    rw [this, e1, e2]
    grind
  · have := h.a1; have := h.a2; omega
  · have := h.sm; omega
  · have := h.sm; have := h.ab; omega
  · have := h.b1; omega
  · have := h.ab; have := h.b1; omega
  · exact hdet
  · rw [hlin, gcd_step]; exact h.gcd
  · right
    refine ⟨by have := h.cm; omega, ?_⟩
    rw [hlin]
    omega
  · have := h.cm
    rcases h.par with ⟨e1, e2⟩ | ⟨e1, e2⟩
    · right; constructor <;> omega
    · left; constructor <;> omega
  · intro _
    rw [show - -s * (A1 * a - B1 * b) = s * (A1 * a - B1 * b) from by rw [Int.neg_neg]]
    have := h.a1b; have := h.bb; have := h.ab; have := h.cm
    refine ⟨hv2, hv12, h.gcd, by omega, by omega, by omega, hB2, fun h1 => ?_⟩
    rcases h.sum with ⟨e0, _, _⟩ | ⟨_, e1⟩
    · omega
    · omega
  · have := h.sm; have := h.ab; omega
  · have := h.ab; have := h.b1; have := h.a2; have := Int.mul_le_mul_of_nonneg_left h.ab (show 0 ≤ q by omega); omega
  · have := h.b1; omega
/-- The loop's state, in natural numbers. -/
def LehN (a b p : Nat) (s c : Int) (x y A0 B0 A1 B1 A2 B2 : Nat) : Prop := Leh ((a / p : Nat) : Int) ((b / p : Nat) : Int) (a : Int) (b : Int) (p : Int) s c (x : Int) (y : Int) (A0 : Int) (B0 : Int) (A1 : Int) (B1 : Int) (A2 : Int) (B2 : Int)
theorem LehN.start {a b p : Nat} (h : b ≤ a) : LehN a b p 1 (-1) (a / p) (b / p) 0 0 1 0 0 1 :=
  Leh.start (Int.natCast_nonneg _) (Int.ofNat_le.2 (Nat.div_le_div_right h))
theorem LehN.bd {a b p x y A0 B0 A1 B1 A2 B2 : Nat} {s c : Int} (h : LehN a b p s c x y A0 B0 A1 B1 A2 B2) (hX : a / p < 18446744073709551616) :
    x < 18446744073709551616 ∧ y ≤ x ∧ 1 ≤ B2 ∧ (1 ≤ y → B1 + B2 < 18446744073709551616) ∧ -1 ≤ c := by
  have h1 := h.xX
  have h2 := h.yx
  have h3 := h.b2
  refine ⟨by omega, by omega, by omega, fun hy => ?_, h.cm⟩
  have h4 := h.det
  rw [← Int.natCast_mul, ← Int.natCast_mul] at h4
  have h5 : B2 ≤ B2 * x := Nat.le_mul_of_pos_right _ (by omega)
  have h6 : B1 ≤ B1 * y := Nat.le_mul_of_pos_right _ (by omega)
  omega
theorem LehN.go {a b p x y A0 B0 A1 B1 A2 B2 : Nat} {s c : Int} (h : LehN a b p s c x y A0 B0 A1 B1 A2 B2) (hp : 0 < p) (hX : a / p < 18446744073709551616) (h1 : B2 ≤ y) (h2 : B1 + B2 ≤ x - y) :
    LehN a b p (-s) (c + 1) y (x % y) A1 B1 A2 B2 (A1 + x / y * A2) (B1 + x / y * B2) ∧ 1 ≤ x / y ∧ B1 + x / y * B2 < 18446744073709551616 ∧ A1 + x / y * A2 < 18446744073709551616 ∧ x / y * A2 < 18446744073709551616 ∧ x / y * B2 < 18446744073709551616 ∧
      x / y * y ≤ x ∧ x - x / y * y = x % y ∧ B2 < 4294967296 ∧ B2 ≤ x / y * B2 := by
  obtain ⟨b1, b2, b3, _, b5⟩ := h.bd hX
  have hy : 0 < y := by omega
  have hdm := Nat.div_add_mod x y
  have hml := Nat.mod_lt x hy
  have hdm' : x = x / y * y + x % y := by rw [Nat.mul_comm]; exact hdm.symm
  have e1 := Nat.div_add_mod a p
  have e2 := Nat.div_add_mod b p
  have e3 := Nat.mod_lt a hp
  have e4 := Nat.mod_lt b hp
  have key := Leh.step h (ra := ((a % p : Nat) : Int)) (rb := ((b % p : Nat) : Int)) (q := ((x / y : Nat) : Int)) (r := ((x % y : Nat) : Int))
    (by rw [← Int.natCast_mul, ← Int.natCast_add]; congr 1; rw [Nat.mul_comm]; exact e1.symm)
    (by rw [← Int.natCast_mul, ← Int.natCast_add]; congr 1; rw [Nat.mul_comm]; exact e2.symm)
    (by omega) (by omega) (by omega) (by omega) (by omega) (by omega) (by omega)
    (by rw [← Int.natCast_mul, ← Int.natCast_add]; congr 1)
    (by omega) (by omega)
  obtain ⟨k1, k2, k3, k4, k5, k6, k7, k8⟩ := key
  have hB : B2 < 4294967296 := by
    have := k1.tk (by omega)
    omega
  have hq : 1 ≤ x / y := by omega
  have hqB : B2 ≤ x / y * B2 := Nat.le_mul_of_pos_left _ (by omega)
  refine ⟨?_, hq, ?_, ?_, ?_, ?_, by omega, by omega, hB, hqB⟩
  · unfold LehN
    rw [Int.natCast_add, Int.natCast_mul, Int.natCast_add, Int.natCast_mul]
    exact k1
  · rw [← Int.natCast_mul, ← Int.natCast_add] at k3; omega
  · rw [← Int.natCast_mul, ← Int.natCast_add, ← Int.natCast_mul, ← Int.natCast_add] at k4
    rw [← Int.natCast_mul, ← Int.natCast_add] at k3
    omega
  · rw [← Int.natCast_mul] at k7; omega
  · rw [← Int.natCast_mul] at k8; omega
/-- What stands once steps are taken. -/
theorem leh_take {a b p x y A0 B0 A1 B1 A2 B2 : Nat} {s c : Int} (h : LehN a b p s c x y A0 B0 A1 B1 A2 B2) (hc : 0 < c) (hb : 0 < b) : ∃ u v : Nat, v ≤ u ∧ Nat.gcd u v = Nat.gcd a b ∧ u + v < a + b ∧ u ≤ a ∧
    A0 < 4294967296 ∧ B0 < 4294967296 ∧ A1 < 4294967296 ∧ B1 < 4294967296 ∧ (c % 2 = 0 → u + B0 * b = A0 * a ∧ v + A1 * a = B1 * b) ∧ (c % 2 = 1 → u + A0 * a = B0 * b ∧ v + B1 * b = A1 * a) := by
  obtain ⟨t1, t2, t3, t4, t5, t6, t7, t8⟩ := h.tk (by omega)
  have t9 := t8 (by omega)
  obtain ⟨u, hu⟩ := Int.eq_ofNat_of_zero_le (Int.le_trans t1 t2)
  obtain ⟨v, hv⟩ := Int.eq_ofNat_of_zero_le t1
  have hpar := h.par
  rw [hu, hv] at t3 t9 t2
  have t3' : Nat.gcd u v = Nat.gcd a b := t3
  refine ⟨u, v, by omega, t3', by omega, by omega, by omega, by omega, by omega, by omega, fun h0 => ?_, fun h0 => ?_⟩
  · rcases hpar with ⟨_, e⟩ | ⟨rfl, _⟩
    · omega
    · rw [← Int.natCast_mul, ← Int.natCast_mul] at hu hv
      omega
  · rcases hpar with ⟨rfl, _⟩ | ⟨_, e⟩
    · rw [← Int.natCast_mul, ← Int.natCast_mul] at hu hv
      omega
    · omega
end Go.Proofs.YtglgfjknhplajaaGreatDoor

/- Differences of two products by a limb, limb by limb (blend), in whole numbers. -/
namespace Go.Proofs.YtglgfjknhplajaaGreatDoor
/-- One limb of the difference p x - m y with c carried and t borrowed: the limb, what is carried, what is borrowed. -/
def blO (c t : Nat) : Nat := if t % 4294967296 ≤ c % 4294967296 then c % 4294967296 - t % 4294967296 else c % 4294967296 + 4294967296 - t % 4294967296
def blC (c : Nat) : Nat := c / 4294967296
def blT (c t : Nat) : Nat := t / 4294967296 + if t % 4294967296 ≤ c % 4294967296 then 0 else 1
theorem bl_eq (c t : Nat) : blO c t + 4294967296 * blC c + t = c + 4294967296 * blT c t := by
  unfold blO blC blT
  split <;> omega
theorem blO_lt (c t : Nat) : blO c t < 4294967296 := by unfold blO; split <;> omega
/-- The limbs, what is carried and what is borrowed behind k limbs. -/
def blK (p m : Nat) (xs ys : List Nat) : Nat → List Nat × Nat × Nat
  | 0 => ([], 0, 0)
  | k + 1 => ((blK p m xs ys k).1 ++ [blO ((blK p m xs ys k).2.1 + p * xs[k]?.getD 0) ((blK p m xs ys k).2.2 + m * ys[k]?.getD 0)], blC ((blK p m xs ys k).2.1 + p * xs[k]?.getD 0), blT ((blK p m xs ys k).2.1 + p * xs[k]?.getD 0) ((blK p m xs ys k).2.2 + m * ys[k]?.getD 0))
theorem blK_len (p m : Nat) (xs ys : List Nat) (k : Nat) : (blK p m xs ys k).1.length = k := by
  induction k with
  | zero => rfl
  | succ k ih => simp [blK, ih]
theorem blK_good (p m : Nat) (xs ys : List Nat) (k : Nat) : Good (blK p m xs ys k).1 := by
  induction k with
  | zero => exact Good.nil
  | succ k ih => exact ih.append (Good.nil.cons (blO_lt _ _))
theorem bl_mul {p x : Nat} (hp : p < 4294967296) (hx : x < 4294967296) : p * x ≤ 18446744065119617025 := by
  have := Nat.mul_le_mul (show p ≤ 4294967295 by omega) (show x ≤ 4294967295 by omega)
  omega
theorem blK_bd {p m : Nat} {xs ys : List Nat} (hp : p < 4294967296) (hm : m < 4294967296) (hx : Good xs) (hy : Good ys) (k : Nat) : (blK p m xs ys k).2.1 < 4294967296 ∧ (blK p m xs ys k).2.2 ≤ 4294967296 := by
  induction k with
  | zero => exact ⟨by show 0 < 4294967296; omega, by show 0 ≤ 4294967296; omega⟩
  | succ k ih =>
    have h1 := bl_mul hp (hx.get k)
    have h2 := bl_mul hm (hy.get k)
    obtain ⟨i1, i2⟩ := ih
    show blC _ < _ ∧ blT _ _ ≤ _
    generalize (blK p m xs ys k).2.1 = c at *
    generalize (blK p m xs ys k).2.2 = t at *
    generalize p * xs[k]?.getD 0 = u at *
    generalize m * ys[k]?.getD 0 = v at *
    unfold blC blT
    constructor
    · omega
    · split <;> omega
theorem blK_val (p m : Nat) (xs ys : List Nat) (k : Nat) : val (blK p m xs ys k).1 + 4294967296 ^ k * (blK p m xs ys k).2.1 + m * val (ys.take k) = p * val (xs.take k) + 4294967296 ^ k * (blK p m xs ys k).2.2 := by
  induction k with
  | zero => simp [blK, val_nil]
  | succ k ih =>
    have e1 : (blK p m xs ys (k + 1)).1 = (blK p m xs ys k).1 ++ [blO ((blK p m xs ys k).2.1 + p * xs[k]?.getD 0) ((blK p m xs ys k).2.2 + m * ys[k]?.getD 0)] := rfl
    have e2 : (blK p m xs ys (k + 1)).2.1 = blC ((blK p m xs ys k).2.1 + p * xs[k]?.getD 0) := rfl
    have e3 : (blK p m xs ys (k + 1)).2.2 = blT ((blK p m xs ys k).2.1 + p * xs[k]?.getD 0) ((blK p m xs ys k).2.2 + m * ys[k]?.getD 0) := rfl
    rw [e1, e2, e3, val_snoc, blK_len, val_take_succ', val_take_succ', pow_succ_]
    generalize (blK p m xs ys k).2.1 = c at *
    generalize (blK p m xs ys k).2.2 = t at *
    generalize xs[k]?.getD 0 = x at *
    generalize ys[k]?.getD 0 = y at *
    have h := bl_eq (c + p * x) (t + m * y)
    generalize blO (c + p * x) (t + m * y) = o at *
    generalize blC (c + p * x) = c' at *
    generalize blT (c + p * x) (t + m * y) = t' at *
    generalize val (blK p m xs ys k).1 = V at *
    generalize val (xs.take k) = X at *
    generalize val (ys.take k) = Y at *
    generalize 4294967296 ^ k = E at *
    have h2 : E * (o + 4294967296 * c' + (t + m * y)) = E * (c + p * x + 4294967296 * t') := by rw [h]
    grind
/-- Behind all limbs: the difference, if it is a number of as many limbs. -/
theorem bl_all {p m n D : Nat} {xs ys : List Nat} (hx : xs.length = n) (hy : ys.length = n) (hD : D < 4294967296 ^ n) (h : D + m * val ys = p * val xs) : val (blK p m xs ys n).1 = D := by
  have h1 := blK_val p m xs ys n
  rw [List.take_of_length_le (by omega), List.take_of_length_le (by omega)] at h1
  have h2 := val_lt (blK_good p m xs ys n)
  rw [blK_len] at h2
  generalize val (blK p m xs ys n).1 = V at *
  generalize (blK p m xs ys n).2.1 = c at *
  generalize (blK p m xs ys n).2.2 = t at *
  generalize 4294967296 ^ n = E at *
  have h3 : V + E * c = D + E * t := by omega
  rcases Nat.lt_trichotomy c t with h4 | h4 | h4
  · have h5 : E * (c + 1) ≤ E * t := Nat.mul_le_mul_left _ h4
    rw [Nat.mul_add] at h5
    omega
  · subst h4; omega
  · have h5 : E * (t + 1) ≤ E * c := Nat.mul_le_mul_left _ h4
    rw [Nat.mul_add] at h5
    omega
theorem bl_at {p m : Nat} {xs ys : List Nat} {j : Nat} : ((blK p m xs ys j).1 ++ xs.drop j)[j]?.getD 0 = xs[j]?.getD 0 := by
  rw [List.getElem?_append_right (by rw [blK_len]; exact Nat.le_refl _), blK_len, Nat.sub_self, List.getElem?_drop, Nat.add_zero]
theorem bl_len {p m : Nat} {xs ys : List Nat} {j n : Nat} (hx : xs.length = n) (hj : j ≤ n) : ((blK p m xs ys j).1 ++ xs.drop j).length = n := by
  rw [List.length_append, blK_len, List.length_drop]; omega
theorem bl_set {p m : Nat} {xs ys : List Nat} {j : Nat} (hj : j < xs.length) :
    ((blK p m xs ys j).1 ++ xs.drop j).set j (blO ((blK p m xs ys j).2.1 + p * xs[j]?.getD 0) ((blK p m xs ys j).2.2 + m * ys[j]?.getD 0)) = (blK p m xs ys (j + 1)).1 ++ xs.drop (j + 1) := by
  rw [List.set_append_right _ _ (by rw [blK_len]; exact Nat.le_refl _), blK_len, Nat.sub_self, drop_cons_ _ j hj, List.set_cons_zero]
  show _ = ((blK p m xs ys j).1 ++ [_]) ++ _
  rw [List.append_assoc]
  rfl
end Go.Proofs.YtglgfjknhplajaaGreatDoor

/- A block of the call's own that is known whole: any values; wide.blend's next. -/
namespace Go.Proofs.YtglgfjknhplajaaGreatDoor
open Go.RowKit

/-- Block g is just the values vs, none frozen. -/
def Kd (w : World) (g : Nat) (t : TypeId) (vs : Array Value) : Prop := w.heap[g]? = some (.cells vs t (0, 0))
section
variable {w w' : World} {g : Nat} {t : TypeId} {vs : Array Value}
theorem Kd.lt (h : Kd w g t vs) : g < w.heap.size := (Array.getElem?_eq_some_iff.1 h).1
theorem Kd.cell (h : Kd w g t vs) (i : Nat) : w.cell? ⟨g, i, none⟩ = vs[i]? := cell_of_row w g i _ _ (0, 0) h
theorem Kd.frozen (h : Kd w g t vs) (i : Nat) : w.frozen? ⟨g, i, none⟩ = false := by
  unfold Kd at h
  simp [World.frozen?, h]
theorem Kd.set_ (h : Kd w g t vs) (i : Nat) (v : Value) : Kd (w.setCell ⟨g, i, none⟩ v) g t (vs.setIfInBounds i v) := by
  unfold Kd at h ⊢
  simp [World.setCell, Array.getElem?_modify, h]
theorem Kd.far (h : Kd w g t vs) {k i : Nat} (hk : k ≠ g) (v : Value) : Kd (w.setCell ⟨k, i, none⟩ v) g t vs := (Below.heap_setCell _ _ _ g (fun e => hk e.symm)).trans h
theorem Kd.grown (h : Kd w g t vs) {row : Option Nat} (hb : w.grownBy w' row) (hg : some g ≠ row) : Kd w' g t vs := (hb.block g h.lt hg).trans h
theorem Kd.below (h : Kd w g t vs) {B : Nat} (hb : Below B w w') (hg : g < B) : Kd w' g t vs := (hb.block g hg).trans h
theorem Kd.new (w : World) (k : Nat) (hk : w.heap.size = k) (vs : Array Value) (t : TypeId) : Kd (w.alloc (.cells vs t)) k t vs := by
  subst hk
  exact heap_alloc_new w _
theorem Kd.alloc (h : Kd w g t vs) (o : Obj) : Kd (w.alloc o) g t vs := (heap_alloc_old w o h.lt).trans h
theorem Kd.drew (h : Kd w g t vs) : Kd w.drew g t vs := h
theorem Kd.drewN (h : Kd w g t vs) (k : Nat) : Kd (w.drewN k) g t vs := h
end
theorem grown_drew {w w' : World} {r : Option Nat} (h : w.grownBy w' r) : w.grownBy w'.drew r := ⟨h.os, h.tape, h.output, h.size, h.block⟩
theorem grown_drewN {w w' : World} {r : Option Nat} (h : w.grownBy w' r) (k : Nat) : w.grownBy (w'.drewN k) r := ⟨h.os, h.tape, h.output, h.size, h.block⟩
/-- The four cells of a blend. -/
def blV (p m c s : Nat) : Array Value := #[.int .u64 (p : Int), .int .u64 (m : Int), .int .u64 (c : Int), .int .u64 (s : Int)]

set_option maxRecDepth 100000 in
set_option maxHeartbeats 4000000 in
theorem next_any (w : World) (g : Nat) (t : TypeId) (p m c s x y : Nat) (hK : Kd w g t (blV p m c s)) (hp : p < 4294967296) (hm : m < 4294967296) (hc : c < 4294967296) (hs : s ≤ 4294967296) (hx : x < 4294967296) (hy : y < 4294967296) :
    Calls Tryz.prog 129 #[.pointer (some ⟨g, 0, none⟩), .int .u64 (x : Int), .int .u64 (y : Int)] w fun e w' =>
      e = .returned (.int .u32 (blO (c + p * x) (s + m * y) : Nat)) ∧ Kd w' g t (blV p m (blC (c + p * x)) (blT (c + p * x) (s + m * y))) ∧ w.grownBy w' (some g) := by
  have h1 := bl_mul hp hx
  have h2 := bl_mul hm hy
  have hpx : (p : Int) * (x : Int) = ((p * x : Nat) : Int) := by rw [Int.natCast_mul]
  have hmy : (m : Int) * (y : Int) = ((m * y : Nat) : Int) := by rw [Int.natCast_mul]
  have c0 := hK.cell 0
  have c1 := hK.cell 1
  have c2 := hK.cell 2
  have c3 := hK.cell 3
  have f2 := hK.frozen 2
  have f3 := hK.frozen 3
  simp only [blV, List.getElem?_toArray, List.getElem?_cons_zero, List.getElem?_cons_succ] at c0 c1 c2 c3
  have HK := Lib.hid hK
  clear hK
  go_enter Tryz.func129, Tryz.ntmps129
  generalize hu : p * x = u at *
  generalize hv : m * y = v at *
  clear hu hv
  go_wp2
  go_region
  all_goals
    (try rw [show IntKind.u64.wrap ((c : Int) + IntKind.u64.wrap (u : Int)) = ((c + u : Nat) : Int) from by rw [IntKind.wrap_u64, IntKind.wrap_u64]; omega])
    (try rw [show (c : Int) + (u : Int) = ((c + u : Nat) : Int) from by omega])
    have HK2 : Hid (Kd (w.setCell ⟨g, 2, none⟩ (.int .u64 ((c + u : Nat) : Int))).drew g t (blV p m (c + u) s)) := HK.out.set_ 2 _
    have HG2 : Hid (w.grownBy (w.setCell ⟨g, 2, none⟩ (.int .u64 ((c + u : Nat) : Int))).drew (some g)) := grown_drew (grownBy_setCellAt w g 2 _)
    clear c0 c1 c2 c3 f2 f3
    generalize (w.setCell ⟨g, 2, none⟩ (.int .u64 ((c + u : Nat) : Int))).drew = W1 at *
    have c0 := HK2.out.cell 0
    have c1 := HK2.out.cell 1
    have c2 := HK2.out.cell 2
    have c3 := HK2.out.cell 3
    have f2 := HK2.out.frozen 2
    have f3 := HK2.out.frozen 3
    simp only [blV, List.getElem?_toArray, List.getElem?_cons_zero, List.getElem?_cons_succ] at c0 c1 c2 c3
    generalize hC : c + u = C at *
    go_wp2
    go_region
    all_goals
      (try rw [show IntKind.u64.wrap ((s : Int) + IntKind.u64.wrap (v : Int)) = ((s + v : Nat) : Int) from by rw [IntKind.wrap_u64, IntKind.wrap_u64]; omega])
      (try rw [show (s : Int) + (v : Int) = ((s + v : Nat) : Int) from by omega])
      have HK3 : Hid (Kd (W1.setCell ⟨g, 3, none⟩ (.int .u64 ((s + v : Nat) : Int))).drew g t (blV p m C (s + v))) := HK2.out.set_ 3 _
      have HG3 : Hid (w.grownBy (W1.setCell ⟨g, 3, none⟩ (.int .u64 ((s + v : Nat) : Int))).drew (some g)) := grown_drew (grownBy_trans HG2.out (grownBy_setCellAt W1 g 3 _))
      clear c0 c1 c2 c3 f2 f3 HK2 HG2
      generalize (W1.setCell ⟨g, 3, none⟩ (.int .u64 ((s + v : Nat) : Int))).drew = W2 at *
      have c0 := HK3.out.cell 0
      have c1 := HK3.out.cell 1
      have c2 := HK3.out.cell 2
      have c3 := HK3.out.cell 3
      have f2 := HK3.out.frozen 2
      have f3 := HK3.out.frozen 3
      simp only [blV, List.getElem?_toArray, List.getElem?_cons_zero, List.getElem?_cons_succ] at c0 c1 c2 c3
      generalize hS : s + v = S at *
      go_wp2
      go_quiet (fail)
      go_wp2
      rw [hC, hS]
      go_ret
      have eO : IntKind.u64.wrap ((C : Int) % 4294967296 - (S : Int) % 4294967296) % 4294967296 = ((blO C S : Nat) : Int) := by rw [IntKind.wrap_u64]; unfold blO; split <;> omega
      have key : ∀ z : Int, z = ((blT C S : Nat) : Int) → Kd (((W2.drewN nq).setCell ⟨g, 2, none⟩ (.int .u64 ((C : Int) / 4294967296))).setCell ⟨g, 3, none⟩ (.int .u64 z)) g t (blV p m (blC C) (blT C S)) := by
        rintro _ rfl
        exact ((show Kd (W2.drewN nq) g t (blV p m C S) from HK3.out).set_ 2 (.int .u64 ((C : Int) / 4294967296))).set_ 3 _
      refine ⟨congrArg Ending.returned (congrArg (Value.int IntKind.u32) eO), key _ (by simp only [IntKind.wrap_u64]; unfold blT; split <;> omega), grownBy_trans (grownBy_trans (grown_drewN HG3.out nq) (grownBy_setCellAt _ g 2 _)) (grownBy_setCellAt _ g 3 _)⟩
end Go.Proofs.YtglgfjknhplajaaGreatDoor

