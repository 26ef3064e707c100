/- The reference's sum. -/
import Derived.Test.YtdbilpmhejigpaaR8
import Derived.Test.YtdbilpmhejigpaaR3
import Derived.Test.YtdbilpmhejigpaaPr
import Derived.Test.YtdbilpmhejigpaaAddS
namespace Go.Proofs.Ytdbilpmhejigpaa
open Go.RowKit

/-- Three boxes of two cells. -/
theorem boxes3 (w : World) (t0 t1 t2 : TypeId) (a0 a1 b0 b1 q0 q1 : Value) :
    Pr (((w.alloc (.cells #[a0, a1] t0)).alloc (.cells #[b0, b1] t1)).alloc (.cells #[q0, q1] t2)) w.heap.size a0 a1 ∧ Pr (((w.alloc (.cells #[a0, a1] t0)).alloc (.cells #[b0, b1] t1)).alloc (.cells #[q0, q1] t2)) (w.heap.size + 1) b0 b1 ∧ Pr (((w.alloc (.cells #[a0, a1] t0)).alloc (.cells #[b0, b1] t1)).alloc (.cells #[q0, q1] t2)) (w.heap.size + 1 + 1) q0 q1 :=
  ⟨((Pr.new w w.heap.size rfl a0 a1 t0).alloc _).alloc _, (Pr.new (w.alloc (.cells #[a0, a1] t0)) (w.heap.size + 1) (by simp) b0 b1 t1).alloc _, Pr.new ((w.alloc (.cells #[a0, a1] t0)).alloc (.cells #[b0, b1] t1)) (w.heap.size + 1 + 1) (by simp) q0 q1 t2⟩
theorem below3 (w : World) (o1 o2 o3 : Obj) : Below w.heap.size w (((w.alloc o1).alloc o2).alloc o3) := (((Below.refl _ _).alloc (Nat.le_refl _) _).alloc (by simp) _).alloc (by simp; omega) _

set_option maxRecDepth 100000 in
set_option maxHeartbeats 1000000 in
theorem rsum_same (w : World) (na nb : Bool) (A B : Option Addr) (n m ca cb a b : Nat) (hA : Lm w w.heap.size A n ca (digs a)) (hB : Lm w w.heap.size B m cb (digs b)) (hn : n ≤ 10000000) (hm : m ≤ 10000000) (hs : na = nb) :
    Calls Try.prog 35 #[.agg #[.bool na, .slice A n ca], .agg #[.bool nb, .slice B m cb]] w (RW w (mkN na (a + b)) (mkL (a + b)) (mkE (a + b))) := by
  have HA := Lib.hid hA
  have HB := Lib.hid hB
  have HP : Hid (val (digs a) + val (digs b) = a + b) := by show _ = _; rw [digs_val, digs_val]
  subst hs
  clear hA hB
  cases na
  · go_enter Try.func35, Try.ntmps35
    go_wp2_with fail
    have ⟨PA, PB, PR⟩ := boxes3 w 24 24 24 (.bool false) (.slice A n ca) (.bool false) (.slice B m cb) (.bool false) (.slice none 0 0)
    have HB0 := Lib.hid (below3 w (.cells #[.bool false, .slice A n ca] 24) (.cells #[.bool false, .slice B m cb] 24) (.cells #[.bool false, .slice none 0 0] 24))
    have LA := Lib.hid (((HA.out.box (.cells #[.bool false, .slice A n ca] 24)).box (.cells #[.bool false, .slice B m cb] 24)).box (.cells #[.bool false, .slice none 0 0] 24))
    have LB := Lib.hid (((HB.out.box (.cells #[.bool false, .slice A n ca] 24)).box (.cells #[.bool false, .slice B m cb] 24)).box (.cells #[.bool false, .slice none 0 0] 24))
    generalize ((w.alloc (.cells #[.bool false, .slice A n ca] 24)).alloc (.cells #[.bool false, .slice B m cb] 24)).alloc (.cells #[.bool false, .slice none 0 0] 24) = w1 at *
    have ⟨a0, a1, _, _, _⟩ := PA
    have ⟨b0, b1, _, _, _⟩ := PB
    have ⟨r0, r1, rf0, rf1, rl⟩ := PR
    go_region_held3 (fun w' => (w'.cell? ⟨w.heap.size, 0, none⟩ = some (.bool false) ∧ w'.cell? ⟨w.heap.size, 1, none⟩ = some (.slice A n ca)) ∧ (w'.cell? ⟨w.heap.size + 1, 0, none⟩ = some (.bool false) ∧ w'.cell? ⟨w.heap.size + 1, 1, none⟩ = some (.slice B m cb)))
      (first | exact ⟨⟨a0, a1⟩, ⟨b0, b1⟩⟩ | exact ⟨⟨PAs.c0, PAs.c1⟩, ⟨PBs.c0, PBs.c1⟩⟩ | exact ⟨⟨PAt.c0, PAt.c1⟩, ⟨PBt.c0, PBt.c1⟩⟩ | exact ⟨⟨PAu.c0, PAu.c1⟩, ⟨PBu.c0, PBu.c1⟩⟩ | go_keep)
      (first
       | (go_at_call 54; refine (rplus_any _ _ _ _ _ _ _ (max n m) (digs a) (digs b) (a + b) LA.out.drew LB.out.drew rfl (by omega) HP.out).mono ?_; rintro e ws ⟨As, cs, ts, rfl, hLs, hvs, hbs⟩; have HVS := Lib.hid hvs; clear hvs; have Bs := (Below.refl w1.heap.size w1).drew.trans hbs; have PAs := PA.via Bs; have PBs := PB.via Bs; have PRs := PR.via Bs)
       | (go_at_call 40; refine (rmade_any _ _ _ _ _ ts (a + b) hLs HVS.out (by omega)).mono ?_; rintro e wt ⟨At, nt, ct, rfl, hLt, hbt⟩; have PAt := PAs.via hbt; have PBt := PBs.via hbt; have PRt := PRs.via hbt; have HBt : Hid (Below w.heap.size w wt) := HB0.out.trans ((Bs.trans (hbt.mono Bs.size)).mono HB0.out.size); have ⟨r0t, r1t, rf0t, rf1t, rlt⟩ := PRt; have PAu := PAt.far (h := w.heap.size + 1 + 1) (by omega) (.bool (mkN false (a + b))) (.slice At nt ct); have PBu := PBt.far (h := w.heap.size + 1 + 1) (by omega) (.bool (mkN false (a + b))) (.slice At nt ct)))
    go_wp2
    exact post_ws Try.results35 rfl rfl PRt.c0 PRt.c1 ⟨At, nt, ct, rfl, hLt.setP PRt _ _, below_set2 HBt.out (by omega) _ _⟩
  · go_enter Try.func35, Try.ntmps35
    go_wp2_with fail
    have ⟨PA, PB, PR⟩ := boxes3 w 24 24 24 (.bool true) (.slice A n ca) (.bool true) (.slice B m cb) (.bool false) (.slice none 0 0)
    have HB0 := Lib.hid (below3 w (.cells #[.bool true, .slice A n ca] 24) (.cells #[.bool true, .slice B m cb] 24) (.cells #[.bool false, .slice none 0 0] 24))
    have LA := Lib.hid (((HA.out.box (.cells #[.bool true, .slice A n ca] 24)).box (.cells #[.bool true, .slice B m cb] 24)).box (.cells #[.bool false, .slice none 0 0] 24))
    have LB := Lib.hid (((HB.out.box (.cells #[.bool true, .slice A n ca] 24)).box (.cells #[.bool true, .slice B m cb] 24)).box (.cells #[.bool false, .slice none 0 0] 24))
    generalize ((w.alloc (.cells #[.bool true, .slice A n ca] 24)).alloc (.cells #[.bool true, .slice B m cb] 24)).alloc (.cells #[.bool false, .slice none 0 0] 24) = w1 at *
    have ⟨a0, a1, _, _, _⟩ := PA
    have ⟨b0, b1, _, _, _⟩ := PB
    have ⟨r0, r1, rf0, rf1, rl⟩ := PR
    go_region_held3 (fun w' => (w'.cell? ⟨w.heap.size, 0, none⟩ = some (.bool true) ∧ w'.cell? ⟨w.heap.size, 1, none⟩ = some (.slice A n ca)) ∧ (w'.cell? ⟨w.heap.size + 1, 0, none⟩ = some (.bool true) ∧ w'.cell? ⟨w.heap.size + 1, 1, none⟩ = some (.slice B m cb)))
      (first | exact ⟨⟨a0, a1⟩, ⟨b0, b1⟩⟩ | exact ⟨⟨PAs.c0, PAs.c1⟩, ⟨PBs.c0, PBs.c1⟩⟩ | exact ⟨⟨PAt.c0, PAt.c1⟩, ⟨PBt.c0, PBt.c1⟩⟩ | exact ⟨⟨PAu.c0, PAu.c1⟩, ⟨PBu.c0, PBu.c1⟩⟩ | go_keep)
      (first
       | (go_at_call 54; refine (rplus_any _ _ _ _ _ _ _ (max n m) (digs a) (digs b) (a + b) LA.out.drew LB.out.drew rfl (by omega) HP.out).mono ?_; rintro e ws ⟨As, cs, ts, rfl, hLs, hvs, hbs⟩; have HVS := Lib.hid hvs; clear hvs; have Bs := (Below.refl w1.heap.size w1).drew.trans hbs; have PAs := PA.via Bs; have PBs := PB.via Bs; have PRs := PR.via Bs)
       | (go_at_call 40; refine (rmade_any _ _ _ _ _ ts (a + b) hLs HVS.out (by omega)).mono ?_; rintro e wt ⟨At, nt, ct, rfl, hLt, hbt⟩; have PAt := PAs.via hbt; have PBt := PBs.via hbt; have PRt := PRs.via hbt; have HBt : Hid (Below w.heap.size w wt) := HB0.out.trans ((Bs.trans (hbt.mono Bs.size)).mono HB0.out.size); have ⟨r0t, r1t, rf0t, rf1t, rlt⟩ := PRt; have PAu := PAt.far (h := w.heap.size + 1 + 1) (by omega) (.bool (mkN true (a + b))) (.slice At nt ct); have PBu := PBt.far (h := w.heap.size + 1 + 1) (by omega) (.bool (mkN true (a + b))) (.slice At nt ct)))
    go_wp2
    exact post_ws Try.results35 rfl rfl PRt.c0 PRt.c1 ⟨At, nt, ct, rfl, hLt.setP PRt _ _, below_set2 HBt.out (by omega) _ _⟩
set_option maxRecDepth 100000 in
set_option maxHeartbeats 1000000 in
theorem rsum_more (w : World) (na nb : Bool) (A B : Option Addr) (n m ca cb a b : Nat) (hA : Lm w w.heap.size A n ca (digs a)) (hB : Lm w w.heap.size B m cb (digs b)) (hn : n ≤ 10000000) (hm : m ≤ 10000000) (hs : na = true ∧ nb = false ∨ na = false ∧ nb = true) (hle : b ≤ a) :
    Calls Try.prog 35 #[.agg #[.bool na, .slice A n ca], .agg #[.bool nb, .slice B m cb]] w (RW w (mkN na (a - b)) (mkL (a - b)) (mkE (a - b))) := by
  have HA := Lib.hid hA
  have HB := Lib.hid hB
  obtain ⟨z, hz, HC⟩ : ∃ z : Int, 0 ≤ z ∧ Hid (cmpL (digs a) (digs b) = z) := ⟨_, by rw [cmpL_norm (digs_good _) (digs_good _) (digs_norm _) (digs_norm _), digs_val, digs_val]; unfold cmpN; rw [if_neg (by omega)]; split <;> decide, rfl⟩
  have HP : Hid (val (digs a) - val (digs b) = a - b) := by show _ = _; rw [digs_val, digs_val]
  have HLe : Hid (val (digs b) ≤ val (digs a)) := by show _ ≤ _; rw [digs_val, digs_val]; exact hle
  have hml : m ≤ n := by rw [← hA.len, ← hB.len]; exact digs_mono hle
  have hsz : (digs (a - b)).length ≤ n := by rw [← hA.len]; exact digs_mono (Nat.sub_le _ _)
  clear hA hB
  rcases hs with ⟨rfl, rfl⟩ | ⟨rfl, rfl⟩
  · go_enter Try.func35, Try.ntmps35
    go_wp2_with fail
    have ⟨PA, PB, PR⟩ := boxes3 w 24 24 24 (.bool true) (.slice A n ca) (.bool false) (.slice B m cb) (.bool false) (.slice none 0 0)
    have HB0 := Lib.hid (below3 w (.cells #[.bool true, .slice A n ca] 24) (.cells #[.bool false, .slice B m cb] 24) (.cells #[.bool false, .slice none 0 0] 24))
    have LA := Lib.hid (((HA.out.box (.cells #[.bool true, .slice A n ca] 24)).box (.cells #[.bool false, .slice B m cb] 24)).box (.cells #[.bool false, .slice none 0 0] 24))
    have LB := Lib.hid (((HB.out.box (.cells #[.bool true, .slice A n ca] 24)).box (.cells #[.bool false, .slice B m cb] 24)).box (.cells #[.bool false, .slice none 0 0] 24))
    generalize ((w.alloc (.cells #[.bool true, .slice A n ca] 24)).alloc (.cells #[.bool false, .slice B m cb] 24)).alloc (.cells #[.bool false, .slice none 0 0] 24) = w1 at *
    have ⟨a0, a1, _, _, _⟩ := PA
    have ⟨b0, b1, _, _, _⟩ := PB
    have ⟨r0, r1, rf0, rf1, rl⟩ := PR
    refine (rcompare_any A B n m ca cb (digs a) (digs b) w1 LA.out LB.out).mono ?_
    rintro e w2 ⟨he, d, rfl⟩
    rw [HC.out] at he
    subst he
    have PA2 := PA.drewN d
    have PB2 := PB.drewN d
    have PR2 := PR.drewN d
    have HB2 : Hid (Below w.heap.size w (w1.drewN d)) := bdrewN HB0.out d
    have LA2 := Lib.hid (LA.out.drewN d)
    have LB2 := Lib.hid (LB.out.drewN d)
    clear PA PB PR HB0 LA LB a0 a1 b0 b1 r0 r1 rf0 rf1 rl
    generalize w1.drewN d = w3 at *
    have PA := PA2
    have PB := PB2
    have PR := PR2
    have HB0 := HB2
    have LA := LA2
    have LB := LB2
    clear PA2 PB2 PR2 HB2 LA2 LB2
    have ⟨a0, a1, _, _, _⟩ := PA
    have ⟨b0, b1, _, _, _⟩ := PB
    have ⟨r0, r1, rf0, rf1, rl⟩ := PR
    go_wp2_with fail
    go_region_held3 (fun w' => (w'.cell? ⟨w.heap.size, 0, none⟩ = some (.bool true) ∧ w'.cell? ⟨w.heap.size, 1, none⟩ = some (.slice A n ca)) ∧ (w'.cell? ⟨w.heap.size + 1, 0, none⟩ = some (.bool false) ∧ w'.cell? ⟨w.heap.size + 1, 1, none⟩ = some (.slice B m cb)))
      (first | exact ⟨⟨a0, a1⟩, ⟨b0, b1⟩⟩ | exact ⟨⟨PAs.c0, PAs.c1⟩, ⟨PBs.c0, PBs.c1⟩⟩ | exact ⟨⟨PAt.c0, PAt.c1⟩, ⟨PBt.c0, PBt.c1⟩⟩ | exact ⟨⟨PAu.c0, PAu.c1⟩, ⟨PBu.c0, PBu.c1⟩⟩ | go_keep)
      (first
       | (go_at_call 55; refine (rminus_any _ _ _ _ _ _ _ (digs a) (digs b) (a - b) LA.out.drew LB.out.drew hml (by omega) HLe.out HP.out).mono ?_; rintro e ws ⟨As, cs, rfl, hLs, hbs⟩; have Bs := (Below.refl w3.heap.size w3).drew.trans hbs; have PAs := PA.via Bs; have PBs := PB.via Bs; have PRs := PR.via Bs)
       | (go_at_call 40; refine (rmade_any _ _ _ _ _ (digs (a - b)) (a - b) hLs (digs_val _) (by omega)).mono ?_; rintro e wt ⟨At, nt, ct, rfl, hLt, hbt⟩; have PAt := PAs.via hbt; have PBt := PBs.via hbt; have PRt := PRs.via hbt; have HBt : Hid (Below w.heap.size w wt) := HB0.out.trans ((Bs.trans (hbt.mono Bs.size)).mono HB0.out.size); have ⟨r0t, r1t, rf0t, rf1t, rlt⟩ := PRt; have PAu := PAt.far (h := w.heap.size + 1 + 1) (by omega) (.bool (mkN true (a - b))) (.slice At nt ct); have PBu := PBt.far (h := w.heap.size + 1 + 1) (by omega) (.bool (mkN true (a - b))) (.slice At nt ct)))
    go_wp2
    exact post_ws Try.results35 rfl rfl PRt.c0 PRt.c1 ⟨At, nt, ct, rfl, hLt.setP PRt _ _, below_set2 HBt.out (by omega) _ _⟩
  · go_enter Try.func35, Try.ntmps35
    go_wp2_with fail
    have ⟨PA, PB, PR⟩ := boxes3 w 24 24 24 (.bool false) (.slice A n ca) (.bool true) (.slice B m cb) (.bool false) (.slice none 0 0)
    have HB0 := Lib.hid (below3 w (.cells #[.bool false, .slice A n ca] 24) (.cells #[.bool true, .slice B m cb] 24) (.cells #[.bool false, .slice none 0 0] 24))
    have LA := Lib.hid (((HA.out.box (.cells #[.bool false, .slice A n ca] 24)).box (.cells #[.bool true, .slice B m cb] 24)).box (.cells #[.bool false, .slice none 0 0] 24))
    have LB := Lib.hid (((HB.out.box (.cells #[.bool false, .slice A n ca] 24)).box (.cells #[.bool true, .slice B m cb] 24)).box (.cells #[.bool false, .slice none 0 0] 24))
    generalize ((w.alloc (.cells #[.bool false, .slice A n ca] 24)).alloc (.cells #[.bool true, .slice B m cb] 24)).alloc (.cells #[.bool false, .slice none 0 0] 24) = w1 at *
    have ⟨a0, a1, _, _, _⟩ := PA
    have ⟨b0, b1, _, _, _⟩ := PB
    have ⟨r0, r1, rf0, rf1, rl⟩ := PR
    refine (rcompare_any A B n m ca cb (digs a) (digs b) w1 LA.out LB.out).mono ?_
    rintro e w2 ⟨he, d, rfl⟩
    rw [HC.out] at he
    subst he
    have PA2 := PA.drewN d
    have PB2 := PB.drewN d
    have PR2 := PR.drewN d
    have HB2 : Hid (Below w.heap.size w (w1.drewN d)) := bdrewN HB0.out d
    have LA2 := Lib.hid (LA.out.drewN d)
    have LB2 := Lib.hid (LB.out.drewN d)
    clear PA PB PR HB0 LA LB a0 a1 b0 b1 r0 r1 rf0 rf1 rl
    generalize w1.drewN d = w3 at *
    have PA := PA2
    have PB := PB2
    have PR := PR2
    have HB0 := HB2
    have LA := LA2
    have LB := LB2
    clear PA2 PB2 PR2 HB2 LA2 LB2
    have ⟨a0, a1, _, _, _⟩ := PA
    have ⟨b0, b1, _, _, _⟩ := PB
    have ⟨r0, r1, rf0, rf1, rl⟩ := PR
    go_wp2_with fail
    go_region_held3 (fun w' => (w'.cell? ⟨w.heap.size, 0, none⟩ = some (.bool false) ∧ w'.cell? ⟨w.heap.size, 1, none⟩ = some (.slice A n ca)) ∧ (w'.cell? ⟨w.heap.size + 1, 0, none⟩ = some (.bool true) ∧ w'.cell? ⟨w.heap.size + 1, 1, none⟩ = some (.slice B m cb)))
      (first | exact ⟨⟨a0, a1⟩, ⟨b0, b1⟩⟩ | exact ⟨⟨PAs.c0, PAs.c1⟩, ⟨PBs.c0, PBs.c1⟩⟩ | exact ⟨⟨PAt.c0, PAt.c1⟩, ⟨PBt.c0, PBt.c1⟩⟩ | exact ⟨⟨PAu.c0, PAu.c1⟩, ⟨PBu.c0, PBu.c1⟩⟩ | go_keep)
      (first
       | (go_at_call 55; refine (rminus_any _ _ _ _ _ _ _ (digs a) (digs b) (a - b) LA.out.drew LB.out.drew hml (by omega) HLe.out HP.out).mono ?_; rintro e ws ⟨As, cs, rfl, hLs, hbs⟩; have Bs := (Below.refl w3.heap.size w3).drew.trans hbs; have PAs := PA.via Bs; have PBs := PB.via Bs; have PRs := PR.via Bs)
       | (go_at_call 40; refine (rmade_any _ _ _ _ _ (digs (a - b)) (a - b) hLs (digs_val _) (by omega)).mono ?_; rintro e wt ⟨At, nt, ct, rfl, hLt, hbt⟩; have PAt := PAs.via hbt; have PBt := PBs.via hbt; have PRt := PRs.via hbt; have HBt : Hid (Below w.heap.size w wt) := HB0.out.trans ((Bs.trans (hbt.mono Bs.size)).mono HB0.out.size); have ⟨r0t, r1t, rf0t, rf1t, rlt⟩ := PRt; have PAu := PAt.far (h := w.heap.size + 1 + 1) (by omega) (.bool (mkN false (a - b))) (.slice At nt ct); have PBu := PBt.far (h := w.heap.size + 1 + 1) (by omega) (.bool (mkN false (a - b))) (.slice At nt ct)))
    go_wp2
    exact post_ws Try.results35 rfl rfl PRt.c0 PRt.c1 ⟨At, nt, ct, rfl, hLt.setP PRt _ _, below_set2 HBt.out (by omega) _ _⟩
set_option maxRecDepth 100000 in
set_option maxHeartbeats 1000000 in
theorem rsum_less (w : World) (na nb : Bool) (A B : Option Addr) (n m ca cb a b : Nat) (hA : Lm w w.heap.size A n ca (digs a)) (hB : Lm w w.heap.size B m cb (digs b)) (hn : n ≤ 10000000) (hm : m ≤ 10000000) (hs : na = true ∧ nb = false ∨ na = false ∧ nb = true) (hlt : a < b) :
    Calls Try.prog 35 #[.agg #[.bool na, .slice A n ca], .agg #[.bool nb, .slice B m cb]] w (RW w (mkN nb (b - a)) (mkL (b - a)) (mkE (b - a))) := by
  have HA := Lib.hid hA
  have HB := Lib.hid hB
  have HC : Hid (cmpL (digs a) (digs b) = -1) := by show _ = _; rw [cmpL_norm (digs_good _) (digs_good _) (digs_norm _) (digs_norm _), digs_val, digs_val]; exact cmpN_lt hlt
  have HP : Hid (val (digs b) - val (digs a) = b - a) := by show _ = _; rw [digs_val, digs_val]
  have HLe : Hid (val (digs a) ≤ val (digs b)) := by show _ ≤ _; rw [digs_val, digs_val]; exact Nat.le_of_lt hlt
  have hml : n ≤ m := by rw [← hA.len, ← hB.len]; exact digs_mono (Nat.le_of_lt hlt)
  have hsz : (digs (b - a)).length ≤ m := by rw [← hB.len]; exact digs_mono (Nat.sub_le _ _)
  clear hA hB
  rcases hs with ⟨rfl, rfl⟩ | ⟨rfl, rfl⟩
  · go_enter Try.func35, Try.ntmps35
    go_wp2_with fail
    have ⟨PA, PB, PR⟩ := boxes3 w 24 24 24 (.bool true) (.slice A n ca) (.bool false) (.slice B m cb) (.bool false) (.slice none 0 0)
    have HB0 := Lib.hid (below3 w (.cells #[.bool true, .slice A n ca] 24) (.cells #[.bool false, .slice B m cb] 24) (.cells #[.bool false, .slice none 0 0] 24))
    have LA := Lib.hid (((HA.out.box (.cells #[.bool true, .slice A n ca] 24)).box (.cells #[.bool false, .slice B m cb] 24)).box (.cells #[.bool false, .slice none 0 0] 24))
    have LB := Lib.hid (((HB.out.box (.cells #[.bool true, .slice A n ca] 24)).box (.cells #[.bool false, .slice B m cb] 24)).box (.cells #[.bool false, .slice none 0 0] 24))
    generalize ((w.alloc (.cells #[.bool true, .slice A n ca] 24)).alloc (.cells #[.bool false, .slice B m cb] 24)).alloc (.cells #[.bool false, .slice none 0 0] 24) = w1 at *
    have ⟨a0, a1, _, _, _⟩ := PA
    have ⟨b0, b1, _, _, _⟩ := PB
    have ⟨r0, r1, rf0, rf1, rl⟩ := PR
    refine (rcompare_any A B n m ca cb (digs a) (digs b) w1 LA.out LB.out).mono ?_
    rintro e w2 ⟨he, d, rfl⟩
    rw [HC.out] at he
    subst he
    have PA2 := PA.drewN d
    have PB2 := PB.drewN d
    have PR2 := PR.drewN d
    have HB2 : Hid (Below w.heap.size w (w1.drewN d)) := bdrewN HB0.out d
    have LA2 := Lib.hid (LA.out.drewN d)
    have LB2 := Lib.hid (LB.out.drewN d)
    clear PA PB PR HB0 LA LB a0 a1 b0 b1 r0 r1 rf0 rf1 rl
    generalize w1.drewN d = w3 at *
    have PA := PA2
    have PB := PB2
    have PR := PR2
    have HB0 := HB2
    have LA := LA2
    have LB := LB2
    clear PA2 PB2 PR2 HB2 LA2 LB2
    have ⟨a0, a1, _, _, _⟩ := PA
    have ⟨b0, b1, _, _, _⟩ := PB
    have ⟨r0, r1, rf0, rf1, rl⟩ := PR
    go_wp2_with fail
    go_region_held3 (fun w' => (w'.cell? ⟨w.heap.size, 0, none⟩ = some (.bool true) ∧ w'.cell? ⟨w.heap.size, 1, none⟩ = some (.slice A n ca)) ∧ (w'.cell? ⟨w.heap.size + 1, 0, none⟩ = some (.bool false) ∧ w'.cell? ⟨w.heap.size + 1, 1, none⟩ = some (.slice B m cb)))
      (first | exact ⟨⟨a0, a1⟩, ⟨b0, b1⟩⟩ | exact ⟨⟨PAs.c0, PAs.c1⟩, ⟨PBs.c0, PBs.c1⟩⟩ | exact ⟨⟨PAt.c0, PAt.c1⟩, ⟨PBt.c0, PBt.c1⟩⟩ | exact ⟨⟨PAu.c0, PAu.c1⟩, ⟨PBu.c0, PBu.c1⟩⟩ | go_keep)
      (first
       | (go_at_call 55; refine (rminus_any _ _ _ _ _ _ _ (digs b) (digs a) (b - a) LB.out.drew LA.out.drew hml (by omega) HLe.out HP.out).mono ?_; rintro e ws ⟨As, cs, rfl, hLs, hbs⟩; have Bs := (Below.refl w3.heap.size w3).drew.trans hbs; have PAs := PA.via Bs; have PBs := PB.via Bs; have PRs := PR.via Bs)
       | (go_at_call 40; refine (rmade_any _ _ _ _ _ (digs (b - a)) (b - a) hLs (digs_val _) (by omega)).mono ?_; rintro e wt ⟨At, nt, ct, rfl, hLt, hbt⟩; have PAt := PAs.via hbt; have PBt := PBs.via hbt; have PRt := PRs.via hbt; have HBt : Hid (Below w.heap.size w wt) := HB0.out.trans ((Bs.trans (hbt.mono Bs.size)).mono HB0.out.size); have ⟨r0t, r1t, rf0t, rf1t, rlt⟩ := PRt; have PAu := PAt.far (h := w.heap.size + 1 + 1) (by omega) (.bool (mkN false (b - a))) (.slice At nt ct); have PBu := PBt.far (h := w.heap.size + 1 + 1) (by omega) (.bool (mkN false (b - a))) (.slice At nt ct)))
    go_wp2
    exact post_ws Try.results35 rfl rfl PRt.c0 PRt.c1 ⟨At, nt, ct, rfl, hLt.setP PRt _ _, below_set2 HBt.out (by omega) _ _⟩
  · go_enter Try.func35, Try.ntmps35
    go_wp2_with fail
    have ⟨PA, PB, PR⟩ := boxes3 w 24 24 24 (.bool false) (.slice A n ca) (.bool true) (.slice B m cb) (.bool false) (.slice none 0 0)
    have HB0 := Lib.hid (below3 w (.cells #[.bool false, .slice A n ca] 24) (.cells #[.bool true, .slice B m cb] 24) (.cells #[.bool false, .slice none 0 0] 24))
    have LA := Lib.hid (((HA.out.box (.cells #[.bool false, .slice A n ca] 24)).box (.cells #[.bool true, .slice B m cb] 24)).box (.cells #[.bool false, .slice none 0 0] 24))
    have LB := Lib.hid (((HB.out.box (.cells #[.bool false, .slice A n ca] 24)).box (.cells #[.bool true, .slice B m cb] 24)).box (.cells #[.bool false, .slice none 0 0] 24))
    generalize ((w.alloc (.cells #[.bool false, .slice A n ca] 24)).alloc (.cells #[.bool true, .slice B m cb] 24)).alloc (.cells #[.bool false, .slice none 0 0] 24) = w1 at *
    have ⟨a0, a1, _, _, _⟩ := PA
    have ⟨b0, b1, _, _, _⟩ := PB
    have ⟨r0, r1, rf0, rf1, rl⟩ := PR
    refine (rcompare_any A B n m ca cb (digs a) (digs b) w1 LA.out LB.out).mono ?_
    rintro e w2 ⟨he, d, rfl⟩
    rw [HC.out] at he
    subst he
    have PA2 := PA.drewN d
    have PB2 := PB.drewN d
    have PR2 := PR.drewN d
    have HB2 : Hid (Below w.heap.size w (w1.drewN d)) := bdrewN HB0.out d
    have LA2 := Lib.hid (LA.out.drewN d)
    have LB2 := Lib.hid (LB.out.drewN d)
    clear PA PB PR HB0 LA LB a0 a1 b0 b1 r0 r1 rf0 rf1 rl
    generalize w1.drewN d = w3 at *
    have PA := PA2
    have PB := PB2
    have PR := PR2
    have HB0 := HB2
    have LA := LA2
    have LB := LB2
    clear PA2 PB2 PR2 HB2 LA2 LB2
    have ⟨a0, a1, _, _, _⟩ := PA
    have ⟨b0, b1, _, _, _⟩ := PB
    have ⟨r0, r1, rf0, rf1, rl⟩ := PR
    go_wp2_with fail
    go_region_held3 (fun w' => (w'.cell? ⟨w.heap.size, 0, none⟩ = some (.bool false) ∧ w'.cell? ⟨w.heap.size, 1, none⟩ = some (.slice A n ca)) ∧ (w'.cell? ⟨w.heap.size + 1, 0, none⟩ = some (.bool true) ∧ w'.cell? ⟨w.heap.size + 1, 1, none⟩ = some (.slice B m cb)))
      (first | exact ⟨⟨a0, a1⟩, ⟨b0, b1⟩⟩ | exact ⟨⟨PAs.c0, PAs.c1⟩, ⟨PBs.c0, PBs.c1⟩⟩ | exact ⟨⟨PAt.c0, PAt.c1⟩, ⟨PBt.c0, PBt.c1⟩⟩ | exact ⟨⟨PAu.c0, PAu.c1⟩, ⟨PBu.c0, PBu.c1⟩⟩ | go_keep)
      (first
       | (go_at_call 55; refine (rminus_any _ _ _ _ _ _ _ (digs b) (digs a) (b - a) LB.out.drew LA.out.drew hml (by omega) HLe.out HP.out).mono ?_; rintro e ws ⟨As, cs, rfl, hLs, hbs⟩; have Bs := (Below.refl w3.heap.size w3).drew.trans hbs; have PAs := PA.via Bs; have PBs := PB.via Bs; have PRs := PR.via Bs)
       | (go_at_call 40; refine (rmade_any _ _ _ _ _ (digs (b - a)) (b - a) hLs (digs_val _) (by omega)).mono ?_; rintro e wt ⟨At, nt, ct, rfl, hLt, hbt⟩; have PAt := PAs.via hbt; have PBt := PBs.via hbt; have PRt := PRs.via hbt; have HBt : Hid (Below w.heap.size w wt) := HB0.out.trans ((Bs.trans (hbt.mono Bs.size)).mono HB0.out.size); have ⟨r0t, r1t, rf0t, rf1t, rlt⟩ := PRt; have PAu := PAt.far (h := w.heap.size + 1 + 1) (by omega) (.bool (mkN true (b - a))) (.slice At nt ct); have PBu := PBt.far (h := w.heap.size + 1 + 1) (by omega) (.bool (mkN true (b - a))) (.slice At nt ct)))
    go_wp2
    exact post_ws Try.results35 rfl rfl PRt.c0 PRt.c1 ⟨At, nt, ct, rfl, hLt.setP PRt _ _, below_set2 HBt.out (by omega) _ _⟩
theorem rsum_any (w : World) (na nb : Bool) (A B : Option Addr) (n m ca cb a b : Nat) (hA : Lm w w.heap.size A n ca (digs a)) (hB : Lm w w.heap.size B m cb (digs b)) (hn : n ≤ 10000000) (hm : m ≤ 10000000) :
    Calls Try.prog 35 #[.agg #[.bool na, .slice A n ca], .agg #[.bool nb, .slice B m cb]] w (RZ w (toI na a + toI nb b)) := by
  by_cases hs : na = nb
  · rw [← rz_of w na (a + b) (toI_same hs a b)]
    exact rsum_same w na nb A B n m ca cb a b hA hB hn hm hs
  · have h2 : na = true ∧ nb = false ∨ na = false ∧ nb = true := by cases na <;> cases nb <;> simp at hs ⊢
    rcases Nat.lt_or_ge a b with h | h
    · have e := toI_less hs h
      have hnn : (!na) = nb := by cases na <;> cases nb <;> simp at hs ⊢
      rw [hnn] at e
      rw [← rz_of w nb (b - a) e]
      exact rsum_less w na nb A B n m ca cb a b hA hB hn hm h2 h
    · rw [← rz_of w na (a - b) (toI_more hs h)]
      exact rsum_more w na nb A B n m ca cb a b hA hB hn hm h2 h
end Go.Proofs.Ytdbilpmhejigpaa
