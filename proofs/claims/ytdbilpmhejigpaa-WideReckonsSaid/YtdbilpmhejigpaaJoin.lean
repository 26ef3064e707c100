/- wide.join: the three ways through it, and its errors. -/
import Derived.Test.YtdbilpmhejigpaaMul
import Derived.Test.YtdbilpmhejigpaaDiff
namespace Go.Proofs.Ytdbilpmhejigpaa
open Go.RowKit

theorem digs_mono {a b : Nat} (h : a ≤ b) : (digs a).length ≤ (digs b).length := digs_len.2 (Nat.lt_of_le_of_lt h (digs_len.1 (Nat.le_refl _)))

set_option maxRecDepth 100000 in
set_option maxHeartbeats 600000 in
theorem join_bad (w : World) (F : Value) (na nb : Bool) (A B : Option Addr) (n m ca cb : Nat) (xs ys : List Nat) (hA : Lm w w.heap.size A n ca xs) (hB : Lm w w.heap.size B m cb ys) (hv : chkB na xs nb ys = 8) :
    Calls Try.prog 32 #[.agg #[.bool na, .slice A n ca], .agg #[.bool nb, .slice B m cb], F] w (RW w false [] 8) := by
  have HA := Lib.hid hA
  have HB := Lib.hid hB
  have HV := Lib.hid hv
  clear hv
  go_enter Try.func32, Try.ntmps32
  go_wp2_with (go_at_call 37; refine (both_any _ _ _ _ _ _ _ _ _ _ _ 8 (((HA.out.box _).box _).box _) (((HB.out.box _).box _).box _) HV.out).mono ?_; rintro e w1 ⟨rfl, hb1⟩; have ⟨hx0, hx1, hy0, hy1, hz0, hz1, hf0, hf1, hsz⟩ := box3 hb1)
  exact post_ws Try.results32 rfl rfl hz0 hz1 ⟨none, 0, 0, rfl, Lm.nil _ _, below_set2 (bbox (bbox (bbox hb1))) (by omega) _ _⟩

set_option maxRecDepth 100000 in
set_option maxHeartbeats 600000 in
theorem join_grow (w : World) (K : FuncId) (na nb : Bool) (A B : Option Addr) (n m ca cb a b : Nat) (hA : Lm w w.heap.size A n ca (digs a)) (hB : Lm w w.heap.size B m cb (digs b)) (hv : chkB na (digs a) nb (digs b) = 0)
    (hR : ∀ w, Sem.run Try.prog (callFunc K #[.bool na, .bool nb]) w = .ok (.enter K #[.bool na, .bool nb]) w) (hK : ∀ w, Calls Try.prog K #[.bool na, .bool nb] w fun e w' => e = .returned (.bool true) ∧ w = w') :
    Calls Try.prog 32 #[.agg #[.bool na, .slice A n ca], .agg #[.bool nb, .slice B m cb], .func (.func K) #[.bool na] #[]] w (RW w (mkN na (a + b)) (mkL (a + b)) (mkE (a + b))) := by
  have h41 := (chk_ok.1 (chkB_ok.1 hv).1).1
  have h42 := (chk_ok.1 (chkB_ok.1 hv).2).1
  rw [hA.len] at h41
  rw [hB.len] at h42
  have HA := Lib.hid hA
  have HB := Lib.hid hB
  have HV := Lib.hid hv
  have HP : Hid (val (digs a) + val (digs b) = a + b) := by show _ = _; rw [digs_val, digs_val]
  clear hv
  go_enter Try.func32, Try.ntmps32
  go_wp2_with ((go_at_call 37; refine (both_any _ _ _ _ _ _ _ _ _ _ _ 0 (((HA.out.box _).box _).box _) (((HB.out.box _).box _).box _) HV.out).mono ?_; rintro e w1 ⟨rfl, hb1⟩; have ⟨hx0, hx1, hy0, hy1, hz0, hz1, hf0, hf1, hsz⟩ := box3 hb1))

  refine (hK _).mono ?_
  rintro e w1' ⟨rfl, rfl⟩
  go_wp2
  have HA1 := Lib.hid ((((HA.out.box _).box _).box _).via hb1)
  have HB1 := Lib.hid ((((HB.out.box _).box _).box _).via hb1)
  have hs0 : w.heap.size < w1.heap.size := by omega
  have hs1 : w.heap.size + 1 < w1.heap.size := by omega
  go_region_held3 (fun w' => (w'.cell? ⟨w.heap.size, 0, none⟩ = some (.bool na) ∧ w'.cell? ⟨w.heap.size, 1, none⟩ = some (.slice A n ca)) ∧ (w'.cell? ⟨w.heap.size + 1, 0, none⟩ = some (.bool nb) ∧ w'.cell? ⟨w.heap.size + 1, 1, none⟩ = some (.slice B m cb)))
    (first | exact ⟨⟨hx0, hx1⟩, ⟨hy0, hy1⟩⟩ | exact ⟨hk2, hl2⟩ | exact ⟨hk3, hl3⟩ | exact ⟨far2 _ _ (by omega) hk3, far2 _ _ (by omega) hl3⟩ | go_keep)
    (first
     | (go_at_call 43; refine (sum_any _ _ _ _ _ _ _ (digs a) (digs b) (a + b) (by first | exact HA1.out | exact HA1.out.drew) (by first | exact HB1.out | exact HB1.out.drew) (by omega) (by omega) HP.out).mono ?_; rintro e w2 ⟨A2, c2, rfl, hL2, hb2⟩; have B2 := ((Below.refl w1.heap.size w1).drew.trans hb2); have hk2 := keep2 B2 hs0 ⟨hx0, hx1⟩; have hl2 := keep2 B2 hs1 ⟨hy0, hy1⟩; have hz2 := keep2 B2 hsz ⟨hz0, hz1⟩; have hzf2 := keepF B2 hsz ⟨hf0, hf1⟩; have ht0 := Nat.lt_of_lt_of_le hs0 B2.size; have ht1 := Nat.lt_of_lt_of_le hs1 B2.size; have ht2 := Nat.lt_of_lt_of_le hsz B2.size)
     | (go_at_call 38; refine (made_any _ _ _ _ _ (a + b) hL2).mono ?_; rintro e w3 ⟨A3, n3, c3, rfl, hL3, hb3⟩; have hk3 := keep2 hb3 ht0 hk2; have hl3 := keep2 hb3 ht1 hl2; have hz3 := keep2 hb3 ht2 hz2; have ⟨hzf30, hzf31⟩ := keepF hb3 ht2 hzf2))
  go_wp2
  exact post_ws Try.results32 rfl rfl hz3.1 hz3.2 ⟨A3, n3, c3, rfl, hL3.set2 hz3.1 hz3.2 _ _,
    below_set2 (((bbox (bbox (bbox hb1))).trans (B2.mono (by omega))).trans (hb3.mono (by omega))) (by omega) _ _⟩
set_option maxRecDepth 100000 in
set_option maxHeartbeats 600000 in
theorem join_less (w : World) (K : FuncId) (na nb : Bool) (A B : Option Addr) (n m ca cb a b : Nat) (hA : Lm w w.heap.size A n ca (digs a)) (hB : Lm w w.heap.size B m cb (digs b)) (hv : chkB na (digs a) nb (digs b) = 0) (hlt : a < b)
    (hR : ∀ w, Sem.run Try.prog (callFunc K #[.bool na, .bool nb]) w = .ok (.enter K #[.bool na, .bool nb]) w) (hK : ∀ w, Calls Try.prog K #[.bool na, .bool nb] w fun e w' => e = .returned (.bool false) ∧ w = w') :
    Calls Try.prog 32 #[.agg #[.bool na, .slice A n ca], .agg #[.bool nb, .slice B m cb], .func (.func K) #[.bool na] #[]] w (RW w (mkN (!na) (b - a)) (mkL (b - a)) (mkE (b - a))) := by
  have h41 := (chk_ok.1 (chkB_ok.1 hv).1).1
  have h42 := (chk_ok.1 (chkB_ok.1 hv).2).1
  rw [hA.len] at h41
  rw [hB.len] at h42
  have HA := Lib.hid hA
  have HB := Lib.hid hB
  have HV := Lib.hid hv
  have HP : Hid (val (digs b) - val (digs a) = b - a) := by show _ = _; rw [digs_val, digs_val]
  have HQ : Hid (val (digs a) ≤ val (digs b)) := by show _ ≤ _; rw [digs_val, digs_val]; omega
  have HLn : Hid (n ≤ m) := by show _ ≤ _; rw [← hA.len, ← hB.len]; exact digs_mono (by omega)
  clear hv
  have HC : Hid (cmpL (digs a) (digs b) = -1) := by show _ = _; rw [cmpL_norm (digs_good _) (digs_good _) (digs_norm _) (digs_norm _), digs_val, digs_val]; exact cmpN_lt hlt
  go_enter Try.func32, Try.ntmps32
  go_wp2_with ((go_at_call 37; refine (both_any _ _ _ _ _ _ _ _ _ _ _ 0 (((HA.out.box _).box _).box _) (((HB.out.box _).box _).box _) HV.out).mono ?_; rintro e w1 ⟨rfl, hb1⟩; have ⟨hx0, hx1, hy0, hy1, hz0, hz1, hf0, hf1, hsz⟩ := box3 hb1))

  refine (hK _).mono ?_
  rintro e w1' ⟨rfl, rfl⟩
  have HA0 := Lib.hid ((((HA.out.box _).box _).box _).via hb1)
  have HB0 := Lib.hid ((((HB.out.box _).box _).box _).via hb1)
  have HB1b := Lib.hid hb1
  clear hb1 hz0 hz1 hf0 hf1 hsz
  go_wp2_with (go_at_call 50; refine (compare_any _ _ _ _ _ _ (digs a) (digs b) _ HA0.out HB0.out).mono ?_; rintro e wc ⟨he, hbc⟩; rw [HC.out] at he; subst he; have hb2 := HB1b.out.trans (hbc.mono HB1b.out.size); clear hx0 hx1 hy0 hy1; have ⟨hx0, hx1, hy0, hy1, hz0, hz1, hf0, hf1, hsz⟩ := box3 hb2)
  have HA1 := Lib.hid ((((HA.out.box _).box _).box _).via hb2)
  have HB1 := Lib.hid ((((HB.out.box _).box _).box _).via hb2)
  have hs0 : w.heap.size < wc.heap.size := by omega
  have hs1 : w.heap.size + 1 < wc.heap.size := by omega
  go_region_held3 (fun w' => (w'.cell? ⟨w.heap.size, 0, none⟩ = some (.bool na) ∧ w'.cell? ⟨w.heap.size, 1, none⟩ = some (.slice A n ca)) ∧ (w'.cell? ⟨w.heap.size + 1, 0, none⟩ = some (.bool nb) ∧ w'.cell? ⟨w.heap.size + 1, 1, none⟩ = some (.slice B m cb)))
    (first | exact ⟨⟨hx0, hx1⟩, ⟨hy0, hy1⟩⟩ | exact ⟨hk2, hl2⟩ | exact ⟨hk3, hl3⟩ | exact ⟨far2 _ _ (by omega) hk3, far2 _ _ (by omega) hl3⟩ | go_keep)
    (first
     | (go_at_call 44; refine (difference_any _ _ _ _ _ _ _ (digs b) (digs a) (b - a) (by first | exact HB1.out | exact HB1.out.drew) (by first | exact HA1.out | exact HA1.out.drew) HLn.out (by omega) HQ.out HP.out).mono ?_; rintro e w2 ⟨A2, c2, rfl, hL2, hb3'⟩; have B2 := ((Below.refl wc.heap.size wc).drew.trans hb3'); have hk2 := keep2 B2 hs0 ⟨hx0, hx1⟩; have hl2 := keep2 B2 hs1 ⟨hy0, hy1⟩; have hz2 := keep2 B2 hsz ⟨hz0, hz1⟩; have hzf2 := keepF B2 hsz ⟨hf0, hf1⟩; have ht0 := Nat.lt_of_lt_of_le hs0 B2.size; have ht1 := Nat.lt_of_lt_of_le hs1 B2.size; have ht2 := Nat.lt_of_lt_of_le hsz B2.size)
     | (go_at_call 38; refine (made_any _ _ _ _ _ (b - a) hL2).mono ?_; rintro e w3 ⟨A3, n3, c3, rfl, hL3, hb3⟩; have hk3 := keep2 hb3 ht0 hk2; have hl3 := keep2 hb3 ht1 hl2; have hz3 := keep2 hb3 ht2 hz2; have ⟨hzf30, hzf31⟩ := keepF hb3 ht2 hzf2))
  go_wp2
  exact post_ws Try.results32 rfl rfl hz3.1 hz3.2 ⟨A3, n3, c3, rfl, hL3.set2 hz3.1 hz3.2 _ _,
    below_set2 (((bbox (bbox (bbox hb2))).trans (B2.mono (by omega))).trans (hb3.mono (by omega))) (by omega) _ _⟩
set_option maxRecDepth 100000 in
set_option maxHeartbeats 600000 in
theorem join_more (w : World) (K : FuncId) (na nb : Bool) (A B : Option Addr) (n m ca cb a b : Nat) (hA : Lm w w.heap.size A n ca (digs a)) (hB : Lm w w.heap.size B m cb (digs b)) (hv : chkB na (digs a) nb (digs b) = 0) (hlt : b ≤ a)
    (hR : ∀ w, Sem.run Try.prog (callFunc K #[.bool na, .bool nb]) w = .ok (.enter K #[.bool na, .bool nb]) w) (hK : ∀ w, Calls Try.prog K #[.bool na, .bool nb] w fun e w' => e = .returned (.bool false) ∧ w = w') :
    Calls Try.prog 32 #[.agg #[.bool na, .slice A n ca], .agg #[.bool nb, .slice B m cb], .func (.func K) #[.bool na] #[]] w (RW w (mkN na (a - b)) (mkL (a - b)) (mkE (a - b))) := by
  have h41 := (chk_ok.1 (chkB_ok.1 hv).1).1
  have h42 := (chk_ok.1 (chkB_ok.1 hv).2).1
  rw [hA.len] at h41
  rw [hB.len] at h42
  have HA := Lib.hid hA
  have HB := Lib.hid hB
  have HV := Lib.hid hv
  have HP : Hid (val (digs a) - val (digs b) = a - b) := by show _ = _; rw [digs_val, digs_val]
  have HQ : Hid (val (digs b) ≤ val (digs a)) := by show _ ≤ _; rw [digs_val, digs_val]; omega
  have HLn : Hid (m ≤ n) := by show _ ≤ _; rw [← hA.len, ← hB.len]; exact digs_mono (by omega)
  clear hv
  obtain ⟨z, hz, HC⟩ : ∃ z : Int, decide (z < 0) = false ∧ Hid (cmpL (digs a) (digs b) = z) := ⟨_, by rw [cmpL_norm (digs_good _) (digs_good _) (digs_norm _) (digs_norm _), digs_val, digs_val]; unfold cmpN; rw [if_neg (by omega)]; split <;> decide, rfl⟩
  go_enter Try.func32, Try.ntmps32
  go_wp2_with ((go_at_call 37; refine (both_any _ _ _ _ _ _ _ _ _ _ _ 0 (((HA.out.box _).box _).box _) (((HB.out.box _).box _).box _) HV.out).mono ?_; rintro e w1 ⟨rfl, hb1⟩; have ⟨hx0, hx1, hy0, hy1, hz0, hz1, hf0, hf1, hsz⟩ := box3 hb1))

  refine (hK _).mono ?_
  rintro e w1' ⟨rfl, rfl⟩
  have HA0 := Lib.hid ((((HA.out.box _).box _).box _).via hb1)
  have HB0 := Lib.hid ((((HB.out.box _).box _).box _).via hb1)
  have HB1b := Lib.hid hb1
  clear hb1 hz0 hz1 hf0 hf1 hsz
  go_wp2_with (go_at_call 50; refine (compare_any _ _ _ _ _ _ (digs a) (digs b) _ HA0.out HB0.out).mono ?_; rintro e wc ⟨he, hbc⟩; rw [HC.out] at he; subst he; have hb2 := HB1b.out.trans (hbc.mono HB1b.out.size); clear hx0 hx1 hy0 hy1; have ⟨hx0, hx1, hy0, hy1, hz0, hz1, hf0, hf1, hsz⟩ := box3 hb2)
  have HA1 := Lib.hid ((((HA.out.box _).box _).box _).via hb2)
  have HB1 := Lib.hid ((((HB.out.box _).box _).box _).via hb2)
  have hs0 : w.heap.size < wc.heap.size := by omega
  have hs1 : w.heap.size + 1 < wc.heap.size := by omega
  go_region_held3 (fun w' => (w'.cell? ⟨w.heap.size, 0, none⟩ = some (.bool na) ∧ w'.cell? ⟨w.heap.size, 1, none⟩ = some (.slice A n ca)) ∧ (w'.cell? ⟨w.heap.size + 1, 0, none⟩ = some (.bool nb) ∧ w'.cell? ⟨w.heap.size + 1, 1, none⟩ = some (.slice B m cb)))
    (first | exact ⟨⟨hx0, hx1⟩, ⟨hy0, hy1⟩⟩ | exact ⟨hk2, hl2⟩ | exact ⟨hk3, hl3⟩ | exact ⟨far2 _ _ (by omega) hk3, far2 _ _ (by omega) hl3⟩ | go_keep)
    (first
     | (go_at_call 44; refine (difference_any _ _ _ _ _ _ _ (digs a) (digs b) (a - b) (by first | exact HA1.out | exact HA1.out.drew) (by first | exact HB1.out | exact HB1.out.drew) HLn.out (by omega) HQ.out HP.out).mono ?_; rintro e w2 ⟨A2, c2, rfl, hL2, hb3'⟩; have B2 := ((Below.refl wc.heap.size wc).drew.trans hb3'); have hk2 := keep2 B2 hs0 ⟨hx0, hx1⟩; have hl2 := keep2 B2 hs1 ⟨hy0, hy1⟩; have hz2 := keep2 B2 hsz ⟨hz0, hz1⟩; have hzf2 := keepF B2 hsz ⟨hf0, hf1⟩; have ht0 := Nat.lt_of_lt_of_le hs0 B2.size; have ht1 := Nat.lt_of_lt_of_le hs1 B2.size; have ht2 := Nat.lt_of_lt_of_le hsz B2.size)
     | (go_at_call 38; refine (made_any _ _ _ _ _ (a - b) hL2).mono ?_; rintro e w3 ⟨A3, n3, c3, rfl, hL3, hb3⟩; have hk3 := keep2 hb3 ht0 hk2; have hl3 := keep2 hb3 ht1 hl2; have hz3 := keep2 hb3 ht2 hz2; have ⟨hzf30, hzf31⟩ := keepF hb3 ht2 hzf2))
  go_wp2
  exact post_ws Try.results32 rfl rfl hz3.1 hz3.2 ⟨A3, n3, c3, rfl, hL3.set2 hz3.1 hz3.2 _ _,
    below_set2 (((bbox (bbox (bbox hb2))).trans (B2.mono (by omega))).trans (hb3.mono (by omega))) (by omega) _ _⟩
end Go.Proofs.Ytdbilpmhejigpaa
