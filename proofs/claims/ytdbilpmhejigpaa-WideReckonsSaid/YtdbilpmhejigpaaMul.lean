/-
  The contract of wide.Mul.
-/
import Derived.Test.YtdbilpmhejigpaaProd
import Derived.Test.YtdbilpmhejigpaaCmp2
namespace Go.Proofs.Ytdbilpmhejigpaa
open Go.RowKit

set_option maxRecDepth 100000 in
set_option maxHeartbeats 600000 in
theorem mul_bad (w : World) (na nb : Bool) (A B : Option Addr) (n m ca cb : Nat) (xs ys : List Nat) (hA : Lm w w.heap.size A n ca xs) (hB : Lm w w.heap.size B m cb ys) (hv : chkB na xs nb ys = 8) :
    Calls Try.prog 11 #[.agg #[.bool na, .slice A n ca], .agg #[.bool nb, .slice B m cb]] w (RW w false [] 8) := by
  have HA := Lib.hid hA
  have HB := Lib.hid hB
  have HV := Lib.hid hv
  clear hv
  go_enter Try.func11, Try.ntmps11
  go_wp2_with (go_at_call 37; refine (both_any _ _ _ _ _ _ _ _ _ _ _ 8 (((HA.out.box _).box _).box _) (((HB.out.box _).box _).box _) HV.out).mono ?_; rintro e w1 ⟨rfl, hb1⟩; have ⟨hx0, hx1, hy0, hy1, hz0, hz1, hf0, hf1, hsz⟩ := box3 hb1)
  exact post_ws Try.results11 rfl rfl hz0 hz1 ⟨none, 0, 0, rfl, Lm.nil _ _, below_set2 (bbox (bbox (bbox hb1))) (by omega) _ _⟩

set_option maxRecDepth 100000 in
set_option maxHeartbeats 600000 in
theorem mul_big (w : World) (na nb : Bool) (A B : Option Addr) (n m ca cb a b : Nat) (hA : Lm w w.heap.size A n ca (digs a)) (hB : Lm w w.heap.size B m cb (digs b)) (hv : chkB na (digs a) nb (digs b) = 0) (hbig : 4096 < n + m - 1) :
    Calls Try.prog 11 #[.agg #[.bool na, .slice A n ca], .agg #[.bool nb, .slice B m cb]] w (RW w (mkN (na != nb) (a * b)) (mkL (a * b)) (mkE (a * b))) := by
  have h41 := (chk_ok.1 (chkB_ok.1 hv).1).1
  have h42 := (chk_ok.1 (chkB_ok.1 hv).2).1
  rw [hA.len] at h41
  rw [hB.len] at h42
  have hml := mul_len hA.len hB.len (by omega) (by omega)
  have HN : Hid (mkN (na != nb) (a * b) = false) := by show _ = _; unfold mkN; rw [decide_eq_false (by omega)]; rfl
  have HL : Hid (mkL (a * b) = []) := by show _ = _; unfold mkL; rw [if_neg (by omega)]
  have HE : Hid (mkE (a * b) = 16) := by show _ = _; unfold mkE; rw [if_neg (by omega)]
  have HA := Lib.hid hA
  have HB := Lib.hid hB
  have HV := Lib.hid hv
  clear hv hml
  go_enter Try.func11, Try.ntmps11
  go_wp2_with (go_at_call 37; refine (both_any _ _ _ _ _ _ _ _ _ _ _ 0 (((HA.out.box _).box _).box _) (((HB.out.box _).box _).box _) HV.out).mono ?_; rintro e w1 ⟨rfl, hb1⟩; have ⟨hx0, hx1, hy0, hy1, hz0, hz1, hf0, hf1, hsz⟩ := box3 hb1)
  rw [HN.out, HL.out, HE.out]
  exact post_ws Try.results11 rfl rfl hz0 hz1 ⟨none, 0, 0, rfl, Lm.nil _ _, below_set2 (bbox (bbox (bbox hb1))) (by omega) _ _⟩

set_option maxRecDepth 100000 in
set_option maxHeartbeats 600000 in
theorem mul_small (w : World) (na nb : Bool) (A B : Option Addr) (n m ca cb a b : Nat) (hA : Lm w w.heap.size A n ca (digs a)) (hB : Lm w w.heap.size B m cb (digs b)) (hv : chkB na (digs a) nb (digs b) = 0) (hbig : n + m - 1 ≤ 4096) :
    Calls Try.prog 11 #[.agg #[.bool na, .slice A n ca], .agg #[.bool nb, .slice B m cb]] w (RW w (mkN (na != nb) (a * b)) (mkL (a * b)) (mkE (a * b))) := by
  have h41 := (chk_ok.1 (chkB_ok.1 hv).1).1
  have h42 := (chk_ok.1 (chkB_ok.1 hv).2).1
  rw [hA.len] at h41
  rw [hB.len] at h42
  have HA := Lib.hid hA
  have HB := Lib.hid hB
  have HV := Lib.hid hv
  have HP : Hid (val (digs a) * val (digs b) = a * b) := by show _ = _; rw [digs_val, digs_val]
  clear hv
  go_enter Try.func11, Try.ntmps11
  go_wp2_with (go_at_call 37; refine (both_any _ _ _ _ _ _ _ _ _ _ _ 0 (((HA.out.box _).box _).box _) (((HB.out.box _).box _).box _) HV.out).mono ?_; rintro e w1 ⟨rfl, hb1⟩; have ⟨hx0, hx1, hy0, hy1, hz0, hz1, hf0, hf1, hsz⟩ := box3 hb1)
  have HA1 := Lib.hid ((((HA.out.box _).box _).box _).via hb1)
  have HB1 := Lib.hid ((((HB.out.box _).box _).box _).via hb1)
  have hs0 : w.heap.size < w1.heap.size := by omega
  have hs1 : w.heap.size + 1 < w1.heap.size := by omega
  go_region_held3 (fun w' => (w'.cell? ⟨w.heap.size, 0, none⟩ = some (.bool na) ∧ w'.cell? ⟨w.heap.size, 1, none⟩ = some (.slice A n ca)) ∧ (w'.cell? ⟨w.heap.size + 1, 0, none⟩ = some (.bool nb) ∧ w'.cell? ⟨w.heap.size + 1, 1, none⟩ = some (.slice B m cb)))
    (first | exact ⟨⟨hx0, hx1⟩, ⟨hy0, hy1⟩⟩ | exact ⟨hk2, hl2⟩ | exact ⟨hk3, hl3⟩ | exact ⟨far2 _ _ (by omega) hk3, far2 _ _ (by omega) hl3⟩ | go_keep)
    (first
     | (go_at_call 39; refine (product_any _ _ _ _ _ _ _ (digs a) (digs b) (a * b) (by first | exact HA1.out | exact HA1.out.drew) (by first | exact HB1.out | exact HB1.out.drew) (by omega) (by omega) HP.out).mono ?_; rintro e w2 ⟨A2, c2, rfl, hL2, hb2⟩; have B2 := ((Below.refl w1.heap.size w1).drew.trans hb2); have hk2 := keep2 B2 hs0 ⟨hx0, hx1⟩; have hl2 := keep2 B2 hs1 ⟨hy0, hy1⟩; have hz2 := keep2 B2 hsz ⟨hz0, hz1⟩; have hzf2 := keepF B2 hsz ⟨hf0, hf1⟩; have ht0 := Nat.lt_of_lt_of_le hs0 B2.size; have ht1 := Nat.lt_of_lt_of_le hs1 B2.size; have ht2 := Nat.lt_of_lt_of_le hsz B2.size)
     | (go_at_call 38; refine (made_any _ _ _ _ _ (a * b) hL2).mono ?_; rintro e w3 ⟨A3, n3, c3, rfl, hL3, hb3⟩; have hk3 := keep2 hb3 ht0 hk2; have hl3 := keep2 hb3 ht1 hl2; have hz3 := keep2 hb3 ht2 hz2; have ⟨hzf30, hzf31⟩ := keepF hb3 ht2 hzf2))
  go_wp2
  exact post_ws Try.results11 rfl rfl hz3.1 hz3.2 ⟨A3, n3, c3, rfl, hL3.set2 hz3.1 hz3.2 _ _,
    below_set2 (((bbox (bbox (bbox hb1))).trans (B2.mono (by omega))).trans (hb3.mono (by omega))) (by omega) _ _⟩

theorem mul_ok (w : World) (na nb : Bool) (A B : Option Addr) (n m ca cb a b : Nat) (hA : Lm w w.heap.size A n ca (digs a)) (hB : Lm w w.heap.size B m cb (digs b)) (hv : chkB na (digs a) nb (digs b) = 0) :
    Calls Try.prog 11 #[.agg #[.bool na, .slice A n ca], .agg #[.bool nb, .slice B m cb]] w (RW w (mkN (na != nb) (a * b)) (mkL (a * b)) (mkE (a * b))) := by
  by_cases h : 4096 < n + m - 1
  · exact mul_big w na nb A B n m ca cb a b hA hB hv h
  · exact mul_small w na nb A B n m ca cb a b hA hB hv (by omega)

end Go.Proofs.Ytdbilpmhejigpaa
