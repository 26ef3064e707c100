/-
  Contracts of the reference's made, Neg, Abs.
-/
import Derived.Test.YtdbilpmhejigpaaRcmp
namespace Go.Proofs.Ytdbilpmhejigpaa
open Go.RowKit

set_option maxRecDepth 100000 in
set_option maxHeartbeats 400000 in
theorem rmade_any (w : World) (neg : Bool) (A : Option Addr) (n c : Nat) (xs : List Nat) (v : Nat) (h : Lm w w.heap.size A n c xs) (hv : val xs = v) (hn : n ≤ 1000000000) :
    Calls Try.prog 40 #[.bool neg, .slice A n c] w (RW w (mkN neg v) (mkL v) (mkE v)) := by
  have HH := Lib.hid h
  have HV := Lib.hid hv
  clear hv
  by_cases h1 : 4096 < (digs v).length
  · have HN : Hid (mkN neg v = false) := by show _ = _; unfold mkN; rw [decide_eq_false (by omega)]; rfl
    have HL : Hid (mkL v = []) := by show _ = _; unfold mkL; rw [if_neg (by omega)]
    have HE : Hid (mkE v = 16) := by show _ = _; unfold mkE; rw [if_neg (by omega)]
    go_enter Try.func40, Try.ntmps40
    go_wp2_with (go_at_call 57; refine (rtrim_any _ _ _ _ xs v (HH.out.box _) HV.out hn).mono ?_; rintro e w1 ⟨A1, c1, rfl, hL1, hb1⟩; have ⟨hy0, hy1, hf0, hf1, hsz⟩ := box1 hb1; have hcap1 := hL1.cap; have hmax1 := hL1.max)
    rw [HN.out, HL.out, HE.out]
    exact post_ws Try.results40 rfl rfl hy0 hy1 ⟨none, 0, 0, rfl, Lm.nil _ _, below_set2 (bbox hb1) (by omega) _ _⟩
  · have HL : Hid (mkL v = digs v) := by show _ = _; unfold mkL; rw [if_pos (by omega)]
    have HE : Hid (mkE v = 0) := by show _ = _; unfold mkE; rw [if_pos (by omega)]
    have HN : Hid (mkN neg v = (neg && decide (0 < (digs v).length))) := by
      show _ = _
      unfold mkN
      rw [decide_eq_true (by omega), Bool.true_and]
      congr 1
      have hp := digs_pos (n := v)
      by_cases h0 : v = 0
      · rw [decide_eq_false (by omega), decide_eq_false (by omega)]
      · rw [decide_eq_true h0, decide_eq_true (by omega)]
    cases neg
    all_goals
      go_enter Try.func40, Try.ntmps40
      go_wp2_with (go_at_call 57; refine (rtrim_any _ _ _ _ xs v (HH.out.box _) HV.out hn).mono ?_; rintro e w1 ⟨A1, c1, rfl, hL1, hb1⟩; have ⟨hy0, hy1, hf0, hf1, hsz⟩ := box1 hb1; have hcap1 := hL1.cap; have hmax1 := hL1.max)
      rw [HN.out, HL.out, HE.out]
      refine post_ws Try.results40 rfl rfl hy0 hy1 ⟨A1, _, c1, rfl, hL1.set2 hy0 hy1 _ _, below_set2 (bbox hb1) (by omega) _ _⟩

set_option maxRecDepth 100000 in
set_option maxHeartbeats 400000 in
theorem rneg_bad (w : World) (neg : Bool) (A : Option Addr) (n c : Nat) (xs : List Nat) (h : Lm w w.heap.size A n c xs) (hc : chk neg xs = 8) :
    Calls Try.prog 19 #[.agg #[.bool neg, .slice A n c]] w (RW w false [] 8) := by
  have HH := Lib.hid h
  have HC := Lib.hid hc
  clear hc
  go_enter Try.func19, Try.ntmps19
  go_wp2_with fail
  refine (rcheck_bad _ _ _ _ _ _ ((HH.out.box _).box _) HC.out).mono ?_
  rintro e w1 ⟨rfl, hb1⟩
  have ⟨hx0, hx1, hy0, hy1, hf0, hf1, hsz⟩ := box2 hb1
  go_wp2_with fail
  refine (rcheck_bad _ _ _ _ _ _ (((HH.out.box _).box _).via hb1) HC.out).mono ?_
  rintro e w2 ⟨rfl, hb2⟩
  have hky2 := keep2 hb2 hsz ⟨hy0, hy1⟩
  have ⟨hkf0, hkf1⟩ := keepF hb2 hsz ⟨hf0, hf1⟩
  go_wp2
  exact post_ws Try.results19 rfl rfl hky2.1 hky2.2 ⟨none, 0, 0, rfl, Lm.nil _ _, below_set2 ((bbox (bbox hb1)).trans (hb2.mono (by omega))) (by omega) _ _⟩

set_option maxRecDepth 100000 in
set_option maxHeartbeats 400000 in
theorem rneg_ok (w : World) (neg : Bool) (A : Option Addr) (n c v : Nat) (h : Lm w w.heap.size A n c (digs v)) (hc : chk neg (digs v) = 0) :
    Calls Try.prog 19 #[.agg #[.bool neg, .slice A n c]] w (RW w (mkN (!neg) v) (mkL v) (mkE v)) := by
  have hl := (chk_ok.1 hc).1
  rw [h.len] at hl
  have HH := Lib.hid h
  have HC := Lib.hid hc
  have HV := Lib.hid (digs_val v)
  clear hc
  go_enter Try.func19, Try.ntmps19
  go_wp2_with (first
    | (go_at_call 29; refine (rcheck_ok _ _ _ _ _ _ ((HH.out.box _).box _) HC.out).mono ?_; rintro e w1 ⟨rfl, hb1⟩; have ⟨hx0, hx1, hy0, hy1, hf0, hf1, hsz⟩ := box2 hb1; have HL := Lib.hid (((HH.out.box _).box _).via hb1))
    | (go_at_call 40; refine (rmade_any _ _ _ _ _ _ v HL.out HV.out (by omega)).mono ?_; rintro e w3 ⟨A3, n3, c3, rfl, hL3, hb3⟩; have hky3 := keep2 hb3 hsz ⟨hy0, hy1⟩; have ⟨hkf30, hkf31⟩ := keepF hb3 hsz ⟨hf0, hf1⟩))
  exact post_ws Try.results19 rfl rfl hky3.1 hky3.2 ⟨A3, n3, c3, rfl, hL3.set2 hky3.1 hky3.2 _ _, below_set2 ((bbox (bbox hb1)).trans (hb3.mono (by omega))) (by omega) _ _⟩

set_option maxRecDepth 100000 in
set_option maxHeartbeats 400000 in
theorem rabs_bad (w : World) (neg : Bool) (A : Option Addr) (n c : Nat) (xs : List Nat) (h : Lm w w.heap.size A n c xs) (hc : chk neg xs = 8) :
    Calls Try.prog 21 #[.agg #[.bool neg, .slice A n c]] w (RW w false [] 8) := by
  have HH := Lib.hid h
  have HC := Lib.hid hc
  clear hc
  go_enter Try.func21, Try.ntmps21
  go_wp2_with fail
  refine (rcheck_bad _ _ _ _ _ _ ((HH.out.box _).box _) HC.out).mono ?_
  rintro e w1 ⟨rfl, hb1⟩
  have ⟨hx0, hx1, hy0, hy1, hf0, hf1, hsz⟩ := box2 hb1
  go_wp2_with fail
  refine (rcheck_bad _ _ _ _ _ _ (((HH.out.box _).box _).via hb1) HC.out).mono ?_
  rintro e w2 ⟨rfl, hb2⟩
  have hky2 := keep2 hb2 hsz ⟨hy0, hy1⟩
  have ⟨hkf0, hkf1⟩ := keepF hb2 hsz ⟨hf0, hf1⟩
  go_wp2
  exact post_ws Try.results21 rfl rfl hky2.1 hky2.2 ⟨none, 0, 0, rfl, Lm.nil _ _, below_set2 ((bbox (bbox hb1)).trans (hb2.mono (by omega))) (by omega) _ _⟩

set_option maxRecDepth 100000 in
set_option maxHeartbeats 400000 in
theorem rabs_ok (w : World) (neg : Bool) (A : Option Addr) (n c v : Nat) (h : Lm w w.heap.size A n c (digs v)) (hc : chk neg (digs v) = 0) :
    Calls Try.prog 21 #[.agg #[.bool neg, .slice A n c]] w (RW w (mkN (false) v) (mkL v) (mkE v)) := by
  have hl := (chk_ok.1 hc).1
  rw [h.len] at hl
  have HH := Lib.hid h
  have HC := Lib.hid hc
  have HV := Lib.hid (digs_val v)
  clear hc
  go_enter Try.func21, Try.ntmps21
  go_wp2_with (first
    | (go_at_call 29; refine (rcheck_ok _ _ _ _ _ _ ((HH.out.box _).box _) HC.out).mono ?_; rintro e w1 ⟨rfl, hb1⟩; have ⟨hx0, hx1, hy0, hy1, hf0, hf1, hsz⟩ := box2 hb1; have HL := Lib.hid (((HH.out.box _).box _).via hb1))
    | (go_at_call 40; refine (rmade_any _ _ _ _ _ _ v HL.out HV.out (by omega)).mono ?_; rintro e w3 ⟨A3, n3, c3, rfl, hL3, hb3⟩; have hky3 := keep2 hb3 hsz ⟨hy0, hy1⟩; have ⟨hkf30, hkf31⟩ := keepF hb3 hsz ⟨hf0, hf1⟩))
  exact post_ws Try.results21 rfl rfl hky3.1 hky3.2 ⟨A3, n3, c3, rfl, hL3.set2 hky3.1 hky3.2 _ _, below_set2 ((bbox (bbox hb1)).trans (hb3.mono (by omega))) (by omega) _ _⟩

end Go.Proofs.Ytdbilpmhejigpaa
