/-
  Contracts of the reference's Cmp, Sign, Bits.
-/
import Derived.Test.YtdbilpmhejigpaaR3
import Derived.Test.YtdbilpmhejigpaaBts
namespace Go.Proofs.Ytdbilpmhejigpaa
open Go.RowKit

set_option maxRecDepth 100000 in
set_option maxHeartbeats 400000 in
theorem rcmp_bad (w : World) (na nb : Bool) (A B : Option Addr) (n m ca cb : Nat) (xs ys : List Nat) (hA : Lm w w.heap.size A n ca xs) (hB : Lm w w.heap.size B m cb ys) (hv : chkB na xs nb ys = 8) :
    Calls Try.prog 23 #[.agg #[.bool na, .slice A n ca], .agg #[.bool nb, .slice B m cb]] w fun e w' => e = .returned (.tuple #[.int .i64 0, .int .i64 8]) ∧ Below w.heap.size w w' := by
  have HA := Lib.hid hA
  have HB := Lib.hid hB
  have HV := Lib.hid hv
  clear hv
  go_enter Try.func23, Try.ntmps23
  go_wp2_with fail
  refine (rboth_any _ _ _ _ _ _ _ _ _ _ _ ((HA.out.box _).box _) ((HB.out.box _).box _) 8 HV.out).mono ?_
  rintro e w1 ⟨rfl, hb1⟩
  have ⟨hx0, hx1, hy0, hy1, hf0, hf1, hsz⟩ := box2 hb1
  go_wp2_with fail
  refine (rboth_any _ _ _ _ _ _ _ _ _ _ _ (((HA.out.box _).box _).via hb1) (((HB.out.box _).box _).via hb1) 8 HV.out).mono ?_
  rintro e w2 ⟨rfl, hb2⟩
  go_wp2
  go_ret2
  exact ⟨rfl, (bbox (bbox hb1)).trans (hb2.mono (by omega))⟩

set_option maxRecDepth 100000 in
set_option maxHeartbeats 400000 in
theorem rcmp_ok (w : World) (na nb : Bool) (A B : Option Addr) (n m ca cb a b : Nat) (hA : Lm w w.heap.size A n ca (digs a)) (hB : Lm w w.heap.size B m cb (digs b)) (hv : chkB na (digs a) nb (digs b) = 0) :
    Calls Try.prog 23 #[.agg #[.bool na, .slice A n ca], .agg #[.bool nb, .slice B m cb]] w fun e w' => e = .returned (.tuple #[.int .i64 (cmpZ (toI na a) (toI nb b)), .int .i64 0]) ∧ Below w.heap.size w w' := by
  have HA := Lib.hid hA
  have HB := Lib.hid hB
  have HV := Lib.hid hv
  have hva := (chk_ok.1 (chkB_ok.1 hv).1).2.2
  have hvb := (chk_ok.1 (chkB_ok.1 hv).2).2.2
  rw [Ne, digs_nil] at hva hvb
  have HA1 := Lib.hid hva
  have HB1 := Lib.hid hvb
  clear hv hva hvb
  go_enter Try.func23, Try.ntmps23
  go_wp2_with fail
  refine (rboth_any _ _ _ _ _ _ _ _ _ _ _ ((HA.out.box _).box _) ((HB.out.box _).box _) 0 HV.out).mono ?_
  rintro e w1 ⟨rfl, hb1⟩
  have ⟨hx0, hx1, hy0, hy1, hf0, hf1, hsz⟩ := box2 hb1
  go_wp2_with fail
  refine (rcompared_any _ _ _ _ _ _ _ _ _ a b (((HA.out.box _).box _).via hb1) (((HB.out.box _).box _).via hb1) HA1.out HB1.out).mono ?_
  rintro e w2 ⟨rfl, hb2⟩
  go_wp2
  go_ret2
  exact ⟨rfl, (bbox (bbox hb1)).trans (hb2.mono (by omega))⟩

theorem chkB_zero (neg : Bool) (xs : List Nat) : chkB neg xs false [] = chk neg xs := by
  unfold chkB
  split
  · next h => rw [h]; rfl
  · rfl
set_option maxRecDepth 100000 in
set_option maxHeartbeats 400000 in
theorem rsign_bad (w : World) (neg : Bool) (A : Option Addr) (n c : Nat) (xs : List Nat) (h : Lm w w.heap.size A n c xs) (hc : chk neg xs = 8) :
    Calls Try.prog 25 #[.agg #[.bool neg, .slice A n c]] w fun e w' => e = .returned (.tuple #[.int .i64 0, .int .i64 8]) ∧ Below w.heap.size w w' := by
  have HH := Lib.hid h
  have HC := Lib.hid ((chkB_zero neg xs).trans hc)
  clear hc
  go_enter Try.func25, Try.ntmps25
  go_wp2_with (go_at_call 23; refine (rcmp_bad _ _ _ _ _ _ _ _ _ _ [] (HH.out.box _) (Lm.nil _ _) HC.out).mono ?_; rintro e w1 ⟨rfl, hb1⟩)
  go_ret2
  exact ⟨rfl, bbox hb1⟩
theorem cmp_zero {neg : Bool} {v : Nat} (h : neg = true → v ≠ 0) : cmpZ (toI neg v) (toI false 0) = signZ neg v := by
  unfold signZ toI cmpZ sideZ
  cases neg
  · by_cases h0 : v = 0
    · subst h0; rfl
    · rw [if_neg h0]
      show (if (v : Int) < 0 then -1 else if (v : Int) = 0 then 0 else 1) = (1 : Int)
      rw [if_neg (by omega), if_neg (by omega)]
  · have h0 := h rfl
    rw [if_neg h0]
    show (if -(v : Int) < 0 then -1 else if -(v : Int) = 0 then 0 else 1) = (-1 : Int)
    rw [if_pos (by omega)]
set_option maxRecDepth 100000 in
set_option maxHeartbeats 400000 in
theorem rsign_ok (w : World) (neg : Bool) (A : Option Addr) (n c v : Nat) (h : Lm w w.heap.size A n c (digs v)) (hc : chk neg (digs v) = 0) :
    Calls Try.prog 25 #[.agg #[.bool neg, .slice A n c]] w fun e w' => e = .returned (.tuple #[.int .i64 (signZ neg v), .int .i64 0]) ∧ Below w.heap.size w w' := by
  have HH := Lib.hid h
  have HC := Lib.hid ((chkB_zero neg (digs v)).trans hc)
  have hva := (chk_ok.1 hc).2.2
  rw [Ne, digs_nil] at hva
  have HS := Lib.hid (cmp_zero hva)
  clear hc hva
  go_enter Try.func25, Try.ntmps25
  go_wp2_with (go_at_call 23; refine (rcmp_ok _ _ _ _ _ _ _ _ _ v 0 (HH.out.box _) (Lm.nil _ _) HC.out).mono ?_; rintro e w1 ⟨rfl, hb1⟩)
  go_ret2
  exact ⟨ret2_int HS.out rfl, bbox hb1⟩

set_option maxRecDepth 100000 in
set_option maxHeartbeats 400000 in
theorem rbits_bad (w : World) (neg : Bool) (A : Option Addr) (n c : Nat) (xs : List Nat) (h : Lm w w.heap.size A n c xs) (hc : chk neg xs = 8) :
    Calls Try.prog 27 #[.agg #[.bool neg, .slice A n c]] w fun e w' => e = .returned (.tuple #[.int .i64 0, .int .i64 8]) ∧ Below w.heap.size w w' := by
  have HH := Lib.hid h
  have HC := Lib.hid hc
  clear hc
  go_enter Try.func27, Try.ntmps27
  go_wp2_with fail
  refine (rcheck_bad _ _ _ _ _ _ (HH.out.box _) HC.out).mono ?_
  rintro e w1 ⟨rfl, hb1⟩
  have ⟨hy0, hy1, hf0, hf1, hsz⟩ := box1 hb1
  go_wp2_with fail
  refine (rcheck_bad _ _ _ _ _ _ ((HH.out.box _).via hb1) HC.out).mono ?_
  rintro e w2 ⟨rfl, hb2⟩
  go_wp2
  go_ret2
  exact ⟨rfl, (bbox hb1).trans (hb2.mono (by omega))⟩

set_option maxRecDepth 100000 in
set_option maxHeartbeats 400000 in
theorem rbits_ok (w : World) (neg : Bool) (A : Option Addr) (n c : Nat) (xs : List Nat) (h : Lm w w.heap.size A n c xs) (hc : chk neg xs = 0) :
    Calls Try.prog 27 #[.agg #[.bool neg, .slice A n c]] w fun e w' => e = .returned (.tuple #[.int .i64 (lenS xs), .int .i64 0]) ∧ Below w.heap.size w w' := by
  have HH := Lib.hid h
  have HC := Lib.hid hc
  have hl4 := (chk_ok.1 hc).1
  rw [h.len] at hl4
  have hl := h.len
  have hcap := h.cap
  have hmax := h.max
  clear hc
  rcases n with _ | n
  · have HS : Hid (lenS xs = 0) := by show _ = _; unfold lenS; rw [if_pos hl]
    clear hl
    go_enter Try.func27, Try.ntmps27
    go_wp2_with fail
    refine (rcheck_ok _ _ _ _ _ _ (HH.out.box _) HC.out).mono ?_
    rintro e w1 ⟨rfl, hb1⟩
    have ⟨hy0, hy1, hf0, hf1, hsz⟩ := box1 hb1
    go_wp2_with fail
    refine (rcheck_ok _ _ _ _ _ _ ((HH.out.box _).via hb1) HC.out).mono ?_
    rintro e w2 ⟨rfl, hb2⟩
    go_wp2
    go_ret2
    exact ⟨ret2_int (by rw [HS.out]; rfl) rfl, (bbox hb1).trans (hb2.mono (by omega))⟩
  · have HS : Hid (lenS xs = 32 * n + Lib.bitLen (xs[n]?.getD 0)) := by show _ = _; unfold lenS; rw [if_neg (by omega), hl]; rfl
    have hg := h.good.get n
    have hb32 := bitLen32 _ hg
    have hn0 : (((n + 1 : Nat) : Int) == 0) = false := by simp; omega
    clear hl
    obtain ⟨b, off, rfl, hb, hcl⟩ := h.cell (k := n) (by omega)
    go_enter Try.func27, Try.ntmps27
    go_wp2_with fail
    refine (rcheck_ok _ _ _ _ _ _ (HH.out.box _) HC.out).mono ?_
    rintro e w1 ⟨rfl, hb1⟩
    have ⟨hy0, hy1, hf0, hf1, hsz⟩ := box1 hb1
    have hcx : w1.cell? ⟨b, off + n, none⟩ = some (.int .u32 (xs[n]?.getD 0 : Nat)) := ((bbox hb1).cell (p := ⟨b, off + n, none⟩) hb).trans hcl
    go_wp2_with fail
    go_loop [4, 5] (fun k x => ∃ (i y : Nat), k = .int .i64 (32 * n + i) ∧ x = .int .u32 (y : Int) ∧ i + Lib.bitLen y = Lib.bitLen (xs[n]?.getD 0) ∧ y < 4294967296) (fun _ x => (intOf x).toNat)
    case atStart =>
      exact ⟨0, _, by simp, rfl, by omega, hg⟩
    case round =>
      obtain ⟨i, y, rfl, rfl, hi, hy⟩ := hrel
      have HI := Lib.hid hi
      clear hi
      by_cases hy0 : y = 0
      · subst hy0
        go_wp2
        go_ret2
        refine ⟨ret2_int ?_ rfl, bbox hb1⟩
        have e := HI.out
        have e2 : Lib.bitLen 0 = 0 := rfl
        rw [HS.out]
        omega
      · have hi32 : i ≤ 32 := by have e := HI.out; omega
        have hh : Hid (Lib.bitLen y = 1 + Lib.bitLen (y / 2)) := Lib.bitLen_half y hy0 (by omega)
        have hyp : 0 < y := by omega
        clear hy0
        go_wp2
        go_round
        case rel => exact ⟨i + 1, y / 2, by go_num, by go_num, by have e := HI.out; have e2 := hh.out; omega, by omega⟩
        case measure => simp [intOf]; omega

end Go.Proofs.Ytdbilpmhejigpaa
