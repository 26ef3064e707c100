/-
  Contracts of wide.length, Bits.
-/
import Derived.Test.YtdbilpmhejigpaaLen
import Derived.Test.YtdbilpmhejigpaaCmp2
namespace Go.Proofs.Ytdbilpmhejigpaa
open Go.RowKit

/-- How many binary digits a list of limbs has. -/
def lenS (xs : List Nat) : Nat := if xs.length = 0 then 0 else 32 * (xs.length - 1) + Lib.bitLen (xs[xs.length - 1]?.getD 0)
theorem bitLen32 (x : Nat) (h : x < 4294967296) : Lib.bitLen x ≤ 32 := Lib.bitLen_le x 32 (by omega) h

set_option maxRecDepth 100000 in
set_option maxHeartbeats 400000 in
theorem length_any (w : World) (A : Option Addr) (n c : Nat) (xs : List Nat) (h : Lm w w.heap.size A n c xs) (hn : n ≤ 1000000000) :
    Calls Try.prog 52 #[.slice A n c] w fun e w' => e = .returned (.int .i64 (lenS xs)) ∧ w = w' := by
  have hcap := h.cap
  have hmax := h.max
  have hl := h.len
  rcases n with _ | n
  · have HS : Hid (lenS xs = 0) := by show _ = _; unfold lenS; rw [if_pos hl]
    clear hl
    go_enter Try.func52, Try.ntmps52
    go_wp2
    go_ret
    exact ⟨ret_int (by rw [HS.out]; rfl), rfl⟩
  · have HS : Hid (lenS xs = 32 * n + Lib.bitLen (xs[n]?.getD 0)) := by show _ = _; unfold lenS; rw [if_neg (by omega), hl]; rfl
    have hg := h.good.get n
    have hb32 := bitLen32 _ hg
    clear hl
    obtain ⟨b, off, rfl, hb, hc⟩ := h.cell (k := n) (by omega)
    go_enter Try.func52, Try.ntmps52
    go_wp2_with (go_at_call 68; refine (len32_any _ _ (by omega) (by omega)).mono ?_; rintro e w' ⟨rfl, rfl⟩)
    go_ret
    refine ⟨ret_int ?_, rfl⟩
    rw [HS.out]
    omega

set_option maxRecDepth 100000 in
set_option maxHeartbeats 400000 in
theorem bits_bad (w : World) (neg : Bool) (A : Option Addr) (n c : Nat) (xs : List Nat) (h : Lm w w.heap.size A n c xs) (hc : chk neg xs = 8) :
    Calls Try.prog 26 #[.agg #[.bool neg, .slice A n c]] w fun e w' => e = .returned (.tuple #[.int .i64 0, .int .i64 8]) ∧ Below w.heap.size w w' := by
  have HH := Lib.hid h
  have HC := Lib.hid hc
  clear hc
  go_enter Try.func26, Try.ntmps26
  go_wp2_with (go_at_call 28; refine (check_bad _ _ _ _ _ _ (HH.out.box _) HC.out).mono ?_; rintro e w1 ⟨rfl, hb1⟩; have ⟨hcl, hfz⟩ := bcell hb1)
  go_ret2
  exact ⟨rfl, bbox hb1⟩
set_option maxRecDepth 100000 in
set_option maxHeartbeats 400000 in
theorem bits_ok (w : World) (neg : Bool) (A : Option Addr) (n c : Nat) (xs : List Nat) (h : Lm w w.heap.size A n c xs) (hc : chk neg xs = 0) :
    Calls Try.prog 26 #[.agg #[.bool neg, .slice A n c]] w fun e w' => e = .returned (.tuple #[.int .i64 (lenS xs), .int .i64 0]) ∧ Below w.heap.size w w' := by
  have HH := Lib.hid h
  have HC := Lib.hid hc
  have hl := (chk_ok.1 hc).1
  rw [h.len] at hl
  clear hc
  go_enter Try.func26, Try.ntmps26
  go_wp2_with (first
    | (go_at_call 28; refine (check_ok _ _ _ _ _ _ (HH.out.box _) HC.out).mono ?_; rintro e w1 ⟨rfl, hb1⟩; have ⟨hcl, hfz⟩ := bcell hb1)
    | (go_at_call 52; refine (length_any _ _ _ _ xs ((HH.out.box _).via hb1) (by omega)).mono ?_; rintro e w2 ⟨rfl, rfl⟩))
  go_ret2
  exact ⟨rfl, bbox hb1⟩

end Go.Proofs.Ytdbilpmhejigpaa
