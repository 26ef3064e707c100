/-
  Contracts of the reference's Int.
-/
import Derived.Test.YtdbilpmhejigpaaR4
namespace Go.Proofs.Ytdbilpmhejigpaa
open Go.RowKit

set_option maxRecDepth 100000 in
set_option maxHeartbeats 400000 in
theorem rint_bad (w : World) (neg : Bool) (A : Option Addr) (n c : Nat) (xs : List Nat) (h : Lm w w.heap.size A n c xs) (hc : chk neg xs = 8) :
    Calls Try.prog 17 #[.agg #[.bool neg, .slice A n c]] w fun e w' => e = .returned (.tuple #[.int .i64 0, .int .i64 8]) ∧ Below w.heap.size w w' := by
  have HH := Lib.hid h
  have HC := Lib.hid hc
  clear hc
  go_enter Try.func17, Try.ntmps17
  go_wp2_with fail
  refine (rcheck_bad _ _ _ _ _ _ (HH.out.box _) HC.out).mono ?_
  rintro e w1 ⟨rfl, hb1⟩
  have ⟨hy0, hy1, hf0, hf1, hsz⟩ := box1 hb1
  go_wp2_with fail
  refine (rcheck_bad _ _ _ _ _ _ ((HH.out.box _).via hb1) HC.out).mono ?_
  rintro e w2 ⟨rfl, hb2⟩
  go_wp2
  go_ret2
  exact ⟨rfl, (bbox hb1).trans (hb2.mono (by omega))⟩

set_option maxRecDepth 100000 in
set_option maxHeartbeats 400000 in
theorem rint_big (w : World) (neg : Bool) (A : Option Addr) (n c : Nat) (xs : List Nat) (v : Nat) (h : Lm w w.heap.size A n c xs) (hc : chk neg xs = 0) (hv : val xs = v) (hn : 2 < n) :
    Calls Try.prog 17 #[.agg #[.bool neg, .slice A n c]] w fun e w' => e = .returned (.tuple #[.int .i64 (intV neg v), .int .i64 (intE neg v)]) ∧ Below w.heap.size w w' := by
  have HH := Lib.hid h
  have HC := Lib.hid hc
  have hlen := chk_len hc h.good 2
  rw [h.len, hv] at hlen
  have hbig : 18446744073709551616 ≤ v := by
    have h3 : ¬ n ≤ 2 := by omega
    rw [hlen] at h3
    omega
  have HI : Hid (intV neg v = 0 ∧ intE neg v = 16) := by
    show _ ∧ _
    unfold intV intE
    cases neg
    · simp only [Bool.false_eq_true, if_false]
      rw [if_neg (by omega), if_neg (by omega)]
      exact ⟨rfl, rfl⟩
    · simp only [if_true]
      rw [if_neg (by omega), if_neg (by omega)]
      exact ⟨rfl, rfl⟩
  have hcap := h.cap
  have hmax := h.max
  clear hc hv hlen hbig
  go_enter Try.func17, Try.ntmps17
  go_wp2_with fail
  refine (rcheck_ok _ _ _ _ _ _ (HH.out.box _) HC.out).mono ?_
  rintro e w1 ⟨rfl, hb1⟩
  have ⟨hy0, hy1, hf0, hf1, hsz⟩ := box1 hb1
  go_wp2_with fail
  go_loop [4, 5] (fun u i => u = .int .u64 0 ∧ i = .int .i64 ((n : Int) - 1)) (fun _ _ => 0)
  case atStart => exact ⟨rfl, rfl⟩
  case round =>
    obtain ⟨rfl, rfl⟩ := hrel
    go_wp2
    go_ret2
    exact ⟨ret2_int HI.out.1.symm HI.out.2.symm, bbox hb1⟩

set_option maxRecDepth 100000 in
set_option maxHeartbeats 1000000 in
theorem rint_small (w : World) (neg : Bool) (A : Option Addr) (n c : Nat) (xs : List Nat) (v : Nat) (h : Lm w w.heap.size A n c xs) (hc : chk neg xs = 0) (hv : val xs = v) (hn : n ≤ 2) :
    Calls Try.prog 17 #[.agg #[.bool neg, .slice A n c]] w fun e w' => e = .returned (.tuple #[.int .i64 (intV neg v), .int .i64 (intE neg v)]) ∧ Below w.heap.size w w' := by
  have HH := Lib.hid h
  have HC := Lib.hid hc
  have HV := Lib.hid hv
  have hlen := chk_len hc h.good 2
  rw [h.len, hv] at hlen
  have hbig : v < 18446744073709551616 := hlen.1 hn
  have hcap := h.cap
  have hmax := h.max
  have hdrop : ∀ m, m + 1 ≤ n → val (xs.drop (m + 1)) < 4294967296 := by
    intro m hm
    have e := val_lt (h.good.drop (m + 1))
    rw [List.length_drop, h.len] at e
    have e2 : (4294967296 : Nat) ^ (n - (m + 1)) ≤ 4294967296 ^ 1 := pow_mono_ (by omega)
    omega
  have HD := Lib.hid hdrop
  clear hc hv hlen hdrop
  cases neg
  all_goals
    go_enter Try.func17, Try.ntmps17
    go_wp2_with fail
    refine (rcheck_ok _ _ _ _ _ _ (HH.out.box _) HC.out).mono ?_
    rintro e w1 ⟨rfl, hb1⟩
    have ⟨hy0, hy1, hf0, hf1, hsz⟩ := box1 hb1
    have HL := Lib.hid (HH.out.below (bbox hb1))
    go_wp2_with fail
    go_loop [4, 5] (fun u i => ∃ (m : Nat) (y : Int), m ≤ n ∧ i = .int .i64 ((m : Int) - 1) ∧ u = .int .u64 y ∧ y = (val (xs.drop m) : Nat)) (fun _ i => (intOf i + 1).toNat)
    case atStart => exact ⟨n, 0, Nat.le_refl _, rfl, rfl, by rw [List.drop_of_length_le (by rw [h.len]; exact Nat.le_refl _)]; rfl⟩
    case round =>
      obtain ⟨m, y, hm, rfl, rfl, hy⟩ := hrel
      have HY := Lib.hid hy
      clear hy
      rcases m with _ | m
      · have hyv : Hid (y = (v : Int)) := by have e := HY.out; rw [List.drop_zero, HV.out] at e; exact e
        have hy0 : 0 ≤ y := by rw [hyv.out]; omega
        have hy64 : y < 18446744073709551616 := by rw [hyv.out]; omega
        clear hbig
        by_cases h63 : y < 9223372036854775808
        all_goals
          go_wp2
        all_goals
          go_ret2
          refine ⟨ret2_int ?_ ?_, bbox hb1⟩
        all_goals
          have e1 := hyv.out
          simp only [intV, intE, Bool.false_eq_true, if_false, if_true, wrap64, IntKind.wrap_u64]
          split <;> omega
      · obtain ⟨b, off, rfl, hb, hcl⟩ := HL.out.cell (k := m) (by omega)
        have hy0 : 0 ≤ y := by rw [HY.out]; omega
        have hy32 : y < 4294967296 := by rw [HY.out]; have := HD.out m (by omega); omega
        have hg := h.good.get m
        have hst := val_step xs m
        have HS : Hid ((val (xs.drop m) : Int) = xs[m]?.getD 0 + 4294967296 * y) := by show _ = _; rw [hst, HY.out]; omega
        clear hst
        have hmm : (((m + 1 : Nat) : Int) - 1) = (m : Int) := by omega
        rw [hmm]
        have hm1 : m ≤ 1 := by omega
        go_wp2
        go_round
        case rel => exact ⟨m, _, by omega, rfl, rfl, by rw [HS.out]; omega⟩
        case measure => simp [intOf]

theorem rint_ok (w : World) (neg : Bool) (A : Option Addr) (n c : Nat) (xs : List Nat) (v : Nat) (h : Lm w w.heap.size A n c xs) (hc : chk neg xs = 0) (hv : val xs = v) :
    Calls Try.prog 17 #[.agg #[.bool neg, .slice A n c]] w fun e w' => e = .returned (.tuple #[.int .i64 (intV neg v), .int .i64 (intE neg v)]) ∧ Below w.heap.size w w' := by
  by_cases hn : n ≤ 2
  · exact rint_small w neg A n c xs v h hc hv hn
  · exact rint_big w neg A n c xs v h hc hv (by omega)

end Go.Proofs.Ytdbilpmhejigpaa
