/-
  The contract of the reference's compare.
-/
import Derived.Test.YtdbilpmhejigpaaR1
import Derived.Test.YtdbilpmhejigpaaCmp2
namespace Go.Proofs.Ytdbilpmhejigpaa
open Go.RowKit

set_option maxRecDepth 100000 in
set_option maxHeartbeats 400000 in
theorem rcompare_len (A B : Option Addr) (n m ca cb : Nat) (xs ys : List Nat) (w : World) (hA : Lm w w.heap.size A n ca xs) (hB : Lm w w.heap.size B m cb ys) (hne : n ≠ m) :
    Calls Try.prog 46 #[.slice A n ca, .slice B m cb] w fun e w' => e = .returned (.int .i64 (cmpL xs ys)) ∧ ∃ d, w' = w.drewN d := by
  have h1 := hA.cap
  have h2 := hA.max
  have h3 := hB.cap
  have h4 := hB.max
  have HC : Hid (cmpL xs ys = cmpZ n m) := by
    show _ = _
    unfold cmpL cmpZ
    rw [hA.len, hB.len]
    rcases Nat.lt_or_ge n m with h | h
    · rw [if_pos h, if_pos (by omega)]
    · rw [if_neg (by omega), if_pos (by omega), if_neg (by omega), if_neg (by omega)]
  have hb : (((n : Int) == (m : Int))) = false := by simp; omega
  have hb2 : (((n : Int) != (m : Int))) = true := by simp; omega
  rcases Nat.lt_or_ge n m with h | h
  · have HE : Hid (cmpZ n m = -1) := by show _ = _; unfold cmpZ; rw [if_pos (by omega)]
    clear hne
    go_enter Try.func46, Try.ntmps46
    go_wp2
    go_ret
    exact ⟨ret_int (by rw [HC.out, HE.out]), 0, rfl⟩
  · have HE : Hid (cmpZ n m = 1) := by show _ = _; unfold cmpZ; rw [if_neg (by omega), if_neg (by omega)]
    have h' : m < n := by omega
    clear hne h
    go_enter Try.func46, Try.ntmps46
    go_wp2
    go_ret
    exact ⟨ret_int (by rw [HC.out, HE.out]), 0, rfl⟩

set_option maxRecDepth 100000 in
set_option maxHeartbeats 800000 in
theorem rcompare_eq (A B : Option Addr) (n ca cb : Nat) (xs ys : List Nat) (w : World) (hA : Lm w w.heap.size A n ca xs) (hB : Lm w w.heap.size B n cb ys) :
    Calls Try.prog 46 #[.slice A n ca, .slice B n cb] w fun e w' => e = .returned (.int .i64 (cmpL xs ys)) ∧ ∃ d, w' = w.drewN d := by
  have h1 := hA.cap
  have h2 := hA.max
  have h3 := hB.cap
  have h4 := hB.max
  go_enter Try.func46, Try.ntmps46
  go_wp2
  go_loopw [5] (fun i wr => ∃ m d : Nat, m ≤ n ∧ i = .int .i64 ((m : Int) - 1) ∧ xs.drop m = ys.drop m ∧ wr = w.drewN d) (fun i _ => (intOf i + 1).toNat)
  case atStart => exact ⟨n, 0, Nat.le_refl _, rfl, by rw [List.drop_of_length_le (by rw [hA.len]; exact Nat.le_refl _), List.drop_of_length_le (by rw [hB.len]; exact Nat.le_refl _)], rfl⟩
  case round =>
    obtain ⟨m, d, hm, rfl, hd, rfl⟩ := hrel
    have HD := Lib.hid hd
    clear hd
    rcases m with _ | m
    · go_wp2
      go_ret
      exact ⟨ret_int (cmpL_of_drop HD.out).symm, d, rfl⟩
    · obtain ⟨b, off, rfl, hb, hc⟩ := hA.cell (k := m) (by omega)
      obtain ⟨b', off', rfl, hb', hc'⟩ := hB.cell (k := m) (by omega)
      have hmm : (((m + 1 : Nat) : Int) - 1) = (m : Int) := by omega
      rw [hmm]
      have hm0 : (0 : Int) ≤ (m : Int) := Int.natCast_nonneg _
      have hm1 : (m : Int) < (n : Int) := by omega
      rcases Nat.lt_trichotomy (xs[m]?.getD 0) (ys[m]?.getD 0) with h | h | h
      · have HE : Hid (cmpL xs ys = -1) := by show _ = _; rw [cmpL_at hA.good hB.good hA.len hB.len (by omega) HD.out (by omega), cmpN_lt h]
        go_wp2
        go_quiet (fail)
        go_wp2
        go_ret
        exact ⟨ret_int HE.out.symm, _, World.drewN_drewN _ _ _⟩
      · have HE := Lib.hid h
        have hlt : decide (xs[m]?.getD 0 < ys[m]?.getD 0) = false := by simp; omega
        have hgt : decide (ys[m]?.getD 0 < xs[m]?.getD 0) = false := by simp; omega
        clear h
        go_wp2
        go_quiet (fail)
        go_wp2
        go_quiet (fail)
        go_wp2
        go_roundw
        case rel => exact ⟨m, _, by omega, rfl, drop_step hA.len hB.len (by omega) HD.out HE.out, rfl⟩
        case measure => simp [intOf]
      · have HE : Hid (cmpL xs ys = 1) := by show _ = _; rw [cmpL_at hA.good hB.good hA.len hB.len (by omega) HD.out (by omega), cmpN_gt h]
        have hlt : decide (xs[m]?.getD 0 < ys[m]?.getD 0) = false := by simp; omega
        go_wp2
        go_quiet (fail)
        go_wp2
        go_quiet (fail)
        go_wp2
        go_ret
        exact ⟨ret_int HE.out.symm, _, by rw [World.drewN_drewN, World.drewN_drewN]⟩

theorem rcompare_any (A B : Option Addr) (n m ca cb : Nat) (xs ys : List Nat) (w : World) (hA : Lm w w.heap.size A n ca xs) (hB : Lm w w.heap.size B m cb ys) :
    Calls Try.prog 46 #[.slice A n ca, .slice B m cb] w fun e w' => e = .returned (.int .i64 (cmpL xs ys)) ∧ ∃ d, w' = w.drewN d := by
  by_cases h : n = m
  · subst h
    exact rcompare_eq A B n ca cb xs ys w hA hB
  · exact rcompare_len A B n m ca cb xs ys w hA hB h

end Go.Proofs.Ytdbilpmhejigpaa
