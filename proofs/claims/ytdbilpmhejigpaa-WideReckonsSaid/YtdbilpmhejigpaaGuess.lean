/- wide.guess. -/
import Derived.Test.YtdbilpmhejigpaaSubP
import Derived.Deep.QuietTactic
import Derived.BigQuiet
namespace Go.Proofs.Ytdbilpmhejigpaa
open Go.RowKit

/-- The guess of a quotient's digit from three limbs and two. -/
def gs (b1 b2 h u1 u2 : Nat) : Nat := min 4294967295 (((h * 4294967296 + u1) * 4294967296 + u2) / (b1 * 4294967296 + b2))

theorem gs_le (b1 b2 h u1 u2 : Nat) : gs b1 b2 h u1 u2 ≤ 4294967295 := Nat.min_le_left _ _
theorem drewN_add (w : World) (a b : Nat) : (w.drewN a).drewN b = w.drewN (a + b) := by
  unfold World.drewN
  rw [Nat.add_assoc]
set_option maxRecDepth 100000 in
theorem gs_lt {b1 b2 h u1 u2 D R : Nat} (hw : 0 < b1) (hD : D * b1 + R = h * 4294967296 + u1) (hc : 4294967295 < D ∨ R * 4294967296 + u2 < D * b2) : gs b1 b2 h u1 u2 < D := by
  rcases hc with hc | hc
  · exact Nat.lt_of_le_of_lt (gs_le _ _ _ _ _) hc
  · refine Nat.lt_of_le_of_lt (show gs b1 b2 h u1 u2 ≤ ((h * 4294967296 + u1) * 4294967296 + u2) / (b1 * 4294967296 + b2) from Nat.min_le_right _ _) ?_
    rw [Nat.div_lt_iff_lt_mul (by omega), ← hD, Nat.mul_add, ← Nat.mul_assoc, Nat.add_mul, Nat.add_assoc]
    exact Nat.add_lt_add_left hc _
theorem le_min_ {a b c : Nat} (h1 : a ≤ b) (h2 : a ≤ c) : a ≤ min b c := by omega
theorem gs_eq {b1 b2 h u1 u2 D R : Nat} (hw : 0 < b1) (hD : D * b1 + R = h * 4294967296 + u1) (h1 : D ≤ 4294967295) (h2 : D * b2 ≤ R * 4294967296 + u2) (hq : gs b1 b2 h u1 u2 ≤ D) : gs b1 b2 h u1 u2 = D := by
  refine Nat.le_antisymm hq ?_
  have h3 : D ≤ ((h * 4294967296 + u1) * 4294967296 + u2) / (b1 * 4294967296 + b2) := by
    rw [Nat.le_div_iff_mul_le (by omega), ← hD, Nat.mul_add, ← Nat.mul_assoc, Nat.add_mul]
    omega
  unfold gs
  exact le_min_ h1 h3
theorem gs_break {b1 b2 h u1 u2 D R : Nat} (hw : 0 < b1) (hb2 : b2 < 4294967296) (hu1 : u1 < 4294967296) (hh : h ≤ b1) (hD : D * b1 + R = h * 4294967296 + u1) (hR : 4294967296 ≤ R) (hq : gs b1 b2 h u1 u2 ≤ D) : gs b1 b2 h u1 u2 = D := by
  have h1 : D ≤ 4294967295 := by
    rcases Nat.lt_or_ge 4294967295 D with hc | hc
    · have := Nat.mul_le_mul_right b1 (show 4294967296 ≤ D from hc)
      omega
    · exact hc
  refine gs_eq hw hD h1 ?_ hq
  have := mul_bd (show D < 4294967296 by omega) hb2
  omega
theorem gs_start {b1 b2 h u1 u2 D R : Nat} (hu : u2 < 4294967296) (hD : b1 * D + R = h * 4294967296 + u1) (hR : R < b1) : gs b1 b2 h u1 u2 ≤ D := by
  unfold gs
  refine Nat.le_trans (Nat.min_le_right _ _) (Nat.le_of_lt_succ ?_)
  rw [Nat.div_lt_iff_lt_mul (by omega), ← hD, Nat.mul_add, ← Nat.mul_assoc]
  have h3 : D.succ * b1 = b1 * D + b1 := by rw [Nat.succ_mul, Nat.mul_comm]
  rw [h3]
  have h5 : 0 ≤ D.succ * b2 := Nat.zero_le _
  omega

set_option maxRecDepth 100000 in
set_option maxHeartbeats 1000000 in
theorem guess_any (w : World) (g off m c n cb : Nat) (B : Option Addr) (cs ys : List Nat) (hL : Ld w g cs) (hG : Good cs) (hB : Lm w w.heap.size B n cb ys) (hn2 : 2 ≤ n) (hn9 : n ≤ 1000000000)
    (hm : n < m) (hoff : off + n < cs.length) (h1 : 1 ≤ ys[n - 1]?.getD 0) (hle : cs[off + n]?.getD 0 ≤ ys[n - 1]?.getD 0) :
    Calls Try.prog 71 #[.slice (some ⟨g, off, none⟩) m c, .slice B n cb] w fun e w' => e = .returned (.int .u32 (gs (ys[n - 1]?.getD 0) (ys[n - 2]?.getD 0) (cs[off + n]?.getD 0) (cs[off + (n - 1)]?.getD 0) (cs[off + (n - 2)]?.getD 0) : Nat)) ∧ ∃ d, w' = w.drewN d := by
  have hcap := hB.cap
  have hmax := hB.max
  have g1 := hB.good.get (n - 1)
  have g2 := hB.good.get (n - 2)
  have gh := hG.get (off + n)
  have gu1 := hG.get (off + (n - 1))
  have gu2 := hG.get (off + (n - 2))
  have ch := hL.cell (i := off + n) (by omega)
  have cu1 := hL.cell (i := off + (n - 1)) (by omega)
  have cu2 := hL.cell (i := off + (n - 2)) (by omega)
  obtain ⟨bb, bo, rfl, hbb, cb1⟩ := hB.cell (k := n - 1) (by omega)
  obtain ⟨bb', bo', e, _, cb2⟩ := hB.cell (k := n - 2) (by omega)
  cases e
  generalize ys[n - 1]?.getD 0 = b1 at *
  generalize ys[n - 2]?.getD 0 = b2 at *
  generalize cs[off + n]?.getD 0 = h at *
  generalize cs[off + (n - 1)]?.getD 0 = u1 at *
  generalize cs[off + (n - 2)]?.getD 0 = u2 at *
  clear hL hB hG hoff
  have i1 : ((n : Int) - 1).toNat = n - 1 := by omega
  have i2 : ((n : Int) - 2).toNat = n - 2 := by omega
  obtain ⟨hi, hhi⟩ : ∃ hi : Nat, hi = h * 4294967296 + u1 := ⟨_, rfl⟩
  have hbit : bits .or .u64 ((h : Int) * 4294967296) (u1 : Int) = (hi : Int) := by
    have e1 : (h : Int) * 4294967296 = ((h * 4294967296 : Nat) : Int) := by omega
    rw [e1, bits_or _ _ (by omega) (by omega), Nat.or_comm, Nat.mul_comm, show (4294967296 : Nat) = 2 ^ 32 from rfl, or_add (by omega), hhi]
    omega
  have hq0 : (hi : Int).tdiv (b1 : Int) = ((hi / b1 : Nat) : Int) := by rw [Int.tdiv_eq_ediv_of_nonneg (by omega), ← Int.natCast_ediv]
  have hr0 : (hi : Int).tmod (b1 : Int) = ((hi % b1 : Nat) : Int) := by rw [Int.tmod_eq_emod_of_nonneg (by omega), ← Int.natCast_emod]
  have hb0 : ¬ ((b1 : Int) = 0) := by omega
  have hdm := Nat.div_add_mod hi b1
  have hrl := Nat.mod_lt hi (show 0 < b1 by omega)
  have hq0' : (hi : Int) / (b1 : Int) = ((hi / b1 : Nat) : Int) := by rw [← Int.natCast_ediv]
  have hr0' : (hi : Int) % (b1 : Int) = ((hi % b1 : Nat) : Int) := by rw [← Int.natCast_emod]
  have hD9 := Nat.div_le_self hi b1
  generalize hi / b1 = D0 at *
  generalize hi % b1 = R0 at *
  obtain ⟨Q, hQ⟩ : ∃ Q, Q = gs b1 b2 h u1 u2 := ⟨_, rfl⟩
  have HI := Lib.hid hhi
  have HQ := Lib.hid hQ
  have hQ9 : Q ≤ 4294967295 := by rw [hQ]; exact gs_le _ _ _ _ _
  have hQ0 : Q ≤ D0 := by rw [hQ]; exact gs_start gu2 (by rw [← hhi]; exact hdm) hrl
  rw [← hQ]
  have hi9 : hi < 18446744073709551616 := by omega
  clear hhi hQ
  go_enter Try.func71, Try.ntmps71
  go_wp2
  go_quiet (fail)
  go_wp2
  go_quiet (fail)
  go_wp2
  go_loopw [7, 8] (fun x r wr => ∃ D R d : Nat, x = .int .u64 (D : Int) ∧ r = .int .u64 (R : Int) ∧ D * b1 + R = hi ∧ R < 4294967296 ∧ Q ≤ D ∧ wr = w.drewN d) (fun x _ _ => (intOf x).toNat)
  case atStart => exact ⟨D0, R0, _, rfl, rfl, by rw [Nat.mul_comm]; exact hdm, by omega, hQ0, drewN_add w _ _⟩
  case round =>
    obtain ⟨D, R, d, rfl, rfl, hDR, hR, hQD, rfl⟩ := hrel
    have hDle : D ≤ hi := by
      have := Nat.le_mul_of_pos_right D (show 0 < b1 by omega)
      omega
    by_cases hd : 4294967295 < D
    · have hlt : Q < D := by rw [HQ.out]; exact gs_lt (by omega) (by rw [← HI.out]; exact hDR) (.inl hd)
      have HDM : Hid ((D - 1) * b1 + (R + b1) = D * b1 + R) := by show _ = _; rw [Nat.sub_mul, Nat.one_mul]; have := Nat.le_mul_of_pos_left b1 (show 0 < D by omega); omega
      have hdi : (4294967295 : Int) < (D : Int) := by omega
      go_wp2_with fail
      go_quiet (fail)
      go_wp2
      · have hQE : Hid (Q = D - 1) := by
          show _ = _
          rw [HQ.out]
          exact gs_break (by omega) g2 gu1 hle (by rw [← HI.out, ← hDR]; exact HDM.out) (show 4294967296 ≤ R + b1 by omega) (by rw [← HQ.out]; omega)
        go_ret
        have hQE1 := hQE.out
        exact ⟨ret_int (by omega), _, rfl⟩
      · go_roundw
        case rel => exact ⟨D - 1, R + b1, _, by go_num, by go_num, by rw [← hDR]; exact HDM.out, by omega, by omega, rfl⟩
        case measure => simp [intOf]; omega
    · have hdd : decide ((4294967295 : Int) < (D : Int)) = false := by simp; omega
      have hmul := mul_bd (show D < 4294967296 by omega) g2
      obtain ⟨T, hT⟩ : ∃ T : Nat, T = R * 4294967296 + u2 := ⟨_, rfl⟩
      have hbit2 : bits .or .u64 ((R : Int) * 4294967296) (u2 : Int) = (T : Int) := by
        have e1 : (R : Int) * 4294967296 = ((R * 4294967296 : Nat) : Int) := by omega
        rw [e1, bits_or _ _ (by omega) (by omega), Nat.or_comm, Nat.mul_comm, show (4294967296 : Nat) = 2 ^ 32 from rfl, or_add (by omega), hT]
        omega
      have HT := Lib.hid hT
      clear hT
      by_cases hp : T < D * b2
      · have hlt : Q < D := by rw [HQ.out]; exact gs_lt (by omega) (by rw [← HI.out]; exact hDR) (.inr (by rw [← HT.out]; exact hp))
        have HDM : Hid ((D - 1) * b1 + (R + b1) = D * b1 + R) := by show _ = _; rw [Nat.sub_mul, Nat.one_mul]; have := Nat.le_mul_of_pos_left b1 (show 0 < D by omega); omega
        have hpi : (T : Int) < (D : Int) * (b2 : Int) := by rw [← Int.natCast_mul]; omega
        go_wp2_with fail
        go_quiet (fail)
        go_wp2
        · have hQE : Hid (Q = D - 1) := by
            show _ = _
            rw [HQ.out]
            exact gs_break (by omega) g2 gu1 hle (by rw [← HI.out, ← hDR]; exact HDM.out) (show 4294967296 ≤ R + b1 by omega) (by rw [← HQ.out]; omega)
          go_ret
          exact ⟨ret_int (by rw [hQE.out]; omega), _, rfl⟩
        · go_roundw
          case rel => exact ⟨D - 1, R + b1, _, by go_num, by go_num, by rw [← hDR]; exact HDM.out, by omega, by omega, rfl⟩
          case measure => simp [intOf]; omega
      · have hpd : decide ((T : Int) < (D : Int) * (b2 : Int)) = false := by rw [← Int.natCast_mul]; simp; omega
        have hQE : Hid (Q = D) := by show _ = _; rw [HQ.out]; exact gs_eq (by omega) (by rw [← HI.out]; exact hDR) (by omega) (by rw [← HT.out]; omega) (by rw [← HQ.out]; exact hQD)
        go_wp2_with fail
        go_quiet (fail)
        go_wp2
        go_ret
        exact ⟨ret_int (by rw [hQE.out]), _, rfl⟩
end Go.Proofs.Ytdbilpmhejigpaa
