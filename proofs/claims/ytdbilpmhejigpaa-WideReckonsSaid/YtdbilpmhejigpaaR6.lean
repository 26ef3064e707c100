/-
  Contracts of the reference's Great, From.
-/
import Derived.Test.YtdbilpmhejigpaaR5
namespace Go.Proofs.Ytdbilpmhejigpaa
open Go.RowKit

/-- Numbers above the statements' size, unless they have too many limbs. -/
def greatB (n : Nat) : Bool := (decide (300 < n) && decide (n ≤ 4096)) || decide (4106 < n)
set_option maxRecDepth 100000 in
set_option maxHeartbeats 400000 in
theorem great_any (w : World) (neg : Bool) (A : Option Addr) (n c : Nat) (hc : n ≤ c) (hm : c ≤ 9223372036854775807) :
    Calls Try.prog 5 #[.agg #[.bool neg, .slice A n c]] w fun e w' => e = .returned (.bool (greatB n)) ∧ Below w.heap.size w w' := by
  by_cases h1 : 300 < n
  · by_cases h2 : n ≤ 4096
    · have HG : Hid (greatB n = true) := by show _ = _; unfold greatB; rw [decide_eq_true h1, decide_eq_true h2]; rfl
      go_enter Try.func5, Try.ntmps5
      go_wp2
      go_ret
      exact ⟨ret_bool (by rw [HG.out] <;> first | rfl | (simp; done) | (simp; omega)), by go_grown⟩
    · by_cases h3 : 4106 < n
      · have HG : Hid (greatB n = true) := by show _ = _; unfold greatB; rw [decide_eq_true h3, Bool.or_true]
        go_enter Try.func5, Try.ntmps5
        go_wp2
        go_ret
        exact ⟨ret_bool (by rw [HG.out] <;> first | rfl | (simp; done) | (simp; omega)), by go_grown⟩
      · have HG : Hid (greatB n = false) := by show _ = _; unfold greatB; rw [decide_eq_false h3, decide_eq_false h2, Bool.and_false]; rfl
        go_enter Try.func5, Try.ntmps5
        go_wp2
        go_ret
        exact ⟨ret_bool (by rw [HG.out] <;> first | rfl | (simp; done) | (simp; omega)), by go_grown⟩
  · have HG : Hid (greatB n = false) := by show _ = _; unfold greatB; rw [decide_eq_false h1, decide_eq_false (show ¬ 4106 < n by omega)]; rfl
    go_enter Try.func5, Try.ntmps5
    go_wp2
    go_ret
    exact ⟨ret_bool (by rw [HG.out] <;> first | rfl | (simp; done) | (simp; omega)), by go_grown⟩

set_option maxRecDepth 100000 in
set_option maxHeartbeats 400000 in
theorem rfrom_any (w : World) (m : Int) (h1 : -9223372036854775808 ≤ m) (h2 : m ≤ 9223372036854775807) :
    Calls Try.prog 31 #[.int .i64 m] w fun e w' => ∃ A n c, e = .returned (.agg #[.bool (decide (m < 0)), .slice A n c]) ∧ Lm w' w'.heap.size A n c (digs m.natAbs) ∧ Below w.heap.size w w' := by
  obtain ⟨v, hv⟩ : ∃ v, v = m.natAbs := ⟨_, rfl⟩
  have hv2 : v < 18446744073709551616 := by omega
  have HV := Lib.hid hv
  have hd : (digs v).length ≤ 4096 := by
    have h3 : (digs v).length ≤ 2 := digs_len.2 (by omega)
    omega
  have HN : Hid (mkN (decide (m < 0)) v = decide (m < 0)) := by
    show _ = _
    unfold mkN
    rw [decide_eq_true hd, Bool.true_and]
    by_cases hm : m < 0
    · rw [decide_eq_true hm, decide_eq_true (show v ≠ 0 by omega)]; rfl
    · rw [decide_eq_false hm]; rfl
  have HL : Hid (mkL v = digs v) := by show _ = _; unfold mkL; rw [if_pos hd]
  clear hd
  by_cases hm : m < 0
  · have HM : Hid (decide (m < 0) = true) := by show _ = _; simpa using hm
    have HW : Hid (IntKind.u64.wrap (-IntKind.u64.wrap m) = (v : Int)) := by show _ = _; rw [IntKind.wrap_u64, IntKind.wrap_u64]; omega
    clear hv
    go_enter Try.func31, Try.ntmps31
    go_wp2_with fail
    rw [HW.out]
    refine (rmade_any _ _ _ _ _ _ v ((Lm.two _ (w.heap.size + 1) _ (v % 4294967296) (v / 4294967296 % 4294967296) _ _ (by simp) (by omega) (by omega) (by omega) (by omega)).mono (by simp)) (val2 v hv2) (by omega)).mono ?_
    rintro e w1 ⟨A1, n1, c1, rfl, hL1, hb1⟩
    have ⟨hy0, hy1, hf0, hf1, hsz⟩ := box1 (bbox hb1)
    go_wp2
    have ⟨r0, r1⟩ := set2 (.bool (mkN true v)) (.slice A1 n1 c1) hy0 hy1
    have ⟨q0, q1⟩ := alloc2 (.cells #[.bool (mkN true v), .slice A1 n1 c1] 24) (by simp [World.size_setCell]; omega) r0 r1
    refine post_w1 Try.results31 rfl rfl q0 q1 ⟨A1, n1, c1, ?_, ?_, ?_⟩
    · have e := HN.out
      rw [HM.out] at e ⊢
      rw [e]
    · have e := (hL1.set2 hy0 hy1 (.bool (mkN true v)) (.slice A1 n1 c1)).box (.cells #[.bool (mkN true v), .slice A1 n1 c1] 24)
      rw [HL.out] at e
      rw [← HV.out]
      exact e
    · exact (below_set2 (bbox (bbox hb1)) (Nat.le_refl _) _ _).alloc (by simp [World.size_setCell]; omega) _
  · have HM : Hid (decide (m < 0) = false) := by show _ = _; simpa using hm
    have HW : Hid (m = (v : Int)) := by show _ = _; omega
    clear hv
    go_enter Try.func31, Try.ntmps31
    go_wp2_with fail
    have hm' := HW.out
    refine (rmade_any _ _ _ _ _ _ v ((Lm.two _ (w.heap.size + 1) _ (v % 4294967296) (v / 4294967296 % 4294967296) _ _ (by simp) (by omega) (by omega) (by omega) (by omega)).mono (by simp)) (val2 v hv2) (by omega)).mono ?_
    clear hm'
    rintro e w1 ⟨A1, n1, c1, rfl, hL1, hb1⟩
    have ⟨hy0, hy1, hf0, hf1, hsz⟩ := box1 (bbox hb1)
    go_wp2
    have ⟨r0, r1⟩ := set2 (.bool (mkN false v)) (.slice A1 n1 c1) hy0 hy1
    have ⟨q0, q1⟩ := alloc2 (.cells #[.bool (mkN false v), .slice A1 n1 c1] 24) (by simp [World.size_setCell]; omega) r0 r1
    refine post_w1 Try.results31 rfl rfl q0 q1 ⟨A1, n1, c1, ?_, ?_, ?_⟩
    · have e := HN.out
      rw [HM.out] at e ⊢
      rw [e]
    · have e := (hL1.set2 hy0 hy1 (.bool (mkN false v)) (.slice A1 n1 c1)).box (.cells #[.bool (mkN false v), .slice A1 n1 c1] 24)
      rw [HL.out] at e
      rw [← HV.out]
      exact e
    · exact (below_set2 (bbox (bbox hb1)) (Nat.le_refl _) _ _).alloc (by simp [World.size_setCell]; omega) _

end Go.Proofs.Ytdbilpmhejigpaa
