/- wide.divide. -/
import Derived.Test.YtdbilpmhejigpaaDivL
namespace Go.Proofs.Ytdbilpmhejigpaa
open Go.RowKit

set_option maxRecDepth 100000 in
set_option maxHeartbeats 1000000 in
theorem clone_own (w : World) (A : Option Addr) (n c : Nat) (xs : List Nat) (h : Lm w w.heap.size A n c xs) (hn0 : 0 < n) (hn : n ≤ 1000000000) :
    Calls Try.prog 48 #[.slice A n c] w fun e w' => ∃ g c', e = .returned (.slice (some ⟨g, 0, none⟩) n c') ∧ n ≤ c' ∧ c' ≤ 9223372036854775807 ∧ w.heap.size ≤ g ∧ Ob w' g xs ∧ Below w.heap.size w w' := by
  obtain ⟨i0, hi0, hz0, hz1, hz2⟩ := info_parts u32_info
  have hr := h.max
  have hl := h.len
  have HH := Lib.hid h
  have hnil := fun (w : World) (a : Option Addr) (n c n' c' : Nat) => Lib.run_eql_slice_nil (P := Try.prog) w 22 63 a n c n' c' slice_u32
  obtain ⟨ad, rfl⟩ := h.addr hn0
  go_enter Try.func48, Try.ntmps48
  go_wp2_with (at_builtin; refine wpList_append_lm _ rfl _ _ _ rfl w.heap.size _ i0 slice_u32 hi0 hz0 hz1 hz2 _ 0 [] rfl (World.ownsRow_made _ _ _ (Nat.le_refl _) (by simp [maxLen]) rfl) _ _ _ _ xs rfl (HH.out.box _) (by simp only [maxLen]; omega) (by omega) (by simp) ?_; intro v1 w1 hown1 hg1)
  go_ret
  rw [Nat.zero_add, List.nil_append] at hown1
  have hO : Ow w1 w.heap.size v1 xs := by unfold Ow; rw [hl]; exact hown1
  obtain ⟨A', c', rfl, hL⟩ := hO.lm HH.out.good
  obtain ⟨g, rfl, _, hgB, hOb⟩ := hO.ob (by omega)
  have hcp := hL.cap
  have hmx := hL.max
  rw [hl] at hcp hL ⊢
  refine ⟨g, c', rfl, hcp, hmx, hgB, hOb, ((Below.refl _ _).alloc (Nat.le_refl _) _).grown hg1 (by simp) (fun k hk => ?_)⟩
  have e : w.heap.size = k := Option.some.inj hk
  omega

theorem Lm.one (w : World) (x : Nat) (X : Int) (hX : X = (x : Int)) (hx : x < 4294967296) :
    Lm (w.alloc (.cells #[.int .u32 X] 63)) (w.alloc (.cells #[.int .u32 X] 63)).heap.size (some ⟨w.heap.size, 0, none⟩) 1 1 [x] := by
  subst hX
  exact ⟨rfl, Good.nil.cons hx, Nat.le_refl _, by omega, fun h => (by cases h), fun _ => ⟨_, 0, rfl, by simp, fun j hj => by
    match j, hj with
    | 0, _ => go_simp⟩⟩
theorem val_one (x : Nat) : val [x] = x := by simp [val_cons, val_nil]

/-- A call returns a quotient and a remainder, as limbs. -/
def RD (w : World) (q r : Nat) (e : Ending) (w' : World) : Prop := ∃ Q cq R cr, e = .returned (.tuple #[.slice Q (digs q).length cq, .slice R (digs r).length cr]) ∧
  Lm w' w'.heap.size Q (digs q).length cq (digs q) ∧ Lm w' w'.heap.size R (digs r).length cr (digs r) ∧ Below w.heap.size w w'

set_option maxRecDepth 100000 in
set_option maxHeartbeats 1000000 in
theorem divide_less (w : World) (A B : Option Addr) (n m ca cb a b : Nat) (hA : Lm w w.heap.size A n ca (digs a)) (hB : Lm w w.heap.size B m cb (digs b)) (hlt : a < b) (hn9 : n ≤ 1000000) :
    Calls Try.prog 42 #[.slice A n ca, .slice B m cb] w (RD w (a / b) (a % b)) := by
  have HC : Hid (cmpL (digs a) (digs b) = -1) := by show _ = _; rw [cmpL_norm (digs_good _) (digs_good _) (digs_norm _) (digs_norm _), digs_val, digs_val]; exact cmpN_lt hlt
  have HA := Lib.hid hA
  have HB := Lib.hid hB
  rw [Nat.div_eq_of_lt hlt, Nat.mod_eq_of_lt hlt]
  have HN := Lib.hid hA.len
  clear hA hB hlt
  go_enter Try.func42, Try.ntmps42
  go_wp2_with fail
  refine (compare_any _ _ _ _ _ _ (digs a) (digs b) _ HA.out HB.out).mono ?_
  rintro e w1 ⟨he, hb1⟩
  rw [HC.out] at he
  subst he
  go_wp2_with fail
  refine (clone_any _ _ _ _ (digs a) (HA.out.via hb1) (by omega)).mono ?_
  rintro e w2 ⟨A2, c2, rfl, hL2, hb2⟩
  go_wp2
  go_ret2
  refine ⟨none, 0, A2, c2, by rw [HN.out]; rfl, Lm.nil _ _, by rw [HN.out]; exact hL2, hb1.trans (hb2.mono hb1.size)⟩

set_option maxRecDepth 100000 in
set_option maxHeartbeats 1000000 in
theorem divide_one (w : World) (A B : Option Addr) (n ca cb a b : Nat) (hA : Lm w w.heap.size A n ca (digs a)) (hB : Lm w w.heap.size B 1 cb (digs b)) (hle : b ≤ a) (hn9 : n ≤ 1000000) :
    Calls Try.prog 42 #[.slice A n ca, .slice B 1 cb] w (RD w (a / b) (a % b)) := by
  obtain ⟨z, hz, HC⟩ : ∃ z : Int, decide (z < 0) = false ∧ Hid (cmpL (digs a) (digs b) = z) := ⟨_, by rw [cmpL_norm (digs_good _) (digs_good _) (digs_norm _) (digs_norm _), digs_val, digs_val]; unfold cmpN; rw [if_neg (by omega)]; split <;> decide, rfl⟩
  have hb0 : 0 < b := by rw [← digs_pos, hB.len]; omega
  have hn0 : 0 < n := by rw [← hA.len, digs_pos]; omega
  have hbe : (digs b)[0]?.getD 0 = b := by
    have h1 := val_take_succ' (digs b) 0
    rw [List.take_of_length_le (by rw [hB.len]; omega), digs_val] at h1
    simpa [val_nil] using h1.symm
  have hb9 := hB.good.get 0
  obtain ⟨bb, bo, rfl, hbb, cb1⟩ := hB.cell (k := 0) (by omega)
  rw [hbe] at cb1 hb9
  have hcB := hB.cap
  have hxB := hB.max
  have HA := Lib.hid hA
  have HB := Lib.hid hB
  have HN := Lib.hid hA.len
  have HQ := Lib.hid (dvL_quot hb0 (digs a))
  have HG := Lib.hid (dvL_good hb0 (digs_good a))
  have HDl := Lib.hid (dvL_len b (digs a))
  have HVa := Lib.hid (digs_val a)
  have HRm : Hid ((dvL b (digs a)).2 < 4294967296) := Nat.lt_trans (dvL_lt hb0 _) hb9
  clear hA hB hle hbe
  go_enter Try.func42, Try.ntmps42
  go_wp2_with fail
  refine (compare_any _ _ _ _ _ _ (digs a) (digs b) _ HA.out HB.out).mono ?_
  rintro e w1 ⟨he, hb1⟩
  rw [HC.out] at he
  subst he
  go_wp2_with fail
  refine (clone_own _ _ _ _ (digs a) (HA.out.via hb1) hn0 (by omega)).mono ?_
  rintro e w2 ⟨g, c2, rfl, hc2, hx2, hg2, hO2, hb2⟩
  have hB2 := hb1.trans (hb2.mono hb1.size)
  have cb2 : w2.cell? ⟨bb, bo, none⟩ = some (.int .u32 (b : Int)) := (hB2.cell (p := ⟨bb, bo + 0, none⟩) hbb).trans cb1
  go_wp2_with fail
  refine (divideLimb_any w2 g n c2 b (digs a) hO2 (digs_good a) HN.out hc2 (by omega) hb0 hb9).mono ?_
  rintro e w3 ⟨rfl, hO3, hg3⟩
  have hs1 := hb1.size
  have HB3 : Hid (Below w.heap.size w w3) := hB2.grown hg3 (hB2.size) (fun k e => by injection e with e; omega)
  have HL3 : Hid (Lm w3 w3.heap.size (some ⟨g, 0, none⟩) n c2 (dvL b (digs a)).1) := by
    have e := hO3.lm HG.out (off := 0) (n := n) (c := c2) (by rw [HDl.out, HN.out]; omega) hc2 hx2
    rwa [List.drop_zero, List.take_of_length_le (by rw [HDl.out, HN.out]; exact Nat.le_refl _)] at e
  have HVq : Hid (val (dvL b (digs a)).1 = a / b) := by show _ = _; rw [HQ.out.1, HVa.out]
  have HVr : Hid (val [(dvL b (digs a)).2] = a % b) := by show _ = _; rw [val_one, HQ.out.2, HVa.out]
  clear hO3 hg3 hO2 hb2 hB2
  go_wp2_with fail
  refine (trim_any _ _ _ _ _ _ (a / b) HL3.out HVq.out).mono ?_
  rintro e w4 ⟨rfl, rfl⟩
  go_wp2_with fail
  refine (trim_any _ _ _ _ _ _ (a % b) (Lm.one w3 (dvL b (digs a)).2 _ rfl HRm.out) HVr.out).mono ?_
  rintro e w4 ⟨rfl, rfl⟩
  go_wp2
  go_ret2
  exact ⟨_, _, _, _, rfl, (HL3.out.trim' HVq.out).box _, (Lm.one w3 (dvL b (digs a)).2 _ rfl HRm.out).trim' HVr.out, HB3.out.alloc HB3.out.size _⟩

set_option maxRecDepth 100000 in
set_option maxHeartbeats 1000000 in
theorem divide_long (w : World) (A B : Option Addr) (n m ca cb a b : Nat) (hA : Lm w w.heap.size A n ca (digs a)) (hB : Lm w w.heap.size B m cb (digs b)) (hle : b ≤ a) (hm : 2 ≤ m) (hn9 : n ≤ 1000000) :
    Calls Try.prog 42 #[.slice A n ca, .slice B m cb] w (RD w (a / b) (a % b)) := by
  obtain ⟨z, hz, HC⟩ : ∃ z : Int, decide (z < 0) = false ∧ Hid (cmpL (digs a) (digs b) = z) := ⟨_, by rw [cmpL_norm (digs_good _) (digs_good _) (digs_norm _) (digs_norm _), digs_val, digs_val]; unfold cmpN; rw [if_neg (by omega)]; split <;> decide, rfl⟩
  have HA := Lib.hid hA
  have HB := Lib.hid hB
  have hm1 : ((m : Int) == 1) = false := by simp; omega
  have hcB := hB.cap
  have hxB := hB.max
  clear hA hB
  go_enter Try.func42, Try.ntmps42
  go_wp2_with fail
  refine (compare_any _ _ _ _ _ _ (digs a) (digs b) _ HA.out HB.out).mono ?_
  rintro e w1 ⟨he, hb1⟩
  rw [HC.out] at he
  subst he
  go_wp2_with fail
  refine (divideLong_any w1 A B n m ca cb a b (HA.out.via hb1) (HB.out.via hb1) hm hle hn9).mono ?_
  rintro e w2 ⟨Q, cq, R, cr, rfl, hQ, hR, hb2⟩
  go_wp2
  go_ret2
  exact ⟨Q, cq, R, cr, rfl, hQ, hR, hb1.trans (hb2.mono hb1.size)⟩

theorem divide_any (w : World) (A B : Option Addr) (n m ca cb a b : Nat) (hA : Lm w w.heap.size A n ca (digs a)) (hB : Lm w w.heap.size B m cb (digs b)) (hb : 0 < b) (hn9 : n ≤ 1000000) :
    Calls Try.prog 42 #[.slice A n ca, .slice B m cb] w (RD w (a / b) (a % b)) := by
  rcases Nat.lt_or_ge a b with h | h
  · exact divide_less w A B n m ca cb a b hA hB h hn9
  · have hm : 0 < m := by rw [← hB.len, digs_pos]; exact hb
    rcases Nat.lt_or_ge m 2 with h1 | h1
    · obtain rfl : m = 1 := by omega
      exact divide_one w A B n ca cb a b hA hB h hn9
    · exact divide_long w A B n m ca cb a b hA hB h h1 hn9
end Go.Proofs.Ytdbilpmhejigpaa
