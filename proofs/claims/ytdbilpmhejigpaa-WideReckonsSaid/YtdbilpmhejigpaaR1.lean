/-
  Contracts of the reference's small functions: Check, trim, made, From, Great.
-/
import Derived.Test.YtdbilpmhejigpaaW2
namespace Go.Proofs.Ytdbilpmhejigpaa
open Go.RowKit

set_option maxRecDepth 100000 in
set_option maxHeartbeats 400000 in
theorem rcheck_any (w : World) (neg : Bool) (A : Option Addr) (n c : Nat) (xs : List Nat) (h : Lm w w.heap.size A n c xs) :
    Calls Try.prog 29 #[.agg #[.bool neg, .slice A n c]] w fun e w' => e = .returned (.int .i64 (chk neg xs)) ∧ Below w.heap.size w w' := by
  have hr := h.max
  have hcn := h.cap
  have hl := h.len
  by_cases h1 : 4096 < n
  · have HC : Hid (chk neg xs = 8) := by unfold chk; rw [if_pos (by omega)]; exact (rfl : (8 : Int) = 8)
    go_enter Try.func29, Try.ntmps29
    go_wp2
    go_ret
    exact ⟨ret_int HC.out.symm, by go_grown⟩
  · rcases n with _ | n
    · have hx : xs = [] := List.eq_nil_of_length_eq_zero hl
      have HC : Hid (chk neg xs = if neg = true then 8 else 0) := by show _ = _; unfold chk; simp [hx]
      clear hx
      cases neg
      · go_enter Try.func29, Try.ntmps29
        go_wp2
        go_ret
        exact ⟨ret_int HC.out.symm, by go_grown⟩
      · go_enter Try.func29, Try.ntmps29
        go_wp2
        go_ret
        exact ⟨ret_int HC.out.symm, by go_grown⟩
    · obtain ⟨b, off, rfl, hb, hck⟩ := h.cell (k := n) (by omega)
      have hlast := last_get (xs := xs) (by omega)
      rw [hl] at hlast
      have hne : xs ≠ [] := by rintro rfl; simp at hl
      have HC : Hid (chk neg xs = if xs[n]?.getD 0 = 0 then 8 else 0) := by
        unfold chk
        rw [if_neg (by omega), if_neg (fun e => hne e.1)]
        simp only [hlast]
        exact (rfl : _ = _)
      clear hlast hne hl
      by_cases hz : xs[n]?.getD 0 = 0
      · have HZ := Lib.hid hz
        have hz' : (((xs[n]?.getD 0 : Nat) : Int) == 0) = true := by simp [hz]
        clear hz
        go_enter Try.func29, Try.ntmps29
        go_wp2
        go_ret
        exact ⟨ret_int (by rw [HC.out, if_pos HZ.out]), by go_grown⟩
      · have HZ := Lib.hid hz
        have hz' : (((xs[n]?.getD 0 : Nat) : Int) == 0) = false := by simp [hz]
        clear hz
        go_enter Try.func29, Try.ntmps29
        go_wp2
        go_ret
        exact ⟨ret_int (by rw [HC.out, if_neg HZ.out]), by go_grown⟩

theorem rcheck_ok (w : World) (neg : Bool) (A : Option Addr) (n c : Nat) (xs : List Nat) (h : Lm w w.heap.size A n c xs) (hc : chk neg xs = 0) :
    Calls Try.prog 29 #[.agg #[.bool neg, .slice A n c]] w fun e w' => e = .returned (.int .i64 0) ∧ Below w.heap.size w w' :=
  (rcheck_any w neg A n c xs h).mono fun _ _ ⟨he, hb⟩ => ⟨by rw [he, hc], hb⟩
theorem rcheck_bad (w : World) (neg : Bool) (A : Option Addr) (n c : Nat) (xs : List Nat) (h : Lm w w.heap.size A n c xs) (hc : chk neg xs = 8) :
    Calls Try.prog 29 #[.agg #[.bool neg, .slice A n c]] w fun e w' => e = .returned (.int .i64 8) ∧ Below w.heap.size w w' :=
  (rcheck_any w neg A n c xs h).mono fun _ _ ⟨he, hb⟩ => ⟨by rw [he, hc], hb⟩


set_option maxRecDepth 100000 in
set_option maxHeartbeats 400000 in
theorem rtrim_any (w : World) (A : Option Addr) (n c : Nat) (xs : List Nat) (v : Nat) (h : Lm w w.heap.size A n c xs) (hv : val xs = v) (hn : n ≤ 1000000000) :
    Calls Try.prog 57 #[.slice A n c] w fun e w' => ∃ A' c', e = .returned (.slice A' (digs v).length c') ∧ Lm w' w'.heap.size A' (digs v).length c' (digs v) ∧ Below w.heap.size w w' := by
  subst hv
  obtain ⟨i0, hi0, hz0, hz1, hz2⟩ := info_parts u32_info
  have hr := h.max
  have hcn := h.cap
  have HH := Lib.hid h
  have HD := Lib.hid (tr_len h.good h.len)
  have HT' := Lib.hid (tr_digs h.good h.len)
  go_enter Try.func57, Try.ntmps57
  go_wp2
  go_loop [3] (fun v => ∃ k : Nat, k ≤ n ∧ v = .int .i64 k ∧ tr xs k = tr xs n) (fun v => (intOf v).toNat)
  case atStart => exact ⟨n, Nat.le_refl _, rfl, rfl⟩
  case round =>
    obtain ⟨k, hk, rfl, ht⟩ := hrel
    have HT := Lib.hid ht
    clear ht
    have HS := Lib.hid ((HH.out.box (.cells #[] 63)).take hk)
    rcases k with _ | k
    · go_wp2_with (at_builtin; refine wpList_append_lm _ rfl _ _ _ rfl w.heap.size _ i0 slice_u32 hi0 hz0 hz1 hz2 _ 0 [] rfl (World.ownsRow_made _ _ _ (Nat.le_refl _) (by simp [maxLen]) rfl) _ _ _ _ (xs.take 0) rfl HS.out (by simp only [maxLen]; omega) (by omega) (by simp) ?_; intro v1 w1 hown1 hg1)
      go_ret
      rw [Nat.zero_add, List.nil_append] at hown1
      obtain ⟨A', c', rfl, hL⟩ := Lm.own hown1 (h.good.take _)
      have e1 : (digs (val xs)).length = 0 := by rw [← HD.out, ← HT.out]; rfl
      have e2 : digs (val xs) = [] := List.eq_nil_of_length_eq_zero e1
      rw [e2]
      refine ⟨A', c', rfl, hL, ((Below.refl _ _).alloc (Nat.le_refl _) _).grown hg1 (by simp) (fun k hk => ?_)⟩
      have e : w.heap.size = k := Option.some.inj hk
      omega
    · obtain ⟨b, off, rfl, hb, hck⟩ := h.cell (k := k) (by omega)
      by_cases hz : xs[k]?.getD 0 = 0
      · have HZ := Lib.hid hz
        have hz' : (((xs[k]?.getD 0 : Nat) : Int) == 0) = true := by simp [hz]
        clear hz
        go_wp2
        go_round
        case rel => exact ⟨k, by omega, rfl, by rw [← HT.out, tr, if_pos HZ.out]⟩
        case measure => simp [intOf]
      · have HZ := Lib.hid hz
        have hz' : (((xs[k]?.getD 0 : Nat) : Int) == 0) = false := by simp [hz]
        clear hz
        go_wp2_with (at_builtin; refine wpList_append_lm _ rfl _ _ _ rfl w.heap.size _ i0 slice_u32 hi0 hz0 hz1 hz2 _ 0 [] rfl (World.ownsRow_made _ _ _ (Nat.le_refl _) (by simp [maxLen]) rfl) _ _ _ _ (xs.take (k + 1)) rfl HS.out (by simp only [maxLen]; omega) (by omega) (by simp) ?_; intro v1 w1 hown1 hg1)
        go_ret
        rw [Nat.zero_add, List.nil_append] at hown1
        obtain ⟨A', c', rfl, hL⟩ := Lm.own hown1 (h.good.take _)
        have e1 : tr xs n = k + 1 := by rw [← HT.out, tr, if_neg HZ.out]
        have e2 : xs.take (k + 1) = digs (val xs) := by rw [← e1]; exact HT'.out
        have e3 : (digs (val xs)).length = k + 1 := by rw [← HD.out, e1]
        rw [e3, ← e2]
        refine ⟨A', c', rfl, hL, ((Below.refl _ _).alloc (Nat.le_refl _) _).grown hg1 (by simp) (fun k hk => ?_)⟩
        have e : w.heap.size = k := Option.some.inj hk
        omega

end Go.Proofs.Ytdbilpmhejigpaa
