/-
  Contracts of wide.checkBoth, Cmp, Sign.
-/
import Derived.Test.YtdbilpmhejigpaaCmp
namespace Go.Proofs.Ytdbilpmhejigpaa
open Go.RowKit

def chkB (na : Bool) (xs : List Nat) (nb : Bool) (ys : List Nat) : Int := if chk na xs = 0 then chk nb ys else chk na xs
theorem chkB_ok {na nb : Bool} {xs ys : List Nat} : chkB na xs nb ys = 0 ↔ chk na xs = 0 ∧ chk nb ys = 0 := by
  unfold chkB
  split
  · next h => exact ⟨fun h2 => ⟨h, h2⟩, fun h2 => h2.2⟩
  · next h => exact ⟨fun h2 => absurd h2 h, fun h2 => absurd h2.1 h⟩
theorem chkB_cases (na : Bool) (xs : List Nat) (nb : Bool) (ys : List Nat) : chkB na xs nb ys = 0 ∨ chkB na xs nb ys = 8 := by
  unfold chkB
  split
  · exact chk_cases _ _
  · exact chk_cases _ _

set_option maxRecDepth 100000 in
set_option maxHeartbeats 400000 in
theorem both_any (w : World) (na nb : Bool) (A B : Option Addr) (n m ca cb : Nat) (xs ys : List Nat) (v : Int) (hA : Lm w w.heap.size A n ca xs) (hB : Lm w w.heap.size B m cb ys) (hv : chkB na xs nb ys = v) :
    Calls Try.prog 37 #[.agg #[.bool na, .slice A n ca], .agg #[.bool nb, .slice B m cb]] w fun e w' => e = .returned (.int .i64 v) ∧ Below w.heap.size w w' := by
  have HA := Lib.hid hA
  have HB := Lib.hid hB
  have HV := Lib.hid hv
  clear hv
  rcases chk_cases na xs with hc | hc
  · have HC := Lib.hid hc
    have HE : Hid (chkB na xs nb ys = chk nb ys) := by show _ = _; unfold chkB; rw [if_pos hc]
    clear hc
    go_enter Try.func37, Try.ntmps37
    go_wp2_with fail
    refine (check_ok _ _ _ _ _ _ ((HA.out.box _).box _) HC.out).mono ?_
    rintro e w1 ⟨rfl, hb1⟩
    have ⟨hx0, hx1, hy0, hy1, hf0, hf1, hsz⟩ := box2 hb1
    go_wp2_with fail
    refine (check_any _ _ _ _ _ _ (((HB.out.box _).box _).via hb1)).mono ?_
    rintro e w2 ⟨rfl, hb2⟩
    go_wp2
    go_ret
    exact ⟨ret_int (by rw [← HV.out, HE.out]), (bbox (bbox hb1)).trans (hb2.mono (by omega))⟩
  · have HC := Lib.hid hc
    have HE : Hid (chkB na xs nb ys = 8) := by show _ = _; unfold chkB; rw [if_neg (by omega), hc]
    clear hc
    go_enter Try.func37, Try.ntmps37
    go_wp2_with fail
    refine (check_bad _ _ _ _ _ _ ((HA.out.box _).box _) HC.out).mono ?_
    rintro e w1 ⟨rfl, hb1⟩
    have ⟨hx0, hx1, hy0, hy1, hf0, hf1, hsz⟩ := box2 hb1
    go_wp2
    go_ret
    exact ⟨ret_int (by rw [← HV.out, HE.out]), bbox (bbox hb1)⟩

def toI (neg : Bool) (v : Nat) : Int := if neg = true then -(v : Int) else (v : Int)
theorem cmp_toI {na nb : Bool} {a b : Nat} (ha : na = true → a ≠ 0) (hb : nb = true → b ≠ 0) :
    cmpZ (toI na a) (toI nb b) = if na = nb then sideZ na * cmpN a b else sideZ na := by
  cases na <;> cases nb
  · rw [if_pos rfl]
    show cmpZ (a : Int) (b : Int) = 1 * cmpN a b
    rw [cmpZ_nat, Int.one_mul]
  · have h := hb rfl
    rw [if_neg (by decide)]
    show cmpZ (a : Int) (-(b : Int)) = 1
    unfold cmpZ
    rw [if_neg (by omega), if_neg (by omega)]
  · have h := ha rfl
    rw [if_neg (by decide)]
    show cmpZ (-(a : Int)) (b : Int) = -1
    unfold cmpZ
    rw [if_pos (by omega)]
  · rw [if_pos rfl]
    show cmpZ (-(a : Int)) (-(b : Int)) = -1 * cmpN a b
    unfold cmpZ cmpN
    rcases Nat.lt_trichotomy a b with h | h | h
    · rw [if_neg (by omega), if_neg (by omega), if_pos h]; rfl
    · subst h; simp
    · rw [if_pos (by omega), if_neg (by omega), if_neg (by omega)]; rfl
theorem cmpN_cases (a b : Nat) : cmpN a b = -1 ∨ cmpN a b = 0 ∨ cmpN a b = 1 := by
  rcases Nat.lt_trichotomy a b with h | h | h
  · exact .inl (cmpN_lt h)
  · exact .inr (.inl (cmpN_eq.2 h))
  · exact .inr (.inr (cmpN_gt h))
theorem sideZ_cmp (neg : Bool) (a b : Nat) : -1 ≤ sideZ neg * cmpN a b ∧ sideZ neg * cmpN a b ≤ 1 := by
  unfold sideZ
  cases neg <;> rcases cmpN_cases a b with h | h | h <;> rw [h] <;> decide

set_option maxRecDepth 100000 in
set_option maxHeartbeats 400000 in
theorem cmp_bad (w : World) (na nb : Bool) (A B : Option Addr) (n m ca cb : Nat) (xs ys : List Nat) (hA : Lm w w.heap.size A n ca xs) (hB : Lm w w.heap.size B m cb ys) (hv : chkB na xs nb ys = 8) :
    Calls Try.prog 22 #[.agg #[.bool na, .slice A n ca], .agg #[.bool nb, .slice B m cb]] w fun e w' => e = .returned (.tuple #[.int .i64 0, .int .i64 8]) ∧ Below w.heap.size w w' := by
  have HA := Lib.hid hA
  have HB := Lib.hid hB
  have HV := Lib.hid hv
  clear hv
  go_enter Try.func22, Try.ntmps22
  go_wp2_with (go_at_call 37; refine (both_any _ _ _ _ _ _ _ _ _ _ _ 8 ((HA.out.box _).box _) ((HB.out.box _).box _) HV.out).mono ?_; rintro e w1 ⟨rfl, hb1⟩; have ⟨hx0, hx1, hy0, hy1, hf0, hf1, hsz⟩ := box2 hb1)
  go_ret2
  exact ⟨rfl, bbox (bbox hb1)⟩

set_option maxRecDepth 100000 in
set_option maxHeartbeats 400000 in
theorem cmp_ok (w : World) (na nb : Bool) (A B : Option Addr) (n m ca cb a b : Nat) (hA : Lm w w.heap.size A n ca (digs a)) (hB : Lm w w.heap.size B m cb (digs b)) (hv : chkB na (digs a) nb (digs b) = 0) :
    Calls Try.prog 22 #[.agg #[.bool na, .slice A n ca], .agg #[.bool nb, .slice B m cb]] w fun e w' => e = .returned (.tuple #[.int .i64 (cmpZ (toI na a) (toI nb b)), .int .i64 0]) ∧ Below w.heap.size w w' := by
  have HA := Lib.hid hA
  have HB := Lib.hid hB
  have HV := Lib.hid hv
  have hva := (chk_ok.1 (chkB_ok.1 hv).1).2.2
  have hvb := (chk_ok.1 (chkB_ok.1 hv).2).2.2
  rw [Ne, digs_nil] at hva hvb
  have HC := Lib.hid (cmp_toI hva hvb)
  have HN : Hid (cmpL (digs a) (digs b) = cmpN a b) := by show _ = _; rw [cmpL_norm (digs_good _) (digs_good _) (digs_norm _) (digs_norm _), digs_val, digs_val]
  clear hv hva hvb
  by_cases hne : na = nb
  · subst hne
    go_enter Try.func22, Try.ntmps22
    go_wp2_with (go_at_call 37; refine (both_any _ _ _ _ _ _ _ _ _ _ _ 0 ((HA.out.box _).box _) ((HB.out.box _).box _) HV.out).mono ?_; rintro e w1 ⟨rfl, hb1⟩; have ⟨hx0, hx1, hy0, hy1, hf0, hf1, hsz⟩ := box2 hb1)
    have HA1 := Lib.hid (((HA.out.box _).box _).via hb1)
    have HB1 := Lib.hid (((HB.out.box _).box _).via hb1)
    go_region_held3 (fun w' => (w'.cell? ⟨w.heap.size, 0, none⟩ = some (.bool na) ∧ w'.cell? ⟨w.heap.size, 1, none⟩ = some (.slice A n ca)) ∧ w'.cell? ⟨w.heap.size + 1, 1, none⟩ = some (.slice B m cb))
      (first | exact ⟨⟨hx0, hx1⟩, hy1⟩ | exact ⟨hk2, hky2.2⟩ | go_keep)
      (first
       | (go_at_call 49; refine (side_any _ _).mono ?_; rintro e w2 ⟨rfl, rfl⟩)
       | (go_at_call 50; refine (compare_any _ _ _ _ _ _ (digs a) (digs b) _ (by first | exact HA1.out | exact HA1.out.drew) (by first | exact HB1.out | exact HB1.out.drew)).mono ?_; rintro e w2 ⟨rfl, hb2⟩; have hk2 := keep2 hb2 (Nat.lt_of_succ_lt hsz) ⟨hx0, hx1⟩; have hky2 := keep2 hb2 hsz ⟨hy0, hy1⟩))
    go_wp2
    go_ret2
    refine ⟨ret2_int ?_ rfl, (bbox (bbox hb1)).drew.trans (hb2.mono (show w.heap.size ≤ w1.heap.size from by omega))⟩
    have h1 := HC.out
    rw [if_pos True.intro] at h1
    rw [h1, HN.out]
    exact IntWalk.i64_in _ (by have := sideZ_cmp na a b; omega)
  · have HE : Hid (cmpZ (toI na a) (toI nb b) = sideZ na) := by have h := HC.out; rwa [if_neg hne] at h
    clear HC HN
    cases na <;> cases nb
    · exact absurd rfl hne
    all_goals first
      | exact absurd rfl hne
      | (clear hne
         go_enter Try.func22, Try.ntmps22
         go_wp2_with (first
           | (go_at_call 37; refine (both_any _ _ _ _ _ _ _ _ _ _ _ 0 ((HA.out.box _).box _) ((HB.out.box _).box _) HV.out).mono ?_; rintro e w1 ⟨rfl, hb1⟩; have ⟨hx0, hx1, hy0, hy1, hf0, hf1, hsz⟩ := box2 hb1)
           | (go_at_call 49; refine (side_any _ _).mono ?_; rintro e w2 ⟨rfl, rfl⟩))
         go_ret2
         exact ⟨ret2_int HE.out.symm rfl, bbox (bbox hb1)⟩)

set_option maxRecDepth 100000 in
set_option maxHeartbeats 400000 in
theorem sign_bad (w : World) (neg : Bool) (A : Option Addr) (n c : Nat) (xs : List Nat) (h : Lm w w.heap.size A n c xs) (hc : chk neg xs = 8) :
    Calls Try.prog 24 #[.agg #[.bool neg, .slice A n c]] w fun e w' => e = .returned (.tuple #[.int .i64 0, .int .i64 8]) ∧ Below w.heap.size w w' := by
  have HH := Lib.hid h
  have HC := Lib.hid hc
  clear hc
  go_enter Try.func24, Try.ntmps24
  go_wp2_with (go_at_call 28; refine (check_bad _ _ _ _ _ _ (HH.out.box _) HC.out).mono ?_; rintro e w1 ⟨rfl, hb1⟩; have ⟨hcl, hfz⟩ := bcell hb1)
  go_ret2
  exact ⟨rfl, bbox hb1⟩

def signZ (neg : Bool) (v : Nat) : Int := if v = 0 then 0 else sideZ neg
set_option maxRecDepth 100000 in
set_option maxHeartbeats 400000 in
theorem sign_ok (w : World) (neg : Bool) (A : Option Addr) (n c v : Nat) (h : Lm w w.heap.size A n c (digs v)) (hc : chk neg (digs v) = 0) :
    Calls Try.prog 24 #[.agg #[.bool neg, .slice A n c]] w fun e w' => e = .returned (.tuple #[.int .i64 (signZ neg v), .int .i64 0]) ∧ Below w.heap.size w w' := by
  have HH := Lib.hid h
  have HC := Lib.hid hc
  clear hc
  have hl := h.len
  rcases n with _ | n
  · have hv : v = 0 := digs_nil.1 (List.eq_nil_of_length_eq_zero hl)
    have HS : Hid (signZ neg v = 0) := by show _ = _; unfold signZ; rw [if_pos hv]
    clear hl hv
    go_enter Try.func24, Try.ntmps24
    go_wp2_with (go_at_call 28; refine (check_ok _ _ _ _ _ _ (HH.out.box _) HC.out).mono ?_; rintro e w1 ⟨rfl, hb1⟩; have ⟨hcl, hfz⟩ := bcell hb1)
    go_ret2
    exact ⟨ret2_int HS.out.symm rfl, bbox hb1⟩
  · have hv : v ≠ 0 := by rintro rfl; simp [digs_zero] at hl
    have HS : Hid (signZ neg v = sideZ neg) := by show _ = _; unfold signZ; rw [if_neg hv]
    have hn0 : (((n + 1 : Nat) : Int) == 0) = false := by simp; omega
    clear hl hv
    go_enter Try.func24, Try.ntmps24
    go_wp2_with (first
      | (go_at_call 28; refine (check_ok _ _ _ _ _ _ (HH.out.box _) HC.out).mono ?_; rintro e w1 ⟨rfl, hb1⟩; have ⟨hcl, hfz⟩ := bcell hb1)
      | (go_at_call 49; refine (side_any _ _).mono ?_; rintro e w2 ⟨rfl, rfl⟩))
    go_ret2
    exact ⟨ret2_int HS.out.symm rfl, bbox hb1⟩

end Go.Proofs.Ytdbilpmhejigpaa
