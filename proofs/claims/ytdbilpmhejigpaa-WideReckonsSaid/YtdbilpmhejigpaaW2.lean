/-
  Contracts of functions of package wide: window, Int, Clone, Neg, Abs.
-/
import Derived.Test.YtdbilpmhejigpaaW1
import Derived.Test.YtdbilpmhejigpaaBits
import Derived.Deep.RegionHeld3
import Derived.BigQuiet
import Derived.Deep.QuietTactic
namespace Go.Proofs.Ytdbilpmhejigpaa
open Go.RowKit

set_option maxHeartbeats 400000 in
theorem window_any (w : World) (A : Option Addr) (n c : Nat) (xs : List Nat) (v : Nat) (p : Int) (h : Lm w w.heap.size A n c xs) (hv : val xs = v) (h0 : 0 ≤ p) (h9 : p ≤ 1000000000000000) :
    Calls Try.prog 47 #[.slice A n c, .int .i64 p] w fun e w' => e = .returned (.int .u64 (win v p.toNat : Nat)) ∧ ∃ d, w' = w.drewN d := by
  subst hv
  have HE := Lib.hid (win_eq xs h.good p.toNat)
  have hr := h.max
  have hcn := h.cap
  have HH := Lib.hid h
  go_enter Try.func47, Try.ntmps47
  go_wp2_with fail
  go_wp2_with (go_at_call 64; refine (limb_any _ _ _ _ _ _ HH.out (by omega) (by omega)).mono ?_; rintro e w' ⟨rfl, rfl⟩)
  have hq0 : 0 ≤ p / 32 := by omega
  have hq1 : 0 ≤ p % 32 := by omega
  have hq2 : 0 ≤ 64 - p % 32 := by omega
  have hs2 : IntKind.i64.wrap (p / 32 + 2) = p / 32 + 2 := IntWalk.i64_in _ (by omega)
  have hs3 : IntKind.i64.wrap (64 - p % 32) = 64 - p % 32 := IntWalk.i64_in _ (by omega)
  go_quiet ((go_at_call 64; exact quiet_eq (limb_any _ _ _ _ _ _ (HH.out.drewN _) (by omega) (by omega))))
  go_wp2
  go_ret
  refine ⟨ret_int ?_, nq, rfl⟩
  have he := HE.out
  have e1 : (p / 32).toNat = p.toNat / 32 := by omega
  have e2 : (p / 32 + 1).toNat = p.toNat / 32 + 1 := by omega
  have e3 : (p / 32 + 2).toNat = p.toNat / 32 + 2 := by omega
  have e4 : (p % 32).toNat = p.toNat % 32 := by omega
  have e5 : (64 - p % 32).toNat = 64 - p.toNat % 32 := by omega
  rw [← he, e2, e3, e1, e4, e5]

def intV (neg : Bool) (v : Nat) : Int := if neg = true then (if v ≤ 9223372036854775808 then -(v : Int) else 0) else (if v < 9223372036854775808 then (v : Int) else 0)
def intE (neg : Bool) (v : Nat) : Int := if neg = true then (if v ≤ 9223372036854775808 then 0 else 16) else (if v < 9223372036854775808 then 0 else 16)

set_option maxRecDepth 100000 in
set_option maxHeartbeats 400000 in
theorem int_bad (w : World) (neg : Bool) (A : Option Addr) (n c : Nat) (xs : List Nat) (h : Lm w w.heap.size A n c xs) (hc : chk neg xs = 8) :
    Calls Try.prog 16 #[.agg #[.bool neg, .slice A n c]] w fun e w' => e = .returned (.tuple #[.int .i64 0, .int .i64 8]) ∧ Below w.heap.size w w' := by
  have HH := Lib.hid h
  have HC := Lib.hid hc
  clear hc
  go_enter Try.func16, Try.ntmps16
  go_wp2_with (go_at_call 28; refine (check_bad _ _ _ _ _ _ (HH.out.box _) HC.out).mono ?_; rintro e w1 ⟨rfl, hb1⟩)
  go_ret2
  exact ⟨rfl, bbox hb1⟩

set_option maxRecDepth 100000 in
set_option maxHeartbeats 800000 in
theorem int_ok (w : World) (neg : Bool) (A : Option Addr) (n c : Nat) (xs : List Nat) (v : Nat) (h : Lm w w.heap.size A n c xs) (hc : chk neg xs = 0) (hv : val xs = v) :
    Calls Try.prog 16 #[.agg #[.bool neg, .slice A n c]] w fun e w' => e = .returned (.tuple #[.int .i64 (intV neg v), .int .i64 (intE neg v)]) ∧ Below w.heap.size w w' := by
  have HH := Lib.hid h
  have HC := Lib.hid hc
  have HV := Lib.hid hv
  have hlen := chk_len hc h.good 2
  rw [h.len, hv] at hlen
  have HW : Hid (n ≤ 2 → win v 0 = v ∧ v < 18446744073709551616) := by intro hn; have := hlen.1 hn; unfold win; omega
  have HX : Hid (2 < n → 18446744073709551616 ≤ v) := by
    intro hn
    have h3 : ¬ n ≤ 2 := by omega
    rw [hlen] at h3
    omega
  clear hc hv hlen
  have hwin := win_lt v 0
  cases neg
  all_goals
    go_enter Try.func16, Try.ntmps16
    go_wp2_with (go_at_call 28; refine (check_ok _ _ _ _ _ _ (HH.out.box _) HC.out).mono ?_; rintro e w1 ⟨rfl, hb1⟩; have ⟨hcl, hfz⟩ := bcell hb1)
    go_wp2_with (go_at_call 47; refine (window_any _ _ _ _ _ _ _ ((HH.out.box _).via hb1) HV.out (by omega) (by omega)).mono ?_; rintro e w2 ⟨rfl, d, rfl⟩)
    all_goals
      go_ret2
      refine ⟨ret2_int ?_ ?_, bbox (bdrewN hb1 _)⟩
    all_goals
      have h1 := HW.out
      have h2 := HX.out
      simp only [intV, intE, Bool.false_eq_true, if_false, if_true, wrap64, IntKind.wrap_u64]
      split <;> omega

theorem u32_info : (Try.prog.info? 63).map (fun i => (i.zero, i.size, i.bytes)) = some (some (.int .u32 0), 1, 4) := by kernel_rfl
theorem slice_u32 : Try.prog.underlying 22 = some (.slice 63) := Try.underlying22

set_option maxRecDepth 100000 in
set_option maxHeartbeats 400000 in
theorem clone_any (w : World) (A : Option Addr) (n c : Nat) (xs : List Nat) (h : Lm w w.heap.size A n c xs) (hn : n ≤ 1000000000) :
    Calls Try.prog 48 #[.slice A n c] w fun e w' => ∃ A' c', e = .returned (.slice A' n c') ∧ Lm w' w'.heap.size A' n c' xs ∧ Below w.heap.size w w' := by
  obtain ⟨i0, hi0, hz0, hz1, hz2⟩ := info_parts u32_info
  have hr := h.max
  have HH := Lib.hid h
  have hnil := fun (w : World) (a : Option Addr) (n c n' c' : Nat) => Lib.run_eql_slice_nil (P := Try.prog) w 22 63 a n c n' c' slice_u32
  rcases A with _ | ad
  · have hm : n = 0 := by
      rcases Nat.eq_zero_or_pos n with h0 | h0
      · exact h0
      · obtain ⟨b, off, e, _⟩ := h.at_ h0
        cases e
    subst hm
    obtain rfl := h.nil_ rfl
    go_enter Try.func48, Try.ntmps48
    go_wp2
    go_ret
    exact ⟨_, _, rfl, HH.out, Below.refl _ _⟩
  · go_enter Try.func48, Try.ntmps48
    go_wp2_with (at_builtin; refine wpList_append_lm _ rfl _ _ _ rfl w.heap.size _ i0 slice_u32 hi0 hz0 hz1 hz2 _ 0 [] rfl (World.ownsRow_made _ _ _ (Nat.le_refl _) (by simp [maxLen]) rfl) _ _ _ _ xs rfl (HH.out.box _) (by simp only [maxLen]; omega) (by omega) (by simp) ?_; intro v1 w1 hown1 hg1)
    go_ret
    rw [Nat.zero_add, List.nil_append] at hown1
    obtain ⟨A', c', rfl, hL⟩ := Lm.own hown1 HH.out.good
    refine ⟨A', c', rfl, hL, ((Below.refl _ _).alloc (Nat.le_refl _) _).grown hg1 (by simp) (fun k hk => ?_)⟩
    have e : w.heap.size = k := Option.some.inj hk
    omega

theorem mk_chk {neg : Bool} {xs : List Nat} (hc : chk neg xs = 0) (g : Good xs) : xs = digs (val xs) ∧ xs.length ≤ 4096 := ⟨chk_digs hc g, (chk_ok.1 hc).1⟩

set_option maxRecDepth 100000 in
set_option maxHeartbeats 400000 in
theorem neg_bad (w : World) (neg : Bool) (A : Option Addr) (n c : Nat) (xs : List Nat) (h : Lm w w.heap.size A n c xs) (hc : chk neg xs = 8) :
    Calls Try.prog 18 #[.agg #[.bool neg, .slice A n c]] w (RW w false [] 8) := by
  have HH := Lib.hid h
  have HC := Lib.hid hc
  clear hc
  go_enter Try.func18, Try.ntmps18
  go_wp2_with (go_at_call 28; refine (check_bad _ _ _ _ _ _ ((HH.out.box _).box _) HC.out).mono ?_; rintro e w1 ⟨rfl, hb1⟩; have ⟨hx0, hx1, hy0, hy1, hf0, hf1, hsz⟩ := box2 hb1)
  exact post_ws Try.results18 rfl rfl hy0 hy1 ⟨none, 0, 0, rfl, Lm.nil _ _, below_set2 (bbox (bbox hb1)) (by omega) _ _⟩

set_option maxRecDepth 100000 in
set_option maxHeartbeats 400000 in
theorem neg_ok (w : World) (neg : Bool) (A : Option Addr) (n c v : Nat) (h : Lm w w.heap.size A n c (digs v)) (hc : chk neg (digs v) = 0) :
    Calls Try.prog 18 #[.agg #[.bool neg, .slice A n c]] w (RW w (mkN (!neg) v) (mkL v) (mkE v)) := by
  have hl := (chk_ok.1 hc).1
  rw [h.len] at hl
  have HH := Lib.hid h
  have HC := Lib.hid hc
  clear hc
  go_enter Try.func18, Try.ntmps18
  go_wp2_with (go_at_call 28; refine (check_ok _ _ _ _ _ _ ((HH.out.box _).box _) HC.out).mono ?_; rintro e w1 ⟨rfl, hb1⟩; have ⟨hx0, hx1, hy0, hy1, hf0, hf1, hsz⟩ := box2 hb1)
  have HL := Lib.hid (((HH.out.box _).box _).via hb1)
  go_region_held3 (fun w' => w'.cell? ⟨w.heap.size, 0, none⟩ = some (.bool neg) ∧ w'.cell? ⟨w.heap.size, 1, none⟩ = some (.slice A n c))
    (first | exact ⟨hx0, hx1⟩ | exact hk2 | exact hk3 | go_keep)
    (first
     | (go_at_call 48; refine (clone_any _ _ _ _ (digs v) (by first | exact HL.out | exact HL.out.drew) (by omega)).mono ?_; rintro e w2 ⟨A2, c2, rfl, hL2, hb2⟩; have hg2 : w.heap.size + 1 < w2.heap.size := Nat.lt_of_lt_of_le hsz hb2.size; have hk2 := keep2 hb2 (Nat.lt_of_succ_lt hsz) ⟨hx0, hx1⟩; have hky2 := keep2 hb2 hsz ⟨hy0, hy1⟩; have hkf2 := keepF hb2 hsz ⟨hf0, hf1⟩)
     | (go_at_call 38; refine (made_any _ _ _ _ _ v hL2).mono ?_; rintro e w3 ⟨A3, n3, c3, rfl, hL3, hb3⟩; have hk3 := keep2 hb3 (Nat.lt_of_succ_lt hg2) hk2; have hky3 := keep2 hb3 hg2 hky2; have hkf3 := keepF hb3 hg2 hkf2))
  go_wp2
  exact post_ws Try.results18 rfl rfl hky3.1 hky3.2 ⟨A3, n3, c3, rfl, hL3.set2 hky3.1 hky3.2 _ _,
    below_set2 (((bbox (bbox hb1)).drew.trans (hb2.mono (show w.heap.size ≤ w1.heap.size from by omega))).trans (hb3.mono (by omega))) (by omega) _ _⟩

set_option maxRecDepth 100000 in
set_option maxHeartbeats 400000 in
theorem abs_bad (w : World) (neg : Bool) (A : Option Addr) (n c : Nat) (xs : List Nat) (h : Lm w w.heap.size A n c xs) (hc : chk neg xs = 8) :
    Calls Try.prog 20 #[.agg #[.bool neg, .slice A n c]] w (RW w false [] 8) := by
  have HH := Lib.hid h
  have HC := Lib.hid hc
  clear hc
  go_enter Try.func20, Try.ntmps20
  go_wp2_with (go_at_call 28; refine (check_bad _ _ _ _ _ _ ((HH.out.box _).box _) HC.out).mono ?_; rintro e w1 ⟨rfl, hb1⟩; have ⟨hx0, hx1, hy0, hy1, hf0, hf1, hsz⟩ := box2 hb1)
  exact post_ws Try.results20 rfl rfl hy0 hy1 ⟨none, 0, 0, rfl, Lm.nil _ _, below_set2 (bbox (bbox hb1)) (by omega) _ _⟩

set_option maxRecDepth 100000 in
set_option maxHeartbeats 400000 in
theorem abs_ok (w : World) (neg : Bool) (A : Option Addr) (n c v : Nat) (h : Lm w w.heap.size A n c (digs v)) (hc : chk neg (digs v) = 0) :
    Calls Try.prog 20 #[.agg #[.bool neg, .slice A n c]] w (RW w (mkN false v) (mkL v) (mkE v)) := by
  have hl := (chk_ok.1 hc).1
  rw [h.len] at hl
  have HH := Lib.hid h
  have HC := Lib.hid hc
  clear hc
  go_enter Try.func20, Try.ntmps20
  go_wp2_with (first
    | (go_at_call 28; refine (check_ok _ _ _ _ _ _ ((HH.out.box _).box _) HC.out).mono ?_; rintro e w1 ⟨rfl, hb1⟩; have ⟨hx0, hx1, hy0, hy1, hf0, hf1, hsz⟩ := box2 hb1; have HL := Lib.hid (((HH.out.box _).box _).via hb1))
    | (go_at_call 48; refine (clone_any _ _ _ _ (digs v) HL.out (by omega)).mono ?_; rintro e w2 ⟨A2, c2, rfl, hL2, hb2⟩; have hg2 : w.heap.size + 1 < w2.heap.size := Nat.lt_of_lt_of_le hsz hb2.size; have hky2 := keep2 hb2 hsz ⟨hy0, hy1⟩; have ⟨hkf20, hkf21⟩ := keepF hb2 hsz ⟨hf0, hf1⟩)
    | (go_at_call 38; refine (made_any _ _ _ _ _ v hL2).mono ?_; rintro e w3 ⟨A3, n3, c3, rfl, hL3, hb3⟩; have hky3 := keep2 hb3 hg2 hky2; have ⟨hkf30, hkf31⟩ := keepF hb3 hg2 ⟨hkf20, hkf21⟩))
  exact post_ws Try.results20 rfl rfl hky3.1 hky3.2 ⟨A3, n3, c3, rfl, hL3.set2 hky3.1 hky3.2 _ _,
    below_set2 (((bbox (bbox hb1)).trans (hb2.mono (by omega))).trans (hb3.mono (by omega))) (by omega) _ _⟩

/-- How Go compares ordered values. -/
def cmpZ (a b : Int) : Int := if a < b then -1 else if a = b then 0 else 1

set_option maxHeartbeats 400000 in
theorem cmpint_any (w : World) (a b : Int) :
    Calls Try.prog 65 #[.int .i64 a, .int .i64 b] w fun e w' => e = .returned (.int .i64 (cmpZ a b)) ∧ w = w' := by
  have hC : Hid (cmpZ a b = if a < b then -1 else if a = b then 0 else 1) := rfl
  rcases Int.lt_trichotomy a b with h | h | h
  · go_enter Try.func65, Try.ntmps65
    go_wp2
    go_ret
    exact ⟨ret_int (by rw [hC.out, if_pos h]), rfl⟩
  · subst h
    go_enter Try.func65, Try.ntmps65
    go_wp2
    go_ret
    exact ⟨ret_int (by rw [hC.out, if_neg (by omega), if_pos True.intro]), rfl⟩
  · go_enter Try.func65, Try.ntmps65
    go_wp2
    go_ret
    exact ⟨ret_int (by rw [hC.out, if_neg (by omega), if_neg (by omega)]), rfl⟩

set_option maxHeartbeats 400000 in
theorem cmpu32_any (w : World) (a b : Int) :
    Calls Try.prog 67 #[.int .u32 a, .int .u32 b] w fun e w' => e = .returned (.int .i64 (cmpZ a b)) ∧ w = w' := by
  have hC : Hid (cmpZ a b = if a < b then -1 else if a = b then 0 else 1) := rfl
  rcases Int.lt_trichotomy a b with h | h | h
  · go_enter Try.func67, Try.ntmps67
    go_wp2
    go_ret
    exact ⟨ret_int (by rw [hC.out, if_pos h]), rfl⟩
  · subst h
    go_enter Try.func67, Try.ntmps67
    go_wp2
    go_ret
    exact ⟨ret_int (by rw [hC.out, if_neg (by omega), if_pos True.intro]), rfl⟩
  · go_enter Try.func67, Try.ntmps67
    go_wp2
    go_ret
    exact ⟨ret_int (by rw [hC.out, if_neg (by omega), if_neg (by omega)]), rfl⟩

end Go.Proofs.Ytdbilpmhejigpaa
