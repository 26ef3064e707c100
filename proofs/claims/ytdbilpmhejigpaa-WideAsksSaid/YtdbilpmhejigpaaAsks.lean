/-
  For any two numbers a and b and any whole number n the law WideAsks returns true: Check, From, Int, Neg, Abs, Cmp, Sign and Bits of package wide return what the reference returns. Condition: none beyond the statement's own (numbers of 301 to 4096 limbs and of more than 4106 limbs make the law return true at once).
-/
import Derived.Test.YtdbilpmhejigpaaRows
import Derived.Test.YtdbilpmhejigpaaOpen
import Derived.Test.YtdbilpmhejigpaaAskW
namespace Go.Proofs.Ytdbilpmhejigpaa
open Go.ChangeShapes Go.WideShapes Go.ChangeAt Go.RowKit

set_option maxRecDepth 100000 in
set_option maxHeartbeats 400000 in
theorem asks_great (w : World) (na nb : Bool) (A B : Option Addr) (n m ca cb : Nat) (xs ys : List Nat) (k : Int) (hA : Lm w w.heap.size A n ca xs) (hB : Lm w w.heap.size B m cb ys)
    (hg : greatB n = true ∨ greatB m = true) :
    Calls Try.prog 4 #[.agg #[.bool na, .slice A n ca], .agg #[.bool nb, .slice B m cb], .int .i64 k] w fun e w' => e = .returned (.bool true) ∧ Below w.heap.size w w' := by
  have HA := Lib.hid hA
  have HB := Lib.hid hB
  have h1 := hA.cap
  have h2 := hA.max
  have h3 := hB.cap
  have h4 := hB.max
  clear hA hB
  by_cases ha : greatB n = true
  · have HGA := Lib.hid ha
    clear ha hg
    go_enter Try.func4, Try.ntmps4
    go_wp2_with fail
    refine (great_any _ _ _ _ _ h1 h2).mono ?_
    rintro e w1 ⟨rfl, hb1⟩
    rw [HGA.out]
    go_wp2
    go_ret
    exact ⟨rfl, bbox (bbox hb1)⟩
  · have HGA : Hid (greatB n = false) := by show _ = _; simpa using ha
    have HGB : Hid (greatB m = true) := by rcases hg with h | h; exact absurd h ha; exact h
    clear ha hg
    go_enter Try.func4, Try.ntmps4
    go_wp2_with fail
    refine (great_any _ _ _ _ _ h1 h2).mono ?_
    rintro e w1 ⟨rfl, hb1⟩
    have ⟨ax0, ax1, ay0, ay1, _, _, hlt⟩ := box2 hb1
    rw [HGA.out]
    go_wp2_with fail
    refine (great_any _ _ _ _ _ h3 h4).mono ?_
    rintro e w2 ⟨rfl, hb2⟩
    rw [HGB.out]
    go_wp2
    go_ret
    exact ⟨rfl, (bbox (bbox hb1)).trans (hb2.mono (by omega))⟩

theorem asks_any (w : World) (na nb : Bool) (A B : Option Addr) (n m ca cb : Nat) (xs ys : List Nat) (k : Int) (hA : Lm w w.heap.size A n ca xs) (hB : Lm w w.heap.size B m cb ys)
    (hk1 : -9223372036854775808 ≤ k) (hk2 : k ≤ 9223372036854775807) :
    Calls Try.prog 4 #[.agg #[.bool na, .slice A n ca], .agg #[.bool nb, .slice B m cb], .int .i64 k] w fun e w' => e = .returned (.bool true) ∧ Below w.heap.size w w' := by
  by_cases ha : greatB n = true
  · exact asks_great w na nb A B n m ca cb xs ys k hA hB (.inl ha)
  · by_cases hb : greatB m = true
    · exact asks_great w na nb A B n m ca cb xs ys k hA hB (.inr hb)
    · exact asks_small w na nb A B n m ca cb xs ys k hA hB hk1 hk2 (by simpa using ha) (by simpa using hb)

theorem own : ownKnob Try.prog.godebug = none := by kernel_rfl

set_option maxRecDepth 100000 in
theorem asks_lifted (os : Os) (started : os.Started) (H : Type) (enc : TypeId × Value → H) :
    ReturnsInHanded {} Try.checked os 4 .any (Rows.wideAsksSpec.pre6 enc Try.prog Try.f4 Rows.wideAsksRow.domain false) (Rows.wideAsksSpec.post enc Try.prog Try.f4 false true false false) := by
  refine returnsInHanded_of_change (C := Try.checked) own started (by kernel_rfl) Try.func4
    (ChangeSpec.witness6 (enc := enc) (C := Try.checked) false ⟨#[], #[.agg #[.bool false, .slice none 0 0], .agg #[.bool false, .slice none 0 0], .int .i64 0], []⟩ 8 (by kernel_rfl) (by kernel_rfl) (by kernel_rfl) (by kernel_rfl)) ?_
  intro W base args ds gs before hval0 hW hcnd _
  have hval : ∀ (j : Nat) t v, Try.f4.params[j]? = some t → args[j]? = some v → Value.okWide Try.prog W .any base t v := hval0
  have hW' := hW
  obtain ⟨p, q, hA0, hV, rfl, hfz, hnd⟩ := hW
  have hA : DataW.TrodAll enc Try.prog W 0 (fun _ => true) true Try.f4.params.toList args.toList ds p := hA0
  rw [Try.params4] at hA hval
  obtain ⟨v0, v1, v2, d0, d1, d2, p0, p1, p2, rfl, rfl, rfl, h0, h1, h2⟩ := trodAll_three hA
  obtain ⟨rfl, rfl⟩ := trodVars_none hV
  obtain ⟨k, rfl, rfl, rfl, wk⟩ := open_int Try.underlying2 (hval 2 2 v2 rfl rfl) h2
  clear hA0 hval0
  simp only [List.append_nil] at hW'
  have hlt : ∀ x ∈ p0 ++ p1, x.block < W.heap.size := fun x hx => by simpa using hW'.lt x hx
  have hlt0 : ∀ x ∈ p0, x.block < W.heap.size := fun x hx => hlt x (List.mem_append_left _ hx)
  have hlt1 : ∀ x ∈ p1, x.block < W.heap.size := fun x hx => hlt x (List.mem_append_right _ hx)
  obtain ⟨na, A, n, ca, xs, rfl, hLA⟩ := open_wide (hval 0 24 v0 rfl rfl) h0 hlt0
  obtain ⟨nb, B, m, cb, ys, rfl, hLB⟩ := open_wide (hval 1 24 v1 rfl rfl) h1 hlt1
  have hk : -9223372036854775808 ≤ k ∧ k ≤ 9223372036854775807 := by
    have e1 : IntKind.i64.min = -9223372036854775808 := rfl
    have e2 : IntKind.i64.max = 9223372036854775807 := rfl
    simp only [Lit.wf, Bool.and_eq_true, decide_eq_true_eq] at wk
    omega
  refine (asks_any W na nb A B n m ca cb xs ys k hLA hLB hk.1 hk.2).mono fun e W' ⟨he, hb⟩ => ?_
  subst he
  exact ⟨_, rfl, _, _, _, [], p0 ++ (p1 ++ []), [], hW', trodAll_mk1 (shut_bool Try.underlying4 _),
    trodAll_mk3 (Below.trod laidOut (by kernel_rfl) (of_decide_eq_true (by kernel_rfl)) h0 hb hlt0) (Below.trod laidOut (by kernel_rfl) (of_decide_eq_true (by kernel_rfl)) h1 hb hlt1) (shut_int Try.underlying2 wk), rfl, hb.frame _, fun h => by cases h⟩

theorem asks_holds : Rows.WideAsksSaid :=
  OpenClaim.holds_of_wide 4 Try.f4 rfl rfl rfl rfl rfl rfl rfl ⟨rfl, rfl, rfl, rfl, rfl⟩ rfl rfl rfl rfl rfl (by kernel_rfl) Try.func4 (by kernel_rfl)
    (of_decide_eq_true (by kernel_rfl)) (by unfold Func.isWrapper; first | (rw [if_pos (by decide +kernel)]; kernel_rfl) | (rw [if_neg (by decide +kernel)]; exact ⟨rfl, rfl⟩))
    (fun os started H enc _ => asks_lifted os started H enc)

end Go.Proofs.Ytdbilpmhejigpaa
