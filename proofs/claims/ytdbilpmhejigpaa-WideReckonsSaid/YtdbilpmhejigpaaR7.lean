/- The reference Twin: a copy of a number. -/
import Derived.Test.YtdbilpmhejigpaaR6
import Derived.Test.YtdbilpmhejigpaaLeft
import Derived.Test.YtdbilpmhejigpaaPr
import Derived.Deep.RegionLaw
import Derived.Laws.OwnMore
namespace Go.Proofs.Ytdbilpmhejigpaa
open Go.RowKit

/-- 'append(out, xs...)' where out is the call's own, and xs reads as limbs, inside a region that draws. -/
theorem step_append_lm {P : Program} {ops : Array Oper} {o : Oper} {a : Act} {w : World} {K : Act → World → Prop} {Q : Exit → Act → World → Prop} {E : Prop}
    (hg : o.guard = none) (s x : Operand) (t : TypeId) (hop : o.op = Op.call { callee := Callee.builtin Builtin.append, args := #[s, x], argTypes := #[t, t] })
    (base : Nat) (e : TypeId) (i : TypeInfo) (ht : P.underlying t = some (.slice e)) (hi : P.info? e = some i) (hz : i.zero = some (.int .u32 0)) (hsize : i.size = 1) (hby : i.bytes = 4)
    (v : Value) (n : Nat) (ts : List Value) (hs : a.eval s = v) (hown : w.ownsRow base e 1 v n ts)
    (B : Nat) (A : Option Addr) (m c : Nat) (xs : List Nat) (hx : a.eval x = .slice A m c) (hr : Lm w B A m c xs)
    (h63 : n + m ≤ maxLen) (hbytes : (n + m) * 4 ≤ 140737488355328) (hbase : base ≤ w.heap.size)
    (hK : ∀ v' w', w'.ownsRow base e 1 v' (n + m) (ts ++ xs.map u32c) → w.grownBy w' v.ownBlock → K (a.put o.dst v') w') :
    if Region.wanted o (yielded ops a.tmps) = true then Oper.wp P o a w K Q else E := by
  have hw : Region.wanted o (yielded ops a.tmps) = true := by simp [Region.wanted, hg]
  rw [if_pos hw]
  rcases A with _ | ad
  · have hm : m = 0 := by
      rcases Nat.eq_zero_or_pos m with h0 | h0
      · exact h0
      · obtain ⟨b, off, e, _⟩ := hr.at_ h0
        cases e
    subst hm
    obtain rfl := hr.nil_ rfl
    obtain rfl : xs = [] := List.eq_nil_of_length_eq_zero hr.len
    have hrun := run_append_owned_none (P := P) (w := w) base t o.type e i 1 ht hi v n ts hown
    unfold Oper.wp
    simp [execOp, hop, resolve, invoke, builtin, hs, hx, hrun, Result.andThen]
    exact hK v w (by simpa using hown) (World.grownBy.refl w _)
  · obtain ⟨v', w', hrun, r1, r2, _⟩ := run_append_own (P := P) w base t o.type e i (.int .u32 0) 1 4 ht hi hz hsize hby rfl (by decide) v n ts hown ad m c (xs.map u32c) (by simp [hr.len]) hr.cells (u32c_one xs) h63 hbytes hbase
    unfold Oper.wp
    simp [execOp, hop, resolve, invoke, builtin, hs, hx, hrun, Result.andThen]
    exact hK v' w' r1 r2

theorem own_empty (w : World) (k : Nat) (hk : w.heap.size = k) : ((w.alloc (.cells #[] 63)).drew).ownsRow k 63 1 (.slice (some ⟨k, 0, none⟩) 0 0) 0 [] := by
  subst hk
  have h : (w.alloc (.cells #[] 63)).ownsRow w.heap.size 63 1 (.slice (some ⟨w.heap.size, 0, none⟩) 0 0) 0 [] := World.ownsRow_made w #[] _ (Nat.le_refl _) (by simp [maxLen]) rfl
  exact h

set_option maxRecDepth 100000 in
set_option maxHeartbeats 1000000 in
theorem twin_any (w : World) (neg : Bool) (A : Option Addr) (n c : Nat) (xs : List Nat) (h : Lm w w.heap.size A n c xs) (hn : n ≤ 1000000000) :
    Calls Try.prog 6 #[.agg #[.bool neg, .slice A n c]] w fun e w' => ∃ A' c', e = .returned (.agg #[.bool neg, .slice A' n c']) ∧ Lm w' w'.heap.size A' n c' xs ∧ Below w.heap.size w w' := by
  obtain ⟨i0, hi0, hz0, hz1, hz2⟩ := info_parts u32_info
  have hr := h.max
  have hcn := h.cap
  have HH := Lib.hid h
  go_enter Try.func6, Try.ntmps6
  go_wp2
  go_region_law (refine step_append_lm rfl (.tmp 5) (.tmp 7) _ rfl (w.heap.size + 1 + 1) _ i0 slice_u32 hi0 hz0 hz1 hz2 _ 0 [] (by simp [Act.eval, Act.put]) (own_empty _ _ (by simp)) _ A n c xs (by simp [Act.eval, Act.put]) ((((HH.out.box _).box _).box _).drew) (by simp only [maxLen]; omega) (by omega) (by simp) ?_; intro v1 w1 hown1 hg1; rw [Nat.zero_add, List.nil_append] at hown1; obtain ⟨A1, c1, rfl, hL1⟩ := Lm.own hown1 HH.out.good; have hB1 := (Below.refl (w.heap.size + 1 + 1) (((w.alloc (.cells #[.bool neg, .slice A n c] 24)).alloc (.cells #[.bool false, .slice none 0 0] 24)).alloc (.cells #[] 63)).drew).grown hg1 (by simp) (fun k e => by have e2 : w.heap.size + 1 + 1 = k := Option.some.inj e; omega); have PR := (((Pr.new (w.alloc (.cells #[.bool neg, .slice A n c] 24)) (w.heap.size + 1) (by simp) (.bool false) (.slice none 0 0) 24).alloc (.cells #[] 63)).drew).below hB1 (by omega); have hHB : Hid (Below w.heap.size w w1) := ((((Below.refl _ _).alloc (Nat.le_refl _) _).alloc (by simp) _).alloc (by simp; omega) _).drew.trans (hB1.mono (by omega)); have PA := (((Pr.new w w.heap.size rfl (.bool neg) (.slice A n c) 24).alloc (.cells #[.bool false, .slice none 0 0] 24)).alloc (.cells #[] 63)).drew.below hB1 (by omega); have ⟨a0, a1, _, _, _⟩ := PA; have ⟨r0, r1, rf0, rf1, rl⟩ := PR)
  all_goals
    go_wp2
    refine post_w1 Try.results6 rfl rfl (PR.set _ _).c0 (PR.set _ _).c1 ⟨A1, c1, rfl, hL1.setP PR _ _, below_set2 hHB.out (by omega) _ _⟩
end Go.Proofs.Ytdbilpmhejigpaa
