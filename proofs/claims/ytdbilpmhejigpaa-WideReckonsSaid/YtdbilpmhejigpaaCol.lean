/-
  The iterator wide.columns: the limbs of two lists side by side, the lowest ones first.
-/
import Derived.Test.YtdbilpmhejigpaaIter
import Derived.Test.YtdbilpmhejigpaaW2
namespace Go.Proofs.Ytdbilpmhejigpaa
open Go.RowKit Go.Shelf
attribute [local go_sem] Oper.semAt_some

set_option maxRecDepth 100000 in
set_option maxHeartbeats 1000000 in
theorem col1_in (F : Fence) (n : Nat) (hf : F.fn 74) (hfl : F.fn 64) (hro : F.round = none) (hn : 1 ≤ n)
    (hlimb : ∀ (W : World) (A : Option Addr) (m c : Nat) (xs : List Nat) (i : Int), Lm W W.heap.size A m c xs → 0 ≤ i → i ≤ 9223372036854775807 → CallsIn F (n - 1) Try.prog 64 #[.slice A m c, .int .i64 i] W fun e w' => e = .returned (.int .u64 (xs[i.toNat]?.getD 0 : Nat)) ∧ W = w')
    (l Ba Bb n₀ : Nat) (A B : Option Addr) (len m ca cb : Nat) (xs ys : List Nat) (J Jx : List (Idx len) → World → Prop)
    (hY : ∀ pre x W, J pre W → pre.length < len → YieldAt F (n - 1) Try.prog l #[.int .u64 (xs[x.1]?.getD 0 : Nat), .int .u64 (ys[x.1]?.getD 0 : Nat)] W fun e W' =>
      (e = .returned (.bool true) ∧ J (pre ++ [x]) W' ∧ KpB n₀ Bb W W') ∨ (e = .returned (.bool false) ∧ Jx (pre ++ [x]) W'))
    (W : World) (hBa : W.cell? ⟨Ba, 0, none⟩ = some (.slice A len ca)) (hBb : W.cell? ⟨Bb, 0, none⟩ = some (.slice B m cb)) (hA : Lm W n₀ A len ca xs) (hB : Lm W n₀ B m cb ys) (hn0 : n₀ ≤ W.heap.size) (h0 : J [] W) :
    CallsIn F n Try.prog 74 #[.func (.yield l) #[] #[], .pointer (some ⟨Ba, 0, none⟩), .pointer (some ⟨Bb, 0, none⟩)] W fun e W' => (∃ v, e = .returned v) ∧
      ((∃ zs : List (Idx len), zs.map (·.1) = List.range len ∧ J zs W') ∨ (∃ pre : List (Idx len), True ∧ Jx pre W')) := by
  have hcap := hA.cap
  have hmax := hA.max
  have HA := Lib.hid hA
  have HB := Lib.hid hB
  clear hA hB
  refine callsIn_of_wp Try.func74 rfl hf ?_ hro
  simp only [Try.ntmps74, List.size_toArray, List.length_cons, List.length_nil, Nat.reduceAdd, Nat.reduceSub, Array.replicate_succ, Array.replicate_zero, List.push_toArray, List.append_toArray, List.nil_append, List.cons_append]
  gi_wp2
  gi_loopw [8] (fun i wr => ∃ (k : Nat) (pre : List (Idx len)), k ≤ len ∧ i = .int .i64 k ∧ pre.map (·.1) = List.range k ∧ J pre wr ∧ KpB n₀ Bb W wr)
    (fun i _ => len - (intOf i).toNat)
  case atStart => exact ⟨0, [], Nat.zero_le _, rfl, rfl, h0, Below.refl _ _, rfl⟩
  case round =>
    obtain ⟨k, pre, hk, rfl, hpre, hJs, hnx⟩ := hrel
    have HP := Lib.hid hpre
    clear hpre
    have hbx : wr.cell? ⟨Bb, 0, none⟩ = some (.slice B m cb) := hnx.2.trans hBb
    by_cases hlt : k < len
    · have HBw := Lib.hid ((HB.out.below hnx.1).mono (Nat.le_trans hn0 hnx.1.size))
      obtain ⟨b, off, rfl, hb, hc⟩ := HA.out.cell hlt
      have hcx : wr.cell? ⟨b, off + k, none⟩ = some (.int .u32 (xs[k]?.getD 0 : Nat)) := (hnx.1.cell (p := ⟨b, off + k, none⟩) hb).trans hc
      have hg := HA.out.good.get k
      have hlen : pre.length = k := by
        have e := congrArg List.length HP.out
        rwa [List.length_map, List.length_range] at e
      obtain ⟨fn, tmps, assign, body, hy, hR⟩ := hY pre ⟨k, hlt⟩ wr hJs (by omega)
      dsimp only at hy
      clear hlen
      gi_wp2_with (gi_at_call 64; refine (hlimb _ _ _ _ ys _ HBw.out (by omega) (by omega)).mono ?_; rintro e w' ⟨rfl, rfl⟩)
      refine hR.mono ?_
      rintro e W3 (⟨rfl, hJ3, hk3⟩ | ⟨rfl, hJx3⟩)
      · gi_wp2
        go_roundw
        case rel => exact ⟨k + 1, pre ++ [⟨k, hlt⟩], by omega, by go_num, by rw [List.range_succ, List.map_append, HP.out]; rfl, hJ3, kpB_t hnx hk3⟩
        case measure => simp [intOf]; omega
      · gi_wp2
        refine bodyPost_ret (results_none rfl _ _ _) rfl ?_
        exact ⟨⟨_, rfl⟩, .inr ⟨pre ++ [⟨k, hlt⟩], trivial, hJx3⟩⟩
    · obtain rfl : k = len := by omega
      gi_wp2
      go_end0
      exact ⟨⟨_, rfl⟩, .inl ⟨pre, HP.out, hJs⟩⟩

set_option maxHeartbeats 1000000 in
theorem col_in (F : Fence) (n : Nat) (hf : F.fn 60) (hro : F.round = none) (a b : Option Addr) (len m ca cb : Nat) (w : World) :
    CallsIn F n Try.prog 60 #[.slice a len ca, .slice b m cb] w fun e w' => e = .returned (.func (.func 74) #[] #[.pointer (some ⟨w.heap.size, 0, none⟩), .pointer (some ⟨w.heap.size + 1, 0, none⟩)]) ∧ w' = (w.alloc (.cells #[.slice a len ca] 22)).alloc (.cells #[.slice b m cb] 22) := by
  refine callsIn_of_wp Try.func60 rfl hf ?_ hro
  simp only [Try.ntmps60, List.size_toArray, List.length_cons, List.length_nil, Nat.reduceAdd, Nat.reduceSub, Array.replicate_succ, Array.replicate_zero, List.push_toArray, List.append_toArray, List.nil_append, List.cons_append]
  gi_wp2
  go_ret
  exact ⟨rfl, rfl⟩

theorem col_stops (F : Fence) (n : Nat) (hf : F.fn 74) (hfl : F.fn 64) (hro : F.round = none) (hn : 1 ≤ n)
    (hlimb : ∀ (W : World) (A : Option Addr) (m c : Nat) (xs : List Nat) (i : Int), Lm W W.heap.size A m c xs → 0 ≤ i → i ≤ 9223372036854775807 → CallsIn F (n - 1) Try.prog 64 #[.slice A m c, .int .i64 i] W fun e w' => e = .returned (.int .u64 (xs[i.toNat]?.getD 0 : Nat)) ∧ W = w')
    (Ba Bb n₀ : Nat) (A B : Option Addr) (len m ca cb : Nat) (xs ys : List Nat) (w : World) (hBa : Ba < w.heap.size) (hBb : Bb < w.heap.size) (hn₀ : n₀ ≤ w.heap.size)
    (hca : w.cell? ⟨Ba, 0, none⟩ = some (.slice A len ca)) (hcb : w.cell? ⟨Bb, 0, none⟩ = some (.slice B m cb)) (hA : Lm w n₀ A len ca xs) (hB : Lm w n₀ B m cb ys) :
    SeqStopsK F n Try.prog 74 #[.pointer (some ⟨Ba, 0, none⟩), .pointer (some ⟨Bb, 0, none⟩)] (fun x : Idx len => #[Value.int .u64 (xs[x.1]?.getD 0 : Nat), Value.int .u64 (ys[x.1]?.getD 0 : Nat)]) (KpB n₀ Bb)
      (fun zs => zs.map (·.1) = List.range len) (fun _ => True) len w := fun l J Jx W hW _ _ hY h0 =>
  col1_in F n hf hfl hro hn hlimb l Ba Bb n₀ A B len m ca cb xs ys J Jx hY W ((hW.cell (p := ⟨Ba, 0, none⟩) hBa).trans hca) ((hW.cell (p := ⟨Bb, 0, none⟩) hBb).trans hcb) (hA.below (hW.mono hn₀)) (hB.below (hW.mono hn₀)) (Nat.le_trans hn₀ hW.size) h0

end Go.Proofs.Ytdbilpmhejigpaa
