/- Lemmas, part 2. -/
import Derived.Maps.AppendAt
import Derived.IntWalk
import Derived.Lib.ItoaNum
import Derived.Test.YtkajmglpmdhmnaaGRe1
/-
  The iterator wide.columns: the limbs of two lists side by side, the lowest ones first.
-/
namespace Go.Proofs.Ytkajmglpmdhmnaa
open Go.RowKit Go.Shelf
attribute [local go_sem] Oper.semAt_some

set_option maxRecDepth 100000 in
set_option maxHeartbeats 1000000 in
theorem col1_in (F : Fence) (n : Nat) (hf : F.fn 55) (hfl : F.fn 56) (hro : F.round = none) (hn : 1 ≤ n)
    (hlimb : ∀ (W : World) (A : Option Addr) (m c : Nat) (xs : List Nat) (i : Int), Lm W W.heap.size A m c xs → 0 ≤ i → i ≤ 9223372036854775807 → CallsIn F (n - 1) Try.prog 56 #[.slice A m c, .int .i64 i] W fun e w' => e = .returned (.int .u64 (xs[i.toNat]?.getD 0 : Nat)) ∧ W = w')
    (l Ba Bb n₀ : Nat) (A B : Option Addr) (len m ca cb : Nat) (xs ys : List Nat) (J Jx : List (Idx len) → World → Prop)
    (hY : ∀ pre x W, J pre W → pre.length < len → YieldAt F (n - 1) Try.prog l #[.int .u64 (xs[x.1]?.getD 0 : Nat), .int .u64 (ys[x.1]?.getD 0 : Nat)] W fun e W' =>
      (e = .returned (.bool true) ∧ J (pre ++ [x]) W' ∧ KpB n₀ Bb W W') ∨ (e = .returned (.bool false) ∧ Jx (pre ++ [x]) W'))
    (W : World) (hBa : W.cell? ⟨Ba, 0, none⟩ = some (.slice A len ca)) (hBb : W.cell? ⟨Bb, 0, none⟩ = some (.slice B m cb)) (hA : Lm W n₀ A len ca xs) (hB : Lm W n₀ B m cb ys) (hn0 : n₀ ≤ W.heap.size) (h0 : J [] W) :
    CallsIn F n Try.prog 55 #[.func (.yield l) #[] #[], .pointer (some ⟨Ba, 0, none⟩), .pointer (some ⟨Bb, 0, none⟩)] W fun e W' => (∃ v, e = .returned v) ∧
      ((∃ zs : List (Idx len), zs.map (·.1) = List.range len ∧ J zs W') ∨ (∃ pre : List (Idx len), True ∧ Jx pre W')) := by
  have hcap := hA.cap
  have hmax := hA.max
  have HA := Lib.hid hA
  have HB := Lib.hid hB
  clear hA hB
  refine callsIn_of_wp Try.func55 rfl hf ?_ hro
  simp only [Try.ntmps55, List.size_toArray, List.length_cons, List.length_nil, Nat.reduceAdd, Nat.reduceSub, Array.replicate_succ, Array.replicate_zero, List.push_toArray, List.append_toArray, List.nil_append, List.cons_append]
  gi_wp2
  gi_loopw [8] (fun i wr => ∃ (k : Nat) (pre : List (Idx len)), k ≤ len ∧ i = .int .i64 k ∧ pre.map (·.1) = List.range k ∧ J pre wr ∧ KpB n₀ Bb W wr)
    (fun i _ => len - (intOf i).toNat)
  case atStart => exact ⟨0, [], Nat.zero_le _, rfl, rfl, h0, Below.refl _ _, rfl⟩
  case round =>
    obtain ⟨k, pre, hk, rfl, hpre, hJs, hnx⟩ := hrel
    have HP := Lib.hid hpre
    clear hpre
    have hbx : wr.cell? ⟨Bb, 0, none⟩ = some (.slice B m cb) := hnx.2.trans hBb
    by_cases hlt : k < len
    · have HBw := Lib.hid ((HB.out.below hnx.1).mono (Nat.le_trans hn0 hnx.1.size))
      obtain ⟨b, off, rfl, hb, hc⟩ := HA.out.cell hlt
      have hcx : wr.cell? ⟨b, off + k, none⟩ = some (.int .u32 (xs[k]?.getD 0 : Nat)) := (hnx.1.cell (p := ⟨b, off + k, none⟩) hb).trans hc
      have hg := HA.out.good.get k
      have hlen : pre.length = k := by
        have e := congrArg List.length HP.out
        rwa [List.length_map, List.length_range] at e
      obtain ⟨fn, tmps, assign, body, hy, hR⟩ := hY pre ⟨k, hlt⟩ wr hJs (by omega)
      dsimp only at hy
      clear hlen
      gi_wp2_with (gi_at_call 56; refine (hlimb _ _ _ _ ys _ HBw.out (by omega) (by omega)).mono ?_; rintro e w' ⟨rfl, rfl⟩)
      refine hR.mono ?_
      rintro e W3 (⟨rfl, hJ3, hk3⟩ | ⟨rfl, hJx3⟩)
      · gi_wp2
        go_roundw
        case rel => exact ⟨k + 1, pre ++ [⟨k, hlt⟩], by omega, by go_num, by rw [List.range_succ, List.map_append, HP.out]; rfl, hJ3, kpB_t hnx hk3⟩
        case measure => simp [intOf]; omega
      · gi_wp2
        refine bodyPost_ret (results_none rfl _ _ _) rfl ?_
        exact ⟨⟨_, rfl⟩, .inr ⟨pre ++ [⟨k, hlt⟩], trivial, hJx3⟩⟩
    · obtain rfl : k = len := by omega
      gi_wp2
      go_end0
      exact ⟨⟨_, rfl⟩, .inl ⟨pre, HP.out, hJs⟩⟩

set_option maxHeartbeats 1000000 in
theorem col_in (F : Fence) (n : Nat) (hf : F.fn 43) (hro : F.round = none) (a b : Option Addr) (len m ca cb : Nat) (w : World) :
    CallsIn F n Try.prog 43 #[.slice a len ca, .slice b m cb] w fun e w' => e = .returned (.func (.func 55) #[] #[.pointer (some ⟨w.heap.size, 0, none⟩), .pointer (some ⟨w.heap.size + 1, 0, none⟩)]) ∧ w' = (w.alloc (.cells #[.slice a len ca] 22)).alloc (.cells #[.slice b m cb] 22) := by
  refine callsIn_of_wp Try.func43 rfl hf ?_ hro
  simp only [Try.ntmps43, List.size_toArray, List.length_cons, List.length_nil, Nat.reduceAdd, Nat.reduceSub, Array.replicate_succ, Array.replicate_zero, List.push_toArray, List.append_toArray, List.nil_append, List.cons_append]
  gi_wp2
  go_ret
  exact ⟨rfl, rfl⟩

theorem col_stops (F : Fence) (n : Nat) (hf : F.fn 55) (hfl : F.fn 56) (hro : F.round = none) (hn : 1 ≤ n)
    (hlimb : ∀ (W : World) (A : Option Addr) (m c : Nat) (xs : List Nat) (i : Int), Lm W W.heap.size A m c xs → 0 ≤ i → i ≤ 9223372036854775807 → CallsIn F (n - 1) Try.prog 56 #[.slice A m c, .int .i64 i] W fun e w' => e = .returned (.int .u64 (xs[i.toNat]?.getD 0 : Nat)) ∧ W = w')
    (Ba Bb n₀ : Nat) (A B : Option Addr) (len m ca cb : Nat) (xs ys : List Nat) (w : World) (hBa : Ba < w.heap.size) (hBb : Bb < w.heap.size) (hn₀ : n₀ ≤ w.heap.size)
    (hca : w.cell? ⟨Ba, 0, none⟩ = some (.slice A len ca)) (hcb : w.cell? ⟨Bb, 0, none⟩ = some (.slice B m cb)) (hA : Lm w n₀ A len ca xs) (hB : Lm w n₀ B m cb ys) :
    SeqStopsK F n Try.prog 55 #[.pointer (some ⟨Ba, 0, none⟩), .pointer (some ⟨Bb, 0, none⟩)] (fun x : Idx len => #[Value.int .u64 (xs[x.1]?.getD 0 : Nat), Value.int .u64 (ys[x.1]?.getD 0 : Nat)]) (KpB n₀ Bb)
      (fun zs => zs.map (·.1) = List.range len) (fun _ => True) len w := fun l J Jx W hW _ _ hY h0 =>
  col1_in F n hf hfl hro hn hlimb l Ba Bb n₀ A B len m ca cb xs ys J Jx hY W ((hW.cell (p := ⟨Ba, 0, none⟩) hBa).trans hca) ((hW.cell (p := ⟨Bb, 0, none⟩) hBb).trans hcb) (hA.below (hW.mono hn₀)) (hB.below (hW.mono hn₀)) (Nat.le_trans hn₀ hW.size) h0

end Go.Proofs.Ytkajmglpmdhmnaa

/-
  The contract of wide.sum.
-/
namespace Go.Proofs.Ytkajmglpmdhmnaa
open Go.RowKit Go.Shelf
attribute [local go_sem] Oper.semAt_some

/-- make([]uint32, 0, n): a new row, of which nothing is owned yet. -/
theorem run_make0_u32 (c : Int) (n : Nat) (hc : c = (n : Int)) (hn : n ≤ 4000000000) (w : World) :
    (Instr.makeSlice 22 (.int .i64 0) (.int .i64 c)).run Try.prog w = .ok (.slice (some ⟨w.heap.size, 0, none⟩) 0 n) (w.alloc (.cells ((zer n).map u32c).toArray 47)) := by
  subst hc
  obtain ⟨i0, hi0, hz0, hz1, hz2⟩ := info_parts u32_info
  have h := run_make (P := Try.prog) w 22 47 i0 _ slice_u32 hi0 hz0 .i64 .i64 0 (n : Int) (by omega) (by omega) (by rw [hz2]; omega) (by omega)
  rw [hz1, Int.toNat_natCast, made_zer] at h
  exact h
/-- A reading is kept while a block that is no cells is turned. -/
theorem Lm.putObj {W : World} {n c : Nat} {A : Option Addr} {xs : List Nat} (h : Lm W W.heap.size A n c xs) {l : Nat} {o : Obj} (o' : Obj) (hl : W.heap[l]? = some o) (ho : o.isCells = false) : Lm (W.putObj l o') (W.putObj l o').heap.size A n c xs := by
  have hs := (grownBy_putObj' W l o').size
  refine ⟨h.len, h.good, h.cap, h.max, h.nil_, fun hn => ?_⟩
  obtain ⟨b, off, e, hb, hc⟩ := h.at_ hn
  refine ⟨b, off, e, by omega, fun j hj => ?_⟩
  have hcj := hc j hj
  exact cell_kept hcj (grownBy_putObj' W l o') (fun r er => by cases er; exact ⟨o, hl, ho⟩)
/-- Behind an append to a row of the call's own, a block that is no cells lies as it lay. -/
theorem other_kept {W w1 : World} {base : Nat} {e : TypeId} {u : Value} {k D : Nat} {us : List Value} {o tmp : Obj} (hrow : W.ownsRow base e 1 u k us) (hg : (W.alloc tmp).grownBy w1 u.ownBlock) (hD : W.heap[D]? = some o) (ho : o.isCells = false) : w1.heap[D]? = some o := by
  have hlt : D < W.heap.size := (Array.getElem?_eq_some_iff.1 hD).1
  rw [hg.block D (by simp; omega) ?_, Below.heap_alloc W tmp D hlt, hD]
  intro e2
  rcases hrow.2 with ⟨rfl, _⟩ | ⟨g, cap, cur, rfl, _, hgb, _⟩
  · cases e2
  · obtain rfl : D = g := Option.some.inj e2
    rw [hgb] at hD
    cases hD
    cases ho
/-- The indices that have come. -/
def ixs {n : Nat} (pre : List (Idx n)) : List Nat := pre.map (·.1)
theorem ixs_snoc {n : Nat} (pre : List (Idx n)) (x : Idx n) : ixs (pre ++ [x]) = ixs pre ++ [x.1] := by unfold ixs; rw [List.map_append]; rfl
theorem ixs_len {n : Nat} (pre : List (Idx n)) : (ixs pre).length = pre.length := List.length_map _

set_option maxRecDepth 100000 in
set_option maxHeartbeats 2000000 in
theorem sum_ge_in (F : Fence) (q : Nat) (h3 : F.fn 26) (h5 : F.fn 43) (h7 : F.fn 55) (h8 : F.fn 56) (h9 : F.fn 38) (hro : F.round = none) (hq : 4 ≤ q)
    (hlimb : ∀ (W : World) (A : Option Addr) (m c : Nat) (xs : List Nat) (i : Int), Lm W W.heap.size A m c xs → 0 ≤ i → i ≤ 9223372036854775807 → CallsIn F (q - 1 - 1) Try.prog 56 #[.slice A m c, .int .i64 i] W fun e w' => e = .returned (.int .u64 (xs[i.toNat]?.getD 0 : Nat)) ∧ W = w')
    (htrim : ∀ (W : World) (B : Nat) (A : Option Addr) (m c : Nat) (xs : List Nat) (v : Nat), Lm W B A m c xs → val xs = v → CallsIn F (q - 1) Try.prog 38 #[.slice A m c] W fun e w' => e = .returned (.slice A (digs v).length c) ∧ W = w')
    (w : World) (A B : Option Addr) (n m ca cb : Nat) (xs ys : List Nat) (v : Nat) (hA : Lm w w.heap.size A n ca xs) (hB : Lm w w.heap.size B m cb ys) (hge : m ≤ n) (hn : n ≤ 100000000) (hv : val xs + val ys = v) :
    CallsIn F q Try.prog 26 #[.slice A n ca, .slice B m cb] w fun e w' => ∃ A' c', e = .returned (.slice A' (digs v).length c') ∧ Lm w' w'.heap.size A' (digs v).length c' (digs v) ∧ Below w.heap.size w w' := by
  have h1 : 1 ≤ q := by omega
  obtain ⟨i0, hi0, hz0, hz1, hz2⟩ := info_parts u32_info
  have hca := hA.cap
  have hma := hA.max
  have hcb := hB.cap
  have hmb := hB.max
  have HA := Lib.hid hA
  have HB := Lib.hid hB
  have HV := Lib.hid hv
  clear hA hB hv
  have hdec : decide (n < m) = false := by simp; omega
  have hmk := fun w => run_make0_u32 ((n : Int) + 1) (n + 1) (by omega) (by omega) w
  refine callsIn_of_wp_marks Try.func26 rfl h3 ?_ hro
  simp only [Try.ntmps26, List.size_toArray, List.length_cons, List.length_nil, Nat.reduceAdd, Nat.reduceSub, Array.replicate_succ, Array.replicate_zero, List.push_toArray, List.append_toArray, List.nil_append, List.cons_append]
  gi_wp2_with (gi_at_call 43; refine (col_in F (q - 1) h5 hro _ _ _ _ _ _ _).mono ?_; rintro e w' ⟨rfl, rfl⟩)
  clear hmk
  have r0 : (w.alloc (.cells ((zer (n + 1)).map u32c).toArray 47)).ownsRow w.heap.size 47 1 (.slice (some ⟨w.heap.size, 0, none⟩) 0 (n + 1)) 0 [] := World.ownsRow_made _ _ _ (Nat.le_refl _) (by simp only [maxLen]; omega) (by simp [zer])
  have bT := Boxed.new (w.alloc (.cells ((zer (n + 1)).map u32c).toArray 47)) 22 (.slice (some ⟨w.heap.size, 0, none⟩) 0 (n + 1))
  have bC := Boxed.new ((w.alloc (.cells ((zer (n + 1)).map u32c).toArray 47)).alloc (.cells #[.slice (some ⟨w.heap.size, 0, none⟩) 0 (n + 1)] 22)) 55 (.int .u64 0)
  have bA := Boxed.new (((w.alloc (.cells ((zer (n + 1)).map u32c).toArray 47)).alloc (.cells #[.slice (some ⟨w.heap.size, 0, none⟩) 0 (n + 1)] 22)).alloc (.cells #[.int .u64 0] 55)) 22 (.slice A n ca)
  have bB := Boxed.new ((((w.alloc (.cells ((zer (n + 1)).map u32c).toArray 47)).alloc (.cells #[.slice (some ⟨w.heap.size, 0, none⟩) 0 (n + 1)] 22)).alloc (.cells #[.int .u64 0] 55)).alloc (.cells #[.slice A n ca] 22)) 22 (.slice B m cb)
  simp only [World.size_alloc] at bT bC bA bB
  have hB0 : Below w.heap.size w (((((w.alloc (.cells ((zer (n + 1)).map u32c).toArray 47)).alloc (.cells #[.slice (some ⟨w.heap.size, 0, none⟩) 0 (n + 1)] 22)).alloc (.cells #[.int .u64 0] 55)).alloc (.cells #[.slice A n ca] 22)).alloc (.cells #[.slice B m cb] 22)) := (((((Below.refl _ w).alloc (Nat.le_refl _) _).alloc (by simp) _).alloc (by simp; omega) _).alloc (by simp; omega) _).alloc (by simp; omega) _
  refine wpIn_rangeFunc_ownG hro h1 (gf := 55) (lb := #[.pointer (some ⟨w.heap.size + 1 + 1 + 1, 0, none⟩), .pointer (some ⟨w.heap.size + 1 + 1 + 1 + 1, 0, none⟩)]) rfl h7 (enters_of Try.func55 (by kernel_rfl) rfl)
    (col_stops F (q - 1) h7 h8 hro (by omega) hlimb (w.heap.size + 1 + 1 + 1) (w.heap.size + 1 + 1 + 1 + 1) w.heap.size A B n m ca cb xs ys _ (by simp) (by simp) (by simp; omega) ((bA.alloc _).cell) bB.cell (HA.out.below hB0) (HB.out.below hB0)) kpB_t (kpB_b (by simp; omega) (by simp)) (Below.refl _ _) (fun _ => rfl)
    (fun pre W => ((∃ u, Boxed W (w.heap.size + 1) 22 u ∧ W.ownsRow w.heap.size 47 1 u pre.length ((addP xs ys (ixs pre)).1.map u32c) ∧ True) ∧ Boxed W (w.heap.size + 1 + 1) 55 (.int .u64 ((addP xs ys (ixs pre)).2 : Nat)) ∧ Boxed W (w.heap.size + 1 + 1 + 1 + 1) 22 (.slice B m cb)) ∧ Below w.heap.size w W)
    (fun _ _ _ => False)
    (OwnFrom.and (OwnFrom.and (Own.from (holdsRow_own w.heap.size (w.heap.size + 1) 22 47 1 (fun pre : List (Idx n) => pre.length) (fun pre => (addP xs ys (ixs pre)).1.map u32c) (fun _ _ => True)) _) (OwnFrom.and (Own.from (boxed_own (w.heap.size + 1 + 1) 55 (fun pre : List (Idx n) => Value.int .u64 ((addP xs ys (ixs pre)).2 : Nat))) _) (Own.from (boxed_own (w.heap.size + 1 + 1 + 1 + 1) 22 (fun _ => .slice B m cb)) _))) (ownFrom_below (Nat.le_refl _) (by simp; omega)))
    (fun _ _ _ _ _ hs _ _ => hs)
    ⟨⟨⟨_, ((bT.alloc _).alloc _).alloc _, (((r0.alloc _).alloc _).alloc _).alloc _, trivial⟩, (bC.alloc _).alloc _, bB⟩, hB0⟩
    (fun x => { tmps := #[.slice A n ca, .slice B m cb, undef, undef, .slice none 0 0, .pointer (some ⟨w.heap.size + 1, 0, none⟩), .pointer (some ⟨w.heap.size + 1 + 1, 0, none⟩), .int .u64 (xs[x.1]?.getD 0 : Nat), .int .u64 (ys[x.1]?.getD 0 : Nat), .slice A n ca, .int .i64 n, .slice B m cb, .int .i64 m, .bool false, undef, undef, .slice A n ca, .int .i64 n, .int .i64 ((n : Int) + 1), .slice (some ⟨w.heap.size, 0, none⟩) 0 (n + 1), .slice A n ca, .slice B m cb, .func (.func 55) #[] #[.pointer (some ⟨w.heap.size + 1 + 1 + 1, 0, none⟩), .pointer (some ⟨w.heap.size + 1 + 1 + 1 + 1, 0, none⟩)], .int .u64 (xs[x.1]?.getD 0 : Nat), .int .u64 (ys[x.1]?.getD 0 : Nat), undef, undef, undef, undef, undef, undef, undef, undef, undef, undef, undef, undef, undef, undef, undef, undef, undef, undef], defers := [] }) ?assign ?body ?done ?stop
  case assign =>
    intro l x W K hK
    gi_wp2
    exact hK
  case body =>
    rintro l pre ⟨k, hk⟩ W ⟨⟨⟨u, hu, hrow, _⟩, hcar, hbb⟩, hBl⟩ hlen
    have hc1 := addP_carry HA.out.good HB.out.good (ixs pre)
    have hl1 := addP_len xs ys (ixs pre)
    rw [ixs_len] at hl1
    have HSn := Lib.hid (addP_snoc xs ys (ixs pre) k)
    have hgx := HA.out.good.get k
    have hgy := HB.out.good.get k
    generalize hr : addP xs ys (ixs pre) = r at *
    obtain ⟨ts, cy⟩ := r
    have HR := Lib.hid hr
    clear hr
    dsimp only at hc1 hl1 hrow hcar
    have hsz : (W.setCell ⟨w.heap.size + 1 + 1, 0, none⟩ (.int .u64 ((cy : Int) + ((xs[k]?.getD 0 : Nat) + (ys[k]?.getD 0 : Nat))))).heap.size = W.heap.size := World.size_setCell _ _ _
    have hu1 := hu.other (B' := w.heap.size + 1 + 1) (by omega) (.int .u64 ((cy : Int) + ((xs[k]?.getD 0 : Nat) + (ys[k]?.getD 0 : Nat))))
    have hbb1 := hbb.other (B' := w.heap.size + 1 + 1) (by omega) (.int .u64 ((cy : Int) + ((xs[k]?.getD 0 : Nat) + (ys[k]?.getD 0 : Nat))))
    have hcar1 := hcar.set (.int .u64 ((cy : Int) + ((xs[k]?.getD 0 : Nat) + (ys[k]?.getD 0 : Nat))))
    have hrow1 := hrow.kept (grownBy_setCell' W (w.heap.size + 1 + 1) (.int .u64 ((cy : Int) + ((xs[k]?.getD 0 : Nat) + (ys[k]?.getD 0 : Nat))))) (.inr (hcar.not_row (by decide) hrow).symm)
    have hnew := cell_one_new (W.setCell ⟨w.heap.size + 1 + 1, 0, none⟩ (.int .u64 ((cy : Int) + ((xs[k]?.getD 0 : Nat) + (ys[k]?.getD 0 : Nat))))) (.int .u32 (((cy : Int) + ((xs[k]?.getD 0 : Nat) + (ys[k]?.getD 0 : Nat))) % 4294967296)) 47
    rw [hsz] at hnew
    have HNew := Lib.hid hnew
    have HRow := Lib.hid hrow1
    have HU := Lib.hid hu1
    have HC := Lib.hid hcar1
    have HBB := Lib.hid hbb1
    have HBB0 := Lib.hid hbb
    have HL1 := Lib.hid hl1
    have hcc := hcar.cell
    have hcf := hcar.frozen
    have huc := hu.cell
    have hBs := hBl.size
    have HBl := Lib.hid hBl
    have hun : W.heap.size ≤ W.heap.size := Nat.le_refl _
    clear hnew hrow1 hu1 hcar1 hbb1 hbb hrow hBl hu hcar
    dsimp only
    gi_wp2_with (gi_at_builtin; refine wpListIn_append_own _ rfl _ _ 22 rfl w.heap.size 47 i0 (.int .u32 0) 1 4 slice_u32 hi0 hz0 hz1 hz2 rfl (by decide) _ _ _ rfl (HRow.out.alloc _) ⟨W.heap.size, 0, none⟩ 1 1 [.int .u32 (((cy : Int) + ((xs[k]?.getD 0 : Nat) + (ys[k]?.getD 0 : Nat))) % 4294967296)] rfl rfl HNew.out (by simp [Value.oneCell']) (by simp only [maxLen]; omega) (by omega) (by simp [World.size_setCell]; omega) ?_; intro v' w1 hown' hgrow _; obtain ⟨g', cap', rfl⟩ := ownsRow_succ hown'; obtain ⟨hv1, hv2, hr2, hk2, hb2⟩ := HU.out.appended (by decide) HRow.out (by rw [hsz]; omega) (Nat.le_succ _) hown' hgrow; have hcar2 := (HC.out.alloc _).kept hgrow (HC.out.not_row (by decide) HRow.out); have hbb2 := (HBB.out.alloc _).kept hgrow (HBB.out.not_row (by decide) HRow.out); have hc1' := hv1.cell; have hf1 := hv1.frozen; have hcc2 := hcar2.cell; have hcf2 := hcar2.frozen)
    have hcar3 := hcar2.other (B' := w.heap.size + 1) (by omega) (.slice (some ⟨g', 0, none⟩) (pre.length + 1) cap')
    have hbb3 := (hbb2.other (B' := w.heap.size + 1) (by omega) (.slice (some ⟨g', 0, none⟩) (pre.length + 1) cap')).other (B' := w.heap.size + 1 + 1) (by omega) (.int .u64 (((cy : Int) + ((xs[k]?.getD 0 : Nat) + (ys[k]?.getD 0 : Nat))) / 4294967296))
    have hbf := (((Below.refl w.heap.size W).setCell (p := ⟨w.heap.size + 1 + 1, 0, none⟩) (by simp; omega) (.int .u64 ((cy : Int) + ((xs[k]?.getD 0 : Nat) + (ys[k]?.getD 0 : Nat))))).trans hb2).setCell (p := ⟨w.heap.size + 1 + 1, 0, none⟩) (by simp; omega) (.int .u64 (((cy : Int) + ((xs[k]?.getD 0 : Nat) + (ys[k]?.getD 0 : Nat))) / 4294967296))
    refine ⟨(((KeepsOthers.setCell W _ _).trans hk2).trans (KeepsOthers.setCell _ _ _)).from _, ⟨hbf, hbb3.cell.trans HBB0.out.cell.symm⟩, ⟨⟨⟨_, hv2.other (by omega) _, ?_⟩, ?_, hbb3⟩, HBl.out.trans hbf⟩⟩
    · have e := hr2.kept (grownBy_setCell' _ (w.heap.size + 1 + 1) (.int .u64 (((cy : Int) + ((xs[k]?.getD 0 : Nat) + (ys[k]?.getD 0 : Nat))) / 4294967296))) (.inr (hcar3.not_row (by decide) hr2).symm)
      rw [ixs_snoc, HSn.out, List.length_append, List.map_append]
      have e2 : (.int .u32 (((cy : Int) + ((xs[k]?.getD 0 : Nat) + (ys[k]?.getD 0 : Nat))) % 4294967296) : Value) = u32c ((cy + (xs[k]?.getD 0 + ys[k]?.getD 0)) % 4294967296) := by
        unfold u32c
        congr 1
      rw [e2] at e
      exact e
    · have e := hcar3.set (.int .u64 (((cy : Int) + ((xs[k]?.getD 0 : Nat) + (ys[k]?.getD 0 : Nat))) / 4294967296))
      rw [ixs_snoc, HSn.out]
      have e2 : (.int .u64 (((cy : Int) + ((xs[k]?.getD 0 : Nat) + (ys[k]?.getD 0 : Nat))) / 4294967296) : Value) = .int .u64 (((cy + (xs[k]?.getD 0 + ys[k]?.getD 0)) / 4294967296 : Nat) : Int) := by
        congr 1
      rw [e2] at e
      exact e
  case done =>
    rintro D zs W hD hzs ⟨⟨⟨u, hu, hrow, _⟩, hcar, hbb⟩, hBl⟩ hK
    have hix : ixs zs = List.range n := hzs
    rw [hix, addP_range] at hrow hcar
    have hzl : zs.length = n := by
      have e := congrArg List.length hix
      rwa [ixs_len, List.length_range] at e
    rw [hzl] at hrow
    have hc1 := addK_carry HA.out.good HB.out.good n
    have hl1 := addK_len xs ys n
    have hvl : Hid (val ((addK xs ys n).1 ++ [(addK xs ys n).2]) = v) := by
      have e := addK_val xs ys n
      rw [List.take_of_length_le (by rw [HA.out.len]; exact Nat.le_refl _), List.take_of_length_le (by rw [HB.out.len]; exact hge), HV.out] at e
      show _ = _
      rw [val_snoc, hl1]
      exact e
    have hgd : Hid (Good ((addK xs ys n).1 ++ [(addK xs ys n).2])) := (addK_good xs ys n).append (Good.nil.cons (by omega))
    generalize hr : addK xs ys n = r at *
    obtain ⟨ts, cy⟩ := r
    clear hr hix hzs hzl
    dsimp only at hc1 hl1 hrow hcar hvl hgd
    have hcc := hcar.cell
    have huc := hu.cell
    have hBs := hBl.size
    have HRow := Lib.hid hrow
    have HBl := Lib.hid hBl
    have HKD := Lib.hid hK
    have hnew := Lib.hid (cell_one_new W (.int .u32 (cy : Int)) 47)
    clear hrow hBl hcar hbb
    gi_wp2_with (gi_at_builtin; refine wpListIn_append_own _ rfl _ _ 22 rfl w.heap.size 47 i0 (.int .u32 0) 1 4 slice_u32 hi0 hz0 hz1 hz2 rfl (by decide) _ _ _ rfl (HRow.out.alloc _) ⟨W.heap.size, 0, none⟩ 1 1 [.int .u32 (cy : Int)] rfl rfl hnew.out (by simp [Value.oneCell']) (by simp only [maxLen]; omega) (by omega) (by simp; omega) ?_; intro v' w1 hown' hgrow _)
    have hown2 : w1.ownsRow w.heap.size 47 1 v' (n + 1) ((ts ++ [cy]).map u32c) := by rw [List.map_append]; exact hown'
    obtain ⟨A', c', rfl, hL⟩ := Lm.own hown2 hgd.out
    have HL := Lib.hid hL
    have hK1 := Lib.hid (other_kept HRow.out hgrow HKD.out rfl)
    have hbf := Lib.hid (HBl.out.trans (((Below.refl w.heap.size W).alloc hBs _).grown hgrow (by simp; omega) (fun b e => (HRow.out.lt b e).1)))
    clear hL hown2 hown' hgrow
    refine (htrim _ _ _ _ _ _ v HL.out hvl.out).mono ?_
    rintro e w2 ⟨rfl, rfl⟩
    gi_wp2
    refine ⟨by simp, .inl ⟨_, _, rfl, run_takeDeferred hK1.out, ?_⟩⟩
    exact ⟨_, results_tmp rfl _ _ _, A', c', rfl, (HL.out.trim' hvl.out).putObj _ hK1.out rfl, hbf.out.trans (belowK_b (w := w) (Nat.le_refl _) _ D _ _ (by simp at hD; omega) hK1.out rfl rfl)⟩
  case stop =>
    rintro D c pre W _ _ h _
    exact h.elim

set_option maxRecDepth 100000 in
set_option maxHeartbeats 2000000 in
theorem sum_lt_in (F : Fence) (q : Nat) (h3 : F.fn 26) (h5 : F.fn 43) (h7 : F.fn 55) (h8 : F.fn 56) (h9 : F.fn 38) (hro : F.round = none) (hq : 4 ≤ q)
    (hlimb : ∀ (W : World) (A : Option Addr) (m c : Nat) (xs : List Nat) (i : Int), Lm W W.heap.size A m c xs → 0 ≤ i → i ≤ 9223372036854775807 → CallsIn F (q - 1 - 1) Try.prog 56 #[.slice A m c, .int .i64 i] W fun e w' => e = .returned (.int .u64 (xs[i.toNat]?.getD 0 : Nat)) ∧ W = w')
    (htrim : ∀ (W : World) (B : Nat) (A : Option Addr) (m c : Nat) (xs : List Nat) (v : Nat), Lm W B A m c xs → val xs = v → CallsIn F (q - 1) Try.prog 38 #[.slice A m c] W fun e w' => e = .returned (.slice A (digs v).length c) ∧ W = w')
    (w : World) (A B : Option Addr) (n m ca cb : Nat) (xs ys : List Nat) (v : Nat) (hA : Lm w w.heap.size A n ca xs) (hB : Lm w w.heap.size B m cb ys) (hgt : m < n) (hn : n ≤ 100000000) (hv : val xs + val ys = v) :
    CallsIn F q Try.prog 26 #[.slice B m cb, .slice A n ca] w fun e w' => ∃ A' c', e = .returned (.slice A' (digs v).length c') ∧ Lm w' w'.heap.size A' (digs v).length c' (digs v) ∧ Below w.heap.size w w' := by
  have h1 : 1 ≤ q := by omega
  obtain ⟨i0, hi0, hz0, hz1, hz2⟩ := info_parts u32_info
  have hca := hA.cap
  have hma := hA.max
  have hcb := hB.cap
  have hmb := hB.max
  have HA := Lib.hid hA
  have HB := Lib.hid hB
  have HV := Lib.hid hv
  clear hA hB hv
  have hdec : decide (m < n) = true := by simpa using hgt
  have hge : m ≤ n := by omega
  have hmk := fun w => run_make0_u32 ((n : Int) + 1) (n + 1) (by omega) (by omega) w
  refine callsIn_of_wp_marks Try.func26 rfl h3 ?_ hro
  simp only [Try.ntmps26, List.size_toArray, List.length_cons, List.length_nil, Nat.reduceAdd, Nat.reduceSub, Array.replicate_succ, Array.replicate_zero, List.push_toArray, List.append_toArray, List.nil_append, List.cons_append]
  gi_wp2_with (gi_at_call 43; refine (col_in F (q - 1) h5 hro _ _ _ _ _ _ _).mono ?_; rintro e w' ⟨rfl, rfl⟩)
  clear hmk
  have r0 : (w.alloc (.cells ((zer (n + 1)).map u32c).toArray 47)).ownsRow w.heap.size 47 1 (.slice (some ⟨w.heap.size, 0, none⟩) 0 (n + 1)) 0 [] := World.ownsRow_made _ _ _ (Nat.le_refl _) (by simp only [maxLen]; omega) (by simp [zer])
  have bT := Boxed.new (w.alloc (.cells ((zer (n + 1)).map u32c).toArray 47)) 22 (.slice (some ⟨w.heap.size, 0, none⟩) 0 (n + 1))
  have bC := Boxed.new ((w.alloc (.cells ((zer (n + 1)).map u32c).toArray 47)).alloc (.cells #[.slice (some ⟨w.heap.size, 0, none⟩) 0 (n + 1)] 22)) 55 (.int .u64 0)
  have bA := Boxed.new (((w.alloc (.cells ((zer (n + 1)).map u32c).toArray 47)).alloc (.cells #[.slice (some ⟨w.heap.size, 0, none⟩) 0 (n + 1)] 22)).alloc (.cells #[.int .u64 0] 55)) 22 (.slice A n ca)
  have bB := Boxed.new ((((w.alloc (.cells ((zer (n + 1)).map u32c).toArray 47)).alloc (.cells #[.slice (some ⟨w.heap.size, 0, none⟩) 0 (n + 1)] 22)).alloc (.cells #[.int .u64 0] 55)).alloc (.cells #[.slice A n ca] 22)) 22 (.slice B m cb)
  simp only [World.size_alloc] at bT bC bA bB
  have hB0 : Below w.heap.size w (((((w.alloc (.cells ((zer (n + 1)).map u32c).toArray 47)).alloc (.cells #[.slice (some ⟨w.heap.size, 0, none⟩) 0 (n + 1)] 22)).alloc (.cells #[.int .u64 0] 55)).alloc (.cells #[.slice A n ca] 22)).alloc (.cells #[.slice B m cb] 22)) := (((((Below.refl _ w).alloc (Nat.le_refl _) _).alloc (by simp) _).alloc (by simp; omega) _).alloc (by simp; omega) _).alloc (by simp; omega) _
  refine wpIn_rangeFunc_ownG hro h1 (gf := 55) (lb := #[.pointer (some ⟨w.heap.size + 1 + 1 + 1, 0, none⟩), .pointer (some ⟨w.heap.size + 1 + 1 + 1 + 1, 0, none⟩)]) rfl h7 (enters_of Try.func55 (by kernel_rfl) rfl)
    (col_stops F (q - 1) h7 h8 hro (by omega) hlimb (w.heap.size + 1 + 1 + 1) (w.heap.size + 1 + 1 + 1 + 1) w.heap.size A B n m ca cb xs ys _ (by simp) (by simp) (by simp; omega) ((bA.alloc _).cell) bB.cell (HA.out.below hB0) (HB.out.below hB0)) kpB_t (kpB_b (by simp; omega) (by simp)) (Below.refl _ _) (fun _ => rfl)
    (fun pre W => ((∃ u, Boxed W (w.heap.size + 1) 22 u ∧ W.ownsRow w.heap.size 47 1 u pre.length ((addP xs ys (ixs pre)).1.map u32c) ∧ True) ∧ Boxed W (w.heap.size + 1 + 1) 55 (.int .u64 ((addP xs ys (ixs pre)).2 : Nat)) ∧ Boxed W (w.heap.size + 1 + 1 + 1 + 1) 22 (.slice B m cb)) ∧ Below w.heap.size w W)
    (fun _ _ _ => False)
    (OwnFrom.and (OwnFrom.and (Own.from (holdsRow_own w.heap.size (w.heap.size + 1) 22 47 1 (fun pre : List (Idx n) => pre.length) (fun pre => (addP xs ys (ixs pre)).1.map u32c) (fun _ _ => True)) _) (OwnFrom.and (Own.from (boxed_own (w.heap.size + 1 + 1) 55 (fun pre : List (Idx n) => Value.int .u64 ((addP xs ys (ixs pre)).2 : Nat))) _) (Own.from (boxed_own (w.heap.size + 1 + 1 + 1 + 1) 22 (fun _ => .slice B m cb)) _))) (ownFrom_below (Nat.le_refl _) (by simp; omega)))
    (fun _ _ _ _ _ hs _ _ => hs)
    ⟨⟨⟨_, ((bT.alloc _).alloc _).alloc _, (((r0.alloc _).alloc _).alloc _).alloc _, trivial⟩, (bC.alloc _).alloc _, bB⟩, hB0⟩
    (fun x => { tmps := #[.slice A n ca, .slice B m cb, undef, undef, .slice none 0 0, .pointer (some ⟨w.heap.size + 1, 0, none⟩), .pointer (some ⟨w.heap.size + 1 + 1, 0, none⟩), .int .u64 (xs[x.1]?.getD 0 : Nat), .int .u64 (ys[x.1]?.getD 0 : Nat), .slice B m cb, .int .i64 m, .slice A n ca, .int .i64 n, .bool true, .slice A n ca, .slice B m cb, .slice A n ca, .int .i64 n, .int .i64 ((n : Int) + 1), .slice (some ⟨w.heap.size, 0, none⟩) 0 (n + 1), .slice A n ca, .slice B m cb, .func (.func 55) #[] #[.pointer (some ⟨w.heap.size + 1 + 1 + 1, 0, none⟩), .pointer (some ⟨w.heap.size + 1 + 1 + 1 + 1, 0, none⟩)], .int .u64 (xs[x.1]?.getD 0 : Nat), .int .u64 (ys[x.1]?.getD 0 : Nat), undef, undef, undef, undef, undef, undef, undef, undef, undef, undef, undef, undef, undef, undef, undef, undef, undef, undef], defers := [] }) ?assign ?body ?done ?stop
  case assign =>
    intro l x W K hK
    gi_wp2
    exact hK
  case body =>
    rintro l pre ⟨k, hk⟩ W ⟨⟨⟨u, hu, hrow, _⟩, hcar, hbb⟩, hBl⟩ hlen
    have hc1 := addP_carry HA.out.good HB.out.good (ixs pre)
    have hl1 := addP_len xs ys (ixs pre)
    rw [ixs_len] at hl1
    have HSn := Lib.hid (addP_snoc xs ys (ixs pre) k)
    have hgx := HA.out.good.get k
    have hgy := HB.out.good.get k
    generalize hr : addP xs ys (ixs pre) = r at *
    obtain ⟨ts, cy⟩ := r
    have HR := Lib.hid hr
    clear hr
    dsimp only at hc1 hl1 hrow hcar
    have hsz : (W.setCell ⟨w.heap.size + 1 + 1, 0, none⟩ (.int .u64 ((cy : Int) + ((xs[k]?.getD 0 : Nat) + (ys[k]?.getD 0 : Nat))))).heap.size = W.heap.size := World.size_setCell _ _ _
    have hu1 := hu.other (B' := w.heap.size + 1 + 1) (by omega) (.int .u64 ((cy : Int) + ((xs[k]?.getD 0 : Nat) + (ys[k]?.getD 0 : Nat))))
    have hbb1 := hbb.other (B' := w.heap.size + 1 + 1) (by omega) (.int .u64 ((cy : Int) + ((xs[k]?.getD 0 : Nat) + (ys[k]?.getD 0 : Nat))))
    have hcar1 := hcar.set (.int .u64 ((cy : Int) + ((xs[k]?.getD 0 : Nat) + (ys[k]?.getD 0 : Nat))))
    have hrow1 := hrow.kept (grownBy_setCell' W (w.heap.size + 1 + 1) (.int .u64 ((cy : Int) + ((xs[k]?.getD 0 : Nat) + (ys[k]?.getD 0 : Nat))))) (.inr (hcar.not_row (by decide) hrow).symm)
    have hnew := cell_one_new (W.setCell ⟨w.heap.size + 1 + 1, 0, none⟩ (.int .u64 ((cy : Int) + ((xs[k]?.getD 0 : Nat) + (ys[k]?.getD 0 : Nat))))) (.int .u32 (((cy : Int) + ((xs[k]?.getD 0 : Nat) + (ys[k]?.getD 0 : Nat))) % 4294967296)) 47
    rw [hsz] at hnew
    have HNew := Lib.hid hnew
    have HRow := Lib.hid hrow1
    have HU := Lib.hid hu1
    have HC := Lib.hid hcar1
    have HBB := Lib.hid hbb1
    have HBB0 := Lib.hid hbb
    have HL1 := Lib.hid hl1
    have hcc := hcar.cell
    have hcf := hcar.frozen
    have huc := hu.cell
    have hBs := hBl.size
    have HBl := Lib.hid hBl
    have hun : W.heap.size ≤ W.heap.size := Nat.le_refl _
    clear hnew hrow1 hu1 hcar1 hbb1 hbb hrow hBl hu hcar
    dsimp only
    gi_wp2_with (gi_at_builtin; refine wpListIn_append_own _ rfl _ _ 22 rfl w.heap.size 47 i0 (.int .u32 0) 1 4 slice_u32 hi0 hz0 hz1 hz2 rfl (by decide) _ _ _ rfl (HRow.out.alloc _) ⟨W.heap.size, 0, none⟩ 1 1 [.int .u32 (((cy : Int) + ((xs[k]?.getD 0 : Nat) + (ys[k]?.getD 0 : Nat))) % 4294967296)] rfl rfl HNew.out (by simp [Value.oneCell']) (by simp only [maxLen]; omega) (by omega) (by simp [World.size_setCell]; omega) ?_; intro v' w1 hown' hgrow _; obtain ⟨g', cap', rfl⟩ := ownsRow_succ hown'; obtain ⟨hv1, hv2, hr2, hk2, hb2⟩ := HU.out.appended (by decide) HRow.out (by rw [hsz]; omega) (Nat.le_succ _) hown' hgrow; have hcar2 := (HC.out.alloc _).kept hgrow (HC.out.not_row (by decide) HRow.out); have hbb2 := (HBB.out.alloc _).kept hgrow (HBB.out.not_row (by decide) HRow.out); have hc1' := hv1.cell; have hf1 := hv1.frozen; have hcc2 := hcar2.cell; have hcf2 := hcar2.frozen)
    have hcar3 := hcar2.other (B' := w.heap.size + 1) (by omega) (.slice (some ⟨g', 0, none⟩) (pre.length + 1) cap')
    have hbb3 := (hbb2.other (B' := w.heap.size + 1) (by omega) (.slice (some ⟨g', 0, none⟩) (pre.length + 1) cap')).other (B' := w.heap.size + 1 + 1) (by omega) (.int .u64 (((cy : Int) + ((xs[k]?.getD 0 : Nat) + (ys[k]?.getD 0 : Nat))) / 4294967296))
    have hbf := (((Below.refl w.heap.size W).setCell (p := ⟨w.heap.size + 1 + 1, 0, none⟩) (by simp; omega) (.int .u64 ((cy : Int) + ((xs[k]?.getD 0 : Nat) + (ys[k]?.getD 0 : Nat))))).trans hb2).setCell (p := ⟨w.heap.size + 1 + 1, 0, none⟩) (by simp; omega) (.int .u64 (((cy : Int) + ((xs[k]?.getD 0 : Nat) + (ys[k]?.getD 0 : Nat))) / 4294967296))
    refine ⟨(((KeepsOthers.setCell W _ _).trans hk2).trans (KeepsOthers.setCell _ _ _)).from _, ⟨hbf, hbb3.cell.trans HBB0.out.cell.symm⟩, ⟨⟨⟨_, hv2.other (by omega) _, ?_⟩, ?_, hbb3⟩, HBl.out.trans hbf⟩⟩
    · have e := hr2.kept (grownBy_setCell' _ (w.heap.size + 1 + 1) (.int .u64 (((cy : Int) + ((xs[k]?.getD 0 : Nat) + (ys[k]?.getD 0 : Nat))) / 4294967296))) (.inr (hcar3.not_row (by decide) hr2).symm)
      rw [ixs_snoc, HSn.out, List.length_append, List.map_append]
      have e2 : (.int .u32 (((cy : Int) + ((xs[k]?.getD 0 : Nat) + (ys[k]?.getD 0 : Nat))) % 4294967296) : Value) = u32c ((cy + (xs[k]?.getD 0 + ys[k]?.getD 0)) % 4294967296) := by
        unfold u32c
        congr 1
      rw [e2] at e
      exact e
    · have e := hcar3.set (.int .u64 (((cy : Int) + ((xs[k]?.getD 0 : Nat) + (ys[k]?.getD 0 : Nat))) / 4294967296))
      rw [ixs_snoc, HSn.out]
      have e2 : (.int .u64 (((cy : Int) + ((xs[k]?.getD 0 : Nat) + (ys[k]?.getD 0 : Nat))) / 4294967296) : Value) = .int .u64 (((cy + (xs[k]?.getD 0 + ys[k]?.getD 0)) / 4294967296 : Nat) : Int) := by
        congr 1
      rw [e2] at e
      exact e
  case done =>
    rintro D zs W hD hzs ⟨⟨⟨u, hu, hrow, _⟩, hcar, hbb⟩, hBl⟩ hK
    have hix : ixs zs = List.range n := hzs
    rw [hix, addP_range] at hrow hcar
    have hzl : zs.length = n := by
      have e := congrArg List.length hix
      rwa [ixs_len, List.length_range] at e
    rw [hzl] at hrow
    have hc1 := addK_carry HA.out.good HB.out.good n
    have hl1 := addK_len xs ys n
    have hvl : Hid (val ((addK xs ys n).1 ++ [(addK xs ys n).2]) = v) := by
      have e := addK_val xs ys n
      rw [List.take_of_length_le (by rw [HA.out.len]; exact Nat.le_refl _), List.take_of_length_le (by rw [HB.out.len]; exact hge), HV.out] at e
      show _ = _
      rw [val_snoc, hl1]
      exact e
    have hgd : Hid (Good ((addK xs ys n).1 ++ [(addK xs ys n).2])) := (addK_good xs ys n).append (Good.nil.cons (by omega))
    generalize hr : addK xs ys n = r at *
    obtain ⟨ts, cy⟩ := r
    clear hr hix hzs hzl
    dsimp only at hc1 hl1 hrow hcar hvl hgd
    have hcc := hcar.cell
    have huc := hu.cell
    have hBs := hBl.size
    have HRow := Lib.hid hrow
    have HBl := Lib.hid hBl
    have HKD := Lib.hid hK
    have hnew := Lib.hid (cell_one_new W (.int .u32 (cy : Int)) 47)
    clear hrow hBl hcar hbb
    gi_wp2_with (gi_at_builtin; refine wpListIn_append_own _ rfl _ _ 22 rfl w.heap.size 47 i0 (.int .u32 0) 1 4 slice_u32 hi0 hz0 hz1 hz2 rfl (by decide) _ _ _ rfl (HRow.out.alloc _) ⟨W.heap.size, 0, none⟩ 1 1 [.int .u32 (cy : Int)] rfl rfl hnew.out (by simp [Value.oneCell']) (by simp only [maxLen]; omega) (by omega) (by simp; omega) ?_; intro v' w1 hown' hgrow _)
    have hown2 : w1.ownsRow w.heap.size 47 1 v' (n + 1) ((ts ++ [cy]).map u32c) := by rw [List.map_append]; exact hown'
    obtain ⟨A', c', rfl, hL⟩ := Lm.own hown2 hgd.out
    have HL := Lib.hid hL
    have hK1 := Lib.hid (other_kept HRow.out hgrow HKD.out rfl)
    have hbf := Lib.hid (HBl.out.trans (((Below.refl w.heap.size W).alloc hBs _).grown hgrow (by simp; omega) (fun b e => (HRow.out.lt b e).1)))
    clear hL hown2 hown' hgrow
    refine (htrim _ _ _ _ _ _ v HL.out hvl.out).mono ?_
    rintro e w2 ⟨rfl, rfl⟩
    gi_wp2
    refine ⟨by simp, .inl ⟨_, _, rfl, run_takeDeferred hK1.out, ?_⟩⟩
    exact ⟨_, results_tmp rfl _ _ _, A', c', rfl, (HL.out.trim' hvl.out).putObj _ hK1.out rfl, hbf.out.trans (belowK_b (w := w) (Nat.le_refl _) _ D _ _ (by simp at hD; omega) hK1.out rfl rfl)⟩
  case stop =>
    rintro D c pre W _ _ h _
    exact h.elim


theorem sum_any (w : World) (A B : Option Addr) (n m ca cb : Nat) (xs ys : List Nat) (v : Nat) (hA : Lm w w.heap.size A n ca xs) (hB : Lm w w.heap.size B m cb ys) (hn : n ≤ 100000000) (hm : m ≤ 100000000) (hv : val xs + val ys = v) :
    Calls Try.prog 26 #[.slice A n ca, .slice B m cb] w fun e w' => ∃ A' c', e = .returned (.slice A' (digs v).length c') ∧ Lm w' w'.heap.size A' (digs v).length c' (digs v) ∧ Below w.heap.size w w' := by
  by_cases h : m ≤ n
  · exact (callsIn_wide (n := 8)).1 (sum_ge_in Fence.wide 8 trivial trivial trivial trivial trivial rfl (by omega) (fun W A m c xs i hL h0 h9 => callsIn_wide.2 (limb_any W A m c xs i hL h0 h9))
      (fun W B A m c xs v hL hv => callsIn_wide.2 (trim_any W B A m c xs v hL hv)) w A B n m ca cb xs ys v hA hB h hn hv)
  · exact (callsIn_wide (n := 8)).1 (sum_lt_in Fence.wide 8 trivial trivial trivial trivial trivial rfl (by omega) (fun W A m c xs i hL h0 h9 => callsIn_wide.2 (limb_any W A m c xs i hL h0 h9))
      (fun W B A m c xs v hL hv => callsIn_wide.2 (trim_any W B A m c xs v hL hv)) w B A m n cb ca ys xs v hB hA (by omega) hm (by rw [Nat.add_comm]; exact hv))

end Go.Proofs.Ytkajmglpmdhmnaa

/- wide.difference of two numbers, the second not the greater one, is the slice of the limbs of the difference, new and trimmed. -/
namespace Go.Proofs.Ytkajmglpmdhmnaa
open Go.RowKit Go.Shelf
attribute [local go_sem] Oper.semAt_some

theorem boxed_eq {W : World} {B : Nat} {t : TypeId} {v v' : Value} (h : Boxed W B t v) (e : v = v') : Boxed W B t v' := by subst e; exact h
theorem owns_eq {W : World} {base : Nat} {t : TypeId} {u : Value} {k : Nat} {us us' : List Value} (h : W.ownsRow base t 1 u k us) (e : us = us') : W.ownsRow base t 1 u k us' := by subst e; exact h

set_option maxRecDepth 100000 in
set_option maxHeartbeats 2000000 in
theorem diff_in (F : Fence) (q : Nat) (h3 : F.fn 27) (h5 : F.fn 43) (h7 : F.fn 55) (h8 : F.fn 56) (h9 : F.fn 38) (hro : F.round = none) (hq : 4 ≤ q)
    (hlimb : ∀ (W : World) (A : Option Addr) (m c : Nat) (xs : List Nat) (i : Int), Lm W W.heap.size A m c xs → 0 ≤ i → i ≤ 9223372036854775807 → CallsIn F (q - 1 - 1) Try.prog 56 #[.slice A m c, .int .i64 i] W fun e w' => e = .returned (.int .u64 (xs[i.toNat]?.getD 0 : Nat)) ∧ W = w')
    (htrim : ∀ (W : World) (B : Nat) (A : Option Addr) (m c : Nat) (xs : List Nat) (v : Nat), Lm W B A m c xs → val xs = v → CallsIn F (q - 1) Try.prog 38 #[.slice A m c] W fun e w' => e = .returned (.slice A (digs v).length c) ∧ W = w')
    (w : World) (A B : Option Addr) (n m ca cb : Nat) (xs ys : List Nat) (v : Nat) (hA : Lm w w.heap.size A n ca xs) (hB : Lm w w.heap.size B m cb ys) (hge : m ≤ n) (hn : n ≤ 100000000) (hle : val ys ≤ val xs) (hv : val xs - val ys = v) :
    CallsIn F q Try.prog 27 #[.slice A n ca, .slice B m cb] w fun e w' => ∃ A' c', e = .returned (.slice A' (digs v).length c') ∧ Lm w' w'.heap.size A' (digs v).length c' (digs v) ∧ Below w.heap.size w w' := by
  have h1 : 1 ≤ q := by omega
  obtain ⟨i0, hi0, hz0, hz1, hz2⟩ := info_parts u32_info
  have hca := hA.cap
  have hma := hA.max
  have hcb := hB.cap
  have hmb := hB.max
  have HA := Lib.hid hA
  have HB := Lib.hid hB
  have HV := Lib.hid hv
  clear hA hB hv
  have hmk := fun w => run_make0_u32 (n : Int) n rfl (by omega) w
  refine callsIn_of_wp_marks Try.func27 rfl h3 ?_ hro
  simp only [Try.ntmps27, List.size_toArray, List.length_cons, List.length_nil, Nat.reduceAdd, Nat.reduceSub, Array.replicate_succ, Array.replicate_zero, List.push_toArray, List.append_toArray, List.nil_append, List.cons_append]
  gi_wp2_with (gi_at_call 43; refine (col_in F (q - 1) h5 hro _ _ _ _ _ _ _).mono ?_; rintro e w' ⟨rfl, rfl⟩)
  clear hmk
  have r0 : (w.alloc (.cells ((zer n).map u32c).toArray 47)).ownsRow w.heap.size 47 1 (.slice (some ⟨w.heap.size, 0, none⟩) 0 n) 0 [] := World.ownsRow_made _ _ _ (Nat.le_refl _) (by simp only [maxLen]; omega) (by simp [zer])
  have bT := Boxed.new (w.alloc (.cells ((zer n).map u32c).toArray 47)) 22 (.slice (some ⟨w.heap.size, 0, none⟩) 0 n)
  have bC := Boxed.new ((w.alloc (.cells ((zer n).map u32c).toArray 47)).alloc (.cells #[.slice (some ⟨w.heap.size, 0, none⟩) 0 n] 22)) 55 (.int .u64 0)
  have bA := Boxed.new (((w.alloc (.cells ((zer n).map u32c).toArray 47)).alloc (.cells #[.slice (some ⟨w.heap.size, 0, none⟩) 0 n] 22)).alloc (.cells #[.int .u64 0] 55)) 22 (.slice A n ca)
  have bB := Boxed.new ((((w.alloc (.cells ((zer n).map u32c).toArray 47)).alloc (.cells #[.slice (some ⟨w.heap.size, 0, none⟩) 0 n] 22)).alloc (.cells #[.int .u64 0] 55)).alloc (.cells #[.slice A n ca] 22)) 22 (.slice B m cb)
  simp only [World.size_alloc] at bT bC bA bB
  have hB0 : Below w.heap.size w (((((w.alloc (.cells ((zer n).map u32c).toArray 47)).alloc (.cells #[.slice (some ⟨w.heap.size, 0, none⟩) 0 n] 22)).alloc (.cells #[.int .u64 0] 55)).alloc (.cells #[.slice A n ca] 22)).alloc (.cells #[.slice B m cb] 22)) := (((((Below.refl _ w).alloc (Nat.le_refl _) _).alloc (by simp) _).alloc (by simp; omega) _).alloc (by simp; omega) _).alloc (by simp; omega) _
  refine wpIn_rangeFunc_ownG hro h1 (gf := 55) (lb := #[.pointer (some ⟨w.heap.size + 1 + 1 + 1, 0, none⟩), .pointer (some ⟨w.heap.size + 1 + 1 + 1 + 1, 0, none⟩)]) rfl h7 (enters_of Try.func55 (by kernel_rfl) rfl)
    (col_stops F (q - 1) h7 h8 hro (by omega) hlimb (w.heap.size + 1 + 1 + 1) (w.heap.size + 1 + 1 + 1 + 1) w.heap.size A B n m ca cb xs ys _ (by simp) (by simp) (by simp; omega) ((bA.alloc _).cell) bB.cell (HA.out.below hB0) (HB.out.below hB0)) kpB_t (kpB_b (by simp; omega) (by simp)) (Below.refl _ _) (fun _ => rfl)
    (fun pre W => ((∃ u, Boxed W (w.heap.size + 1) 22 u ∧ W.ownsRow w.heap.size 47 1 u pre.length ((subP xs ys (ixs pre)).1.map u32c) ∧ True) ∧ Boxed W (w.heap.size + 1 + 1) 55 (.int .u64 ((subP xs ys (ixs pre)).2 : Nat)) ∧ Boxed W (w.heap.size + 1 + 1 + 1 + 1) 22 (.slice B m cb)) ∧ Below w.heap.size w W)
    (fun _ _ _ => False)
    (OwnFrom.and (OwnFrom.and (Own.from (holdsRow_own w.heap.size (w.heap.size + 1) 22 47 1 (fun pre : List (Idx n) => pre.length) (fun pre => (subP xs ys (ixs pre)).1.map u32c) (fun _ _ => True)) _) (OwnFrom.and (Own.from (boxed_own (w.heap.size + 1 + 1) 55 (fun pre : List (Idx n) => Value.int .u64 ((subP xs ys (ixs pre)).2 : Nat))) _) (Own.from (boxed_own (w.heap.size + 1 + 1 + 1 + 1) 22 (fun _ => .slice B m cb)) _))) (ownFrom_below (Nat.le_refl _) (by simp; omega)))
    (fun _ _ _ _ _ hs _ _ => hs)
    ⟨⟨⟨_, ((bT.alloc _).alloc _).alloc _, (((r0.alloc _).alloc _).alloc _).alloc _, trivial⟩, (bC.alloc _).alloc _, bB⟩, hB0⟩
    (fun x => { tmps := #[.slice A n ca, .slice B m cb, undef, undef, .slice none 0 0, .pointer (some ⟨w.heap.size + 1, 0, none⟩), .pointer (some ⟨w.heap.size + 1 + 1, 0, none⟩), .int .u64 (xs[x.1]?.getD 0 : Nat), .int .u64 (ys[x.1]?.getD 0 : Nat), undef, .slice A n ca, .int .i64 n, .slice (some ⟨w.heap.size, 0, none⟩) 0 n, .slice A n ca, .slice B m cb, .func (.func 55) #[] #[.pointer (some ⟨w.heap.size + 1 + 1 + 1, 0, none⟩), .pointer (some ⟨w.heap.size + 1 + 1 + 1 + 1, 0, none⟩)], .int .u64 (xs[x.1]?.getD 0 : Nat), .int .u64 (ys[x.1]?.getD 0 : Nat), undef, undef, undef, undef, undef, undef, undef, undef, undef, undef, undef, undef, undef, undef], defers := [] }) ?assign ?body ?done ?stop
  case assign =>
    intro l x W K hK
    gi_wp2
    exact hK
  case body =>
    rintro l pre ⟨k, hk⟩ W ⟨⟨⟨u, hu, hrow, _⟩, hcar, hbb⟩, hBl⟩ hlen
    have hc1 := subP_carry xs ys (ixs pre)
    have hl1 := subP_len xs ys (ixs pre)
    rw [ixs_len] at hl1
    have HSn := Lib.hid (subP_snoc xs ys (ixs pre) k)
    have hgx := HA.out.good.get k
    have hgy := HB.out.good.get k
    generalize hr : subP xs ys (ixs pre) = r at *
    obtain ⟨ts, cy⟩ := r
    have HR := Lib.hid hr
    clear hr
    dsimp only at hc1 hl1 hrow hcar HSn
    dsimp only
    have HX : Hid ((IntKind.u64.wrap (IntKind.u64.wrap (((xs[k]?.getD 0 : Nat) : Int) - ((ys[k]?.getD 0 : Nat) : Int)) - (cy : Int))) % 4294967296 = (((xs[k]?.getD 0 + 8589934592 - ys[k]?.getD 0 - cy) % 4294967296 : Nat) : Int)) := by show _ = _; rw [IntKind.wrap_u64, IntKind.wrap_u64]; omega
    have HN : Hid ((IntKind.u64.wrap (IntKind.u64.wrap (((xs[k]?.getD 0 : Nat) : Int) - ((ys[k]?.getD 0 : Nat) : Int)) - (cy : Int))) / 9223372036854775808 = ((if xs[k]?.getD 0 < ys[k]?.getD 0 + cy then 1 else 0 : Nat) : Int)) := by show _ = _; rw [IntKind.wrap_u64, IntKind.wrap_u64]; split <;> omega
    have HNew := Lib.hid (cell_one_new W (.int .u32 ((IntKind.u64.wrap (IntKind.u64.wrap (((xs[k]?.getD 0 : Nat) : Int) - ((ys[k]?.getD 0 : Nat) : Int)) - (cy : Int))) % 4294967296)) 47)
    have HRow := Lib.hid hrow
    have HU := Lib.hid hu
    have HC := Lib.hid hcar
    have HBB0 := Lib.hid hbb
    have hcc := hcar.cell
    have hcf := hcar.frozen
    have huc := hu.cell
    have hBs := hBl.size
    have HBl := Lib.hid hBl
    have HL1 := Lib.hid hl1
    clear hrow hbb hBl hu hcar
    gi_wp2_with (gi_at_builtin; refine wpListIn_append_own _ rfl _ _ 22 rfl w.heap.size 47 i0 (.int .u32 0) 1 4 slice_u32 hi0 hz0 hz1 hz2 rfl (by decide) _ _ _ rfl (HRow.out.alloc _) ⟨W.heap.size, 0, none⟩ 1 1 [.int .u32 ((IntKind.u64.wrap (IntKind.u64.wrap (((xs[k]?.getD 0 : Nat) : Int) - ((ys[k]?.getD 0 : Nat) : Int)) - (cy : Int))) % 4294967296)] rfl rfl HNew.out (by simp [Value.oneCell']) (by simp only [maxLen]; omega) (by omega) (by simp; omega) ?_; intro v' w1 hown' hgrow _; obtain ⟨g', cap', rfl⟩ := ownsRow_succ hown'; obtain ⟨hv1, hv2, hr2, hk2, hb2⟩ := HU.out.appended (by decide) HRow.out hBs (Nat.le_succ _) hown' hgrow; have hcar2 := (HC.out.alloc _).kept hgrow (HC.out.not_row (by decide) HRow.out); have hbb2 := (HBB0.out.alloc _).kept hgrow (HBB0.out.not_row (by decide) HRow.out); have hc1' := hv1.cell; have hf1 := hv1.frozen; have hcc2 := hcar2.cell; have hcf2 := hcar2.frozen)
    have hcar3 := hcar2.other (B' := w.heap.size + 1) (by omega) (.slice (some ⟨g', 0, none⟩) (pre.length + 1) cap')
    have hbb3 := (hbb2.other (B' := w.heap.size + 1) (by omega) (.slice (some ⟨g', 0, none⟩) (pre.length + 1) cap')).other (B' := w.heap.size + 1 + 1) (by omega) (.int .u64 ((IntKind.u64.wrap (IntKind.u64.wrap (((xs[k]?.getD 0 : Nat) : Int) - ((ys[k]?.getD 0 : Nat) : Int)) - (cy : Int))) / 9223372036854775808))
    have hbf := hb2.setCell (p := ⟨w.heap.size + 1 + 1, 0, none⟩) (by simp; omega) (.int .u64 ((IntKind.u64.wrap (IntKind.u64.wrap (((xs[k]?.getD 0 : Nat) : Int) - ((ys[k]?.getD 0 : Nat) : Int)) - (cy : Int))) / 9223372036854775808))
    refine ⟨(hk2.trans (KeepsOthers.setCell _ _ _)).from _, ⟨hbf, hbb3.cell.trans HBB0.out.cell.symm⟩, ⟨⟨⟨_, hv2.other (by omega) _, ?_⟩, ?_, hbb3⟩, HBl.out.trans hbf⟩⟩
    · have e := hr2.kept (grownBy_setCell' _ (w.heap.size + 1 + 1) (.int .u64 ((IntKind.u64.wrap (IntKind.u64.wrap (((xs[k]?.getD 0 : Nat) : Int) - ((ys[k]?.getD 0 : Nat) : Int)) - (cy : Int))) / 9223372036854775808))) (.inr (hcar3.not_row (by decide) hr2).symm)
      rw [ixs_snoc, HSn.out, List.length_append, List.map_append]
      have e2 : (.int .u32 ((IntKind.u64.wrap (IntKind.u64.wrap (((xs[k]?.getD 0 : Nat) : Int) - ((ys[k]?.getD 0 : Nat) : Int)) - (cy : Int))) % 4294967296) : Value) = u32c ((xs[k]?.getD 0 + 8589934592 - ys[k]?.getD 0 - cy) % 4294967296) := congrArg (Value.int IntKind.u32) HX.out
      exact ⟨owns_eq e (congrArg (fun y => ts.map u32c ++ [y]) e2), trivial⟩
    · have e := hcar3.set (.int .u64 ((IntKind.u64.wrap (IntKind.u64.wrap (((xs[k]?.getD 0 : Nat) : Int) - ((ys[k]?.getD 0 : Nat) : Int)) - (cy : Int))) / 9223372036854775808))
      rw [ixs_snoc, HSn.out]
      have e2 : (.int .u64 ((IntKind.u64.wrap (IntKind.u64.wrap (((xs[k]?.getD 0 : Nat) : Int) - ((ys[k]?.getD 0 : Nat) : Int)) - (cy : Int))) / 9223372036854775808) : Value) = .int .u64 ((if xs[k]?.getD 0 < ys[k]?.getD 0 + cy then 1 else 0 : Nat) : Int) := congrArg (Value.int IntKind.u64) HN.out
      exact boxed_eq e e2
  case done =>
    rintro D zs W hD hzs ⟨⟨⟨u, hu, hrow, _⟩, hcar, hbb⟩, hBl⟩ hK
    have hix : ixs zs = List.range n := hzs
    rw [hix, subP_range] at hrow hcar
    have hzl : zs.length = n := by
      have e := congrArg List.length hix
      rwa [ixs_len, List.length_range] at e
    rw [hzl] at hrow
    have hvl : Hid (val (subK xs ys n).1 = v) := by
      have e := subK_val HA.out.good HB.out.good n
      have hc1 := subK_carry xs ys n
      have hlt := val_lt (subK_good xs ys n)
      rw [subK_len] at hlt
      rw [List.take_of_length_le (by rw [HB.out.len]; exact hge), List.take_of_length_le (by rw [HA.out.len]; exact Nat.le_refl _)] at e
      have hv := HV.out
      show _ = _
      rcases Nat.eq_zero_or_pos (subK xs ys n).2 with h0 | h0
      · rw [h0, Nat.mul_zero] at e
        omega
      · have h2 : (subK xs ys n).2 = 1 := by omega
        rw [h2, Nat.mul_one] at e
        omega
    have hgd : Hid (Good (subK xs ys n).1) := subK_good xs ys n
    have huc := hu.cell
    have HBl := Lib.hid hBl
    have HKD := Lib.hid hK
    obtain ⟨A', c', rfl, hL⟩ := Lm.own hrow hgd.out
    have HL := Lib.hid hL
    clear hrow hBl hcar hbb hL hu
    gi_wp2_with (gi_at_call 38; refine (htrim _ _ _ _ _ _ v HL.out hvl.out).mono ?_; rintro e w2 ⟨rfl, rfl⟩)
    refine ⟨by simp, .inl ⟨_, _, rfl, run_takeDeferred HKD.out, ?_⟩⟩
    exact ⟨_, results_tmp rfl _ _ _, A', c', rfl, (HL.out.trim' hvl.out).putObj _ HKD.out rfl, HBl.out.trans (belowK_b (w := w) (Nat.le_refl _) _ D _ _ (by simp at hD; omega) HKD.out rfl rfl)⟩
  case stop =>
    rintro D c pre W _ _ h _
    exact h.elim

theorem difference_any (w : World) (A B : Option Addr) (n m ca cb : Nat) (xs ys : List Nat) (v : Nat) (hA : Lm w w.heap.size A n ca xs) (hB : Lm w w.heap.size B m cb ys) (hge : m ≤ n) (hn : n ≤ 100000000) (hle : val ys ≤ val xs) (hv : val xs - val ys = v) :
    Calls Try.prog 27 #[.slice A n ca, .slice B m cb] w fun e w' => ∃ A' c', e = .returned (.slice A' (digs v).length c') ∧ Lm w' w'.heap.size A' (digs v).length c' (digs v) ∧ Below w.heap.size w w' :=
  (callsIn_wide (n := 8)).1 (diff_in Fence.wide 8 trivial trivial trivial trivial trivial rfl (by omega) (fun W A m c xs i hL h0 h9 => callsIn_wide.2 (limb_any W A m c xs i hL h0 h9))
    (fun W B A m c xs v hL hv => callsIn_wide.2 (trim_any W B A m c xs v hL hv)) w A B n m ca cb xs ys v hA hB hge hn hle hv)

end Go.Proofs.Ytkajmglpmdhmnaa

/- wide.join: the three ways through it, and its errors. -/
namespace Go.Proofs.Ytkajmglpmdhmnaa
open Go.RowKit

theorem digs_mono {a b : Nat} (h : a ≤ b) : (digs a).length ≤ (digs b).length := digs_len.2 (Nat.lt_of_le_of_lt h (digs_len.1 (Nat.le_refl _)))

set_option maxRecDepth 100000 in
set_option maxHeartbeats 600000 in
theorem join_bad (w : World) (F : Value) (na nb : Bool) (A B : Option Addr) (n m ca cb : Nat) (xs ys : List Nat) (hA : Lm w w.heap.size A n ca xs) (hB : Lm w w.heap.size B m cb ys) (hv : chkB na xs nb ys = 8) :
    Calls Try.prog 15 #[.agg #[.bool na, .slice A n ca], .agg #[.bool nb, .slice B m cb], F] w (RW w false [] 8) := by
  have HA := Lib.hid hA
  have HB := Lib.hid hB
  have HV := Lib.hid hv
  clear hv
  go_enter Try.func15, Try.ntmps15
  go_wp2_with (go_at_call 20; refine (both_any _ _ _ _ _ _ _ _ _ _ _ 8 (((HA.out.box _).box _).box _) (((HB.out.box _).box _).box _) HV.out).mono ?_; rintro e w1 ⟨rfl, hb1⟩; have ⟨hx0, hx1, hy0, hy1, hz0, hz1, hf0, hf1, hsz⟩ := box3 hb1)
  exact post_ws Try.results15 rfl rfl hz0 hz1 ⟨none, 0, 0, rfl, Lm.nil _ _, below_set2 (bbox (bbox (bbox hb1))) (by omega) _ _⟩

set_option maxRecDepth 100000 in
set_option maxHeartbeats 600000 in
theorem join_grow (w : World) (K : FuncId) (na nb : Bool) (A B : Option Addr) (n m ca cb a b : Nat) (hA : Lm w w.heap.size A n ca (digs a)) (hB : Lm w w.heap.size B m cb (digs b)) (hv : chkB na (digs a) nb (digs b) = 0)
    (hR : ∀ w, Sem.run Try.prog (callFunc K #[.bool na, .bool nb]) w = .ok (.enter K #[.bool na, .bool nb]) w) (hK : ∀ w, Calls Try.prog K #[.bool na, .bool nb] w fun e w' => e = .returned (.bool true) ∧ w = w') :
    Calls Try.prog 15 #[.agg #[.bool na, .slice A n ca], .agg #[.bool nb, .slice B m cb], .func (.func K) #[.bool na] #[]] w (RW w (mkN na (a + b)) (mkL (a + b)) (mkE (a + b))) := by
  have h41 := (chk_ok.1 (chkB_ok.1 hv).1).1
  have h42 := (chk_ok.1 (chkB_ok.1 hv).2).1
  rw [hA.len] at h41
  rw [hB.len] at h42
  have HA := Lib.hid hA
  have HB := Lib.hid hB
  have HV := Lib.hid hv
  have HP : Hid (val (digs a) + val (digs b) = a + b) := by show _ = _; rw [digs_val, digs_val]
  clear hv
  go_enter Try.func15, Try.ntmps15
  go_wp2_with ((go_at_call 20; refine (both_any _ _ _ _ _ _ _ _ _ _ _ 0 (((HA.out.box _).box _).box _) (((HB.out.box _).box _).box _) HV.out).mono ?_; rintro e w1 ⟨rfl, hb1⟩; have ⟨hx0, hx1, hy0, hy1, hz0, hz1, hf0, hf1, hsz⟩ := box3 hb1))

  refine (hK _).mono ?_
  rintro e w1' ⟨rfl, rfl⟩
  go_wp2
  have HA1 := Lib.hid ((((HA.out.box _).box _).box _).via hb1)
  have HB1 := Lib.hid ((((HB.out.box _).box _).box _).via hb1)
  have hs0 : w.heap.size < w1.heap.size := by omega
  have hs1 : w.heap.size + 1 < w1.heap.size := by omega
  go_region_held3 (fun w' => (w'.cell? ⟨w.heap.size, 0, none⟩ = some (.bool na) ∧ w'.cell? ⟨w.heap.size, 1, none⟩ = some (.slice A n ca)) ∧ (w'.cell? ⟨w.heap.size + 1, 0, none⟩ = some (.bool nb) ∧ w'.cell? ⟨w.heap.size + 1, 1, none⟩ = some (.slice B m cb)))
    (first | exact ⟨⟨hx0, hx1⟩, ⟨hy0, hy1⟩⟩ | exact ⟨hk2, hl2⟩ | exact ⟨hk3, hl3⟩ | exact ⟨far2 _ _ (by omega) hk3, far2 _ _ (by omega) hl3⟩ | go_keep)
    (first
     | (go_at_call 26; refine (sum_any _ _ _ _ _ _ _ (digs a) (digs b) (a + b) (by first | exact HA1.out | exact HA1.out.drew) (by first | exact HB1.out | exact HB1.out.drew) (by omega) (by omega) HP.out).mono ?_; rintro e w2 ⟨A2, c2, rfl, hL2, hb2⟩; have B2 := ((Below.refl w1.heap.size w1).drew.trans hb2); have hk2 := keep2 B2 hs0 ⟨hx0, hx1⟩; have hl2 := keep2 B2 hs1 ⟨hy0, hy1⟩; have hz2 := keep2 B2 hsz ⟨hz0, hz1⟩; have hzf2 := keepF B2 hsz ⟨hf0, hf1⟩; have ht0 := Nat.lt_of_lt_of_le hs0 B2.size; have ht1 := Nat.lt_of_lt_of_le hs1 B2.size; have ht2 := Nat.lt_of_lt_of_le hsz B2.size)
     | (go_at_call 21; refine (made_any _ _ _ _ _ (a + b) hL2).mono ?_; rintro e w3 ⟨A3, n3, c3, rfl, hL3, hb3⟩; have hk3 := keep2 hb3 ht0 hk2; have hl3 := keep2 hb3 ht1 hl2; have hz3 := keep2 hb3 ht2 hz2; have ⟨hzf30, hzf31⟩ := keepF hb3 ht2 hzf2))
  go_wp2
  exact post_ws Try.results15 rfl rfl hz3.1 hz3.2 ⟨A3, n3, c3, rfl, hL3.set2 hz3.1 hz3.2 _ _,
    below_set2 (((bbox (bbox (bbox hb1))).trans (B2.mono (by omega))).trans (hb3.mono (by omega))) (by omega) _ _⟩
set_option maxRecDepth 100000 in
set_option maxHeartbeats 600000 in
theorem join_less (w : World) (K : FuncId) (na nb : Bool) (A B : Option Addr) (n m ca cb a b : Nat) (hA : Lm w w.heap.size A n ca (digs a)) (hB : Lm w w.heap.size B m cb (digs b)) (hv : chkB na (digs a) nb (digs b) = 0) (hlt : a < b)
    (hR : ∀ w, Sem.run Try.prog (callFunc K #[.bool na, .bool nb]) w = .ok (.enter K #[.bool na, .bool nb]) w) (hK : ∀ w, Calls Try.prog K #[.bool na, .bool nb] w fun e w' => e = .returned (.bool false) ∧ w = w') :
    Calls Try.prog 15 #[.agg #[.bool na, .slice A n ca], .agg #[.bool nb, .slice B m cb], .func (.func K) #[.bool na] #[]] w (RW w (mkN (!na) (b - a)) (mkL (b - a)) (mkE (b - a))) := by
  have h41 := (chk_ok.1 (chkB_ok.1 hv).1).1
  have h42 := (chk_ok.1 (chkB_ok.1 hv).2).1
  rw [hA.len] at h41
  rw [hB.len] at h42
  have HA := Lib.hid hA
  have HB := Lib.hid hB
  have HV := Lib.hid hv
  have HP : Hid (val (digs b) - val (digs a) = b - a) := by show _ = _; rw [digs_val, digs_val]
  have HQ : Hid (val (digs a) ≤ val (digs b)) := by show _ ≤ _; rw [digs_val, digs_val]; omega
  have HLn : Hid (n ≤ m) := by show _ ≤ _; rw [← hA.len, ← hB.len]; exact digs_mono (by omega)
  clear hv
  have HC : Hid (cmpL (digs a) (digs b) = -1) := by show _ = _; rw [cmpL_norm (digs_good _) (digs_good _) (digs_norm _) (digs_norm _), digs_val, digs_val]; exact cmpN_lt hlt
  go_enter Try.func15, Try.ntmps15
  go_wp2_with ((go_at_call 20; refine (both_any _ _ _ _ _ _ _ _ _ _ _ 0 (((HA.out.box _).box _).box _) (((HB.out.box _).box _).box _) HV.out).mono ?_; rintro e w1 ⟨rfl, hb1⟩; have ⟨hx0, hx1, hy0, hy1, hz0, hz1, hf0, hf1, hsz⟩ := box3 hb1))

  refine (hK _).mono ?_
  rintro e w1' ⟨rfl, rfl⟩
  have HA0 := Lib.hid ((((HA.out.box _).box _).box _).via hb1)
  have HB0 := Lib.hid ((((HB.out.box _).box _).box _).via hb1)
  have HB1b := Lib.hid hb1
  clear hb1 hz0 hz1 hf0 hf1 hsz
  go_wp2_with (go_at_call 31; refine (compare_any _ _ _ _ _ _ (digs a) (digs b) _ HA0.out HB0.out).mono ?_; rintro e wc ⟨he, hbc⟩; rw [HC.out] at he; subst he; have hb2 := HB1b.out.trans (hbc.mono HB1b.out.size); clear hx0 hx1 hy0 hy1; have ⟨hx0, hx1, hy0, hy1, hz0, hz1, hf0, hf1, hsz⟩ := box3 hb2)
  have HA1 := Lib.hid ((((HA.out.box _).box _).box _).via hb2)
  have HB1 := Lib.hid ((((HB.out.box _).box _).box _).via hb2)
  have hs0 : w.heap.size < wc.heap.size := by omega
  have hs1 : w.heap.size + 1 < wc.heap.size := by omega
  go_region_held3 (fun w' => (w'.cell? ⟨w.heap.size, 0, none⟩ = some (.bool na) ∧ w'.cell? ⟨w.heap.size, 1, none⟩ = some (.slice A n ca)) ∧ (w'.cell? ⟨w.heap.size + 1, 0, none⟩ = some (.bool nb) ∧ w'.cell? ⟨w.heap.size + 1, 1, none⟩ = some (.slice B m cb)))
    (first | exact ⟨⟨hx0, hx1⟩, ⟨hy0, hy1⟩⟩ | exact ⟨hk2, hl2⟩ | exact ⟨hk3, hl3⟩ | exact ⟨far2 _ _ (by omega) hk3, far2 _ _ (by omega) hl3⟩ | go_keep)
    (first
     | (go_at_call 27; refine (difference_any _ _ _ _ _ _ _ (digs b) (digs a) (b - a) (by first | exact HB1.out | exact HB1.out.drew) (by first | exact HA1.out | exact HA1.out.drew) HLn.out (by omega) HQ.out HP.out).mono ?_; rintro e w2 ⟨A2, c2, rfl, hL2, hb3'⟩; have B2 := ((Below.refl wc.heap.size wc).drew.trans hb3'); have hk2 := keep2 B2 hs0 ⟨hx0, hx1⟩; have hl2 := keep2 B2 hs1 ⟨hy0, hy1⟩; have hz2 := keep2 B2 hsz ⟨hz0, hz1⟩; have hzf2 := keepF B2 hsz ⟨hf0, hf1⟩; have ht0 := Nat.lt_of_lt_of_le hs0 B2.size; have ht1 := Nat.lt_of_lt_of_le hs1 B2.size; have ht2 := Nat.lt_of_lt_of_le hsz B2.size)
     | (go_at_call 21; refine (made_any _ _ _ _ _ (b - a) hL2).mono ?_; rintro e w3 ⟨A3, n3, c3, rfl, hL3, hb3⟩; have hk3 := keep2 hb3 ht0 hk2; have hl3 := keep2 hb3 ht1 hl2; have hz3 := keep2 hb3 ht2 hz2; have ⟨hzf30, hzf31⟩ := keepF hb3 ht2 hzf2))
  go_wp2
  exact post_ws Try.results15 rfl rfl hz3.1 hz3.2 ⟨A3, n3, c3, rfl, hL3.set2 hz3.1 hz3.2 _ _,
    below_set2 (((bbox (bbox (bbox hb2))).trans (B2.mono (by omega))).trans (hb3.mono (by omega))) (by omega) _ _⟩
set_option maxRecDepth 100000 in
set_option maxHeartbeats 600000 in
theorem join_more (w : World) (K : FuncId) (na nb : Bool) (A B : Option Addr) (n m ca cb a b : Nat) (hA : Lm w w.heap.size A n ca (digs a)) (hB : Lm w w.heap.size B m cb (digs b)) (hv : chkB na (digs a) nb (digs b) = 0) (hlt : b ≤ a)
    (hR : ∀ w, Sem.run Try.prog (callFunc K #[.bool na, .bool nb]) w = .ok (.enter K #[.bool na, .bool nb]) w) (hK : ∀ w, Calls Try.prog K #[.bool na, .bool nb] w fun e w' => e = .returned (.bool false) ∧ w = w') :
    Calls Try.prog 15 #[.agg #[.bool na, .slice A n ca], .agg #[.bool nb, .slice B m cb], .func (.func K) #[.bool na] #[]] w (RW w (mkN na (a - b)) (mkL (a - b)) (mkE (a - b))) := by
  have h41 := (chk_ok.1 (chkB_ok.1 hv).1).1
  have h42 := (chk_ok.1 (chkB_ok.1 hv).2).1
  rw [hA.len] at h41
  rw [hB.len] at h42
  have HA := Lib.hid hA
  have HB := Lib.hid hB
  have HV := Lib.hid hv
  have HP : Hid (val (digs a) - val (digs b) = a - b) := by show _ = _; rw [digs_val, digs_val]
  have HQ : Hid (val (digs b) ≤ val (digs a)) := by show _ ≤ _; rw [digs_val, digs_val]; omega
  have HLn : Hid (m ≤ n) := by show _ ≤ _; rw [← hA.len, ← hB.len]; exact digs_mono (by omega)
  clear hv
  obtain ⟨z, hz, HC⟩ : ∃ z : Int, decide (z < 0) = false ∧ Hid (cmpL (digs a) (digs b) = z) := ⟨_, by rw [cmpL_norm (digs_good _) (digs_good _) (digs_norm _) (digs_norm _), digs_val, digs_val]; unfold cmpN; rw [if_neg (by omega)]; split <;> decide, rfl⟩
  go_enter Try.func15, Try.ntmps15
  go_wp2_with ((go_at_call 20; refine (both_any _ _ _ _ _ _ _ _ _ _ _ 0 (((HA.out.box _).box _).box _) (((HB.out.box _).box _).box _) HV.out).mono ?_; rintro e w1 ⟨rfl, hb1⟩; have ⟨hx0, hx1, hy0, hy1, hz0, hz1, hf0, hf1, hsz⟩ := box3 hb1))

  refine (hK _).mono ?_
  rintro e w1' ⟨rfl, rfl⟩
  have HA0 := Lib.hid ((((HA.out.box _).box _).box _).via hb1)
  have HB0 := Lib.hid ((((HB.out.box _).box _).box _).via hb1)
  have HB1b := Lib.hid hb1
  clear hb1 hz0 hz1 hf0 hf1 hsz
  go_wp2_with (go_at_call 31; refine (compare_any _ _ _ _ _ _ (digs a) (digs b) _ HA0.out HB0.out).mono ?_; rintro e wc ⟨he, hbc⟩; rw [HC.out] at he; subst he; have hb2 := HB1b.out.trans (hbc.mono HB1b.out.size); clear hx0 hx1 hy0 hy1; have ⟨hx0, hx1, hy0, hy1, hz0, hz1, hf0, hf1, hsz⟩ := box3 hb2)
  have HA1 := Lib.hid ((((HA.out.box _).box _).box _).via hb2)
  have HB1 := Lib.hid ((((HB.out.box _).box _).box _).via hb2)
  have hs0 : w.heap.size < wc.heap.size := by omega
  have hs1 : w.heap.size + 1 < wc.heap.size := by omega
  go_region_held3 (fun w' => (w'.cell? ⟨w.heap.size, 0, none⟩ = some (.bool na) ∧ w'.cell? ⟨w.heap.size, 1, none⟩ = some (.slice A n ca)) ∧ (w'.cell? ⟨w.heap.size + 1, 0, none⟩ = some (.bool nb) ∧ w'.cell? ⟨w.heap.size + 1, 1, none⟩ = some (.slice B m cb)))
    (first | exact ⟨⟨hx0, hx1⟩, ⟨hy0, hy1⟩⟩ | exact ⟨hk2, hl2⟩ | exact ⟨hk3, hl3⟩ | exact ⟨far2 _ _ (by omega) hk3, far2 _ _ (by omega) hl3⟩ | go_keep)
    (first
     | (go_at_call 27; refine (difference_any _ _ _ _ _ _ _ (digs a) (digs b) (a - b) (by first | exact HA1.out | exact HA1.out.drew) (by first | exact HB1.out | exact HB1.out.drew) HLn.out (by omega) HQ.out HP.out).mono ?_; rintro e w2 ⟨A2, c2, rfl, hL2, hb3'⟩; have B2 := ((Below.refl wc.heap.size wc).drew.trans hb3'); have hk2 := keep2 B2 hs0 ⟨hx0, hx1⟩; have hl2 := keep2 B2 hs1 ⟨hy0, hy1⟩; have hz2 := keep2 B2 hsz ⟨hz0, hz1⟩; have hzf2 := keepF B2 hsz ⟨hf0, hf1⟩; have ht0 := Nat.lt_of_lt_of_le hs0 B2.size; have ht1 := Nat.lt_of_lt_of_le hs1 B2.size; have ht2 := Nat.lt_of_lt_of_le hsz B2.size)
     | (go_at_call 21; refine (made_any _ _ _ _ _ (a - b) hL2).mono ?_; rintro e w3 ⟨A3, n3, c3, rfl, hL3, hb3⟩; have hk3 := keep2 hb3 ht0 hk2; have hl3 := keep2 hb3 ht1 hl2; have hz3 := keep2 hb3 ht2 hz2; have ⟨hzf30, hzf31⟩ := keepF hb3 ht2 hzf2))
  go_wp2
  exact post_ws Try.results15 rfl rfl hz3.1 hz3.2 ⟨A3, n3, c3, rfl, hL3.set2 hz3.1 hz3.2 _ _,
    below_set2 (((bbox (bbox (bbox hb2))).trans (B2.mono (by omega))).trans (hb3.mono (by omega))) (by omega) _ _⟩
end Go.Proofs.Ytkajmglpmdhmnaa

/- wide.Add and wide.Sub: the contracts. -/
namespace Go.Proofs.Ytkajmglpmdhmnaa
open Go.RowKit

def RZ (w : World) (z : Int) : Ending → World → Prop := RW w (mkN (decide (z < 0)) z.natAbs) (mkL z.natAbs) (mkE z.natAbs)
theorem toI_abs (neg : Bool) (v : Nat) : (toI neg v).natAbs = v := by unfold toI; cases neg <;> simp
theorem toI_neg (neg : Bool) (v : Nat) : mkN (decide (toI neg v < 0)) v = mkN neg v := by
  have h : (decide (toI neg v < 0) && decide (v ≠ 0)) = (neg && decide (v ≠ 0)) := by
    unfold toI
    cases neg
    · rw [if_neg (by simp), decide_eq_false (by omega)]
    · rw [if_pos rfl]
      rcases Nat.eq_zero_or_pos v with h | h
      · subst h; rfl
      · rw [decide_eq_true (show -(v : Int) < 0 by omega)]
  unfold mkN
  rw [h]
theorem rz_of (w : World) (neg : Bool) (v : Nat) {z : Int} (h : z = toI neg v) : RW w (mkN neg v) (mkL v) (mkE v) = RZ w z := by
  subst h
  unfold RZ
  rw [toI_abs, toI_neg]
theorem toI_same {na nb : Bool} (h : na = nb) (a b : Nat) : toI na a + toI nb b = toI na (a + b) := by subst h; unfold toI; cases na <;> simp <;> omega
theorem toI_less {na nb : Bool} (h : na ≠ nb) {a b : Nat} (hl : a < b) : toI na a + toI nb b = toI (!na) (b - a) := by unfold toI; cases na <;> cases nb <;> simp_all <;> omega
theorem toI_more {na nb : Bool} (h : na ≠ nb) {a b : Nat} (hl : b ≤ a) : toI na a + toI nb b = toI na (a - b) := by unfold toI; cases na <;> cases nb <;> simp_all <;> omega
theorem toI_not (nb : Bool) (b : Nat) : toI (!nb) b = - toI nb b := by unfold toI; cases nb <;> simp
theorem toI_mul (na nb : Bool) (a b : Nat) : toI na a * toI nb b = toI (na != nb) (a * b) := by unfold toI; cases na <;> cases nb <;> simp [Int.mul_neg, Int.neg_mul]

theorem same_any (s o : Bool) (w : World) : Calls Try.prog 16 #[.bool s, .bool o] w fun e w' => e = .returned (.bool (s == o)) ∧ w = w' := by
  go_enter Try.func16, Try.ntmps16
  go_wp2
  go_ret
  exact ⟨rfl, rfl⟩
theorem differs_any (s o : Bool) (w : World) : Calls Try.prog 19 #[.bool s, .bool o] w fun e w' => e = .returned (.bool (s != o)) ∧ w = w' := by
  -- only beside 8
  go_enter Try.func19, Try.ntmps19
  go_wp2
  go_ret
  exact ⟨rfl, rfl⟩

theorem join_ok (w : World) (K : FuncId) (na nb g : Bool) (A B : Option Addr) (n m ca cb a b : Nat) (z : Int) (hA : Lm w w.heap.size A n ca (digs a)) (hB : Lm w w.heap.size B m cb (digs b)) (hv : chkB na (digs a) nb (digs b) = 0)
    (hR : ∀ w, Sem.run Try.prog (callFunc K #[.bool na, .bool nb]) w = .ok (.enter K #[.bool na, .bool nb]) w) (hK : ∀ w, Calls Try.prog K #[.bool na, .bool nb] w fun e w' => e = .returned (.bool g) ∧ w = w')
    (hz : z = toI na a + toI (if g = true then na else !na) b) :
    Calls Try.prog 15 #[.agg #[.bool na, .slice A n ca], .agg #[.bool nb, .slice B m cb], .func (.func K) #[.bool na] #[]] w (RZ w z) := by
  cases g
  · by_cases hl : a < b
    · rw [← rz_of w (!na) (b - a) (by rw [hz, toI_less (by cases na <;> simp) hl])]
      exact join_less w K na nb A B n m ca cb a b hA hB hv hl hR hK
    · rw [← rz_of w na (a - b) (by rw [hz, toI_more (by cases na <;> simp) (by omega)])]
      exact join_more w K na nb A B n m ca cb a b hA hB hv (by omega) hR hK
  · rw [← rz_of w na (a + b) (by rw [hz, toI_same (by simp)])]
    exact join_grow w K na nb A B n m ca cb a b hA hB hv hR hK

set_option maxRecDepth 100000 in
set_option maxHeartbeats 600000 in
theorem add_ok (w : World) (na nb : Bool) (A B : Option Addr) (n m ca cb a b : Nat) (hA : Lm w w.heap.size A n ca (digs a)) (hB : Lm w w.heap.size B m cb (digs b)) (hv : chkB na (digs a) nb (digs b) = 0) :
    Calls Try.prog 6 #[.agg #[.bool na, .slice A n ca], .agg #[.bool nb, .slice B m cb]] w (RZ w (toI na a + toI nb b)) := by
  have hmf : ∀ (fn : Fn) (first cap : Array Value) (w : World), (Instr.makeFunc fn first cap).run Try.prog w = .ok (.func fn first cap) w := fun _ _ _ _ => rfl
  have HA := Lib.hid hA
  have HB := Lib.hid hB
  have HV := Lib.hid hv
  clear hv
  go_enter Try.func6, Try.ntmps6
  go_wp2_with (go_at_call 15; refine (join_ok _ 16 na nb (na == nb) _ _ _ _ _ _ a b (toI na a + toI nb b) (((HA.out.box _).box _).box _) (((HB.out.box _).box _).box _) HV.out (fun _ => by kernel_rfl) (same_any na nb) (by cases na <;> cases nb <;> rfl)).mono ?_; rintro e w1 ⟨A1, n1, c1, rfl, hL1, hb1⟩; have ⟨hx0, hx1, hy0, hy1, hz0, hz1, hf0, hf1, hsz⟩ := box3 hb1)
  exact post_ws Try.results6 rfl rfl hz0 hz1 ⟨A1, n1, c1, rfl, hL1.set2 hz0 hz1 _ _, below_set2 (bbox (bbox (bbox hb1))) (by omega) _ _⟩

set_option maxRecDepth 100000 in
set_option maxHeartbeats 600000 in
theorem add_bad (w : World) (na nb : Bool) (A B : Option Addr) (n m ca cb : Nat) (xs ys : List Nat) (hA : Lm w w.heap.size A n ca xs) (hB : Lm w w.heap.size B m cb ys) (hv : chkB na xs nb ys = 8) :
    Calls Try.prog 6 #[.agg #[.bool na, .slice A n ca], .agg #[.bool nb, .slice B m cb]] w (RW w false [] 8) := by
  have hmf : ∀ (fn : Fn) (first cap : Array Value) (w : World), (Instr.makeFunc fn first cap).run Try.prog w = .ok (.func fn first cap) w := fun _ _ _ _ => rfl
  have HA := Lib.hid hA
  have HB := Lib.hid hB
  have HV := Lib.hid hv
  clear hv
  go_enter Try.func6, Try.ntmps6
  go_wp2_with (go_at_call 15; refine (join_bad _ _ na nb _ _ _ _ _ _ _ _ (((HA.out.box _).box _).box _) (((HB.out.box _).box _).box _) HV.out).mono ?_; rintro e w1 ⟨A1, n1, c1, rfl, hL1, hb1⟩; have ⟨hx0, hx1, hy0, hy1, hz0, hz1, hf0, hf1, hsz⟩ := box3 hb1)
  exact post_ws Try.results6 rfl rfl hz0 hz1 ⟨A1, n1, c1, rfl, hL1.set2 hz0 hz1 _ _, below_set2 (bbox (bbox (bbox hb1))) (by omega) _ _⟩

set_option maxRecDepth 100000 in
set_option maxHeartbeats 600000 in
theorem sub_ok (w : World) (na nb : Bool) (A B : Option Addr) (n m ca cb a b : Nat) (hA : Lm w w.heap.size A n ca (digs a)) (hB : Lm w w.heap.size B m cb (digs b)) (hv : chkB na (digs a) nb (digs b) = 0) :
    Calls Try.prog 8 #[.agg #[.bool na, .slice A n ca], .agg #[.bool nb, .slice B m cb]] w (RZ w (toI na a - toI nb b)) := by
  have hmf : ∀ (fn : Fn) (first cap : Array Value) (w : World), (Instr.makeFunc fn first cap).run Try.prog w = .ok (.func fn first cap) w := fun _ _ _ _ => rfl
  have HA := Lib.hid hA
  have HB := Lib.hid hB
  have HV := Lib.hid hv
  clear hv
  go_enter Try.func8, Try.ntmps8
  go_wp2_with (go_at_call 15; refine (join_ok _ 19 na nb (na != nb) _ _ _ _ _ _ a b (toI na a - toI nb b) (((HA.out.box _).box _).box _) (((HB.out.box _).box _).box _) HV.out (fun _ => by kernel_rfl) (differs_any na nb) (by rw [Int.sub_eq_add_neg, ← toI_not]; cases na <;> cases nb <;> rfl)).mono ?_; rintro e w1 ⟨A1, n1, c1, rfl, hL1, hb1⟩; have ⟨hx0, hx1, hy0, hy1, hz0, hz1, hf0, hf1, hsz⟩ := box3 hb1)
  exact post_ws Try.results8 rfl rfl hz0 hz1 ⟨A1, n1, c1, rfl, hL1.set2 hz0 hz1 _ _, below_set2 (bbox (bbox (bbox hb1))) (by omega) _ _⟩

set_option maxRecDepth 100000 in
set_option maxHeartbeats 600000 in
theorem sub_bad (w : World) (na nb : Bool) (A B : Option Addr) (n m ca cb : Nat) (xs ys : List Nat) (hA : Lm w w.heap.size A n ca xs) (hB : Lm w w.heap.size B m cb ys) (hv : chkB na xs nb ys = 8) :
    Calls Try.prog 8 #[.agg #[.bool na, .slice A n ca], .agg #[.bool nb, .slice B m cb]] w (RW w false [] 8) := by
  have hmf : ∀ (fn : Fn) (first cap : Array Value) (w : World), (Instr.makeFunc fn first cap).run Try.prog w = .ok (.func fn first cap) w := fun _ _ _ _ => rfl
  have HA := Lib.hid hA
  have HB := Lib.hid hB
  have HV := Lib.hid hv
  clear hv
  go_enter Try.func8, Try.ntmps8
  go_wp2_with (go_at_call 15; refine (join_bad _ _ na nb _ _ _ _ _ _ _ _ (((HA.out.box _).box _).box _) (((HB.out.box _).box _).box _) HV.out).mono ?_; rintro e w1 ⟨A1, n1, c1, rfl, hL1, hb1⟩; have ⟨hx0, hx1, hy0, hy1, hz0, hz1, hf0, hf1, hsz⟩ := box3 hb1)
  exact post_ws Try.results8 rfl rfl hz0 hz1 ⟨A1, n1, c1, rfl, hL1.set2 hz0 hz1 _ _, below_set2 (bbox (bbox (bbox hb1))) (by omega) _ _⟩

end Go.Proofs.Ytkajmglpmdhmnaa

/- Slices of the call own making, grown by append; wide.left. -/
namespace Go.Proofs.Ytkajmglpmdhmnaa
open Go.RowKit

/-- A slice of the call's own making, of the numbers ts: nil, or the head of a block of the call's own. -/
def Ow (w : World) (B : Nat) (v : Value) (ts : List Nat) : Prop := w.ownsRow B 47 1 v ts.length (ts.map u32c)
section
variable {w w' : World} {B : Nat} {v : Value} {ts : List Nat}
theorem Ow.nil (w : World) (B : Nat) : Ow w B (.slice none 0 0) [] := World.ownsRow_nil w B _ 1
theorem Ow.made (w : World) (k n : Nat) (hk : k ≤ n) (hn : n ≤ 4000000000) : Ow (w.alloc (.cells ((zer n).map u32c).toArray 47)) w.heap.size (.slice (some ⟨w.heap.size, 0, none⟩) k n) (zer k) :=
  ⟨by simp, .inr ⟨w.heap.size, n, _, by rw [zer_len], Nat.le_refl _, heap_alloc_new w _, by rw [zer_len]; exact hk, by simp only [maxLen]; omega, by simp [zer], by simp [zer]; omega⟩⟩
theorem Ow.lm (h : Ow w B v ts) (g : Good ts) : ∃ A c, v = .slice A ts.length c ∧ Lm w w.heap.size A ts.length c ts := Lm.own h g
theorem Ow.toLm {A : Option Addr} {n c : Nat} (h : Ow w B (.slice A n c) ts) (g : Good ts) : Lm w w.heap.size A n c ts := by
  obtain ⟨A', c', e, hL⟩ := h.lm g
  injection e with e1 e2 e3
  subst e1 e2 e3
  exact hL
theorem Ow.mono {B' : Nat} (h : Ow w B v ts) (hB : B' ≤ B) : Ow w B' v ts := by
  refine ⟨h.1, ?_⟩
  rcases h.2 with h2 | ⟨g, cap, cur, e, hg, rest⟩
  · exact .inl h2
  · exact .inr ⟨g, cap, cur, e, Nat.le_trans hB hg, rest⟩
theorem Ow.shrink {A : Option Addr} {n c k : Nat} (h : Ow w B (.slice A n c) ts) (hk : k ≤ n) : Ow w B (.slice A k c) (ts.take k) := by
  have hl : ts.length = n := by
    rcases h.2 with ⟨h2, h3⟩ | ⟨g, cap, cur, e, _⟩
    · injection h2 with _ e2 _; omega
    · injection e with _ e2 _; exact e2.symm
  refine ⟨by simp, ?_⟩
  rcases h.2 with ⟨h2, h3⟩ | ⟨g, cap, cur, e, hb, hg, hcap, hm, hs, ht⟩
  · injection h2 with e1 e2 e3
    obtain rfl : k = 0 := by omega
    subst e1 e3
    exact .inl ⟨rfl, by simp⟩
  · injection e with e1 e2 e3
    subst e1 e3
    refine .inr ⟨g, c, cur, by rw [List.length_take, Nat.min_eq_left (by omega)], hb, hg, by rw [List.length_take]; omega, hm, hs, ?_⟩
    rw [List.map_take, ← ht, List.length_take, Nat.min_eq_left (by omega), List.take_take, Nat.mul_one, Nat.mul_one, Nat.min_eq_left (by omega)]
theorem Ld.ow {g : Nat} {cs : List Nat} (h : Ld w g cs) (hB : B ≤ g) (hl : cs.length ≤ 4000000000) : Ow w B (.slice (some ⟨g, 0, none⟩) cs.length cs.length) cs :=
  ⟨by simp, .inr ⟨g, cs.length, _, rfl, hB, h, Nat.le_refl _, by simp only [maxLen]; omega, by simp, by simp only [Nat.mul_one]; exact List.take_of_length_le (by rw [List.length_map]; exact Nat.le_refl _)⟩⟩
theorem Ow.alloc (h : Ow w B v ts) (o : Obj) : Ow (w.alloc o) B v ts := World.ownsRow.alloc h o
theorem Ow.eq {us : List Nat} (h : Ow w B v ts) (e : ts = us) : Ow w B v us := e ▸ h
/-- What lay below is kept by an append. -/
theorem Ow.below {w0 w1 : World} {tmp : Obj} (h : Ow w B v ts) (hb : Below B w0 w) (hB : B ≤ w.heap.size) (hg : (w.alloc tmp).grownBy w1 v.ownBlock) : Below B w0 w1 :=
  (hb.alloc hB tmp).grown hg (by simp; omega) (fun b e => (World.ownsRow.lt h b e).1)
end
theorem wpList_append_u32 (w : World) {ops : Array Oper} {rest : List Oper} {o : Oper} {a : Act} {Q : Exit → Act → World → Prop} (hgd : o.guard = none) (s x : Operand)
    (ho : o.op = .call { callee := .builtin .append, args := #[s, x], argTypes := #[22, 22] })
    (B : Nat) (v : Value) (ts : List Nat) (hs : a.eval s = v) (hown : Ow w B v ts) (E : Int) (y c : Nat) (hE : E = (y : Int)) (hlen : ts.length < 4000000000) (hB : B ≤ w.heap.size)
    (hx : a.eval x = .slice (some ⟨w.heap.size, 0, none⟩) 1 c)
    (h : ∀ v' w', Ow w' B v' (ts ++ [y]) → (w.alloc (.cells #[.int .u32 E] 47)).grownBy w' v.ownBlock → wpList Try.prog ops Q rest (a.put o.dst v') w') :
    wpList Try.prog ops Q (o :: rest) a (w.alloc (.cells #[.int .u32 E] 47)) := by
  subst hE
  obtain ⟨i0, hi0, hz0, hz1, hz2⟩ := info_parts u32_info
  refine wpList_append_own (w.alloc (.cells #[.int .u32 (y : Int)] 47)) hgd s x 22 ho B 47 i0 (.int .u32 0) 1 4 slice_u32 hi0 hz0 hz1 hz2 rfl (by decide) v ts.length _ hs (World.ownsRow.alloc hown _) ⟨w.heap.size, 0, none⟩ 1 c [.int .u32 (y : Int)] hx rfl (cell_one_new w _ _) (by simp [Value.oneCell']) (by simp only [maxLen]; omega) (by omega) (by simp; omega) ?_
  intro v' w' ho' hg _
  refine h v' w' ?_ hg
  have e : (ts ++ [y]).map u32c = ts.map u32c ++ [.int .u32 (y : Int)] := by rw [List.map_append]; rfl
  unfold Ow
  rw [e, List.length_append]
  exact ho'

/-- make([]uint32, k, n). -/
theorem run_makeL_u32 (l c : Int) (k n : Nat) (hl : l = (k : Int)) (hc : c = (n : Int)) (hk : k ≤ n) (hn : n ≤ 4000000000) (w : World) :
    (Instr.makeSlice 22 (.int .i64 l) (.int .i64 c)).run Try.prog w = .ok (.slice (some ⟨w.heap.size, 0, none⟩) k n) (w.alloc (.cells ((zer n).map u32c).toArray 47)) := by
  subst hl hc
  obtain ⟨i0, hi0, hz0, hz1, hz2⟩ := info_parts u32_info
  have h := run_make (P := Try.prog) w 22 47 i0 _ slice_u32 hi0 hz0 .i64 .i64 (k : Int) (n : Int) (by omega) (by omega) (by rw [hz2]; omega) (by omega)
  rw [hz1, Int.toNat_natCast, Int.toNat_natCast, made_zer] at h
  exact h

theorem shl_carry {xs : List Nat} {y : Nat} (hx : Good xs) (hy : y ≤ 2147483648) (k : Nat) : (mulK [] xs y k).2 < y ∨ (mulK [] xs y k).2 = 0 := by
  induction k with
  | zero => exact .inr rfl
  | succ k ih =>
    have hg := hx.get k
    have h : (mulK [] xs y (k + 1)).2 = ((mulK [] xs y k).2 + (xs[k]?.getD 0 * y + 0)) / 4294967296 := rfl
    rw [h]
    rcases Nat.eq_zero_or_pos y with h0 | h0
    · subst h0
      right
      have : (mulK [] xs 0 k).2 = 0 := by omega
      rw [this]; simp
    · left
      have hle : (mulK [] xs y k).2 < y := by omega
      rw [Nat.div_lt_iff_lt_mul (by omega)]
      have h2 : xs[k]?.getD 0 * y ≤ 4294967295 * y := Nat.mul_le_mul_right _ (by omega)
      omega

set_option maxRecDepth 100000 in
set_option maxHeartbeats 1000000 in
theorem left_any (w : World) (A : Option Addr) (n c kk : Nat) (xs : List Nat) (v : Nat) (hA : Lm w w.heap.size A n c xs) (hn : n ≤ 100000000) (hkk : kk ≤ 1000000) (hv : val xs * 2 ^ kk = v) :
    Calls Try.prog 51 #[.slice A n c, .int .i64 (kk : Int)] w fun e w' => ∃ A' c', e = .returned (.slice A' (digs v).length c') ∧ Lm w' w'.heap.size A' (digs v).length c' (digs v) ∧ Below w.heap.size w w' := by
  have h1 := hA.cap
  have h2 := hA.max
  obtain ⟨sk, hsk⟩ : ∃ sk : Nat, (kk : Int) / 32 = (sk : Int) := ⟨kk / 32, by omega⟩
  obtain ⟨s, hs, hs32⟩ : ∃ s : Nat, (kk : Int) % 32 = (s : Int) ∧ s < 32 := ⟨kk % 32, by omega, by omega⟩
  have HA := Lib.hid hA
  have HV := Lib.hid hv
  clear hA hv
  have hmk := fun w => run_makeL_u32 ((sk : Int)) ((sk : Int) + (n : Int) + 1) sk (sk + n + 1) (by omega) (by omega) (by omega) (by omega) w
  go_enter Try.func51, Try.ntmps51
  go_wp2
  rw [hs]
  clear hmk
  go_loopw [6, 7, 23] (fun u cy i wr => ∃ k : Nat, k ≤ n ∧ i = .int .i64 k ∧ cy = .int .u64 ((mulK [] xs (2 ^ s) k).2 : Nat) ∧ Ow wr w.heap.size u (zer sk ++ (mulK [] xs (2 ^ s) k).1) ∧ Below w.heap.size w wr) (fun _ _ i _ => n - (intOf i).toNat)
  case atStart => exact ⟨0, Nat.zero_le _, rfl, rfl, (Ow.made w sk (sk + n + 1) (by omega) (by omega)).eq (List.append_nil _).symm, (Below.refl _ _).alloc (Nat.le_refl _) _⟩
  case round =>
    have hk0 : Hid (kk = 32 * sk + s) := by show _ = _; omega
    obtain ⟨k, hk, rfl, rfl, hO, hb⟩ := hrel
    have HO := Lib.hid hO
    have HBl := Lib.hid hb
    clear hO hb
    have hcy := shl_carry HA.out.good (show 2 ^ s ≤ 2147483648 from Nat.pow_le_pow_right (by omega) (show s ≤ 31 by omega)) k
    have hln := mulK_len [] xs (2 ^ s) k
    have hp31 : 2 ^ s ≤ 2147483648 := Nat.pow_le_pow_right (by omega) (show s ≤ 31 by omega)
    have hc32 : (mulK [] xs (2 ^ s) k).2 < 4294967296 := by omega
    by_cases hlt : k < n
    · obtain ⟨b, bo, rfl, hbb, hcx⟩ := (HA.out.below HBl.out).cell hlt
      have hxg := HA.out.good.get k
      have hmx : xs[k]?.getD 0 * 2 ^ s ≤ 4294967295 * 2147483648 := Nat.mul_le_mul (by omega) hp31
      have HX : Hid (bits .or .u64 (((mulK [] xs (2 ^ s) k).2 : Nat) : Int) (IntKind.u64.wrap (((xs[k]?.getD 0 : Nat) : Int) * 2 ^ s)) = (((mulK [] xs (2 ^ s) k).2 + (xs[k]?.getD 0 * 2 ^ s + 0) : Nat) : Int)) := by
        show _ = _
        rw [cast_shl, Nat.mul_comm, wrap_nat, Nat.mod_eq_of_lt (by omega), bits_or _ _ (by omega) (by omega)]
        rcases hcy with h | h
        · rw [Nat.mul_comm, or_add h, Nat.mul_comm]; rfl
        · rw [h]; simp
      go_wp2_with (at_builtin; refine wpList_append_u32 _ rfl _ _ rfl w.heap.size _ _ rfl HO.out _ (((mulK [] xs (2 ^ s) k).2 + (xs[k]?.getD 0 * 2 ^ s + 0)) % 4294967296) 1 (by rw [HX.out]; omega) (by rw [List.length_append, zer_len, hln]; omega) HBl.out.size rfl ?_; intro u' w1 hO1 hg1)
      go_roundw
      case rel =>
        refine ⟨k + 1, by omega, by go_num, ?_, hO1.eq ?_, HO.out.below HBl.out HBl.out.size hg1⟩
        · rw [HX.out]
          exact congrArg (Value.int IntKind.u64) (Int.natCast_ediv _ _).symm
        · rw [List.append_assoc]; rfl
      case measure => simp [intOf]; omega
    · obtain rfl : k = n := by omega
      have hgd : Hid (Good (zer sk ++ (mulK [] xs (2 ^ s) k).1 ++ [(mulK [] xs (2 ^ s) k).2])) := (((zer_good _).append (mulK_good _ _ _ _)).append (Good.nil.cons hc32))
      have hlen : Hid ((zer sk ++ (mulK [] xs (2 ^ s) k).1 ++ [(mulK [] xs (2 ^ s) k).2]).length = sk + k + 1) := by show _ = _; rw [List.length_append, List.length_append, zer_len, hln]; rfl
      have hvs : Hid (val (zer sk ++ (mulK [] xs (2 ^ s) k).1 ++ [(mulK [] xs (2 ^ s) k).2]) = v) := by
        show _ = _
        have e := mulK_val [] xs (2 ^ s) k
        have hz : val (zer sk) = 0 := by have := zer_val sk sk; rwa [List.take_of_length_le (by rw [zer_len]; exact Nat.le_refl _)] at this
        rw [List.append_assoc, val_append, hz, val_snoc, mulK_len, e, List.take_of_length_le (by rw [HA.out.len]; exact Nat.le_refl _), zer_len, ← HV.out]
        simp only [List.take_nil, val_nil, Nat.add_zero, Nat.zero_add]
        rw [hk0.out, Nat.pow_add, Nat.pow_mul, show (2 : Nat) ^ 32 = 4294967296 from rfl, Nat.mul_left_comm]
      go_wp2_with (at_builtin; refine wpList_append_u32 _ rfl _ _ rfl w.heap.size _ _ rfl HO.out _ ((mulK [] xs (2 ^ s) k).2) 1 (by omega) (by rw [List.length_append, zer_len, hln]; omega) HBl.out.size rfl ?_; intro u1 w1 hO1 hg1; obtain ⟨A1, c1, rfl, hL1⟩ := hO1.lm hgd.out; rw [hlen.out] at hL1 ⊢)
      refine (trim_any _ _ _ _ _ _ v hL1 hvs.out).mono ?_
      rintro e w2 ⟨rfl, rfl⟩
      go_wp2
      go_ret
      exact ⟨_, _, rfl, hL1.trim' hvs.out, HO.out.below HBl.out HBl.out.size hg1⟩
end Go.Proofs.Ytkajmglpmdhmnaa

/- The reference's plus and minus. -/
namespace Go.Proofs.Ytkajmglpmdhmnaa
open Go.RowKit

/-- A call returns limbs, just N of them, that stand for v. -/
def RL (w : World) (N v : Nat) (e : Ending) (w' : World) : Prop := ∃ A c ts, e = .returned (.slice A N c) ∧ Lm w' w'.heap.size A N c ts ∧ val ts = v ∧ Below w.heap.size w w'
theorem getD_over {xs : List Nat} {k : Nat} (h : xs.length ≤ k) : xs[k]?.getD 0 = 0 := by rw [List.getElem?_eq_none h]; rfl

set_option maxRecDepth 100000 in
set_option maxHeartbeats 1000000 in
theorem rplus_any (w : World) (A B : Option Addr) (n m ca cb N : Nat) (xs ys : List Nat) (v : Nat) (hA : Lm w w.heap.size A n ca xs) (hB : Lm w w.heap.size B m cb ys) (hN : N = max n m) (hn : N ≤ 100000000) (hv : val xs + val ys = v) :
    Calls Try.prog 33 #[.slice A n ca, .slice B m cb] w (RL w (N + 1) v) := by
  have h1 := hA.cap
  have h2 := hA.max
  have h3 := hB.cap
  have h4 := hB.max
  have hN1 : n ≤ N := by omega
  have hN2 : m ≤ N := by omega
  have HN := Lib.hid hN
  have HA := Lib.hid hA
  have HB := Lib.hid hB
  have HV := Lib.hid hv
  clear hA hB hv hN
  go_enter Try.func33, Try.ntmps33
  go_wp2
  go_loopw [5, 6, 7] (fun u cy i wr => ∃ k : Nat, k ≤ N ∧ i = .int .i64 k ∧ cy = .int .u64 ((addK xs ys k).2 : Nat) ∧ Ow wr w.heap.size u (addK xs ys k).1 ∧ Below w.heap.size w wr) (fun _ _ i _ => N - (intOf i).toNat)
  case atStart => exact ⟨0, Nat.zero_le _, rfl, rfl, Ow.nil _ _, Below.refl _ _⟩
  case round =>
    obtain ⟨k, hk, rfl, rfl, hO, hb⟩ := hrel
    have hcy := addK_carry HA.out.good HB.out.good k
    have HLn := Lib.hid (addK_len xs ys k)
    have hgx := HA.out.good.get k
    have hgy := HB.out.good.get k
    have HS : Hid (addK xs ys (k + 1) = ((addK xs ys k).1 ++ [((addK xs ys k).2 + (xs[k]?.getD 0 + ys[k]?.getD 0)) % 4294967296], ((addK xs ys k).2 + (xs[k]?.getD 0 + ys[k]?.getD 0)) / 4294967296)) := (rfl : _ = _)
    have HO := Lib.hid hO
    have HBl := Lib.hid hb
    clear hO hb
    by_cases hlt : k < N
    · have HR : Hid (∀ (u' : Value) (w1 : World) (E : Int), E = (((addK xs ys k).2 + (xs[k]?.getD 0 + ys[k]?.getD 0) : Nat) : Int) → Ow w1 w.heap.size u' ((addK xs ys k).1 ++ [((addK xs ys k).2 + (xs[k]?.getD 0 + ys[k]?.getD 0)) % 4294967296]) → Below w.heap.size w w1 →
          ∃ k' : Nat, k' ≤ N ∧ Value.int .i64 ((k : Int) + 1) = .int .i64 k' ∧ Value.int .u64 (E / 4294967296) = .int .u64 ((addK xs ys k').2 : Nat) ∧ Ow w1 w.heap.size u' (addK xs ys k').1 ∧ Below w.heap.size w w1) := by
        intro u' w1 E hE h5 h6
        refine ⟨k + 1, by omega, by go_num, ?_, ?_, h6⟩
        · rw [HS.out, hE]
          exact congrArg (Value.int IntKind.u64) (Int.natCast_ediv _ _).symm
        · rw [HS.out]; exact h5
      by_cases ha : k < n
      · obtain ⟨b, bo, rfl, hbb, hcx⟩ := (HA.out.below HBl.out).cell ha
        by_cases hm : k < m
        · obtain ⟨b', bo', rfl, hbb', hcy'⟩ := (HB.out.below HBl.out).cell hm
          go_wp2_with (at_builtin; refine wpList_append_u32 _ rfl _ _ rfl w.heap.size _ _ rfl HO.out _ (((addK xs ys k).2 + (xs[k]?.getD 0 + ys[k]?.getD 0)) % 4294967296) 1 (by omega) (by have := HLn.out; omega) HBl.out.size rfl ?_; intro u' w1 hO1 hg1)
          go_roundw
          case rel => exact HR.out _ _ _ (by omega) hO1 (HO.out.below HBl.out HBl.out.size hg1)
          case measure => simp [intOf]; omega
        · have HZ := Lib.hid (getD_over (xs := ys) (k := k) (by rw [HB.out.len]; omega))
          go_wp2_with (at_builtin; refine wpList_append_u32 _ rfl _ _ rfl w.heap.size _ _ rfl HO.out _ (((addK xs ys k).2 + (xs[k]?.getD 0 + ys[k]?.getD 0)) % 4294967296) 1 (by have := HZ.out; omega) (by have := HLn.out; omega) HBl.out.size rfl ?_; intro u' w1 hO1 hg1)
          go_roundw
          case rel => exact HR.out _ _ _ (by have := HZ.out; omega) hO1 (HO.out.below HBl.out HBl.out.size hg1)
          case measure => simp [intOf]; omega
      · have hm : k < m := by have := HN.out; omega
        obtain ⟨b', bo', rfl, hbb', hcy'⟩ := (HB.out.below HBl.out).cell hm
        have HZ := Lib.hid (getD_over (xs := xs) (k := k) (by rw [HA.out.len]; omega))
        go_wp2_with (at_builtin; refine wpList_append_u32 _ rfl _ _ rfl w.heap.size _ _ rfl HO.out _ (((addK xs ys k).2 + (xs[k]?.getD 0 + ys[k]?.getD 0)) % 4294967296) 1 (by have := HZ.out; omega) (by have := HLn.out; omega) HBl.out.size rfl ?_; intro u' w1 hO1 hg1)
        go_roundw
        case rel => exact HR.out _ _ _ (by have := HZ.out; omega) hO1 (HO.out.below HBl.out HBl.out.size hg1)
        case measure => simp [intOf]; omega
    · obtain rfl : k = N := by omega
      have ha : ¬ k < n := by omega
      have hm : ¬ k < m := by omega
      have HVs : Hid (val ((addK xs ys k).1 ++ [(addK xs ys k).2]) = v) := by
        show _ = _
        rw [val_snoc, addK_len, addK_val, List.take_of_length_le (by rw [HA.out.len]; omega), List.take_of_length_le (by rw [HB.out.len]; omega), HV.out]
      have HG : Hid (Good ((addK xs ys k).1 ++ [(addK xs ys k).2])) := (addK_good _ _ _).append (Good.nil.cons (by omega))
      go_wp2_with (at_builtin; refine wpList_append_u32 _ rfl _ _ rfl w.heap.size _ _ rfl HO.out _ ((addK xs ys k).2) 1 (by omega) (by have := HLn.out; omega) HBl.out.size rfl ?_; intro u' w1 hO1 hg1)
      go_ret
      obtain ⟨A1, c1, rfl, hL1⟩ := hO1.lm HG.out
      have hlen : ((addK xs ys k).1 ++ [(addK xs ys k).2]).length = k + 1 := by rw [List.length_append, HLn.out]; rfl
      rw [hlen] at hL1 ⊢
      exact ⟨A1, c1, _, rfl, hL1, HVs.out, HO.out.below HBl.out HBl.out.size hg1⟩


set_option maxRecDepth 100000 in
set_option maxHeartbeats 1000000 in
theorem rminus_any (w : World) (A B : Option Addr) (n m ca cb : Nat) (xs ys : List Nat) (v : Nat) (hA : Lm w w.heap.size A n ca xs) (hB : Lm w w.heap.size B m cb ys) (hge : m ≤ n) (hn : n ≤ 100000000) (hle : val ys ≤ val xs) (hv : val xs - val ys = v) :
    Calls Try.prog 34 #[.slice A n ca, .slice B m cb] w fun e w' => ∃ A' c', e = .returned (.slice A' (digs v).length c') ∧ Lm w' w'.heap.size A' (digs v).length c' (digs v) ∧ Below w.heap.size w w' := by
  have h1 := hA.cap
  have h2 := hA.max
  have h3 := hB.cap
  have h4 := hB.max
  have HA := Lib.hid hA
  have HB := Lib.hid hB
  have HV := Lib.hid hv
  have HLe := Lib.hid hle
  clear hA hB hv hle
  go_enter Try.func34, Try.ntmps34
  go_wp2
  go_loopw [5, 6, 7] (fun u cy i wr => ∃ k : Nat, k ≤ n ∧ i = .int .i64 k ∧ cy = .int .i64 ((subK xs ys k).2 : Nat) ∧ Ow wr w.heap.size u (subK xs ys k).1 ∧ Below w.heap.size w wr) (fun _ _ i _ => n - (intOf i).toNat)
  case atStart => exact ⟨0, Nat.zero_le _, rfl, rfl, Ow.nil _ _, Below.refl _ _⟩
  case round =>
    obtain ⟨k, hk, rfl, rfl, hO, hb⟩ := hrel
    have hcy := subK_carry xs ys k
    have HLn := Lib.hid (subK_len xs ys k)
    have hgx := HA.out.good.get k
    have hgy := HB.out.good.get k
    have HS : Hid (subK xs ys (k + 1) = ((subK xs ys k).1 ++ [(xs[k]?.getD 0 + 8589934592 - ys[k]?.getD 0 - (subK xs ys k).2) % 4294967296], if xs[k]?.getD 0 < ys[k]?.getD 0 + (subK xs ys k).2 then 1 else 0)) := (rfl : _ = _)
    have HO := Lib.hid hO
    have HBl := Lib.hid hb
    clear hO hb
    by_cases hlt : k < n
    · have HR : Hid (∀ (u' : Value) (w1 : World) (E : Int), E = ((if xs[k]?.getD 0 < ys[k]?.getD 0 + (subK xs ys k).2 then 1 else 0 : Nat) : Int) → Ow w1 w.heap.size u' ((subK xs ys k).1 ++ [(xs[k]?.getD 0 + 8589934592 - ys[k]?.getD 0 - (subK xs ys k).2) % 4294967296]) → Below w.heap.size w w1 →
          ∃ k' : Nat, k' ≤ n ∧ Value.int .i64 ((k : Int) + 1) = .int .i64 k' ∧ Value.int .i64 E = .int .i64 ((subK xs ys k').2 : Nat) ∧ Ow w1 w.heap.size u' (subK xs ys k').1 ∧ Below w.heap.size w w1) := by
        intro u' w1 E hE h5 h6
        refine ⟨k + 1, by omega, by go_num, ?_, ?_, h6⟩
        · rw [HS.out, hE]
        · rw [HS.out]; exact h5
      obtain ⟨b, bo, rfl, hbb, hcx⟩ := (HA.out.below HBl.out).cell hlt
      by_cases hm : k < m
      · obtain ⟨b', bo', rfl, hbb', hcy'⟩ := (HB.out.below HBl.out).cell hm
        by_cases hng : xs[k]?.getD 0 < ys[k]?.getD 0 + (subK xs ys k).2
        · have HNg := Lib.hid hng
          have hngi : ((xs[k]?.getD 0 : Nat) : Int) - (((subK xs ys k).2 : Nat) : Int) - ((ys[k]?.getD 0 : Nat) : Int) < 0 := by omega
          go_wp2_with (at_builtin; refine wpList_append_u32 _ rfl _ _ rfl w.heap.size _ _ rfl HO.out _ ((xs[k]?.getD 0 + 8589934592 - ys[k]?.getD 0 - (subK xs ys k).2) % 4294967296) 1 (by omega) (by have := HLn.out; omega) HBl.out.size rfl ?_; intro u' w1 hO1 hg1)
          go_roundw
          case rel => exact HR.out _ _ _ (by rw [if_pos HNg.out]; rfl) hO1 (HO.out.below HBl.out HBl.out.size hg1)
          case measure => simp [intOf]; omega
        · have HNg := Lib.hid hng
          have hngi : 0 ≤ ((xs[k]?.getD 0 : Nat) : Int) - (((subK xs ys k).2 : Nat) : Int) - ((ys[k]?.getD 0 : Nat) : Int) := by omega
          have hngd : decide (((xs[k]?.getD 0 : Nat) : Int) - (((subK xs ys k).2 : Nat) : Int) - ((ys[k]?.getD 0 : Nat) : Int) < 0) = false := by simp; omega
          go_wp2_with (at_builtin; refine wpList_append_u32 _ rfl _ _ rfl w.heap.size _ _ rfl HO.out _ ((xs[k]?.getD 0 + 8589934592 - ys[k]?.getD 0 - (subK xs ys k).2) % 4294967296) 1 (by omega) (by have := HLn.out; omega) HBl.out.size rfl ?_; intro u' w1 hO1 hg1)
          go_roundw
          case rel => exact HR.out _ _ _ (by rw [if_neg HNg.out]; rfl) hO1 (HO.out.below HBl.out HBl.out.size hg1)
          case measure => simp [intOf]; omega
      · have HZ := Lib.hid (getD_over (xs := ys) (k := k) (by rw [HB.out.len]; omega))
        by_cases hng : xs[k]?.getD 0 < ys[k]?.getD 0 + (subK xs ys k).2
        · have HNg := Lib.hid hng
          have hngi : ((xs[k]?.getD 0 : Nat) : Int) - (((subK xs ys k).2 : Nat) : Int) < 0 := by have := HZ.out; omega
          go_wp2_with (at_builtin; refine wpList_append_u32 _ rfl _ _ rfl w.heap.size _ _ rfl HO.out _ ((xs[k]?.getD 0 + 8589934592 - ys[k]?.getD 0 - (subK xs ys k).2) % 4294967296) 1 (by have := HZ.out; omega) (by have := HLn.out; omega) HBl.out.size rfl ?_; intro u' w1 hO1 hg1)
          go_roundw
          case rel => exact HR.out _ _ _ (by rw [if_pos HNg.out]; rfl) hO1 (HO.out.below HBl.out HBl.out.size hg1)
          case measure => simp [intOf]; omega
        · have HNg := Lib.hid hng
          have hngi : 0 ≤ ((xs[k]?.getD 0 : Nat) : Int) - (((subK xs ys k).2 : Nat) : Int) := by have := HZ.out; omega
          have hngd : decide (((xs[k]?.getD 0 : Nat) : Int) - (((subK xs ys k).2 : Nat) : Int) < 0) = false := by have := HZ.out; simp; omega
          go_wp2_with (at_builtin; refine wpList_append_u32 _ rfl _ _ rfl w.heap.size _ _ rfl HO.out _ ((xs[k]?.getD 0 + 8589934592 - ys[k]?.getD 0 - (subK xs ys k).2) % 4294967296) 1 (by have := HZ.out; omega) (by have := HLn.out; omega) HBl.out.size rfl ?_; intro u' w1 hO1 hg1)
          go_roundw
          case rel => exact HR.out _ _ _ (by rw [if_neg HNg.out]; rfl) hO1 (HO.out.below HBl.out HBl.out.size hg1)
          case measure => simp [intOf]; omega
    · obtain rfl : k = n := by omega
      have hvl : Hid (val (subK xs ys k).1 = v) := by
        have e := subK_val HA.out.good HB.out.good k
        have hc1 := subK_carry xs ys k
        have hlt2 := val_lt (subK_good xs ys k)
        rw [subK_len] at hlt2
        rw [List.take_of_length_le (by rw [HB.out.len]; exact hge), List.take_of_length_le (by rw [HA.out.len]; exact Nat.le_refl _)] at e
        have hv := HV.out
        have hle := HLe.out
        show _ = _
        rcases Nat.eq_zero_or_pos (subK xs ys k).2 with h0 | h0
        · rw [h0, Nat.mul_zero] at e
          omega
        · have h2 : (subK xs ys k).2 = 1 := by omega
          rw [h2, Nat.mul_one] at e
          omega
      obtain ⟨A1, c1, rfl, hL1⟩ := HO.out.lm (subK_good xs ys k)
      rw [HLn.out] at hL1 ⊢
      have HL1 := Lib.hid hL1
      clear hL1
      go_wp2_with fail
      refine (rtrim_any _ _ _ _ _ v HL1.out hvl.out (by omega)).mono ?_
      rintro e w2 ⟨A2, c2, rfl, hL2, hb2⟩
      go_wp2
      go_ret
      exact ⟨A2, c2, rfl, hL2, HBl.out.trans (hb2.mono HBl.out.size)⟩

end Go.Proofs.Ytkajmglpmdhmnaa

/- Pairs of cells: the boxes of numbers. -/
namespace Go.Proofs.Ytkajmglpmdhmnaa
open Go.RowKit

/-- Block g holds the two cells of a number, and may be written. -/
structure Pr (w : World) (g : Nat) (x y : Value) : Prop where
  c0 : w.cell? ⟨g, 0, none⟩ = some x
  c1 : w.cell? ⟨g, 1, none⟩ = some y
  f0 : w.frozen? ⟨g, 0, none⟩ = false
  f1 : w.frozen? ⟨g, 1, none⟩ = false
  lt : g < w.heap.size
section
variable {w w' : World} {g h : Nat} {x y : Value}
theorem Pr.new (w : World) (k : Nat) (hk : w.heap.size = k) (x y : Value) (t : TypeId) : Pr (w.alloc (.cells #[x, y] t)) k x y := by
  subst hk
  refine ⟨?_, ?_, ?_, ?_, by simp⟩ <;> go_simp
theorem Pr.via (p : Pr w g x y) (hb : Below w.heap.size w w') : Pr w' g x y :=
  ⟨(hb.cell (p := ⟨g, 0, none⟩) p.lt).trans p.c0, (hb.cell (p := ⟨g, 1, none⟩) p.lt).trans p.c1, (hb.frozen (p := ⟨g, 0, none⟩) p.lt).trans p.f0, (hb.frozen (p := ⟨g, 1, none⟩) p.lt).trans p.f1, Nat.lt_of_lt_of_le p.lt hb.size⟩
theorem Pr.below (p : Pr w g x y) {B : Nat} (hb : Below B w w') (hg : g < B) : Pr w' g x y :=
  ⟨(hb.cell (p := ⟨g, 0, none⟩) hg).trans p.c0, (hb.cell (p := ⟨g, 1, none⟩) hg).trans p.c1, (hb.frozen (p := ⟨g, 0, none⟩) hg).trans p.f0, (hb.frozen (p := ⟨g, 1, none⟩) hg).trans p.f1, Nat.lt_of_lt_of_le p.lt hb.size⟩
theorem Pr.alloc (p : Pr w g x y) (o : Obj) : Pr (w.alloc o) g x y := p.via ((Below.refl _ _).alloc (Nat.le_refl _) o)
theorem Pr.drew (p : Pr w g x y) : Pr w.drew g x y := ⟨p.c0, p.c1, p.f0, p.f1, p.lt⟩
theorem Pr.drewN (p : Pr w g x y) (k : Nat) : Pr (w.drewN k) g x y := ⟨p.c0, p.c1, p.f0, p.f1, p.lt⟩
theorem size_set2 (w : World) (h : Nat) (x y : Value) : ((w.setCell ⟨h, 0, none⟩ x).setCell ⟨h, 1, none⟩ y).heap.size = w.heap.size := by simp [World.size_setCell]
theorem Pr.set (p : Pr w g x y) (x' y' : Value) : Pr ((w.setCell ⟨g, 0, none⟩ x').setCell ⟨g, 1, none⟩ y') g x' y' :=
  ⟨(set2 x' y' p.c0 p.c1).1, (set2 x' y' p.c0 p.c1).2, by have := p.f0; simpa using this, by have := p.f1; simpa using this, by rw [size_set2]; exact p.lt⟩
theorem Pr.far (p : Pr w g x y) (hne : g ≠ h) (x' y' : Value) : Pr ((w.setCell ⟨h, 0, none⟩ x').setCell ⟨h, 1, none⟩ y') g x y :=
  ⟨(far2 x' y' hne ⟨p.c0, p.c1⟩).1, (far2 x' y' hne ⟨p.c0, p.c1⟩).2, by have := p.f0; simpa using this, by have := p.f1; simpa using this, by rw [size_set2]; exact p.lt⟩
end
theorem Lm.setP {w : World} {n c : Nat} {A : Option Addr} {xs : List Nat} (h : Lm w w.heap.size A n c xs) {g n0 c0 : Nat} {b : Bool} {A0 : Option Addr} (p : Pr w g (.bool b) (.slice A0 n0 c0)) (x y : Value) :
    Lm ((w.setCell ⟨g, 0, none⟩ x).setCell ⟨g, 1, none⟩ y) ((w.setCell ⟨g, 0, none⟩ x).setCell ⟨g, 1, none⟩ y).heap.size A n c xs := h.set2 p.c0 p.c1 x y

/-- The results of a function that returns two numbers and one value more. -/
theorem res_ww {fn : Func} {r s u : Nat} (hr : fn.results = #[.cell r 24, .cell s 24, .tmp u]) {tmps : Array Value} {w : World} {g h : Nat} {x y x' y' : Value}
    (ht : tmps.getD r undef = .pointer (some ⟨g, 0, none⟩)) (hs : tmps.getD s undef = .pointer (some ⟨h, 0, none⟩)) (p : Pr w g x y) (q : Pr w h x' y') :
    (results fn tmps).run Try.prog w = .ok (.tuple #[.agg #[x, y], .agg #[x', y'], tmps.getD u undef]) w := by
  rw [Array.getD_eq_getD_getElem?] at ht hs
  simp [results, hr, go_sem, ht, hs, p.c0, p.c1, q.c0, q.c1]
theorem post_ww {fn : Func} {r s u : Nat} (hr : fn.results = #[.cell r 24, .cell s 24, .tmp u]) {R : Ending → World → Prop} {a : Act} {w : World} {g h : Nat} {x y x' y' : Value}
    (ht : a.tmps.getD r undef = .pointer (some ⟨g, 0, none⟩)) (hs : a.tmps.getD s undef = .pointer (some ⟨h, 0, none⟩)) (hd : a.defers = []) (p : Pr w g x y) (q : Pr w h x' y')
    (hR : R (.returned (.tuple #[.agg #[x, y], .agg #[x', y'], a.tmps.getD u undef])) w) : bodyPost Try.prog fn R .ret a w :=
  bodyPost_ret (res_ww hr ht hs p q) hd hR

/-- Four boxes of two cells, behind a call that keeps what was there. -/
theorem boxes4 {w w1 : World} {t0 t1 t2 t3 : TypeId} {a0 a1 b0 b1 q0 q1 r0 r1 : Value}
    (hb : Below ((((w.alloc (.cells #[a0, a1] t0)).alloc (.cells #[b0, b1] t1)).alloc (.cells #[q0, q1] t2)).alloc (.cells #[r0, r1] t3)).heap.size ((((w.alloc (.cells #[a0, a1] t0)).alloc (.cells #[b0, b1] t1)).alloc (.cells #[q0, q1] t2)).alloc (.cells #[r0, r1] t3)) w1) :
    Pr w1 w.heap.size a0 a1 ∧ Pr w1 (w.heap.size + 1) b0 b1 ∧ Pr w1 (w.heap.size + 1 + 1) q0 q1 ∧ Pr w1 (w.heap.size + 1 + 1 + 1) r0 r1 :=
  ⟨((((Pr.new w w.heap.size rfl a0 a1 t0).alloc _).alloc _).alloc _).via hb, (((Pr.new (w.alloc (.cells #[a0, a1] t0)) (w.heap.size + 1) (by simp) b0 b1 t1).alloc _).alloc _).via hb,
    ((Pr.new ((w.alloc (.cells #[a0, a1] t0)).alloc (.cells #[b0, b1] t1)) (w.heap.size + 1 + 1) (by simp) q0 q1 t2).alloc _).via hb,
    (Pr.new (((w.alloc (.cells #[a0, a1] t0)).alloc (.cells #[b0, b1] t1)).alloc (.cells #[q0, q1] t2)) (w.heap.size + 1 + 1 + 1) (by simp) r0 r1 t3).via hb⟩

end Go.Proofs.Ytkajmglpmdhmnaa

/- The reference's sum. -/
namespace Go.Proofs.Ytkajmglpmdhmnaa
open Go.RowKit

/-- Three boxes of two cells. -/
theorem boxes3 (w : World) (t0 t1 t2 : TypeId) (a0 a1 b0 b1 q0 q1 : Value) :
    Pr (((w.alloc (.cells #[a0, a1] t0)).alloc (.cells #[b0, b1] t1)).alloc (.cells #[q0, q1] t2)) w.heap.size a0 a1 ∧ Pr (((w.alloc (.cells #[a0, a1] t0)).alloc (.cells #[b0, b1] t1)).alloc (.cells #[q0, q1] t2)) (w.heap.size + 1) b0 b1 ∧ Pr (((w.alloc (.cells #[a0, a1] t0)).alloc (.cells #[b0, b1] t1)).alloc (.cells #[q0, q1] t2)) (w.heap.size + 1 + 1) q0 q1 :=
  ⟨((Pr.new w w.heap.size rfl a0 a1 t0).alloc _).alloc _, (Pr.new (w.alloc (.cells #[a0, a1] t0)) (w.heap.size + 1) (by simp) b0 b1 t1).alloc _, Pr.new ((w.alloc (.cells #[a0, a1] t0)).alloc (.cells #[b0, b1] t1)) (w.heap.size + 1 + 1) (by simp) q0 q1 t2⟩
theorem below3 (w : World) (o1 o2 o3 : Obj) : Below w.heap.size w (((w.alloc o1).alloc o2).alloc o3) := (((Below.refl _ _).alloc (Nat.le_refl _) _).alloc (by simp) _).alloc (by simp; omega) _

set_option maxRecDepth 100000 in
set_option maxHeartbeats 1000000 in
theorem rsum_same (w : World) (na nb : Bool) (A B : Option Addr) (n m ca cb a b : Nat) (hA : Lm w w.heap.size A n ca (digs a)) (hB : Lm w w.heap.size B m cb (digs b)) (hn : n ≤ 10000000) (hm : m ≤ 10000000) (hs : na = nb) :
    Calls Try.prog 18 #[.agg #[.bool na, .slice A n ca], .agg #[.bool nb, .slice B m cb]] w (RW w (mkN na (a + b)) (mkL (a + b)) (mkE (a + b))) := by
  have HA := Lib.hid hA
  have HB := Lib.hid hB
  have HP : Hid (val (digs a) + val (digs b) = a + b) := by show _ = _; rw [digs_val, digs_val]
  subst hs
  clear hA hB
  cases na
  · go_enter Try.func18, Try.ntmps18
    go_wp2_with fail
    have ⟨PA, PB, PR⟩ := boxes3 w 24 24 24 (.bool false) (.slice A n ca) (.bool false) (.slice B m cb) (.bool false) (.slice none 0 0)
    have HB0 := Lib.hid (below3 w (.cells #[.bool false, .slice A n ca] 24) (.cells #[.bool false, .slice B m cb] 24) (.cells #[.bool false, .slice none 0 0] 24))
    have LA := Lib.hid (((HA.out.box (.cells #[.bool false, .slice A n ca] 24)).box (.cells #[.bool false, .slice B m cb] 24)).box (.cells #[.bool false, .slice none 0 0] 24))
    have LB := Lib.hid (((HB.out.box (.cells #[.bool false, .slice A n ca] 24)).box (.cells #[.bool false, .slice B m cb] 24)).box (.cells #[.bool false, .slice none 0 0] 24))
    generalize ((w.alloc (.cells #[.bool false, .slice A n ca] 24)).alloc (.cells #[.bool false, .slice B m cb] 24)).alloc (.cells #[.bool false, .slice none 0 0] 24) = w1 at *
    have ⟨a0, a1, _, _, _⟩ := PA
    have ⟨b0, b1, _, _, _⟩ := PB
    have ⟨r0, r1, rf0, rf1, rl⟩ := PR
    go_region_held3 (fun w' => (w'.cell? ⟨w.heap.size, 0, none⟩ = some (.bool false) ∧ w'.cell? ⟨w.heap.size, 1, none⟩ = some (.slice A n ca)) ∧ (w'.cell? ⟨w.heap.size + 1, 0, none⟩ = some (.bool false) ∧ w'.cell? ⟨w.heap.size + 1, 1, none⟩ = some (.slice B m cb)))
      (first | exact ⟨⟨a0, a1⟩, ⟨b0, b1⟩⟩ | exact ⟨⟨PAs.c0, PAs.c1⟩, ⟨PBs.c0, PBs.c1⟩⟩ | exact ⟨⟨PAt.c0, PAt.c1⟩, ⟨PBt.c0, PBt.c1⟩⟩ | exact ⟨⟨PAu.c0, PAu.c1⟩, ⟨PBu.c0, PBu.c1⟩⟩ | go_keep)
      (first
       | (go_at_call 33; refine (rplus_any _ _ _ _ _ _ _ (max n m) (digs a) (digs b) (a + b) LA.out.drew LB.out.drew rfl (by omega) HP.out).mono ?_; rintro e ws ⟨As, cs, ts, rfl, hLs, hvs, hbs⟩; have HVS := Lib.hid hvs; clear hvs; have Bs := (Below.refl w1.heap.size w1).drew.trans hbs; have PAs := PA.via Bs; have PBs := PB.via Bs; have PRs := PR.via Bs)
       | (go_at_call 23; refine (rmade_any _ _ _ _ _ ts (a + b) hLs HVS.out (by omega)).mono ?_; rintro e wt ⟨At, nt, ct, rfl, hLt, hbt⟩; have PAt := PAs.via hbt; have PBt := PBs.via hbt; have PRt := PRs.via hbt; have HBt : Hid (Below w.heap.size w wt) := HB0.out.trans ((Bs.trans (hbt.mono Bs.size)).mono HB0.out.size); have ⟨r0t, r1t, rf0t, rf1t, rlt⟩ := PRt; have PAu := PAt.far (h := w.heap.size + 1 + 1) (by omega) (.bool (mkN false (a + b))) (.slice At nt ct); have PBu := PBt.far (h := w.heap.size + 1 + 1) (by omega) (.bool (mkN false (a + b))) (.slice At nt ct)))
    go_wp2
    exact post_ws Try.results18 rfl rfl PRt.c0 PRt.c1 ⟨At, nt, ct, rfl, hLt.setP PRt _ _, below_set2 HBt.out (by omega) _ _⟩
  · go_enter Try.func18, Try.ntmps18
    go_wp2_with fail
    have ⟨PA, PB, PR⟩ := boxes3 w 24 24 24 (.bool true) (.slice A n ca) (.bool true) (.slice B m cb) (.bool false) (.slice none 0 0)
    have HB0 := Lib.hid (below3 w (.cells #[.bool true, .slice A n ca] 24) (.cells #[.bool true, .slice B m cb] 24) (.cells #[.bool false, .slice none 0 0] 24))
    have LA := Lib.hid (((HA.out.box (.cells #[.bool true, .slice A n ca] 24)).box (.cells #[.bool true, .slice B m cb] 24)).box (.cells #[.bool false, .slice none 0 0] 24))
    have LB := Lib.hid (((HB.out.box (.cells #[.bool true, .slice A n ca] 24)).box (.cells #[.bool true, .slice B m cb] 24)).box (.cells #[.bool false, .slice none 0 0] 24))
    generalize ((w.alloc (.cells #[.bool true, .slice A n ca] 24)).alloc (.cells #[.bool true, .slice B m cb] 24)).alloc (.cells #[.bool false, .slice none 0 0] 24) = w1 at *
    have ⟨a0, a1, _, _, _⟩ := PA
    have ⟨b0, b1, _, _, _⟩ := PB
    have ⟨r0, r1, rf0, rf1, rl⟩ := PR
    go_region_held3 (fun w' => (w'.cell? ⟨w.heap.size, 0, none⟩ = some (.bool true) ∧ w'.cell? ⟨w.heap.size, 1, none⟩ = some (.slice A n ca)) ∧ (w'.cell? ⟨w.heap.size + 1, 0, none⟩ = some (.bool true) ∧ w'.cell? ⟨w.heap.size + 1, 1, none⟩ = some (.slice B m cb)))
      (first | exact ⟨⟨a0, a1⟩, ⟨b0, b1⟩⟩ | exact ⟨⟨PAs.c0, PAs.c1⟩, ⟨PBs.c0, PBs.c1⟩⟩ | exact ⟨⟨PAt.c0, PAt.c1⟩, ⟨PBt.c0, PBt.c1⟩⟩ | exact ⟨⟨PAu.c0, PAu.c1⟩, ⟨PBu.c0, PBu.c1⟩⟩ | go_keep)
      (first
       | (go_at_call 33; refine (rplus_any _ _ _ _ _ _ _ (max n m) (digs a) (digs b) (a + b) LA.out.drew LB.out.drew rfl (by omega) HP.out).mono ?_; rintro e ws ⟨As, cs, ts, rfl, hLs, hvs, hbs⟩; have HVS := Lib.hid hvs; clear hvs; have Bs := (Below.refl w1.heap.size w1).drew.trans hbs; have PAs := PA.via Bs; have PBs := PB.via Bs; have PRs := PR.via Bs)
       | (go_at_call 23; refine (rmade_any _ _ _ _ _ ts (a + b) hLs HVS.out (by omega)).mono ?_; rintro e wt ⟨At, nt, ct, rfl, hLt, hbt⟩; have PAt := PAs.via hbt; have PBt := PBs.via hbt; have PRt := PRs.via hbt; have HBt : Hid (Below w.heap.size w wt) := HB0.out.trans ((Bs.trans (hbt.mono Bs.size)).mono HB0.out.size); have ⟨r0t, r1t, rf0t, rf1t, rlt⟩ := PRt; have PAu := PAt.far (h := w.heap.size + 1 + 1) (by omega) (.bool (mkN true (a + b))) (.slice At nt ct); have PBu := PBt.far (h := w.heap.size + 1 + 1) (by omega) (.bool (mkN true (a + b))) (.slice At nt ct)))
    go_wp2
    exact post_ws Try.results18 rfl rfl PRt.c0 PRt.c1 ⟨At, nt, ct, rfl, hLt.setP PRt _ _, below_set2 HBt.out (by omega) _ _⟩
set_option maxRecDepth 100000 in
set_option maxHeartbeats 1000000 in
theorem rsum_more (w : World) (na nb : Bool) (A B : Option Addr) (n m ca cb a b : Nat) (hA : Lm w w.heap.size A n ca (digs a)) (hB : Lm w w.heap.size B m cb (digs b)) (hn : n ≤ 10000000) (_ : m ≤ 10000000) (hs : na = true ∧ nb = false ∨ na = false ∧ nb = true) (hle : b ≤ a) :
    Calls Try.prog 18 #[.agg #[.bool na, .slice A n ca], .agg #[.bool nb, .slice B m cb]] w (RW w (mkN na (a - b)) (mkL (a - b)) (mkE (a - b))) := by
  have HA := Lib.hid hA
  have HB := Lib.hid hB
  obtain ⟨z, hz, HC⟩ : ∃ z : Int, 0 ≤ z ∧ Hid (cmpL (digs a) (digs b) = z) := ⟨_, by rw [cmpL_norm (digs_good _) (digs_good _) (digs_norm _) (digs_norm _), digs_val, digs_val]; unfold cmpN; rw [if_neg (by omega)]; split <;> decide, rfl⟩
  have HP : Hid (val (digs a) - val (digs b) = a - b) := by show _ = _; rw [digs_val, digs_val]
  have HLe : Hid (val (digs b) ≤ val (digs a)) := by show _ ≤ _; rw [digs_val, digs_val]; exact hle
  have hml : m ≤ n := by rw [← hA.len, ← hB.len]; exact digs_mono hle
  have hsz : (digs (a - b)).length ≤ n := by rw [← hA.len]; exact digs_mono (Nat.sub_le _ _)
  clear hA hB
  rcases hs with ⟨rfl, rfl⟩ | ⟨rfl, rfl⟩
  · go_enter Try.func18, Try.ntmps18
    go_wp2_with fail
    have ⟨PA, PB, PR⟩ := boxes3 w 24 24 24 (.bool true) (.slice A n ca) (.bool false) (.slice B m cb) (.bool false) (.slice none 0 0)
    have HB0 := Lib.hid (below3 w (.cells #[.bool true, .slice A n ca] 24) (.cells #[.bool false, .slice B m cb] 24) (.cells #[.bool false, .slice none 0 0] 24))
    have LA := Lib.hid (((HA.out.box (.cells #[.bool true, .slice A n ca] 24)).box (.cells #[.bool false, .slice B m cb] 24)).box (.cells #[.bool false, .slice none 0 0] 24))
    have LB := Lib.hid (((HB.out.box (.cells #[.bool true, .slice A n ca] 24)).box (.cells #[.bool false, .slice B m cb] 24)).box (.cells #[.bool false, .slice none 0 0] 24))
    generalize ((w.alloc (.cells #[.bool true, .slice A n ca] 24)).alloc (.cells #[.bool false, .slice B m cb] 24)).alloc (.cells #[.bool false, .slice none 0 0] 24) = w1 at *
    have ⟨a0, a1, _, _, _⟩ := PA
    have ⟨b0, b1, _, _, _⟩ := PB
    have ⟨r0, r1, rf0, rf1, rl⟩ := PR
    refine (rcompare_any A B n m ca cb (digs a) (digs b) w1 LA.out LB.out).mono ?_
    rintro e w2 ⟨he, d, rfl⟩
    rw [HC.out] at he
    subst he
    have PA2 := PA.drewN d
    have PB2 := PB.drewN d
    have PR2 := PR.drewN d
    have HB2 : Hid (Below w.heap.size w (w1.drewN d)) := bdrewN HB0.out d
    have LA2 := Lib.hid (LA.out.drewN d)
    have LB2 := Lib.hid (LB.out.drewN d)
    clear PA PB PR HB0 LA LB a0 a1 b0 b1 r0 r1 rf0 rf1 rl
    generalize w1.drewN d = w3 at *
    have PA := PA2
    have PB := PB2
    have PR := PR2
    have HB0 := HB2
    have LA := LA2
    have LB := LB2
    clear PA2 PB2 PR2 HB2 LA2 LB2
    have ⟨a0, a1, _, _, _⟩ := PA
    have ⟨b0, b1, _, _, _⟩ := PB
    have ⟨r0, r1, rf0, rf1, rl⟩ := PR
    go_wp2_with fail
    go_region_held3 (fun w' => (w'.cell? ⟨w.heap.size, 0, none⟩ = some (.bool true) ∧ w'.cell? ⟨w.heap.size, 1, none⟩ = some (.slice A n ca)) ∧ (w'.cell? ⟨w.heap.size + 1, 0, none⟩ = some (.bool false) ∧ w'.cell? ⟨w.heap.size + 1, 1, none⟩ = some (.slice B m cb)))
      (first | exact ⟨⟨a0, a1⟩, ⟨b0, b1⟩⟩ | exact ⟨⟨PAs.c0, PAs.c1⟩, ⟨PBs.c0, PBs.c1⟩⟩ | exact ⟨⟨PAt.c0, PAt.c1⟩, ⟨PBt.c0, PBt.c1⟩⟩ | exact ⟨⟨PAu.c0, PAu.c1⟩, ⟨PBu.c0, PBu.c1⟩⟩ | go_keep)
      (first
       | (go_at_call 34; refine (rminus_any _ _ _ _ _ _ _ (digs a) (digs b) (a - b) LA.out.drew LB.out.drew hml (by omega) HLe.out HP.out).mono ?_; rintro e ws ⟨As, cs, rfl, hLs, hbs⟩; have Bs := (Below.refl w3.heap.size w3).drew.trans hbs; have PAs := PA.via Bs; have PBs := PB.via Bs; have PRs := PR.via Bs)
       | (go_at_call 23; refine (rmade_any _ _ _ _ _ (digs (a - b)) (a - b) hLs (digs_val _) (by omega)).mono ?_; rintro e wt ⟨At, nt, ct, rfl, hLt, hbt⟩; have PAt := PAs.via hbt; have PBt := PBs.via hbt; have PRt := PRs.via hbt; have HBt : Hid (Below w.heap.size w wt) := HB0.out.trans ((Bs.trans (hbt.mono Bs.size)).mono HB0.out.size); have ⟨r0t, r1t, rf0t, rf1t, rlt⟩ := PRt; have PAu := PAt.far (h := w.heap.size + 1 + 1) (by omega) (.bool (mkN true (a - b))) (.slice At nt ct); have PBu := PBt.far (h := w.heap.size + 1 + 1) (by omega) (.bool (mkN true (a - b))) (.slice At nt ct)))
    go_wp2
    exact post_ws Try.results18 rfl rfl PRt.c0 PRt.c1 ⟨At, nt, ct, rfl, hLt.setP PRt _ _, below_set2 HBt.out (by omega) _ _⟩
  · go_enter Try.func18, Try.ntmps18
    go_wp2_with fail
    have ⟨PA, PB, PR⟩ := boxes3 w 24 24 24 (.bool false) (.slice A n ca) (.bool true) (.slice B m cb) (.bool false) (.slice none 0 0)
    have HB0 := Lib.hid (below3 w (.cells #[.bool false, .slice A n ca] 24) (.cells #[.bool true, .slice B m cb] 24) (.cells #[.bool false, .slice none 0 0] 24))
    have LA := Lib.hid (((HA.out.box (.cells #[.bool false, .slice A n ca] 24)).box (.cells #[.bool true, .slice B m cb] 24)).box (.cells #[.bool false, .slice none 0 0] 24))
    have LB := Lib.hid (((HB.out.box (.cells #[.bool false, .slice A n ca] 24)).box (.cells #[.bool true, .slice B m cb] 24)).box (.cells #[.bool false, .slice none 0 0] 24))
    generalize ((w.alloc (.cells #[.bool false, .slice A n ca] 24)).alloc (.cells #[.bool true, .slice B m cb] 24)).alloc (.cells #[.bool false, .slice none 0 0] 24) = w1 at *
    have ⟨a0, a1, _, _, _⟩ := PA
    have ⟨b0, b1, _, _, _⟩ := PB
    have ⟨r0, r1, rf0, rf1, rl⟩ := PR
    refine (rcompare_any A B n m ca cb (digs a) (digs b) w1 LA.out LB.out).mono ?_
    rintro e w2 ⟨he, d, rfl⟩
    rw [HC.out] at he
    subst he
    have PA2 := PA.drewN d
    have PB2 := PB.drewN d
    have PR2 := PR.drewN d
    have HB2 : Hid (Below w.heap.size w (w1.drewN d)) := bdrewN HB0.out d
    have LA2 := Lib.hid (LA.out.drewN d)
    have LB2 := Lib.hid (LB.out.drewN d)
    clear PA PB PR HB0 LA LB a0 a1 b0 b1 r0 r1 rf0 rf1 rl
    generalize w1.drewN d = w3 at *
    have PA := PA2
    have PB := PB2
    have PR := PR2
    have HB0 := HB2
    have LA := LA2
    have LB := LB2
    clear PA2 PB2 PR2 HB2 LA2 LB2
    have ⟨a0, a1, _, _, _⟩ := PA
    have ⟨b0, b1, _, _, _⟩ := PB
    have ⟨r0, r1, rf0, rf1, rl⟩ := PR
    go_wp2_with fail
    go_region_held3 (fun w' => (w'.cell? ⟨w.heap.size, 0, none⟩ = some (.bool false) ∧ w'.cell? ⟨w.heap.size, 1, none⟩ = some (.slice A n ca)) ∧ (w'.cell? ⟨w.heap.size + 1, 0, none⟩ = some (.bool true) ∧ w'.cell? ⟨w.heap.size + 1, 1, none⟩ = some (.slice B m cb)))
      (first | exact ⟨⟨a0, a1⟩, ⟨b0, b1⟩⟩ | exact ⟨⟨PAs.c0, PAs.c1⟩, ⟨PBs.c0, PBs.c1⟩⟩ | exact ⟨⟨PAt.c0, PAt.c1⟩, ⟨PBt.c0, PBt.c1⟩⟩ | exact ⟨⟨PAu.c0, PAu.c1⟩, ⟨PBu.c0, PBu.c1⟩⟩ | go_keep)
      (first
       | (go_at_call 34; refine (rminus_any _ _ _ _ _ _ _ (digs a) (digs b) (a - b) LA.out.drew LB.out.drew hml (by omega) HLe.out HP.out).mono ?_; rintro e ws ⟨As, cs, rfl, hLs, hbs⟩; have Bs := (Below.refl w3.heap.size w3).drew.trans hbs; have PAs := PA.via Bs; have PBs := PB.via Bs; have PRs := PR.via Bs)
       | (go_at_call 23; refine (rmade_any _ _ _ _ _ (digs (a - b)) (a - b) hLs (digs_val _) (by omega)).mono ?_; rintro e wt ⟨At, nt, ct, rfl, hLt, hbt⟩; have PAt := PAs.via hbt; have PBt := PBs.via hbt; have PRt := PRs.via hbt; have HBt : Hid (Below w.heap.size w wt) := HB0.out.trans ((Bs.trans (hbt.mono Bs.size)).mono HB0.out.size); have ⟨r0t, r1t, rf0t, rf1t, rlt⟩ := PRt; have PAu := PAt.far (h := w.heap.size + 1 + 1) (by omega) (.bool (mkN false (a - b))) (.slice At nt ct); have PBu := PBt.far (h := w.heap.size + 1 + 1) (by omega) (.bool (mkN false (a - b))) (.slice At nt ct)))
    go_wp2
    exact post_ws Try.results18 rfl rfl PRt.c0 PRt.c1 ⟨At, nt, ct, rfl, hLt.setP PRt _ _, below_set2 HBt.out (by omega) _ _⟩
set_option maxRecDepth 100000 in
set_option maxHeartbeats 1000000 in
theorem rsum_less (w : World) (na nb : Bool) (A B : Option Addr) (n m ca cb a b : Nat) (hA : Lm w w.heap.size A n ca (digs a)) (hB : Lm w w.heap.size B m cb (digs b)) (_ : n ≤ 10000000) (hm : m ≤ 10000000) (hs : na = true ∧ nb = false ∨ na = false ∧ nb = true) (hlt : a < b) :
    Calls Try.prog 18 #[.agg #[.bool na, .slice A n ca], .agg #[.bool nb, .slice B m cb]] w (RW w (mkN nb (b - a)) (mkL (b - a)) (mkE (b - a))) := by
  have HA := Lib.hid hA
  have HB := Lib.hid hB
  have HC : Hid (cmpL (digs a) (digs b) = -1) := by show _ = _; rw [cmpL_norm (digs_good _) (digs_good _) (digs_norm _) (digs_norm _), digs_val, digs_val]; exact cmpN_lt hlt
  have HP : Hid (val (digs b) - val (digs a) = b - a) := by show _ = _; rw [digs_val, digs_val]
  have HLe : Hid (val (digs a) ≤ val (digs b)) := by show _ ≤ _; rw [digs_val, digs_val]; exact Nat.le_of_lt hlt
  have hml : n ≤ m := by rw [← hA.len, ← hB.len]; exact digs_mono (Nat.le_of_lt hlt)
  have hsz : (digs (b - a)).length ≤ m := by rw [← hB.len]; exact digs_mono (Nat.sub_le _ _)
  clear hA hB
  rcases hs with ⟨rfl, rfl⟩ | ⟨rfl, rfl⟩
  · go_enter Try.func18, Try.ntmps18
    go_wp2_with fail
    have ⟨PA, PB, PR⟩ := boxes3 w 24 24 24 (.bool true) (.slice A n ca) (.bool false) (.slice B m cb) (.bool false) (.slice none 0 0)
    have HB0 := Lib.hid (below3 w (.cells #[.bool true, .slice A n ca] 24) (.cells #[.bool false, .slice B m cb] 24) (.cells #[.bool false, .slice none 0 0] 24))
    have LA := Lib.hid (((HA.out.box (.cells #[.bool true, .slice A n ca] 24)).box (.cells #[.bool false, .slice B m cb] 24)).box (.cells #[.bool false, .slice none 0 0] 24))
    have LB := Lib.hid (((HB.out.box (.cells #[.bool true, .slice A n ca] 24)).box (.cells #[.bool false, .slice B m cb] 24)).box (.cells #[.bool false, .slice none 0 0] 24))
    generalize ((w.alloc (.cells #[.bool true, .slice A n ca] 24)).alloc (.cells #[.bool false, .slice B m cb] 24)).alloc (.cells #[.bool false, .slice none 0 0] 24) = w1 at *
    have ⟨a0, a1, _, _, _⟩ := PA
    have ⟨b0, b1, _, _, _⟩ := PB
    have ⟨r0, r1, rf0, rf1, rl⟩ := PR
    refine (rcompare_any A B n m ca cb (digs a) (digs b) w1 LA.out LB.out).mono ?_
    rintro e w2 ⟨he, d, rfl⟩
    rw [HC.out] at he
    subst he
    have PA2 := PA.drewN d
    have PB2 := PB.drewN d
    have PR2 := PR.drewN d
    have HB2 : Hid (Below w.heap.size w (w1.drewN d)) := bdrewN HB0.out d
    have LA2 := Lib.hid (LA.out.drewN d)
    have LB2 := Lib.hid (LB.out.drewN d)
    clear PA PB PR HB0 LA LB a0 a1 b0 b1 r0 r1 rf0 rf1 rl
    generalize w1.drewN d = w3 at *
    have PA := PA2
    have PB := PB2
    have PR := PR2
    have HB0 := HB2
    have LA := LA2
    have LB := LB2
    clear PA2 PB2 PR2 HB2 LA2 LB2
    have ⟨a0, a1, _, _, _⟩ := PA
    have ⟨b0, b1, _, _, _⟩ := PB
    have ⟨r0, r1, rf0, rf1, rl⟩ := PR
    go_wp2_with fail
    go_region_held3 (fun w' => (w'.cell? ⟨w.heap.size, 0, none⟩ = some (.bool true) ∧ w'.cell? ⟨w.heap.size, 1, none⟩ = some (.slice A n ca)) ∧ (w'.cell? ⟨w.heap.size + 1, 0, none⟩ = some (.bool false) ∧ w'.cell? ⟨w.heap.size + 1, 1, none⟩ = some (.slice B m cb)))
      (first | exact ⟨⟨a0, a1⟩, ⟨b0, b1⟩⟩ | exact ⟨⟨PAs.c0, PAs.c1⟩, ⟨PBs.c0, PBs.c1⟩⟩ | exact ⟨⟨PAt.c0, PAt.c1⟩, ⟨PBt.c0, PBt.c1⟩⟩ | exact ⟨⟨PAu.c0, PAu.c1⟩, ⟨PBu.c0, PBu.c1⟩⟩ | go_keep)
      (first
       | (go_at_call 34; refine (rminus_any _ _ _ _ _ _ _ (digs b) (digs a) (b - a) LB.out.drew LA.out.drew hml (by omega) HLe.out HP.out).mono ?_; rintro e ws ⟨As, cs, rfl, hLs, hbs⟩; have Bs := (Below.refl w3.heap.size w3).drew.trans hbs; have PAs := PA.via Bs; have PBs := PB.via Bs; have PRs := PR.via Bs)
       | (go_at_call 23; refine (rmade_any _ _ _ _ _ (digs (b - a)) (b - a) hLs (digs_val _) (by omega)).mono ?_; rintro e wt ⟨At, nt, ct, rfl, hLt, hbt⟩; have PAt := PAs.via hbt; have PBt := PBs.via hbt; have PRt := PRs.via hbt; have HBt : Hid (Below w.heap.size w wt) := HB0.out.trans ((Bs.trans (hbt.mono Bs.size)).mono HB0.out.size); have ⟨r0t, r1t, rf0t, rf1t, rlt⟩ := PRt; have PAu := PAt.far (h := w.heap.size + 1 + 1) (by omega) (.bool (mkN false (b - a))) (.slice At nt ct); have PBu := PBt.far (h := w.heap.size + 1 + 1) (by omega) (.bool (mkN false (b - a))) (.slice At nt ct)))
    go_wp2
    exact post_ws Try.results18 rfl rfl PRt.c0 PRt.c1 ⟨At, nt, ct, rfl, hLt.setP PRt _ _, below_set2 HBt.out (by omega) _ _⟩
  · go_enter Try.func18, Try.ntmps18
    go_wp2_with fail
    have ⟨PA, PB, PR⟩ := boxes3 w 24 24 24 (.bool false) (.slice A n ca) (.bool true) (.slice B m cb) (.bool false) (.slice none 0 0)
    have HB0 := Lib.hid (below3 w (.cells #[.bool false, .slice A n ca] 24) (.cells #[.bool true, .slice B m cb] 24) (.cells #[.bool false, .slice none 0 0] 24))
    have LA := Lib.hid (((HA.out.box (.cells #[.bool false, .slice A n ca] 24)).box (.cells #[.bool true, .slice B m cb] 24)).box (.cells #[.bool false, .slice none 0 0] 24))
    have LB := Lib.hid (((HB.out.box (.cells #[.bool false, .slice A n ca] 24)).box (.cells #[.bool true, .slice B m cb] 24)).box (.cells #[.bool false, .slice none 0 0] 24))
    generalize ((w.alloc (.cells #[.bool false, .slice A n ca] 24)).alloc (.cells #[.bool true, .slice B m cb] 24)).alloc (.cells #[.bool false, .slice none 0 0] 24) = w1 at *
    have ⟨a0, a1, _, _, _⟩ := PA
    have ⟨b0, b1, _, _, _⟩ := PB
    have ⟨r0, r1, rf0, rf1, rl⟩ := PR
    refine (rcompare_any A B n m ca cb (digs a) (digs b) w1 LA.out LB.out).mono ?_
    rintro e w2 ⟨he, d, rfl⟩
    rw [HC.out] at he
    subst he
    have PA2 := PA.drewN d
    have PB2 := PB.drewN d
    have PR2 := PR.drewN d
    have HB2 : Hid (Below w.heap.size w (w1.drewN d)) := bdrewN HB0.out d
    have LA2 := Lib.hid (LA.out.drewN d)
    have LB2 := Lib.hid (LB.out.drewN d)
    clear PA PB PR HB0 LA LB a0 a1 b0 b1 r0 r1 rf0 rf1 rl
    generalize w1.drewN d = w3 at *
    have PA := PA2
    have PB := PB2
    have PR := PR2
    have HB0 := HB2
    have LA := LA2
    have LB := LB2
    clear PA2 PB2 PR2 HB2 LA2 LB2
    have ⟨a0, a1, _, _, _⟩ := PA
    have ⟨b0, b1, _, _, _⟩ := PB
    have ⟨r0, r1, rf0, rf1, rl⟩ := PR
    go_wp2_with fail
    go_region_held3 (fun w' => (w'.cell? ⟨w.heap.size, 0, none⟩ = some (.bool false) ∧ w'.cell? ⟨w.heap.size, 1, none⟩ = some (.slice A n ca)) ∧ (w'.cell? ⟨w.heap.size + 1, 0, none⟩ = some (.bool true) ∧ w'.cell? ⟨w.heap.size + 1, 1, none⟩ = some (.slice B m cb)))
      (first | exact ⟨⟨a0, a1⟩, ⟨b0, b1⟩⟩ | exact ⟨⟨PAs.c0, PAs.c1⟩, ⟨PBs.c0, PBs.c1⟩⟩ | exact ⟨⟨PAt.c0, PAt.c1⟩, ⟨PBt.c0, PBt.c1⟩⟩ | exact ⟨⟨PAu.c0, PAu.c1⟩, ⟨PBu.c0, PBu.c1⟩⟩ | go_keep)
      (first
       | (go_at_call 34; refine (rminus_any _ _ _ _ _ _ _ (digs b) (digs a) (b - a) LB.out.drew LA.out.drew hml (by omega) HLe.out HP.out).mono ?_; rintro e ws ⟨As, cs, rfl, hLs, hbs⟩; have Bs := (Below.refl w3.heap.size w3).drew.trans hbs; have PAs := PA.via Bs; have PBs := PB.via Bs; have PRs := PR.via Bs)
       | (go_at_call 23; refine (rmade_any _ _ _ _ _ (digs (b - a)) (b - a) hLs (digs_val _) (by omega)).mono ?_; rintro e wt ⟨At, nt, ct, rfl, hLt, hbt⟩; have PAt := PAs.via hbt; have PBt := PBs.via hbt; have PRt := PRs.via hbt; have HBt : Hid (Below w.heap.size w wt) := HB0.out.trans ((Bs.trans (hbt.mono Bs.size)).mono HB0.out.size); have ⟨r0t, r1t, rf0t, rf1t, rlt⟩ := PRt; have PAu := PAt.far (h := w.heap.size + 1 + 1) (by omega) (.bool (mkN true (b - a))) (.slice At nt ct); have PBu := PBt.far (h := w.heap.size + 1 + 1) (by omega) (.bool (mkN true (b - a))) (.slice At nt ct)))
    go_wp2
    exact post_ws Try.results18 rfl rfl PRt.c0 PRt.c1 ⟨At, nt, ct, rfl, hLt.setP PRt _ _, below_set2 HBt.out (by omega) _ _⟩
theorem rsum_any (w : World) (na nb : Bool) (A B : Option Addr) (n m ca cb a b : Nat) (hA : Lm w w.heap.size A n ca (digs a)) (hB : Lm w w.heap.size B m cb (digs b)) (hn : n ≤ 10000000) (hm : m ≤ 10000000) :
    Calls Try.prog 18 #[.agg #[.bool na, .slice A n ca], .agg #[.bool nb, .slice B m cb]] w (RZ w (toI na a + toI nb b)) := by
  by_cases hs : na = nb
  · rw [← rz_of w na (a + b) (toI_same hs a b)]
    exact rsum_same w na nb A B n m ca cb a b hA hB hn hm hs
  · have h2 : na = true ∧ nb = false ∨ na = false ∧ nb = true := by cases na <;> cases nb <;> simp at hs ⊢
    rcases Nat.lt_or_ge a b with h | h
    · have e := toI_less hs h
      have hnn : (!na) = nb := by cases na <;> cases nb <;> simp at hs ⊢
      rw [hnn] at e
      rw [← rz_of w nb (b - a) e]
      exact rsum_less w na nb A B n m ca cb a b hA hB hn hm h2 h
    · rw [← rz_of w na (a - b) (toI_more hs h)]
      exact rsum_more w na nb A B n m ca cb a b hA hB hn hm h2 h
end Go.Proofs.Ytkajmglpmdhmnaa

/- The reference's Add and Sub. -/
namespace Go.Proofs.Ytkajmglpmdhmnaa
open Go.RowKit

set_option maxRecDepth 100000 in
set_option maxHeartbeats 1000000 in
theorem radd_bad (w : World) (na nb : Bool) (A B : Option Addr) (n m ca cb : Nat) (xs ys : List Nat) (hA : Lm w w.heap.size A n ca xs) (hB : Lm w w.heap.size B m cb ys) (hv : chkB na xs nb ys = 8) :
    Calls Try.prog 7 #[.agg #[.bool na, .slice A n ca], .agg #[.bool nb, .slice B m cb]] w (RW w false [] 8) := by
  have HA := Lib.hid hA
  have HB := Lib.hid hB
  have HV := Lib.hid hv
  clear hv
  go_enter Try.func7, Try.ntmps7
  go_wp2_with fail
  refine (rboth_any _ _ _ _ _ _ _ _ _ _ _ (((HA.out.box _).box _).box _) (((HB.out.box _).box _).box _) 8 HV.out).mono ?_
  rintro e w1 ⟨rfl, hb1⟩
  have ⟨hx0, hx1, hy0, hy1, hz0, hz1, hf0, hf1, hsz⟩ := box3 hb1
  go_wp2_with fail
  refine (rboth_any _ _ _ _ _ _ _ _ _ _ _ ((((HA.out.box _).box _).box _).via hb1) ((((HB.out.box _).box _).box _).via hb1) 8 HV.out).mono ?_
  rintro e w2 ⟨rfl, hb2⟩
  have hky2 := keep2 hb2 hsz ⟨hz0, hz1⟩
  have ⟨hkf0, hkf1⟩ := keepF hb2 hsz ⟨hf0, hf1⟩
  go_wp2
  exact post_ws Try.results7 rfl rfl hky2.1 hky2.2 ⟨none, 0, 0, rfl, Lm.nil _ _, below_set2 ((bbox (bbox (bbox hb1))).trans (hb2.mono (by omega))) (by omega) _ _⟩

set_option maxRecDepth 100000 in
set_option maxHeartbeats 1000000 in
theorem radd_ok (w : World) (na nb : Bool) (A B : Option Addr) (n m ca cb a b : Nat) (hA : Lm w w.heap.size A n ca (digs a)) (hB : Lm w w.heap.size B m cb (digs b)) (hv : chkB na (digs a) nb (digs b) = 0) :
    Calls Try.prog 7 #[.agg #[.bool na, .slice A n ca], .agg #[.bool nb, .slice B m cb]] w (RZ w (toI na a + toI nb b)) := by
  have h41 := (chk_ok.1 (chkB_ok.1 hv).1).1
  have h42 := (chk_ok.1 (chkB_ok.1 hv).2).1
  rw [hA.len] at h41
  rw [hB.len] at h42
  have HA := Lib.hid hA
  have HB := Lib.hid hB
  have HV := Lib.hid hv
  clear hv
  go_enter Try.func7, Try.ntmps7
  go_wp2_with fail
  refine (rboth_any _ _ _ _ _ _ _ _ _ _ _ (((HA.out.box _).box _).box _) (((HB.out.box _).box _).box _) 0 HV.out).mono ?_
  rintro e w1 ⟨rfl, hb1⟩
  have ⟨hx0, hx1, hy0, hy1, hz0, hz1, hf0, hf1, hsz⟩ := box3 hb1
  go_wp2_with fail
  refine (rsum_any _ _ _ _ _ _ _ _ _ a b ((((HA.out.box _).box _).box _).via hb1) ((((HB.out.box _).box _).box _).via hb1) (by omega) (by omega)).mono ?_
  rintro e w2 ⟨A2, n2, c2, rfl, hL2, hb2⟩
  have hky2 := keep2 hb2 hsz ⟨hz0, hz1⟩
  have ⟨hkf0, hkf1⟩ := keepF hb2 hsz ⟨hf0, hf1⟩
  go_wp2
  exact post_ws Try.results7 rfl rfl hky2.1 hky2.2 ⟨A2, n2, c2, rfl, hL2.set2 hky2.1 hky2.2 _ _, below_set2 ((bbox (bbox (bbox hb1))).trans (hb2.mono (by omega))) (by omega) _ _⟩

set_option maxRecDepth 100000 in
set_option maxHeartbeats 1000000 in
theorem rsub_bad (w : World) (na nb : Bool) (A B : Option Addr) (n m ca cb : Nat) (xs ys : List Nat) (hA : Lm w w.heap.size A n ca xs) (hB : Lm w w.heap.size B m cb ys) (hv : chkB na xs nb ys = 8) :
    Calls Try.prog 9 #[.agg #[.bool na, .slice A n ca], .agg #[.bool nb, .slice B m cb]] w (RW w false [] 8) := by
  have HA := Lib.hid hA
  have HB := Lib.hid hB
  have HV := Lib.hid hv
  clear hv
  go_enter Try.func9, Try.ntmps9
  go_wp2_with fail
  refine (rboth_any _ _ _ _ _ _ _ _ _ _ _ (((HA.out.box _).box _).box _) (((HB.out.box _).box _).box _) 8 HV.out).mono ?_
  rintro e w1 ⟨rfl, hb1⟩
  have ⟨hx0, hx1, hy0, hy1, hz0, hz1, hf0, hf1, hsz⟩ := box3 hb1
  go_wp2_with fail
  refine (rboth_any _ _ _ _ _ _ _ _ _ _ _ ((((HA.out.box _).box _).box _).via hb1) ((((HB.out.box _).box _).box _).via hb1) 8 HV.out).mono ?_
  rintro e w2 ⟨rfl, hb2⟩
  have hky2 := keep2 hb2 hsz ⟨hz0, hz1⟩
  have ⟨hkf0, hkf1⟩ := keepF hb2 hsz ⟨hf0, hf1⟩
  go_wp2
  exact post_ws Try.results9 rfl rfl hky2.1 hky2.2 ⟨none, 0, 0, rfl, Lm.nil _ _, below_set2 ((bbox (bbox (bbox hb1))).trans (hb2.mono (by omega))) (by omega) _ _⟩

set_option maxRecDepth 100000 in
set_option maxHeartbeats 1000000 in
theorem rsub_way (w : World) (na nb s : Bool) (A B : Option Addr) (n m ca cb a b : Nat) (hA : Lm w w.heap.size A n ca (digs a)) (hB : Lm w w.heap.size B m cb (digs b)) (hv : chkB na (digs a) nb (digs b) = 0) (hs : nb = true ∧ s = false ∨ nb = false ∧ m = 0 ∧ s = false ∨ nb = false ∧ 0 < m ∧ s = true) :
    Calls Try.prog 9 #[.agg #[.bool na, .slice A n ca], .agg #[.bool nb, .slice B m cb]] w (RZ w (toI na a + toI s b)) := by
  have h41 := (chk_ok.1 (chkB_ok.1 hv).1).1
  have h42 := (chk_ok.1 (chkB_ok.1 hv).2).1
  rw [hA.len] at h41
  rw [hB.len] at h42
  have HA := Lib.hid hA
  have HB := Lib.hid hB
  have HV := Lib.hid hv
  have hcB := hB.cap
  have hxB := hB.max
  clear hv hA hB
  rcases hs with ⟨rfl, rfl⟩ | ⟨rfl, rfl, rfl⟩ | ⟨rfl, hm0, rfl⟩
  all_goals
    go_enter Try.func9, Try.ntmps9
    go_wp2_with fail
    refine (rboth_any _ _ _ _ _ _ _ _ _ _ _ (((HA.out.box _).box _).box _) (((HB.out.box _).box _).box _) 0 HV.out).mono ?_
    rintro e w1 ⟨rfl, hb1⟩
    have ⟨hx0, hx1, hy0, hy1, hz0, hz1, hf0, hf1, hsz⟩ := box3 hb1
    go_wp2_with fail
    refine (rsum_any _ _ _ _ _ _ _ _ _ a b ((((HA.out.box _).box _).box _).via hb1) ((((HB.out.box _).box _).box _).via hb1) (by omega) (by omega)).mono ?_
    rintro e w2 ⟨A2, n2, c2, rfl, hL2, hb2⟩
    have hky2 := keep2 hb2 hsz ⟨hz0, hz1⟩
    have ⟨hkf0, hkf1⟩ := keepF hb2 hsz ⟨hf0, hf1⟩
    go_wp2
    exact post_ws Try.results9 rfl rfl hky2.1 hky2.2 ⟨A2, n2, c2, rfl, hL2.set2 hky2.1 hky2.2 _ _, below_set2 ((bbox (bbox (bbox hb1))).trans (hb2.mono (by omega))) (by omega) _ _⟩

theorem rsub_ok (w : World) (na nb : Bool) (A B : Option Addr) (n m ca cb a b : Nat) (hA : Lm w w.heap.size A n ca (digs a)) (hB : Lm w w.heap.size B m cb (digs b)) (hv : chkB na (digs a) nb (digs b) = 0) :
    Calls Try.prog 9 #[.agg #[.bool na, .slice A n ca], .agg #[.bool nb, .slice B m cb]] w (RZ w (toI na a - toI nb b)) := by
  obtain ⟨s, hs, he⟩ : ∃ s, (nb = true ∧ s = false ∨ nb = false ∧ m = 0 ∧ s = false ∨ nb = false ∧ 0 < m ∧ s = true) ∧ toI na a - toI nb b = toI na a + toI s b := by
    cases nb
    · rcases Nat.eq_zero_or_pos m with h | h
      · have hb : b = 0 := digs_nil.1 (List.eq_nil_of_length_eq_zero (by rw [hB.len]; exact h))
        exact ⟨false, .inr (.inl ⟨rfl, h, rfl⟩), by subst hb; simp [toI]⟩
      · exact ⟨true, .inr (.inr ⟨rfl, h, rfl⟩), by simp [toI]; omega⟩
    · exact ⟨false, .inl ⟨rfl, rfl⟩, by simp [toI]⟩
  rw [he]
  exact rsub_way w na nb s A B n m ca cb a b hA hB hv hs
end Go.Proofs.Ytkajmglpmdhmnaa

/- The reference's times. -/
namespace Go.Proofs.Ytkajmglpmdhmnaa
open Go.RowKit

theorem grownBy_drewN {w w' : World} {row : Option Nat} (h : w.grownBy w' row) (d : Nat) : w.grownBy (w'.drewN d) row := ⟨h.os, h.tape, h.output, h.size, h.block⟩
theorem Ld.drewN {w : World} {g : Nat} {cs : List Nat} (h : Ld w g cs) (d : Nat) : Ld (w.drewN d) g cs := h

set_option maxRecDepth 100000 in
set_option maxHeartbeats 1000000 in
theorem rtimes_any (w : World) (A B : Option Addr) (n m ca cb : Nat) (xs ys : List Nat) (v : Nat) (hA : Lm w w.heap.size A n ca xs) (hB : Lm w w.heap.size B m cb ys) (hn : n ≤ 100000000) (hm : m ≤ 100000000) (hv : val ys * val xs = v) :
    Calls Try.prog 24 #[.slice A n ca, .slice B m cb] w (RL w (n + m) v) := by
  have h1 := hA.cap
  have h2 := hA.max
  have h3 := hB.cap
  have h4 := hB.max
  have HA := Lib.hid hA
  have HB := Lib.hid hB
  have hA0 := hA.good
  have hB0 := hB.good
  have HV := Lib.hid hv
  clear hA hB hv
  have hmk := fun w => run_make_u32 ((n : Int) + (m : Int)) ((n : Int) + (m : Int)) (n + m) (by omega) (by omega) (by omega) w
  go_enter Try.func24, Try.ntmps24
  go_wp2
  clear hmk
  go_loopw [6] (fun i wr => ∃ (k : Nat) (ps : List Nat), k ≤ n ∧ i = .int .i64 k ∧ Ld wr w.heap.size ps ∧ Good ps ∧ ps.length = m + n ∧ val (ps.take (m + k)) = val ys * val (xs.take k) ∧ (∀ j, m + k ≤ j → ps[j]?.getD 0 = 0) ∧ Below w.heap.size w wr) (fun i _ => n - (intOf i).toNat)
  case atStart => exact ⟨0, zer (n + m), Nat.zero_le _, rfl, Ld.new _ _, zer_good _, by rw [zer_len, Nat.add_comm], by rw [zer_val]; simp [val_nil], fun j _ => zer_get _ _, (Below.refl _ _).alloc (Nat.le_refl _) _⟩
  case round =>
    obtain ⟨k, ps, hk, rfl, hL, hG, hlen, hval, hz, hb⟩ := hrel
    have HL := Lib.hid hL
    have HG := Lib.hid hG
    have HLen := Lib.hid hlen
    have HVal := Lib.hid hval
    have HZ := Lib.hid hz
    have HBl := Lib.hid hb
    clear hL hG hlen hval hz hb
    by_cases hlt : k < n
    · obtain ⟨b, bo, rfl, hbb, hcx⟩ := HA.out.cell hlt
      have hxg := hA0.get k
      have HS := Lib.hid (prod_step HB.out.len HLen.out hlt HVal.out)
      have hgs := HL.out.lt
      have HX := Lib.hid (HA.out.below HBl.out)
      have HY := Lib.hid (HB.out.below HBl.out)
      go_wp2
      go_loopw [7, 8] (fun cy i wz => ∃ k2 : Nat, k2 ≤ m ∧ i = .int .i64 k2 ∧ cy = .int .u64 ((mulK (ps.drop k) ys (xs[k]?.getD 0) k2).2 : Nat) ∧ Ld wz w.heap.size (spl ps k (mulK (ps.drop k) ys (xs[k]?.getD 0) k2).1) ∧ wr.grownBy wz (some w.heap.size)) (fun _ i _ => m - (intOf i).toNat)
      case atStart => exact ⟨0, Nat.zero_le _, rfl, rfl, by show Ld wr w.heap.size (spl ps k []); rw [spl_nil]; exact HL.out, World.grownBy.refl wr _⟩
      case round =>
        obtain ⟨k2, hk2, rfl, rfl, hLk, hgk⟩ := hrel
        by_cases hlt2 : k2 < m
        · have hlen := mulK_len (ps.drop k) ys (xs[k]?.getD 0) k2
          have hcx2 := ((HX.out.grownLt hgk (Nat.le_of_lt hgs)).cell hlt)
          obtain ⟨b1, bo1, e1, _, hcx⟩ := hcx2
          cases e1
          obtain ⟨b2, bo2, rfl, hb2, hcy⟩ := (HY.out.grownLt hgk (Nat.le_of_lt hgs)).cell hlt2
          have hct := hLk.cell (i := k + k2) (by rw [spl_len (by rw [hlen, HLen.out]; omega), HLen.out]; omega)
          have hat := spl_at (cs := ps) (off := k) (ts := (mulK (ps.drop k) ys (xs[k]?.getD 0) k2).1) (by rw [hlen, HLen.out]; omega)
          rw [hlen] at hat
          rw [hat] at hct
          have hfr := hLk.frozen (k + k2)
          have hcar := mulK_carry (HG.out.drop k) hB0 hxg k2
          have hyg := hB0.get k2
          have hpg := HG.out.get (k + k2)
          have hmul := mul_bd hyg hxg
          obtain ⟨S, hS⟩ : ∃ S : Nat, S = (mulK (ps.drop k) ys (xs[k]?.getD 0) k2).2 + (ys[k2]?.getD 0 * xs[k]?.getD 0 + ps[k + k2]?.getD 0) := ⟨_, rfl⟩
          have HE : Hid (IntKind.u64.wrap ((((mulK (ps.drop k) ys (xs[k]?.getD 0) k2).2 : Nat) : Int) + IntKind.u64.wrap (IntKind.u64.wrap (((xs[k]?.getD 0 : Nat) : Int) * ((ys[k2]?.getD 0 : Nat) : Int)) + ((ps[k + k2]?.getD 0 : Nat) : Int))) = (S : Int)) := by
            show _ = _
            rw [← Int.natCast_mul, Nat.mul_comm, hS, IntKind.wrap_u64, IntKind.wrap_u64, IntKind.wrap_u64]
            omega
          have HS2 : Hid ((mulK (ps.drop k) ys (xs[k]?.getD 0) (k2 + 1)) = ((mulK (ps.drop k) ys (xs[k]?.getD 0) k2).1 ++ [((mulK (ps.drop k) ys (xs[k]?.getD 0) k2).2 + (ys[k2]?.getD 0 * xs[k]?.getD 0 + ps[k + k2]?.getD 0)) % 4294967296], ((mulK (ps.drop k) ys (xs[k]?.getD 0) k2).2 + (ys[k2]?.getD 0 * xs[k]?.getD 0 + ps[k + k2]?.getD 0)) / 4294967296)) := by
            show _ = _
            rw [← List.getElem?_drop]; rfl
          rw [← hS] at HS2
          have HSb : Hid (S < 18446744073709551616) := by show _ < _; omega
          have HK := Lib.hid hLk
          have HSet := Lib.hid (spl_set (cs := ps) (off := k) (ts := (mulK (ps.drop k) ys (xs[k]?.getD 0) k2).1) (S % 4294967296) (by rw [hlen, HLen.out]; omega))
          have HLn := Lib.hid hlen
          clear hLk hat hlen hS
          have hs1 : IntKind.i64.wrap ((k : Int) + (k2 : Int)) = (k : Int) + (k2 : Int) := IntWalk.i64_in _ (by omega)
          have hs2 : (0 : Int) ≤ (k : Int) + (k2 : Int) := by omega
          have hs3 : ((k : Int) + (k2 : Int)).toNat = k + k2 := by omega
          have hs4 : (k : Int) + (k2 : Int) < ((n + m : Nat) : Int) := by omega
          go_wp2
          go_quiet (fail)
          clear hs1
          go_wp2
          rw [HE.out]
          go_roundw
          case rel =>
            refine ⟨k2 + 1, by omega, by go_num, ?_, ?_, ?_⟩
            · rw [HS2.out]
              exact congrArg (Value.int IntKind.u64) (Int.natCast_ediv _ _).symm
            · have e := (HK.out.drewN nq).set_ (k + k2) (S % 4294967296)
              have e2 := HSet.out
              rw [HLn.out] at e2
              rw [e2] at e
              rw [HS2.out]
              simp only [Int.natCast_emod] at e
              exact e
            · exact grownBy_trans (grownBy_drewN hgk nq) (grownBy_setCellAt _ _ _ _)
          case measure => simp [intOf]; omega
        · obtain rfl : k2 = m := by omega
          have hml := mulK_len (ps.drop k) ys (xs[k]?.getD 0) k2
          have hcar := mulK_carry (HG.out.drop k) hB0 hxg k2
          have hsl : (spl ps k (mulK (ps.drop k) ys (xs[k]?.getD 0) k2).1).length = k2 + n := by rw [spl_len (by rw [hml, HLen.out]; omega), HLen.out]
          have hct := hLk.cell (i := k + k2) (by rw [hsl]; omega)
          have hfr := hLk.frozen (k + k2)
          have HL1 := Lib.hid hLk
          have HG1 := Lib.hid hgk
          have HML := Lib.hid hml
          clear hLk hgk hml hsl
          go_wp2
          go_roundw
          case rel =>
            have e2 := HL1.out.set_ (k + k2) (mulK (ps.drop k) ys (xs[k]?.getD 0) k2).2
            have e3 := spl_set (cs := ps) (off := k) (ts := (mulK (ps.drop k) ys (xs[k]?.getD 0) k2).1) (mulK (ps.drop k) ys (xs[k]?.getD 0) k2).2 (by rw [HML.out, HLen.out]; omega)
            rw [HML.out] at e3
            rw [e3] at e2
            have hl2 : k + ((mulK (ps.drop k) ys (xs[k]?.getD 0) k2).1 ++ [(mulK (ps.drop k) ys (xs[k]?.getD 0) k2).2]).length ≤ ps.length := by
              rw [List.length_append, HML.out, HLen.out]
              show k + (k2 + 1) ≤ k2 + n
              omega
            refine ⟨k + 1, _, by omega, by go_num, e2, ?_, ?_, HS.out, fun j hj => ?_, ?_⟩
            · exact spl_good HG.out ((mulK_good _ _ _ _).append (Good.nil.cons (mulK_carry (HG.out.drop _) hB0 hxg k2)))
            · rw [spl_len hl2, HLen.out]
            · rw [spl_after hl2 (by rw [List.length_append, HML.out]; show k + (k2 + 1) ≤ j; omega)]
              exact HZ.out j (by omega)
            · exact (HBl.out.grown HG1.out (by have := HBl.out.size; omega) (fun b e => by injection e with e; omega)).setCell (p := ⟨w.heap.size, k + k2, none⟩) (Nat.le_refl _) _
          case measure => simp [intOf]; omega
    · obtain rfl : k = n := by omega
      have hvs : Hid (val ps = v) := by
        have e := HVal.out
        rw [List.take_of_length_le (by rw [HLen.out]; exact Nat.le_refl _), List.take_of_length_le (by rw [HA.out.len]; exact Nat.le_refl _), HV.out] at e
        exact e
      have hlm : Hid (Lm wr wr.heap.size (some ⟨w.heap.size, 0, none⟩) (k + m) (k + m) ps) := by
        have e := HL.out.lm HG.out (off := 0) (n := k + m) (c := k + m) (by rw [HLen.out]; omega) (Nat.le_refl _) (by omega)
        rw [List.drop_zero, List.take_of_length_le (by rw [HLen.out]; omega)] at e
        exact e
      go_wp2
      go_ret
      exact ⟨_, _, ps, rfl, hlm.out, hvs.out, HBl.out⟩
end Go.Proofs.Ytkajmglpmdhmnaa

/- The reference's Mul. -/
namespace Go.Proofs.Ytkajmglpmdhmnaa
open Go.RowKit

set_option maxRecDepth 100000 in
set_option maxHeartbeats 1000000 in
theorem rmul_bad (w : World) (na nb : Bool) (A B : Option Addr) (n m ca cb : Nat) (xs ys : List Nat) (hA : Lm w w.heap.size A n ca xs) (hB : Lm w w.heap.size B m cb ys) (hv : chkB na xs nb ys = 8) :
    Calls Try.prog 11 #[.agg #[.bool na, .slice A n ca], .agg #[.bool nb, .slice B m cb]] w (RW w false [] 8) := by
  have HA := Lib.hid hA
  have HB := Lib.hid hB
  have HV := Lib.hid hv
  clear hv
  go_enter Try.func11, Try.ntmps11
  go_wp2_with fail
  refine (rboth_any _ _ _ _ _ _ _ _ _ _ _ (((HA.out.box _).box _).box _) (((HB.out.box _).box _).box _) 8 HV.out).mono ?_
  rintro e w1 ⟨rfl, hb1⟩
  have ⟨hx0, hx1, hy0, hy1, hz0, hz1, hf0, hf1, hsz⟩ := box3 hb1
  go_wp2_with fail
  refine (rboth_any _ _ _ _ _ _ _ _ _ _ _ ((((HA.out.box _).box _).box _).via hb1) ((((HB.out.box _).box _).box _).via hb1) 8 HV.out).mono ?_
  rintro e w2 ⟨rfl, hb2⟩
  have hky2 := keep2 hb2 hsz ⟨hz0, hz1⟩
  have ⟨hkf0, hkf1⟩ := keepF hb2 hsz ⟨hf0, hf1⟩
  go_wp2
  exact post_ws Try.results11 rfl rfl hky2.1 hky2.2 ⟨none, 0, 0, rfl, Lm.nil _ _, below_set2 ((bbox (bbox (bbox hb1))).trans (hb2.mono (by omega))) (by omega) _ _⟩

set_option maxRecDepth 100000 in
set_option maxHeartbeats 1000000 in
theorem rmul_ok (w : World) (na nb : Bool) (A B : Option Addr) (n m ca cb a b : Nat) (hA : Lm w w.heap.size A n ca (digs a)) (hB : Lm w w.heap.size B m cb (digs b)) (hv : chkB na (digs a) nb (digs b) = 0) :
    Calls Try.prog 11 #[.agg #[.bool na, .slice A n ca], .agg #[.bool nb, .slice B m cb]] w (RW w (mkN (na != nb) (a * b)) (mkL (a * b)) (mkE (a * b))) := by
  have h41 := (chk_ok.1 (chkB_ok.1 hv).1).1
  have h42 := (chk_ok.1 (chkB_ok.1 hv).2).1
  rw [hA.len] at h41
  rw [hB.len] at h42
  have HA := Lib.hid hA
  have HB := Lib.hid hB
  have HV := Lib.hid hv
  have HP : Hid (val (digs b) * val (digs a) = a * b) := by show _ = _; rw [digs_val, digs_val, Nat.mul_comm]
  clear hv hA hB
  cases na <;> cases nb
  · go_enter Try.func11, Try.ntmps11
    go_wp2_with fail
    refine (rboth_any _ _ _ _ _ _ _ _ _ _ _ (((HA.out.box _).box _).box _) (((HB.out.box _).box _).box _) 0 HV.out).mono ?_
    rintro e w1 ⟨rfl, hb1⟩
    have ⟨PA0, PB0, PR0⟩ := boxes3 w 24 24 24 (.bool false) (.slice A n ca) (.bool false) (.slice B m cb) (.bool false) (.slice none 0 0)
    have PA := PA0.via hb1
    have PB := PB0.via hb1
    have PR := PR0.via hb1
    have LA := Lib.hid ((((HA.out.box _).box _).box _).via hb1)
    have LB := Lib.hid ((((HB.out.box _).box _).box _).via hb1)
    have HB0 := Lib.hid (bbox (bbox (bbox hb1)))
    clear PA0 PB0 PR0 hb1
    have ⟨a0, a1, _, _, _⟩ := PA
    have ⟨b0, b1, _, _, _⟩ := PB
    have ⟨r0, r1, rf0, rf1, rl⟩ := PR
    go_wp2_with fail
    go_region_held3 (fun w' => (w'.cell? ⟨w.heap.size, 0, none⟩ = some (.bool false) ∧ w'.cell? ⟨w.heap.size, 1, none⟩ = some (.slice A n ca)) ∧ (w'.cell? ⟨w.heap.size + 1, 0, none⟩ = some (.bool false) ∧ w'.cell? ⟨w.heap.size + 1, 1, none⟩ = some (.slice B m cb)))
      (first | exact ⟨⟨a0, a1⟩, ⟨b0, b1⟩⟩ | exact ⟨⟨PAs.c0, PAs.c1⟩, ⟨PBs.c0, PBs.c1⟩⟩ | exact ⟨⟨PAt.c0, PAt.c1⟩, ⟨PBt.c0, PBt.c1⟩⟩ | exact ⟨⟨PAu.c0, PAu.c1⟩, ⟨PBu.c0, PBu.c1⟩⟩ | go_keep)
      (first
       | (go_at_call 24; refine (rtimes_any _ _ _ _ _ _ _ (digs a) (digs b) (a * b) LA.out.drew LB.out.drew (by omega) (by omega) HP.out).mono ?_; rintro e ws ⟨As, cs, ts, rfl, hLs, hvs, hbs⟩; have HVS := Lib.hid hvs; clear hvs; have Bs := (Below.refl w1.heap.size w1).drew.trans hbs; have PAs := PA.via Bs; have PBs := PB.via Bs; have PRs := PR.via Bs)
       | (go_at_call 23; refine (rmade_any _ _ _ _ _ ts (a * b) hLs HVS.out (by omega)).mono ?_; rintro e wt ⟨At, nt, ct, rfl, hLt, hbt⟩; have PAt := PAs.via hbt; have PBt := PBs.via hbt; have PRt := PRs.via hbt; have HBt : Hid (Below w.heap.size w wt) := HB0.out.trans ((Bs.trans (hbt.mono Bs.size)).mono HB0.out.size); have ⟨r0t, r1t, rf0t, rf1t, rlt⟩ := PRt; have PAu := PAt.far (h := w.heap.size + 1 + 1) (by omega) (.bool (mkN false (a * b))) (.slice At nt ct); have PBu := PBt.far (h := w.heap.size + 1 + 1) (by omega) (.bool (mkN false (a * b))) (.slice At nt ct)))
    go_wp2
    exact post_ws Try.results11 rfl rfl PRt.c0 PRt.c1 ⟨At, nt, ct, rfl, hLt.setP PRt _ _, below_set2 HBt.out (by omega) _ _⟩
  · go_enter Try.func11, Try.ntmps11
    go_wp2_with fail
    refine (rboth_any _ _ _ _ _ _ _ _ _ _ _ (((HA.out.box _).box _).box _) (((HB.out.box _).box _).box _) 0 HV.out).mono ?_
    rintro e w1 ⟨rfl, hb1⟩
    have ⟨PA0, PB0, PR0⟩ := boxes3 w 24 24 24 (.bool false) (.slice A n ca) (.bool true) (.slice B m cb) (.bool false) (.slice none 0 0)
    have PA := PA0.via hb1
    have PB := PB0.via hb1
    have PR := PR0.via hb1
    have LA := Lib.hid ((((HA.out.box _).box _).box _).via hb1)
    have LB := Lib.hid ((((HB.out.box _).box _).box _).via hb1)
    have HB0 := Lib.hid (bbox (bbox (bbox hb1)))
    clear PA0 PB0 PR0 hb1
    have ⟨a0, a1, _, _, _⟩ := PA
    have ⟨b0, b1, _, _, _⟩ := PB
    have ⟨r0, r1, rf0, rf1, rl⟩ := PR
    go_wp2_with fail
    go_region_held3 (fun w' => (w'.cell? ⟨w.heap.size, 0, none⟩ = some (.bool false) ∧ w'.cell? ⟨w.heap.size, 1, none⟩ = some (.slice A n ca)) ∧ (w'.cell? ⟨w.heap.size + 1, 0, none⟩ = some (.bool true) ∧ w'.cell? ⟨w.heap.size + 1, 1, none⟩ = some (.slice B m cb)))
      (first | exact ⟨⟨a0, a1⟩, ⟨b0, b1⟩⟩ | exact ⟨⟨PAs.c0, PAs.c1⟩, ⟨PBs.c0, PBs.c1⟩⟩ | exact ⟨⟨PAt.c0, PAt.c1⟩, ⟨PBt.c0, PBt.c1⟩⟩ | exact ⟨⟨PAu.c0, PAu.c1⟩, ⟨PBu.c0, PBu.c1⟩⟩ | go_keep)
      (first
       | (go_at_call 24; refine (rtimes_any _ _ _ _ _ _ _ (digs a) (digs b) (a * b) LA.out.drew LB.out.drew (by omega) (by omega) HP.out).mono ?_; rintro e ws ⟨As, cs, ts, rfl, hLs, hvs, hbs⟩; have HVS := Lib.hid hvs; clear hvs; have Bs := (Below.refl w1.heap.size w1).drew.trans hbs; have PAs := PA.via Bs; have PBs := PB.via Bs; have PRs := PR.via Bs)
       | (go_at_call 23; refine (rmade_any _ _ _ _ _ ts (a * b) hLs HVS.out (by omega)).mono ?_; rintro e wt ⟨At, nt, ct, rfl, hLt, hbt⟩; have PAt := PAs.via hbt; have PBt := PBs.via hbt; have PRt := PRs.via hbt; have HBt : Hid (Below w.heap.size w wt) := HB0.out.trans ((Bs.trans (hbt.mono Bs.size)).mono HB0.out.size); have ⟨r0t, r1t, rf0t, rf1t, rlt⟩ := PRt; have PAu := PAt.far (h := w.heap.size + 1 + 1) (by omega) (.bool (mkN true (a * b))) (.slice At nt ct); have PBu := PBt.far (h := w.heap.size + 1 + 1) (by omega) (.bool (mkN true (a * b))) (.slice At nt ct)))
    go_wp2
    exact post_ws Try.results11 rfl rfl PRt.c0 PRt.c1 ⟨At, nt, ct, rfl, hLt.setP PRt _ _, below_set2 HBt.out (by omega) _ _⟩
  · go_enter Try.func11, Try.ntmps11
    go_wp2_with fail
    refine (rboth_any _ _ _ _ _ _ _ _ _ _ _ (((HA.out.box _).box _).box _) (((HB.out.box _).box _).box _) 0 HV.out).mono ?_
    rintro e w1 ⟨rfl, hb1⟩
    have ⟨PA0, PB0, PR0⟩ := boxes3 w 24 24 24 (.bool true) (.slice A n ca) (.bool false) (.slice B m cb) (.bool false) (.slice none 0 0)
    have PA := PA0.via hb1
    have PB := PB0.via hb1
    have PR := PR0.via hb1
    have LA := Lib.hid ((((HA.out.box _).box _).box _).via hb1)
    have LB := Lib.hid ((((HB.out.box _).box _).box _).via hb1)
    have HB0 := Lib.hid (bbox (bbox (bbox hb1)))
    clear PA0 PB0 PR0 hb1
    have ⟨a0, a1, _, _, _⟩ := PA
    have ⟨b0, b1, _, _, _⟩ := PB
    have ⟨r0, r1, rf0, rf1, rl⟩ := PR
    go_wp2_with fail
    go_region_held3 (fun w' => (w'.cell? ⟨w.heap.size, 0, none⟩ = some (.bool true) ∧ w'.cell? ⟨w.heap.size, 1, none⟩ = some (.slice A n ca)) ∧ (w'.cell? ⟨w.heap.size + 1, 0, none⟩ = some (.bool false) ∧ w'.cell? ⟨w.heap.size + 1, 1, none⟩ = some (.slice B m cb)))
      (first | exact ⟨⟨a0, a1⟩, ⟨b0, b1⟩⟩ | exact ⟨⟨PAs.c0, PAs.c1⟩, ⟨PBs.c0, PBs.c1⟩⟩ | exact ⟨⟨PAt.c0, PAt.c1⟩, ⟨PBt.c0, PBt.c1⟩⟩ | exact ⟨⟨PAu.c0, PAu.c1⟩, ⟨PBu.c0, PBu.c1⟩⟩ | go_keep)
      (first
       | (go_at_call 24; refine (rtimes_any _ _ _ _ _ _ _ (digs a) (digs b) (a * b) LA.out.drew LB.out.drew (by omega) (by omega) HP.out).mono ?_; rintro e ws ⟨As, cs, ts, rfl, hLs, hvs, hbs⟩; have HVS := Lib.hid hvs; clear hvs; have Bs := (Below.refl w1.heap.size w1).drew.trans hbs; have PAs := PA.via Bs; have PBs := PB.via Bs; have PRs := PR.via Bs)
       | (go_at_call 23; refine (rmade_any _ _ _ _ _ ts (a * b) hLs HVS.out (by omega)).mono ?_; rintro e wt ⟨At, nt, ct, rfl, hLt, hbt⟩; have PAt := PAs.via hbt; have PBt := PBs.via hbt; have PRt := PRs.via hbt; have HBt : Hid (Below w.heap.size w wt) := HB0.out.trans ((Bs.trans (hbt.mono Bs.size)).mono HB0.out.size); have ⟨r0t, r1t, rf0t, rf1t, rlt⟩ := PRt; have PAu := PAt.far (h := w.heap.size + 1 + 1) (by omega) (.bool (mkN true (a * b))) (.slice At nt ct); have PBu := PBt.far (h := w.heap.size + 1 + 1) (by omega) (.bool (mkN true (a * b))) (.slice At nt ct)))
    go_wp2
    exact post_ws Try.results11 rfl rfl PRt.c0 PRt.c1 ⟨At, nt, ct, rfl, hLt.setP PRt _ _, below_set2 HBt.out (by omega) _ _⟩
  · go_enter Try.func11, Try.ntmps11
    go_wp2_with fail
    refine (rboth_any _ _ _ _ _ _ _ _ _ _ _ (((HA.out.box _).box _).box _) (((HB.out.box _).box _).box _) 0 HV.out).mono ?_
    rintro e w1 ⟨rfl, hb1⟩
    have ⟨PA0, PB0, PR0⟩ := boxes3 w 24 24 24 (.bool true) (.slice A n ca) (.bool true) (.slice B m cb) (.bool false) (.slice none 0 0)
    have PA := PA0.via hb1
    have PB := PB0.via hb1
    have PR := PR0.via hb1
    have LA := Lib.hid ((((HA.out.box _).box _).box _).via hb1)
    have LB := Lib.hid ((((HB.out.box _).box _).box _).via hb1)
    have HB0 := Lib.hid (bbox (bbox (bbox hb1)))
    clear PA0 PB0 PR0 hb1
    have ⟨a0, a1, _, _, _⟩ := PA
    have ⟨b0, b1, _, _, _⟩ := PB
    have ⟨r0, r1, rf0, rf1, rl⟩ := PR
    go_wp2_with fail
    go_region_held3 (fun w' => (w'.cell? ⟨w.heap.size, 0, none⟩ = some (.bool true) ∧ w'.cell? ⟨w.heap.size, 1, none⟩ = some (.slice A n ca)) ∧ (w'.cell? ⟨w.heap.size + 1, 0, none⟩ = some (.bool true) ∧ w'.cell? ⟨w.heap.size + 1, 1, none⟩ = some (.slice B m cb)))
      (first | exact ⟨⟨a0, a1⟩, ⟨b0, b1⟩⟩ | exact ⟨⟨PAs.c0, PAs.c1⟩, ⟨PBs.c0, PBs.c1⟩⟩ | exact ⟨⟨PAt.c0, PAt.c1⟩, ⟨PBt.c0, PBt.c1⟩⟩ | exact ⟨⟨PAu.c0, PAu.c1⟩, ⟨PBu.c0, PBu.c1⟩⟩ | go_keep)
      (first
       | (go_at_call 24; refine (rtimes_any _ _ _ _ _ _ _ (digs a) (digs b) (a * b) LA.out.drew LB.out.drew (by omega) (by omega) HP.out).mono ?_; rintro e ws ⟨As, cs, ts, rfl, hLs, hvs, hbs⟩; have HVS := Lib.hid hvs; clear hvs; have Bs := (Below.refl w1.heap.size w1).drew.trans hbs; have PAs := PA.via Bs; have PBs := PB.via Bs; have PRs := PR.via Bs)
       | (go_at_call 23; refine (rmade_any _ _ _ _ _ ts (a * b) hLs HVS.out (by omega)).mono ?_; rintro e wt ⟨At, nt, ct, rfl, hLt, hbt⟩; have PAt := PAs.via hbt; have PBt := PBs.via hbt; have PRt := PRs.via hbt; have HBt : Hid (Below w.heap.size w wt) := HB0.out.trans ((Bs.trans (hbt.mono Bs.size)).mono HB0.out.size); have ⟨r0t, r1t, rf0t, rf1t, rlt⟩ := PRt; have PAu := PAt.far (h := w.heap.size + 1 + 1) (by omega) (.bool (mkN false (a * b))) (.slice At nt ct); have PBu := PBt.far (h := w.heap.size + 1 + 1) (by omega) (.bool (mkN false (a * b))) (.slice At nt ct)))
    go_wp2
    exact post_ws Try.results11 rfl rfl PRt.c0 PRt.c1 ⟨At, nt, ct, rfl, hLt.setP PRt _ _, below_set2 HBt.out (by omega) _ _⟩
end Go.Proofs.Ytkajmglpmdhmnaa

/- wide.right, and how many binary digits there are. -/
namespace Go.Proofs.Ytkajmglpmdhmnaa
open Go.RowKit

/-- The first m limbs of a number. -/
def lims (u : Nat) : Nat → List Nat
  | 0 => []
  | m + 1 => lims u m ++ [u / 4294967296 ^ m % 4294967296]
theorem lims_len (u m : Nat) : (lims u m).length = m := by
  induction m with
  | zero => rfl
  | succ m ih => unfold lims; rw [List.length_append, ih]; rfl
theorem lims_good (u m : Nat) : Good (lims u m) := by
  induction m with
  | zero => exact Good.nil
  | succ m ih => exact ih.append (Good.nil.cons (Nat.mod_lt _ (by omega)))
theorem lims_val (u m : Nat) : val (lims u m) = u % 4294967296 ^ m := by
  induction m with
  | zero => simp [lims, val_nil, Nat.mod_one]
  | succ m ih => unfold lims; rw [val_snoc, ih, lims_len, Nat.pow_succ, Nat.mod_mul]
theorem lims_digs {u m : Nat} (h : u < 4294967296 ^ m) (h1 : 0 < m → 4294967296 ^ (m - 1) ≤ u) : lims u m = digs u := by
  refine eq_digs (lims_good _ _) ?_ (by rw [lims_val, Nat.mod_eq_of_lt h])
  rcases m with _ | m
  · exact Norm.nil
  · have h2 := h1 (by omega)
    simp only [Nat.add_sub_cancel] at h2
    unfold Norm lims
    rw [List.getLast?_concat]
    intro e
    have e2 := Option.some.inj e
    rw [Nat.pow_succ] at h
    rw [Nat.mod_eq_of_lt (Nat.div_lt_of_lt_mul h)] at e2
    have := (Nat.div_eq_zero_iff).1 e2
    have hp := pow_pos_ m
    omega
theorem bitLen_bounds {x : Nat} (h0 : x ≠ 0) (h : x < 4294967296) : 1 ≤ Lib.bitLen x ∧ 2 ^ (Lib.bitLen x - 1) ≤ x ∧ x < 2 ^ Lib.bitLen x :=
  Lib.bitLenAux_bounds 64 x (Nat.lt_of_lt_of_le h (by decide)) h0
theorem top_pos {a : Nat} (ha : 0 < a) : (digs a)[(digs a).length - 1]?.getD 0 ≠ 0 := fun h => digs_norm a ((last_get (digs_pos.2 ha)).2 h)
theorem lenS_pos {a : Nat} (ha : 0 < a) : 0 < lenS (digs a) ∧ 2 ^ (lenS (digs a) - 1) ≤ a ∧ a < 2 ^ lenS (digs a) := by
  have hp := digs_pos.2 ha
  obtain ⟨h1, h2, h3⟩ := bitLen_bounds (top_pos ha) ((digs_good a).get _)
  have hs := val_split (digs a) ((digs a).length - 1) (by omega)
  have hd : (digs a).drop ((digs a).length - 1) = [(digs a)[(digs a).length - 1]?.getD 0] := by
    rw [drop_cons_ _ _ (by omega), List.drop_of_length_le (by omega)]
  rw [hd, digs_val, val_cons, val_nil, Nat.mul_zero, Nat.add_zero] at hs
  have hlt := val_lt ((digs_good a).take ((digs a).length - 1))
  rw [List.length_take, Nat.min_eq_left (by omega)] at hlt
  unfold lenS
  rw [if_neg (by omega)]
  generalize (digs a)[(digs a).length - 1]?.getD 0 = x at *
  generalize (digs a).length - 1 = m at *
  generalize val ((digs a).take m) = r at *
  generalize Lib.bitLen x = l at *
  have e1 : 2 ^ (32 * m + l) = 4294967296 ^ m * 2 ^ l := by rw [Nat.pow_add, Nat.pow_mul]
  have e2 : 2 ^ (32 * m + l - 1) = 4294967296 ^ m * 2 ^ (l - 1) := by rw [Nat.add_sub_assoc h1, Nat.pow_add, Nat.pow_mul]
  refine ⟨by omega, ?_, ?_⟩
  · rw [e2]
    have h5 := Nat.mul_le_mul_left (4294967296 ^ m) h2
    omega
  · rw [e1]
    have h5 : 4294967296 ^ m * (x + 1) ≤ 4294967296 ^ m * 2 ^ l := Nat.mul_le_mul_left _ h3
    rw [Nat.mul_add, Nat.mul_one] at h5
    omega
theorem lenS_zero : lenS (digs 0) = 0 := rfl
theorem lenS_le {a k : Nat} : lenS (digs a) ≤ k ↔ a < 2 ^ k := by
  rcases Nat.eq_zero_or_pos a with h | h
  · subst h; rw [lenS_zero]; simp [Nat.pow_pos]
  · obtain ⟨h1, h2, h3⟩ := lenS_pos h
    constructor
    · intro hk; exact Nat.lt_of_lt_of_le h3 (Nat.pow_le_pow_right (by omega) hk)
    · intro hk
      have h4 : 2 ^ (lenS (digs a) - 1) < 2 ^ k := Nat.lt_of_le_of_lt h2 hk
      have := (Nat.pow_lt_pow_iff_right (by omega : 1 < 2)).1 h4
      omega
/-- How many limbs a shifted number has. -/
theorem right_digs (a k : Nat) : lims (a / 2 ^ k) ((lenS (digs a) - k + 31) / 32) = digs (a / 2 ^ k) := by
  refine lims_digs ?_ fun hm => ?_
  · rw [Nat.div_lt_iff_lt_mul (Nat.pow_pos (by omega)), show (4294967296 : Nat) = 2 ^ 32 from rfl, ← Nat.pow_mul, ← Nat.pow_add]
    exact lenS_le.1 (by omega)
  · rcases Nat.eq_zero_or_pos a with h | h
    · subst h; rw [lenS_zero] at hm; omega
    · obtain ⟨h1, h2, h3⟩ := lenS_pos h
      rw [Nat.le_div_iff_mul_le (Nat.pow_pos (by omega)), show (4294967296 : Nat) = 2 ^ 32 from rfl, ← Nat.pow_mul, ← Nat.pow_add]
      exact Nat.le_trans (Nat.pow_le_pow_right (by omega) (by omega)) h2
theorem win_lims (a k i : Nat) : win a (k + 32 * i) % 4294967296 = a / 2 ^ k / 4294967296 ^ i % 4294967296 := by
  unfold win
  rw [Nat.pow_add, ← Nat.div_div_eq_div_mul, Nat.pow_mul, show (2 : Nat) ^ 32 = 4294967296 from rfl]
  omega

set_option maxRecDepth 100000 in
set_option maxHeartbeats 1000000 in
theorem right_ow (w : World) (A : Option Addr) (n c k a v : Nat) (hA : Lm w w.heap.size A n c (digs a)) (hn : n ≤ 10000000) (hk : k ≤ 1000000000) (hv : a / 2 ^ k = v) :
    Calls Try.prog 54 #[.slice A n c, .int .i64 (k : Int)] w fun e w' => ∃ A' c', e = .returned (.slice A' (digs v).length c') ∧ Ow w' w.heap.size (.slice A' (digs v).length c') (digs v) ∧ Below w.heap.size w w' := by
  have hl := hA.len
  have h1 := hA.cap
  have h2 := hA.max
  have hL : lenS (digs a) ≤ 32 * n := by
    refine lenS_le.2 ?_
    have := digs_len.1 (Nat.le_of_eq hl)
    rwa [Nat.pow_mul]
  have HA := Lib.hid hA
  have HV := Lib.hid hv
  obtain ⟨m, hm⟩ : ∃ m, m = (lenS (digs a) - k + 31) / 32 := ⟨_, rfl⟩
  have HM := Lib.hid hm
  have hm9 : m ≤ 10000001 := by omega
  have hmk := fun w => run_make_u32 ((max ((lenS (digs a) : Int) - (k : Int)) 0 + 32 - 1) / 32) ((max ((lenS (digs a) : Int) - (k : Int)) 0 + 32 - 1) / 32) m (by omega) (by omega) (by omega) w
  clear hA hv hl hm
  go_enter Try.func54, Try.ntmps54
  go_wp2_with (go_at_call 61; refine (length_any _ _ _ _ _ HA.out (by omega)).mono ?_; rintro e w1 ⟨rfl, rfl⟩)
  clear hmk
  go_loopw [20] (fun i wr => ∃ j : Nat, j ≤ m ∧ i = .int .i64 j ∧ Ld wr w.heap.size (spl (zer m) 0 (lims v j)) ∧ Below w.heap.size w wr) (fun i _ => m - (intOf i).toNat)
  case atStart => exact ⟨0, Nat.zero_le _, rfl, by show Ld _ _ (spl (zer m) 0 []); rw [spl_nil]; exact Ld.new _ _, (Below.refl _ _).alloc (Nat.le_refl _) _⟩
  case round =>
    obtain ⟨j, hj, rfl, hD, hb⟩ := hrel
    have HD := Lib.hid hD
    have HBl := Lib.hid hb
    clear hD hb
    by_cases hlt : j < m
    · have HA1 := Lib.hid ((HA.out.below HBl.out).mono HBl.out.size)
      have hll := lims_len v j
      have hct := HD.out.cell (i := j) (by rw [spl_len (by rw [hll, zer_len]; omega), zer_len]; exact hlt)
      have hfr := HD.out.frozen j
      have hwl := win_lt a (k + 32 * j)
      go_wp2_with fail
      refine (window_any wr A n c (digs a) a ((k : Int) + (j : Int) * 32) HA1.out (digs_val a) (by omega) (by omega)).mono ?_
      rintro e w1 ⟨rfl, d, rfl⟩
      rw [show ((k : Int) + (j : Int) * 32).toNat = k + 32 * j by omega]
      go_wp2
      go_roundw
      case rel =>
        have e := (show Ld (wr.drewN d) w.heap.size (spl (zer m) 0 (lims v j)) from HD.out).set_ j (v / 4294967296 ^ j % 4294967296)
        have e2 := spl_set (cs := zer m) (off := 0) (ts := lims v j) (v / 4294967296 ^ j % 4294967296) (by rw [hll, zer_len]; omega)
        rw [hll, Nat.zero_add] at e2
        rw [e2] at e
        have e3 : (v / 4294967296 ^ j % 4294967296 : Nat) = win a (k + 32 * j) % 4294967296 := by rw [win_lims, HV.out]
        have e4 : ((win a (k + 32 * j) : Nat) : Int) % 4294967296 = ((v / 4294967296 ^ j % 4294967296 : Nat) : Int) := by rw [e3]; rfl
        refine ⟨j + 1, by omega, by go_num, ?_, ((bdrewN HBl.out d).setCell (p := ⟨w.heap.size, j, none⟩) (Nat.le_refl _) _)⟩
        rw [e4]
        exact e
      case measure => simp [intOf]; omega
    · obtain rfl : j = m := by omega
      go_wp2
      go_ret
      have HX : Hid (spl (zer j) 0 (lims v j) = digs v) := by
        show _ = _
        rw [← HV.out, ← right_digs, ← HM.out, HV.out]
        unfold spl
        rw [List.take_zero, List.nil_append, lims_len, Nat.zero_add, List.drop_of_length_le (by rw [zer_len]; exact Nat.le_refl _), List.append_nil]
      have hl2 : (spl (zer j) 0 (lims v j)).length = j := by rw [spl_len (by rw [lims_len, zer_len]; omega), zer_len]
      have e := HD.out.ow (B := w.heap.size) (Nat.le_refl _) (by rw [hl2]; omega)
      rw [HX.out] at e hl2
      subst hl2
      exact ⟨_, _, rfl, e, HBl.out⟩
theorem right_any (w : World) (A : Option Addr) (n c k a v : Nat) (hA : Lm w w.heap.size A n c (digs a)) (hn : n ≤ 10000000) (hk : k ≤ 1000000000) (hv : a / 2 ^ k = v) :
    Calls Try.prog 54 #[.slice A n c, .int .i64 (k : Int)] w fun e w' => ∃ A' c', e = .returned (.slice A' (digs v).length c') ∧ Lm w' w'.heap.size A' (digs v).length c' (digs v) ∧ Below w.heap.size w w' :=
  (right_ow w A n c k a v hA hn hk hv).mono fun _ _ ⟨A', c', e, h, hb⟩ => ⟨A', c', e, h.toLm (digs_good _), hb⟩
end Go.Proofs.Ytkajmglpmdhmnaa

