/-
  The contract of wide.sum.
-/
import Derived.Test.YtdbilpmhejigpaaCol
import Derived.Test.YtdbilpmhejigpaaLd
import Derived.Maps.AppendAt
namespace Go.Proofs.Ytdbilpmhejigpaa
open Go.RowKit Go.Shelf
attribute [local go_sem] Oper.semAt_some

/-- make([]uint32, 0, n): a new row, of which nothing is owned yet. -/
theorem run_make0_u32 (c : Int) (n : Nat) (hc : c = (n : Int)) (hn : n ≤ 4000000000) (w : World) :
    (Instr.makeSlice 22 (.int .i64 0) (.int .i64 c)).run Try.prog w = .ok (.slice (some ⟨w.heap.size, 0, none⟩) 0 n) (w.alloc (.cells ((zer n).map u32c).toArray 63)) := by
  subst hc
  obtain ⟨i0, hi0, hz0, hz1, hz2⟩ := info_parts u32_info
  have h := run_make (P := Try.prog) w 22 63 i0 _ slice_u32 hi0 hz0 .i64 .i64 0 (n : Int) (by omega) (by omega) (by rw [hz2]; omega) (by omega)
  rw [hz1, Int.toNat_natCast, made_zer] at h
  exact h
/-- A reading is kept while a block that is no cells is turned. -/
theorem Lm.putObj {W : World} {n c : Nat} {A : Option Addr} {xs : List Nat} (h : Lm W W.heap.size A n c xs) {l : Nat} {o : Obj} (o' : Obj) (hl : W.heap[l]? = some o) (ho : o.isCells = false) : Lm (W.putObj l o') (W.putObj l o').heap.size A n c xs := by
  have hs := (grownBy_putObj' W l o').size
  refine ⟨h.len, h.good, h.cap, h.max, h.nil_, fun hn => ?_⟩
  obtain ⟨b, off, e, hb, hc⟩ := h.at_ hn
  refine ⟨b, off, e, by omega, fun j hj => ?_⟩
  have hcj := hc j hj
  exact cell_kept hcj (grownBy_putObj' W l o') (fun r er => by cases er; exact ⟨o, hl, ho⟩)
/-- Behind an append to a row of the call's own, a block that is no cells lies as it lay. -/
theorem other_kept {W w1 : World} {base : Nat} {e : TypeId} {u : Value} {k D : Nat} {us : List Value} {o tmp : Obj} (hrow : W.ownsRow base e 1 u k us) (hg : (W.alloc tmp).grownBy w1 u.ownBlock) (hD : W.heap[D]? = some o) (ho : o.isCells = false) : w1.heap[D]? = some o := by
  have hlt : D < W.heap.size := (Array.getElem?_eq_some_iff.1 hD).1
  rw [hg.block D (by simp; omega) ?_, Below.heap_alloc W tmp D hlt, hD]
  intro e2
  rcases hrow.2 with ⟨rfl, _⟩ | ⟨g, cap, cur, rfl, _, hgb, _⟩
  · cases e2
  · obtain rfl : D = g := Option.some.inj e2
    rw [hgb] at hD
    cases hD
    cases ho
/-- The indices that have come. -/
def ixs {n : Nat} (pre : List (Idx n)) : List Nat := pre.map (·.1)
theorem ixs_snoc {n : Nat} (pre : List (Idx n)) (x : Idx n) : ixs (pre ++ [x]) = ixs pre ++ [x.1] := by unfold ixs; rw [List.map_append]; rfl
theorem ixs_len {n : Nat} (pre : List (Idx n)) : (ixs pre).length = pre.length := List.length_map _

set_option maxRecDepth 100000 in
set_option maxHeartbeats 2000000 in
theorem sum_ge_in (F : Fence) (q : Nat) (h3 : F.fn 43) (h5 : F.fn 60) (h7 : F.fn 74) (h8 : F.fn 64) (h9 : F.fn 53) (hro : F.round = none) (hq : 4 ≤ q)
    (hlimb : ∀ (W : World) (A : Option Addr) (m c : Nat) (xs : List Nat) (i : Int), Lm W W.heap.size A m c xs → 0 ≤ i → i ≤ 9223372036854775807 → CallsIn F (q - 1 - 1) Try.prog 64 #[.slice A m c, .int .i64 i] W fun e w' => e = .returned (.int .u64 (xs[i.toNat]?.getD 0 : Nat)) ∧ W = w')
    (htrim : ∀ (W : World) (B : Nat) (A : Option Addr) (m c : Nat) (xs : List Nat) (v : Nat), Lm W B A m c xs → val xs = v → CallsIn F (q - 1) Try.prog 53 #[.slice A m c] W fun e w' => e = .returned (.slice A (digs v).length c) ∧ W = w')
    (w : World) (A B : Option Addr) (n m ca cb : Nat) (xs ys : List Nat) (v : Nat) (hA : Lm w w.heap.size A n ca xs) (hB : Lm w w.heap.size B m cb ys) (hge : m ≤ n) (hn : n ≤ 100000000) (hv : val xs + val ys = v) :
    CallsIn F q Try.prog 43 #[.slice A n ca, .slice B m cb] w fun e w' => ∃ A' c', e = .returned (.slice A' (digs v).length c') ∧ Lm w' w'.heap.size A' (digs v).length c' (digs v) ∧ Below w.heap.size w w' := by
  have h1 : 1 ≤ q := by omega
  obtain ⟨i0, hi0, hz0, hz1, hz2⟩ := info_parts u32_info
  have hca := hA.cap
  have hma := hA.max
  have hcb := hB.cap
  have hmb := hB.max
  have HA := Lib.hid hA
  have HB := Lib.hid hB
  have HV := Lib.hid hv
  clear hA hB hv
  have hdec : decide (n < m) = false := by simp; omega
  have hmk := fun w => run_make0_u32 ((n : Int) + 1) (n + 1) (by omega) (by omega) w
  refine callsIn_of_wp_marks Try.func43 rfl h3 ?_ hro
  simp only [Try.ntmps43, List.size_toArray, List.length_cons, List.length_nil, Nat.reduceAdd, Nat.reduceSub, Array.replicate_succ, Array.replicate_zero, List.push_toArray, List.append_toArray, List.nil_append, List.cons_append]
  gi_wp2_with (gi_at_call 60; refine (col_in F (q - 1) h5 hro _ _ _ _ _ _ _).mono ?_; rintro e w' ⟨rfl, rfl⟩)
  clear hmk
  have r0 : (w.alloc (.cells ((zer (n + 1)).map u32c).toArray 63)).ownsRow w.heap.size 63 1 (.slice (some ⟨w.heap.size, 0, none⟩) 0 (n + 1)) 0 [] := World.ownsRow_made _ _ _ (Nat.le_refl _) (by simp only [maxLen]; omega) (by simp [zer])
  have bT := Boxed.new (w.alloc (.cells ((zer (n + 1)).map u32c).toArray 63)) 22 (.slice (some ⟨w.heap.size, 0, none⟩) 0 (n + 1))
  have bC := Boxed.new ((w.alloc (.cells ((zer (n + 1)).map u32c).toArray 63)).alloc (.cells #[.slice (some ⟨w.heap.size, 0, none⟩) 0 (n + 1)] 22)) 65 (.int .u64 0)
  have bA := Boxed.new (((w.alloc (.cells ((zer (n + 1)).map u32c).toArray 63)).alloc (.cells #[.slice (some ⟨w.heap.size, 0, none⟩) 0 (n + 1)] 22)).alloc (.cells #[.int .u64 0] 65)) 22 (.slice A n ca)
  have bB := Boxed.new ((((w.alloc (.cells ((zer (n + 1)).map u32c).toArray 63)).alloc (.cells #[.slice (some ⟨w.heap.size, 0, none⟩) 0 (n + 1)] 22)).alloc (.cells #[.int .u64 0] 65)).alloc (.cells #[.slice A n ca] 22)) 22 (.slice B m cb)
  simp only [World.size_alloc] at bT bC bA bB
  have hB0 : Below w.heap.size w (((((w.alloc (.cells ((zer (n + 1)).map u32c).toArray 63)).alloc (.cells #[.slice (some ⟨w.heap.size, 0, none⟩) 0 (n + 1)] 22)).alloc (.cells #[.int .u64 0] 65)).alloc (.cells #[.slice A n ca] 22)).alloc (.cells #[.slice B m cb] 22)) := (((((Below.refl _ w).alloc (Nat.le_refl _) _).alloc (by simp) _).alloc (by simp; omega) _).alloc (by simp; omega) _).alloc (by simp; omega) _
  refine wpIn_rangeFunc_ownG hro h1 (gf := 74) (lb := #[.pointer (some ⟨w.heap.size + 1 + 1 + 1, 0, none⟩), .pointer (some ⟨w.heap.size + 1 + 1 + 1 + 1, 0, none⟩)]) rfl h7 (enters_of Try.func74 (by kernel_rfl) rfl)
    (col_stops F (q - 1) h7 h8 hro (by omega) hlimb (w.heap.size + 1 + 1 + 1) (w.heap.size + 1 + 1 + 1 + 1) w.heap.size A B n m ca cb xs ys _ (by simp) (by simp) (by simp; omega) ((bA.alloc _).cell) bB.cell (HA.out.below hB0) (HB.out.below hB0)) kpB_t (kpB_b (by simp; omega) (by simp)) (Below.refl _ _) (fun _ => rfl)
    (fun pre W => ((∃ u, Boxed W (w.heap.size + 1) 22 u ∧ W.ownsRow w.heap.size 63 1 u pre.length ((addP xs ys (ixs pre)).1.map u32c) ∧ True) ∧ Boxed W (w.heap.size + 1 + 1) 65 (.int .u64 ((addP xs ys (ixs pre)).2 : Nat)) ∧ Boxed W (w.heap.size + 1 + 1 + 1 + 1) 22 (.slice B m cb)) ∧ Below w.heap.size w W)
    (fun _ _ _ => False)
    (OwnFrom.and (OwnFrom.and (Own.from (holdsRow_own w.heap.size (w.heap.size + 1) 22 63 1 (fun pre : List (Idx n) => pre.length) (fun pre => (addP xs ys (ixs pre)).1.map u32c) (fun _ _ => True)) _) (OwnFrom.and (Own.from (boxed_own (w.heap.size + 1 + 1) 65 (fun pre : List (Idx n) => Value.int .u64 ((addP xs ys (ixs pre)).2 : Nat))) _) (Own.from (boxed_own (w.heap.size + 1 + 1 + 1 + 1) 22 (fun _ => .slice B m cb)) _))) (ownFrom_below (Nat.le_refl _) (by simp; omega)))
    (fun _ _ _ _ _ hs _ _ => hs)
    ⟨⟨⟨_, ((bT.alloc _).alloc _).alloc _, (((r0.alloc _).alloc _).alloc _).alloc _, trivial⟩, (bC.alloc _).alloc _, bB⟩, hB0⟩
    (fun x => { tmps := #[.slice A n ca, .slice B m cb, undef, undef, .slice none 0 0, .pointer (some ⟨w.heap.size + 1, 0, none⟩), .pointer (some ⟨w.heap.size + 1 + 1, 0, none⟩), .int .u64 (xs[x.1]?.getD 0 : Nat), .int .u64 (ys[x.1]?.getD 0 : Nat), .slice A n ca, .int .i64 n, .slice B m cb, .int .i64 m, .bool false, undef, undef, .slice A n ca, .int .i64 n, .int .i64 ((n : Int) + 1), .slice (some ⟨w.heap.size, 0, none⟩) 0 (n + 1), .slice A n ca, .slice B m cb, .func (.func 74) #[] #[.pointer (some ⟨w.heap.size + 1 + 1 + 1, 0, none⟩), .pointer (some ⟨w.heap.size + 1 + 1 + 1 + 1, 0, none⟩)], .int .u64 (xs[x.1]?.getD 0 : Nat), .int .u64 (ys[x.1]?.getD 0 : Nat), undef, undef, undef, undef, undef, undef, undef, undef, undef, undef, undef, undef, undef, undef, undef, undef, undef, undef], defers := [] }) ?assign ?body ?done ?stop
  case assign =>
    intro l x W K hK
    gi_wp2
    exact hK
  case body =>
    rintro l pre ⟨k, hk⟩ W ⟨⟨⟨u, hu, hrow, _⟩, hcar, hbb⟩, hBl⟩ hlen
    have hc1 := addP_carry HA.out.good HB.out.good (ixs pre)
    have hl1 := addP_len xs ys (ixs pre)
    rw [ixs_len] at hl1
    have HSn := Lib.hid (addP_snoc xs ys (ixs pre) k)
    have hgx := HA.out.good.get k
    have hgy := HB.out.good.get k
    generalize hr : addP xs ys (ixs pre) = r at *
    obtain ⟨ts, cy⟩ := r
    have HR := Lib.hid hr
    clear hr
    dsimp only at hc1 hl1 hrow hcar
    have hsz : (W.setCell ⟨w.heap.size + 1 + 1, 0, none⟩ (.int .u64 ((cy : Int) + ((xs[k]?.getD 0 : Nat) + (ys[k]?.getD 0 : Nat))))).heap.size = W.heap.size := World.size_setCell _ _ _
    have hu1 := hu.other (B' := w.heap.size + 1 + 1) (by omega) (.int .u64 ((cy : Int) + ((xs[k]?.getD 0 : Nat) + (ys[k]?.getD 0 : Nat))))
    have hbb1 := hbb.other (B' := w.heap.size + 1 + 1) (by omega) (.int .u64 ((cy : Int) + ((xs[k]?.getD 0 : Nat) + (ys[k]?.getD 0 : Nat))))
    have hcar1 := hcar.set (.int .u64 ((cy : Int) + ((xs[k]?.getD 0 : Nat) + (ys[k]?.getD 0 : Nat))))
    have hrow1 := hrow.kept (grownBy_setCell' W (w.heap.size + 1 + 1) (.int .u64 ((cy : Int) + ((xs[k]?.getD 0 : Nat) + (ys[k]?.getD 0 : Nat))))) (.inr (hcar.not_row (by decide) hrow).symm)
    have hnew := cell_one_new (W.setCell ⟨w.heap.size + 1 + 1, 0, none⟩ (.int .u64 ((cy : Int) + ((xs[k]?.getD 0 : Nat) + (ys[k]?.getD 0 : Nat))))) (.int .u32 (((cy : Int) + ((xs[k]?.getD 0 : Nat) + (ys[k]?.getD 0 : Nat))) % 4294967296)) 63
    rw [hsz] at hnew
    have HNew := Lib.hid hnew
    have HRow := Lib.hid hrow1
    have HU := Lib.hid hu1
    have HC := Lib.hid hcar1
    have HBB := Lib.hid hbb1
    have HBB0 := Lib.hid hbb
    have HL1 := Lib.hid hl1
    have hcc := hcar.cell
    have hcf := hcar.frozen
    have huc := hu.cell
    have hBs := hBl.size
    have HBl := Lib.hid hBl
    have hun : W.heap.size ≤ W.heap.size := Nat.le_refl _
    clear hnew hrow1 hu1 hcar1 hbb1 hbb hrow hBl hu hcar
    dsimp only
    gi_wp2_with (gi_at_builtin; refine wpListIn_append_own _ rfl _ _ 22 rfl w.heap.size 63 i0 (.int .u32 0) 1 4 slice_u32 hi0 hz0 hz1 hz2 rfl (by decide) _ _ _ rfl (HRow.out.alloc _) ⟨W.heap.size, 0, none⟩ 1 1 [.int .u32 (((cy : Int) + ((xs[k]?.getD 0 : Nat) + (ys[k]?.getD 0 : Nat))) % 4294967296)] rfl rfl HNew.out (by simp [Value.oneCell']) (by simp only [maxLen]; omega) (by omega) (by simp [World.size_setCell]; omega) ?_; intro v' w1 hown' hgrow _; obtain ⟨g', cap', rfl⟩ := ownsRow_succ hown'; obtain ⟨hv1, hv2, hr2, hk2, hb2⟩ := HU.out.appended (by decide) HRow.out (by rw [hsz]; omega) (Nat.le_succ _) hown' hgrow; have hcar2 := (HC.out.alloc _).kept hgrow (HC.out.not_row (by decide) HRow.out); have hbb2 := (HBB.out.alloc _).kept hgrow (HBB.out.not_row (by decide) HRow.out); have hc1' := hv1.cell; have hf1 := hv1.frozen; have hcc2 := hcar2.cell; have hcf2 := hcar2.frozen)
    have hcar3 := hcar2.other (B' := w.heap.size + 1) (by omega) (.slice (some ⟨g', 0, none⟩) (pre.length + 1) cap')
    have hbb3 := (hbb2.other (B' := w.heap.size + 1) (by omega) (.slice (some ⟨g', 0, none⟩) (pre.length + 1) cap')).other (B' := w.heap.size + 1 + 1) (by omega) (.int .u64 (((cy : Int) + ((xs[k]?.getD 0 : Nat) + (ys[k]?.getD 0 : Nat))) / 4294967296))
    have hbf := (((Below.refl w.heap.size W).setCell (p := ⟨w.heap.size + 1 + 1, 0, none⟩) (by simp; omega) (.int .u64 ((cy : Int) + ((xs[k]?.getD 0 : Nat) + (ys[k]?.getD 0 : Nat))))).trans hb2).setCell (p := ⟨w.heap.size + 1 + 1, 0, none⟩) (by simp; omega) (.int .u64 (((cy : Int) + ((xs[k]?.getD 0 : Nat) + (ys[k]?.getD 0 : Nat))) / 4294967296))
    refine ⟨(((KeepsOthers.setCell W _ _).trans hk2).trans (KeepsOthers.setCell _ _ _)).from _, ⟨hbf, hbb3.cell.trans HBB0.out.cell.symm⟩, ⟨⟨⟨_, hv2.other (by omega) _, ?_⟩, ?_, hbb3⟩, HBl.out.trans hbf⟩⟩
    · have e := hr2.kept (grownBy_setCell' _ (w.heap.size + 1 + 1) (.int .u64 (((cy : Int) + ((xs[k]?.getD 0 : Nat) + (ys[k]?.getD 0 : Nat))) / 4294967296))) (.inr (hcar3.not_row (by decide) hr2).symm)
      rw [ixs_snoc, HSn.out, List.length_append, List.map_append]
      have e2 : (.int .u32 (((cy : Int) + ((xs[k]?.getD 0 : Nat) + (ys[k]?.getD 0 : Nat))) % 4294967296) : Value) = u32c ((cy + (xs[k]?.getD 0 + ys[k]?.getD 0)) % 4294967296) := by
        unfold u32c
        congr 1
      rw [e2] at e
      exact e
    · have e := hcar3.set (.int .u64 (((cy : Int) + ((xs[k]?.getD 0 : Nat) + (ys[k]?.getD 0 : Nat))) / 4294967296))
      rw [ixs_snoc, HSn.out]
      have e2 : (.int .u64 (((cy : Int) + ((xs[k]?.getD 0 : Nat) + (ys[k]?.getD 0 : Nat))) / 4294967296) : Value) = .int .u64 (((cy + (xs[k]?.getD 0 + ys[k]?.getD 0)) / 4294967296 : Nat) : Int) := by
        congr 1
      rw [e2] at e
      exact e
  case done =>
    rintro D zs W hD hzs ⟨⟨⟨u, hu, hrow, _⟩, hcar, hbb⟩, hBl⟩ hK
    have hix : ixs zs = List.range n := hzs
    rw [hix, addP_range] at hrow hcar
    have hzl : zs.length = n := by
      have e := congrArg List.length hix
      rwa [ixs_len, List.length_range] at e
    rw [hzl] at hrow
    have hc1 := addK_carry HA.out.good HB.out.good n
    have hl1 := addK_len xs ys n
    have hvl : Hid (val ((addK xs ys n).1 ++ [(addK xs ys n).2]) = v) := by
      have e := addK_val xs ys n
      rw [List.take_of_length_le (by rw [HA.out.len]; exact Nat.le_refl _), List.take_of_length_le (by rw [HB.out.len]; exact hge), HV.out] at e
      show _ = _
      rw [val_snoc, hl1]
      exact e
    have hgd : Hid (Good ((addK xs ys n).1 ++ [(addK xs ys n).2])) := (addK_good xs ys n).append (Good.nil.cons (by omega))
    generalize hr : addK xs ys n = r at *
    obtain ⟨ts, cy⟩ := r
    clear hr hix hzs hzl
    dsimp only at hc1 hl1 hrow hcar hvl hgd
    have hcc := hcar.cell
    have huc := hu.cell
    have hBs := hBl.size
    have HRow := Lib.hid hrow
    have HBl := Lib.hid hBl
    have HKD := Lib.hid hK
    have hnew := Lib.hid (cell_one_new W (.int .u32 (cy : Int)) 63)
    clear hrow hBl hcar hbb
    gi_wp2_with (gi_at_builtin; refine wpListIn_append_own _ rfl _ _ 22 rfl w.heap.size 63 i0 (.int .u32 0) 1 4 slice_u32 hi0 hz0 hz1 hz2 rfl (by decide) _ _ _ rfl (HRow.out.alloc _) ⟨W.heap.size, 0, none⟩ 1 1 [.int .u32 (cy : Int)] rfl rfl hnew.out (by simp [Value.oneCell']) (by simp only [maxLen]; omega) (by omega) (by simp; omega) ?_; intro v' w1 hown' hgrow _)
    have hown2 : w1.ownsRow w.heap.size 63 1 v' (n + 1) ((ts ++ [cy]).map u32c) := by rw [List.map_append]; exact hown'
    obtain ⟨A', c', rfl, hL⟩ := Lm.own hown2 hgd.out
    have HL := Lib.hid hL
    have hK1 := Lib.hid (other_kept HRow.out hgrow HKD.out rfl)
    have hbf := Lib.hid (HBl.out.trans (((Below.refl w.heap.size W).alloc hBs _).grown hgrow (by simp; omega) (fun b e => (HRow.out.lt b e).1)))
    clear hL hown2 hown' hgrow
    refine (htrim _ _ _ _ _ _ v HL.out hvl.out).mono ?_
    rintro e w2 ⟨rfl, rfl⟩
    gi_wp2
    refine ⟨by simp, .inl ⟨_, _, rfl, run_takeDeferred hK1.out, ?_⟩⟩
    exact ⟨_, results_tmp rfl _ _ _, A', c', rfl, (HL.out.trim' hvl.out).putObj _ hK1.out rfl, hbf.out.trans (belowK_b (w := w) (Nat.le_refl _) _ D _ _ (by simp at hD; omega) hK1.out rfl rfl)⟩
  case stop =>
    rintro D c pre W _ _ h _
    exact h.elim

set_option maxRecDepth 100000 in
set_option maxHeartbeats 2000000 in
theorem sum_lt_in (F : Fence) (q : Nat) (h3 : F.fn 43) (h5 : F.fn 60) (h7 : F.fn 74) (h8 : F.fn 64) (h9 : F.fn 53) (hro : F.round = none) (hq : 4 ≤ q)
    (hlimb : ∀ (W : World) (A : Option Addr) (m c : Nat) (xs : List Nat) (i : Int), Lm W W.heap.size A m c xs → 0 ≤ i → i ≤ 9223372036854775807 → CallsIn F (q - 1 - 1) Try.prog 64 #[.slice A m c, .int .i64 i] W fun e w' => e = .returned (.int .u64 (xs[i.toNat]?.getD 0 : Nat)) ∧ W = w')
    (htrim : ∀ (W : World) (B : Nat) (A : Option Addr) (m c : Nat) (xs : List Nat) (v : Nat), Lm W B A m c xs → val xs = v → CallsIn F (q - 1) Try.prog 53 #[.slice A m c] W fun e w' => e = .returned (.slice A (digs v).length c) ∧ W = w')
    (w : World) (A B : Option Addr) (n m ca cb : Nat) (xs ys : List Nat) (v : Nat) (hA : Lm w w.heap.size A n ca xs) (hB : Lm w w.heap.size B m cb ys) (hgt : m < n) (hn : n ≤ 100000000) (hv : val xs + val ys = v) :
    CallsIn F q Try.prog 43 #[.slice B m cb, .slice A n ca] w fun e w' => ∃ A' c', e = .returned (.slice A' (digs v).length c') ∧ Lm w' w'.heap.size A' (digs v).length c' (digs v) ∧ Below w.heap.size w w' := by
  have h1 : 1 ≤ q := by omega
  obtain ⟨i0, hi0, hz0, hz1, hz2⟩ := info_parts u32_info
  have hca := hA.cap
  have hma := hA.max
  have hcb := hB.cap
  have hmb := hB.max
  have HA := Lib.hid hA
  have HB := Lib.hid hB
  have HV := Lib.hid hv
  clear hA hB hv
  have hdec : decide (m < n) = true := by simpa using hgt
  have hge : m ≤ n := by omega
  have hmk := fun w => run_make0_u32 ((n : Int) + 1) (n + 1) (by omega) (by omega) w
  refine callsIn_of_wp_marks Try.func43 rfl h3 ?_ hro
  simp only [Try.ntmps43, List.size_toArray, List.length_cons, List.length_nil, Nat.reduceAdd, Nat.reduceSub, Array.replicate_succ, Array.replicate_zero, List.push_toArray, List.append_toArray, List.nil_append, List.cons_append]
  gi_wp2_with (gi_at_call 60; refine (col_in F (q - 1) h5 hro _ _ _ _ _ _ _).mono ?_; rintro e w' ⟨rfl, rfl⟩)
  clear hmk
  have r0 : (w.alloc (.cells ((zer (n + 1)).map u32c).toArray 63)).ownsRow w.heap.size 63 1 (.slice (some ⟨w.heap.size, 0, none⟩) 0 (n + 1)) 0 [] := World.ownsRow_made _ _ _ (Nat.le_refl _) (by simp only [maxLen]; omega) (by simp [zer])
  have bT := Boxed.new (w.alloc (.cells ((zer (n + 1)).map u32c).toArray 63)) 22 (.slice (some ⟨w.heap.size, 0, none⟩) 0 (n + 1))
  have bC := Boxed.new ((w.alloc (.cells ((zer (n + 1)).map u32c).toArray 63)).alloc (.cells #[.slice (some ⟨w.heap.size, 0, none⟩) 0 (n + 1)] 22)) 65 (.int .u64 0)
  have bA := Boxed.new (((w.alloc (.cells ((zer (n + 1)).map u32c).toArray 63)).alloc (.cells #[.slice (some ⟨w.heap.size, 0, none⟩) 0 (n + 1)] 22)).alloc (.cells #[.int .u64 0] 65)) 22 (.slice A n ca)
  have bB := Boxed.new ((((w.alloc (.cells ((zer (n + 1)).map u32c).toArray 63)).alloc (.cells #[.slice (some ⟨w.heap.size, 0, none⟩) 0 (n + 1)] 22)).alloc (.cells #[.int .u64 0] 65)).alloc (.cells #[.slice A n ca] 22)) 22 (.slice B m cb)
  simp only [World.size_alloc] at bT bC bA bB
  have hB0 : Below w.heap.size w (((((w.alloc (.cells ((zer (n + 1)).map u32c).toArray 63)).alloc (.cells #[.slice (some ⟨w.heap.size, 0, none⟩) 0 (n + 1)] 22)).alloc (.cells #[.int .u64 0] 65)).alloc (.cells #[.slice A n ca] 22)).alloc (.cells #[.slice B m cb] 22)) := (((((Below.refl _ w).alloc (Nat.le_refl _) _).alloc (by simp) _).alloc (by simp; omega) _).alloc (by simp; omega) _).alloc (by simp; omega) _
  refine wpIn_rangeFunc_ownG hro h1 (gf := 74) (lb := #[.pointer (some ⟨w.heap.size + 1 + 1 + 1, 0, none⟩), .pointer (some ⟨w.heap.size + 1 + 1 + 1 + 1, 0, none⟩)]) rfl h7 (enters_of Try.func74 (by kernel_rfl) rfl)
    (col_stops F (q - 1) h7 h8 hro (by omega) hlimb (w.heap.size + 1 + 1 + 1) (w.heap.size + 1 + 1 + 1 + 1) w.heap.size A B n m ca cb xs ys _ (by simp) (by simp) (by simp; omega) ((bA.alloc _).cell) bB.cell (HA.out.below hB0) (HB.out.below hB0)) kpB_t (kpB_b (by simp; omega) (by simp)) (Below.refl _ _) (fun _ => rfl)
    (fun pre W => ((∃ u, Boxed W (w.heap.size + 1) 22 u ∧ W.ownsRow w.heap.size 63 1 u pre.length ((addP xs ys (ixs pre)).1.map u32c) ∧ True) ∧ Boxed W (w.heap.size + 1 + 1) 65 (.int .u64 ((addP xs ys (ixs pre)).2 : Nat)) ∧ Boxed W (w.heap.size + 1 + 1 + 1 + 1) 22 (.slice B m cb)) ∧ Below w.heap.size w W)
    (fun _ _ _ => False)
    (OwnFrom.and (OwnFrom.and (Own.from (holdsRow_own w.heap.size (w.heap.size + 1) 22 63 1 (fun pre : List (Idx n) => pre.length) (fun pre => (addP xs ys (ixs pre)).1.map u32c) (fun _ _ => True)) _) (OwnFrom.and (Own.from (boxed_own (w.heap.size + 1 + 1) 65 (fun pre : List (Idx n) => Value.int .u64 ((addP xs ys (ixs pre)).2 : Nat))) _) (Own.from (boxed_own (w.heap.size + 1 + 1 + 1 + 1) 22 (fun _ => .slice B m cb)) _))) (ownFrom_below (Nat.le_refl _) (by simp; omega)))
    (fun _ _ _ _ _ hs _ _ => hs)
    ⟨⟨⟨_, ((bT.alloc _).alloc _).alloc _, (((r0.alloc _).alloc _).alloc _).alloc _, trivial⟩, (bC.alloc _).alloc _, bB⟩, hB0⟩
    (fun x => { tmps := #[.slice A n ca, .slice B m cb, undef, undef, .slice none 0 0, .pointer (some ⟨w.heap.size + 1, 0, none⟩), .pointer (some ⟨w.heap.size + 1 + 1, 0, none⟩), .int .u64 (xs[x.1]?.getD 0 : Nat), .int .u64 (ys[x.1]?.getD 0 : Nat), .slice B m cb, .int .i64 m, .slice A n ca, .int .i64 n, .bool true, .slice A n ca, .slice B m cb, .slice A n ca, .int .i64 n, .int .i64 ((n : Int) + 1), .slice (some ⟨w.heap.size, 0, none⟩) 0 (n + 1), .slice A n ca, .slice B m cb, .func (.func 74) #[] #[.pointer (some ⟨w.heap.size + 1 + 1 + 1, 0, none⟩), .pointer (some ⟨w.heap.size + 1 + 1 + 1 + 1, 0, none⟩)], .int .u64 (xs[x.1]?.getD 0 : Nat), .int .u64 (ys[x.1]?.getD 0 : Nat), undef, undef, undef, undef, undef, undef, undef, undef, undef, undef, undef, undef, undef, undef, undef, undef, undef, undef], defers := [] }) ?assign ?body ?done ?stop
  case assign =>
    intro l x W K hK
    gi_wp2
    exact hK
  case body =>
    rintro l pre ⟨k, hk⟩ W ⟨⟨⟨u, hu, hrow, _⟩, hcar, hbb⟩, hBl⟩ hlen
    have hc1 := addP_carry HA.out.good HB.out.good (ixs pre)
    have hl1 := addP_len xs ys (ixs pre)
    rw [ixs_len] at hl1
    have HSn := Lib.hid (addP_snoc xs ys (ixs pre) k)
    have hgx := HA.out.good.get k
    have hgy := HB.out.good.get k
    generalize hr : addP xs ys (ixs pre) = r at *
    obtain ⟨ts, cy⟩ := r
    have HR := Lib.hid hr
    clear hr
    dsimp only at hc1 hl1 hrow hcar
    have hsz : (W.setCell ⟨w.heap.size + 1 + 1, 0, none⟩ (.int .u64 ((cy : Int) + ((xs[k]?.getD 0 : Nat) + (ys[k]?.getD 0 : Nat))))).heap.size = W.heap.size := World.size_setCell _ _ _
    have hu1 := hu.other (B' := w.heap.size + 1 + 1) (by omega) (.int .u64 ((cy : Int) + ((xs[k]?.getD 0 : Nat) + (ys[k]?.getD 0 : Nat))))
    have hbb1 := hbb.other (B' := w.heap.size + 1 + 1) (by omega) (.int .u64 ((cy : Int) + ((xs[k]?.getD 0 : Nat) + (ys[k]?.getD 0 : Nat))))
    have hcar1 := hcar.set (.int .u64 ((cy : Int) + ((xs[k]?.getD 0 : Nat) + (ys[k]?.getD 0 : Nat))))
    have hrow1 := hrow.kept (grownBy_setCell' W (w.heap.size + 1 + 1) (.int .u64 ((cy : Int) + ((xs[k]?.getD 0 : Nat) + (ys[k]?.getD 0 : Nat))))) (.inr (hcar.not_row (by decide) hrow).symm)
    have hnew := cell_one_new (W.setCell ⟨w.heap.size + 1 + 1, 0, none⟩ (.int .u64 ((cy : Int) + ((xs[k]?.getD 0 : Nat) + (ys[k]?.getD 0 : Nat))))) (.int .u32 (((cy : Int) + ((xs[k]?.getD 0 : Nat) + (ys[k]?.getD 0 : Nat))) % 4294967296)) 63
    rw [hsz] at hnew
    have HNew := Lib.hid hnew
    have HRow := Lib.hid hrow1
    have HU := Lib.hid hu1
    have HC := Lib.hid hcar1
    have HBB := Lib.hid hbb1
    have HBB0 := Lib.hid hbb
    have HL1 := Lib.hid hl1
    have hcc := hcar.cell
    have hcf := hcar.frozen
    have huc := hu.cell
    have hBs := hBl.size
    have HBl := Lib.hid hBl
    have hun : W.heap.size ≤ W.heap.size := Nat.le_refl _
    clear hnew hrow1 hu1 hcar1 hbb1 hbb hrow hBl hu hcar
    dsimp only
    gi_wp2_with (gi_at_builtin; refine wpListIn_append_own _ rfl _ _ 22 rfl w.heap.size 63 i0 (.int .u32 0) 1 4 slice_u32 hi0 hz0 hz1 hz2 rfl (by decide) _ _ _ rfl (HRow.out.alloc _) ⟨W.heap.size, 0, none⟩ 1 1 [.int .u32 (((cy : Int) + ((xs[k]?.getD 0 : Nat) + (ys[k]?.getD 0 : Nat))) % 4294967296)] rfl rfl HNew.out (by simp [Value.oneCell']) (by simp only [maxLen]; omega) (by omega) (by simp [World.size_setCell]; omega) ?_; intro v' w1 hown' hgrow _; obtain ⟨g', cap', rfl⟩ := ownsRow_succ hown'; obtain ⟨hv1, hv2, hr2, hk2, hb2⟩ := HU.out.appended (by decide) HRow.out (by rw [hsz]; omega) (Nat.le_succ _) hown' hgrow; have hcar2 := (HC.out.alloc _).kept hgrow (HC.out.not_row (by decide) HRow.out); have hbb2 := (HBB.out.alloc _).kept hgrow (HBB.out.not_row (by decide) HRow.out); have hc1' := hv1.cell; have hf1 := hv1.frozen; have hcc2 := hcar2.cell; have hcf2 := hcar2.frozen)
    have hcar3 := hcar2.other (B' := w.heap.size + 1) (by omega) (.slice (some ⟨g', 0, none⟩) (pre.length + 1) cap')
    have hbb3 := (hbb2.other (B' := w.heap.size + 1) (by omega) (.slice (some ⟨g', 0, none⟩) (pre.length + 1) cap')).other (B' := w.heap.size + 1 + 1) (by omega) (.int .u64 (((cy : Int) + ((xs[k]?.getD 0 : Nat) + (ys[k]?.getD 0 : Nat))) / 4294967296))
    have hbf := (((Below.refl w.heap.size W).setCell (p := ⟨w.heap.size + 1 + 1, 0, none⟩) (by simp; omega) (.int .u64 ((cy : Int) + ((xs[k]?.getD 0 : Nat) + (ys[k]?.getD 0 : Nat))))).trans hb2).setCell (p := ⟨w.heap.size + 1 + 1, 0, none⟩) (by simp; omega) (.int .u64 (((cy : Int) + ((xs[k]?.getD 0 : Nat) + (ys[k]?.getD 0 : Nat))) / 4294967296))
    refine ⟨(((KeepsOthers.setCell W _ _).trans hk2).trans (KeepsOthers.setCell _ _ _)).from _, ⟨hbf, hbb3.cell.trans HBB0.out.cell.symm⟩, ⟨⟨⟨_, hv2.other (by omega) _, ?_⟩, ?_, hbb3⟩, HBl.out.trans hbf⟩⟩
    · have e := hr2.kept (grownBy_setCell' _ (w.heap.size + 1 + 1) (.int .u64 (((cy : Int) + ((xs[k]?.getD 0 : Nat) + (ys[k]?.getD 0 : Nat))) / 4294967296))) (.inr (hcar3.not_row (by decide) hr2).symm)
      rw [ixs_snoc, HSn.out, List.length_append, List.map_append]
      have e2 : (.int .u32 (((cy : Int) + ((xs[k]?.getD 0 : Nat) + (ys[k]?.getD 0 : Nat))) % 4294967296) : Value) = u32c ((cy + (xs[k]?.getD 0 + ys[k]?.getD 0)) % 4294967296) := by
        unfold u32c
        congr 1
      rw [e2] at e
      exact e
    · have e := hcar3.set (.int .u64 (((cy : Int) + ((xs[k]?.getD 0 : Nat) + (ys[k]?.getD 0 : Nat))) / 4294967296))
      rw [ixs_snoc, HSn.out]
      have e2 : (.int .u64 (((cy : Int) + ((xs[k]?.getD 0 : Nat) + (ys[k]?.getD 0 : Nat))) / 4294967296) : Value) = .int .u64 (((cy + (xs[k]?.getD 0 + ys[k]?.getD 0)) / 4294967296 : Nat) : Int) := by
        congr 1
      rw [e2] at e
      exact e
  case done =>
    rintro D zs W hD hzs ⟨⟨⟨u, hu, hrow, _⟩, hcar, hbb⟩, hBl⟩ hK
    have hix : ixs zs = List.range n := hzs
    rw [hix, addP_range] at hrow hcar
    have hzl : zs.length = n := by
      have e := congrArg List.length hix
      rwa [ixs_len, List.length_range] at e
    rw [hzl] at hrow
    have hc1 := addK_carry HA.out.good HB.out.good n
    have hl1 := addK_len xs ys n
    have hvl : Hid (val ((addK xs ys n).1 ++ [(addK xs ys n).2]) = v) := by
      have e := addK_val xs ys n
      rw [List.take_of_length_le (by rw [HA.out.len]; exact Nat.le_refl _), List.take_of_length_le (by rw [HB.out.len]; exact hge), HV.out] at e
      show _ = _
      rw [val_snoc, hl1]
      exact e
    have hgd : Hid (Good ((addK xs ys n).1 ++ [(addK xs ys n).2])) := (addK_good xs ys n).append (Good.nil.cons (by omega))
    generalize hr : addK xs ys n = r at *
    obtain ⟨ts, cy⟩ := r
    clear hr hix hzs hzl
    dsimp only at hc1 hl1 hrow hcar hvl hgd
    have hcc := hcar.cell
    have huc := hu.cell
    have hBs := hBl.size
    have HRow := Lib.hid hrow
    have HBl := Lib.hid hBl
    have HKD := Lib.hid hK
    have hnew := Lib.hid (cell_one_new W (.int .u32 (cy : Int)) 63)
    clear hrow hBl hcar hbb
    gi_wp2_with (gi_at_builtin; refine wpListIn_append_own _ rfl _ _ 22 rfl w.heap.size 63 i0 (.int .u32 0) 1 4 slice_u32 hi0 hz0 hz1 hz2 rfl (by decide) _ _ _ rfl (HRow.out.alloc _) ⟨W.heap.size, 0, none⟩ 1 1 [.int .u32 (cy : Int)] rfl rfl hnew.out (by simp [Value.oneCell']) (by simp only [maxLen]; omega) (by omega) (by simp; omega) ?_; intro v' w1 hown' hgrow _)
    have hown2 : w1.ownsRow w.heap.size 63 1 v' (n + 1) ((ts ++ [cy]).map u32c) := by rw [List.map_append]; exact hown'
    obtain ⟨A', c', rfl, hL⟩ := Lm.own hown2 hgd.out
    have HL := Lib.hid hL
    have hK1 := Lib.hid (other_kept HRow.out hgrow HKD.out rfl)
    have hbf := Lib.hid (HBl.out.trans (((Below.refl w.heap.size W).alloc hBs _).grown hgrow (by simp; omega) (fun b e => (HRow.out.lt b e).1)))
    clear hL hown2 hown' hgrow
    refine (htrim _ _ _ _ _ _ v HL.out hvl.out).mono ?_
    rintro e w2 ⟨rfl, rfl⟩
    gi_wp2
    refine ⟨by simp, .inl ⟨_, _, rfl, run_takeDeferred hK1.out, ?_⟩⟩
    exact ⟨_, results_tmp rfl _ _ _, A', c', rfl, (HL.out.trim' hvl.out).putObj _ hK1.out rfl, hbf.out.trans (belowK_b (w := w) (Nat.le_refl _) _ D _ _ (by simp at hD; omega) hK1.out rfl rfl)⟩
  case stop =>
    rintro D c pre W _ _ h _
    exact h.elim


theorem sum_any (w : World) (A B : Option Addr) (n m ca cb : Nat) (xs ys : List Nat) (v : Nat) (hA : Lm w w.heap.size A n ca xs) (hB : Lm w w.heap.size B m cb ys) (hn : n ≤ 100000000) (hm : m ≤ 100000000) (hv : val xs + val ys = v) :
    Calls Try.prog 43 #[.slice A n ca, .slice B m cb] w fun e w' => ∃ A' c', e = .returned (.slice A' (digs v).length c') ∧ Lm w' w'.heap.size A' (digs v).length c' (digs v) ∧ Below w.heap.size w w' := by
  by_cases h : m ≤ n
  · exact (callsIn_wide (n := 8)).1 (sum_ge_in Fence.wide 8 trivial trivial trivial trivial trivial rfl (by omega) (fun W A m c xs i hL h0 h9 => callsIn_wide.2 (limb_any W A m c xs i hL h0 h9))
      (fun W B A m c xs v hL hv => callsIn_wide.2 (trim_any W B A m c xs v hL hv)) w A B n m ca cb xs ys v hA hB h hn hv)
  · exact (callsIn_wide (n := 8)).1 (sum_lt_in Fence.wide 8 trivial trivial trivial trivial trivial rfl (by omega) (fun W A m c xs i hL h0 h9 => callsIn_wide.2 (limb_any W A m c xs i hL h0 h9))
      (fun W B A m c xs v hL hv => callsIn_wide.2 (trim_any W B A m c xs v hL hv)) w B A m n cb ca ys xs v hB hA (by omega) hm (by rw [Nat.add_comm]; exact hv))

end Go.Proofs.Ytdbilpmhejigpaa
