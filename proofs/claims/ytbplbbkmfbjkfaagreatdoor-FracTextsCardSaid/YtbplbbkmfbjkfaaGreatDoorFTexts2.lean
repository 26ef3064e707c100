/- Lemmas of several claims. -/
import Derived.Maps.AppendAt
import Derived.Carry
import Derived.Lib.ItoaNum
import Derived.Lib.UnsafeStr
import Derived.Lib.OthersKept
import Derived.Lib.BufferKept
import Derived.Lib.OwnKind
import Derived.Shelf.Strconv.Itoa0
import Derived.Lib.Strings
import Derived.Lib.Slices
import Derived.Lib.Small
import Derived.Lib.Walk
import Derived.Lib.BitFns
import Derived.Deep.QuietTactic
import Derived.BigQuiet
import Derived.Test.YtbplbbkmfbjkfaaGreatDoorFTexts1
/-
  The contract of wide.sum.
-/
namespace Go.Proofs.YtbplbbkmfbjkfaaGreatDoor
open Go.RowKit Go.Shelf
attribute [local go_sem] Oper.semAt_some

/-- make([]uint32, 0, n): a new row, of which nothing is owned yet. -/
theorem run_make0_u32 (c : Int) (n : Nat) (hc : c = (n : Int)) (hn : n ≤ 4000000000) (w : World) :
    (Instr.makeSlice 22 (.int .i64 0) (.int .i64 c)).run Tryz.prog w = .ok (.slice (some ⟨w.heap.size, 0, none⟩) 0 n) (w.alloc (.cells ((zer n).map u32c).toArray 79)) := by
  subst hc
  obtain ⟨i0, hi0, hz0, hz1, hz2⟩ := info_parts u32_info
  have h := run_make (P := Tryz.prog) w 22 79 i0 _ slice_u32 hi0 hz0 .i64 .i64 0 (n : Int) (by omega) (by omega) (by rw [hz2]; omega) (by omega)
  rw [hz1, Int.toNat_natCast, made_zer] at h
  exact h
/-- A reading is kept while a block that is no cells is turned. -/
theorem Lm.putObj {W : World} {n c : Nat} {A : Option Addr} {xs : List Nat} (h : Lm W W.heap.size A n c xs) {l : Nat} {o : Obj} (o' : Obj) (hl : W.heap[l]? = some o) (ho : o.isCells = false) : Lm (W.putObj l o') (W.putObj l o').heap.size A n c xs := by
  have hs := (grownBy_putObj' W l o').size
  refine ⟨h.len, h.good, h.cap, h.max, h.nil_, fun hn => ?_⟩
  obtain ⟨b, off, e, hb, hc⟩ := h.at_ hn
  refine ⟨b, off, e, by omega, fun j hj => ?_⟩
  have hcj := hc j hj
  exact cell_kept hcj (grownBy_putObj' W l o') (fun r er => by cases er; exact ⟨o, hl, ho⟩)
/-- Behind an append to a row of the call's own, a block that is no cells lies as it lay. -/
theorem other_kept {W w1 : World} {base : Nat} {e : TypeId} {u : Value} {k D : Nat} {us : List Value} {o tmp : Obj} (hrow : W.ownsRow base e 1 u k us) (hg : (W.alloc tmp).grownBy w1 u.ownBlock) (hD : W.heap[D]? = some o) (ho : o.isCells = false) : w1.heap[D]? = some o := by
  have hlt : D < W.heap.size := (Array.getElem?_eq_some_iff.1 hD).1
  rw [hg.block D (by simp; omega) ?_, Below.heap_alloc W tmp D hlt, hD]
  intro e2
  rcases hrow.2 with ⟨rfl, _⟩ | ⟨g, cap, cur, rfl, _, hgb, _⟩
  · cases e2
  · obtain rfl : D = g := Option.some.inj e2
    rw [hgb] at hD
    cases hD
    cases ho
/-- The indices that have come. -/
def ixs {n : Nat} (pre : List (Idx n)) : List Nat := pre.map (·.1)
theorem ixs_snoc {n : Nat} (pre : List (Idx n)) (x : Idx n) : ixs (pre ++ [x]) = ixs pre ++ [x.1] := by unfold ixs; rw [List.map_append]; rfl
theorem ixs_len {n : Nat} (pre : List (Idx n)) : (ixs pre).length = pre.length := List.length_map _

set_option maxRecDepth 100000 in
set_option maxHeartbeats 2000000 in
theorem sum_ge_in (F : Fence) (q : Nat) (h3 : F.fn 131) (h5 : F.fn 158) (h7 : F.fn 169) (h8 : F.fn 130) (h9 : F.fn 103) (hro : F.round = none) (hq : 4 ≤ q)
    (hlimb : ∀ (W : World) (A : Option Addr) (m c : Nat) (xs : List Nat) (i : Int), Lm W W.heap.size A m c xs → 0 ≤ i → i ≤ 9223372036854775807 → CallsIn F (q - 1 - 1) Tryz.prog 130 #[.slice A m c, .int .i64 i] W fun e w' => e = .returned (.int .u64 (xs[i.toNat]?.getD 0 : Nat)) ∧ W = w')
    (htrim : ∀ (W : World) (B : Nat) (A : Option Addr) (m c : Nat) (xs : List Nat) (v : Nat), Lm W B A m c xs → val xs = v → CallsIn F (q - 1) Tryz.prog 103 #[.slice A m c] W fun e w' => e = .returned (.slice A (digs v).length c) ∧ W = w')
    (w : World) (A B : Option Addr) (n m ca cb : Nat) (xs ys : List Nat) (v : Nat) (hA : Lm w w.heap.size A n ca xs) (hB : Lm w w.heap.size B m cb ys) (hge : m ≤ n) (hn : n ≤ 100000000) (hv : val xs + val ys = v) :
    CallsIn F q Tryz.prog 131 #[.slice A n ca, .slice B m cb] w fun e w' => ∃ A' c', e = .returned (.slice A' (digs v).length c') ∧ Lm w' w'.heap.size A' (digs v).length c' (digs v) ∧ Below w.heap.size w w' := by
  have h1 : 1 ≤ q := by omega
  obtain ⟨i0, hi0, hz0, hz1, hz2⟩ := info_parts u32_info
  have hca := hA.cap
  have hma := hA.max
  have hcb := hB.cap
  have hmb := hB.max
  have HA := Lib.hid hA
  have HB := Lib.hid hB
  have HV := Lib.hid hv
  clear hA hB hv
  have hdec : decide (n < m) = false := by simp; omega
  have hmk := fun w => run_make0_u32 ((n : Int) + 1) (n + 1) (by omega) (by omega) w
  refine callsIn_of_wp_marks Tryz.func131 rfl h3 ?_ hro
  simp only [Tryz.ntmps131, List.size_toArray, List.length_cons, List.length_nil, Nat.reduceAdd, Nat.reduceSub, Array.replicate_succ, Array.replicate_zero, List.push_toArray, List.append_toArray, List.nil_append, List.cons_append]
  gi_wp2_with (gi_at_call 158; refine (col_in F (q - 1) h5 hro _ _ _ _ _ _ _).mono ?_; rintro e w' ⟨rfl, rfl⟩)
  clear hmk
  have r0 : (w.alloc (.cells ((zer (n + 1)).map u32c).toArray 79)).ownsRow w.heap.size 79 1 (.slice (some ⟨w.heap.size, 0, none⟩) 0 (n + 1)) 0 [] := World.ownsRow_made _ _ _ (Nat.le_refl _) (by simp only [maxLen]; omega) (by simp [zer])
  have bT := Boxed.new (w.alloc (.cells ((zer (n + 1)).map u32c).toArray 79)) 22 (.slice (some ⟨w.heap.size, 0, none⟩) 0 (n + 1))
  have bC := Boxed.new ((w.alloc (.cells ((zer (n + 1)).map u32c).toArray 79)).alloc (.cells #[.slice (some ⟨w.heap.size, 0, none⟩) 0 (n + 1)] 22)) 77 (.int .u64 0)
  have bA := Boxed.new (((w.alloc (.cells ((zer (n + 1)).map u32c).toArray 79)).alloc (.cells #[.slice (some ⟨w.heap.size, 0, none⟩) 0 (n + 1)] 22)).alloc (.cells #[.int .u64 0] 77)) 22 (.slice A n ca)
  have bB := Boxed.new ((((w.alloc (.cells ((zer (n + 1)).map u32c).toArray 79)).alloc (.cells #[.slice (some ⟨w.heap.size, 0, none⟩) 0 (n + 1)] 22)).alloc (.cells #[.int .u64 0] 77)).alloc (.cells #[.slice A n ca] 22)) 22 (.slice B m cb)
  simp only [World.size_alloc] at bT bC bA bB
  have hB0 : Below w.heap.size w (((((w.alloc (.cells ((zer (n + 1)).map u32c).toArray 79)).alloc (.cells #[.slice (some ⟨w.heap.size, 0, none⟩) 0 (n + 1)] 22)).alloc (.cells #[.int .u64 0] 77)).alloc (.cells #[.slice A n ca] 22)).alloc (.cells #[.slice B m cb] 22)) := (((((Below.refl _ w).alloc (Nat.le_refl _) _).alloc (by simp) _).alloc (by simp; omega) _).alloc (by simp; omega) _).alloc (by simp; omega) _
  refine wpIn_rangeFunc_ownG hro h1 (gf := 169) (lb := #[.pointer (some ⟨w.heap.size + 1 + 1 + 1, 0, none⟩), .pointer (some ⟨w.heap.size + 1 + 1 + 1 + 1, 0, none⟩)]) rfl h7 (enters_of Tryz.func169 (by kernel_rfl) rfl)
    (col_stops F (q - 1) h7 h8 hro (by omega) hlimb (w.heap.size + 1 + 1 + 1) (w.heap.size + 1 + 1 + 1 + 1) w.heap.size A B n m ca cb xs ys _ (by simp) (by simp) (by simp; omega) ((bA.alloc _).cell) bB.cell (HA.out.below hB0) (HB.out.below hB0)) kpB_t (kpB_b (by simp; omega) (by simp)) (Below.refl _ _) (fun _ => rfl)
    (fun pre W => ((∃ u, Boxed W (w.heap.size + 1) 22 u ∧ W.ownsRow w.heap.size 79 1 u pre.length ((addP xs ys (ixs pre)).1.map u32c) ∧ True) ∧ Boxed W (w.heap.size + 1 + 1) 77 (.int .u64 ((addP xs ys (ixs pre)).2 : Nat)) ∧ Boxed W (w.heap.size + 1 + 1 + 1 + 1) 22 (.slice B m cb)) ∧ Below w.heap.size w W)
    (fun _ _ _ => False)
    (OwnFrom.and (OwnFrom.and (Own.from (holdsRow_own w.heap.size (w.heap.size + 1) 22 79 1 (fun pre : List (Idx n) => pre.length) (fun pre => (addP xs ys (ixs pre)).1.map u32c) (fun _ _ => True)) _) (OwnFrom.and (Own.from (boxed_own (w.heap.size + 1 + 1) 77 (fun pre : List (Idx n) => Value.int .u64 ((addP xs ys (ixs pre)).2 : Nat))) _) (Own.from (boxed_own (w.heap.size + 1 + 1 + 1 + 1) 22 (fun _ => .slice B m cb)) _))) (ownFrom_below (Nat.le_refl _) (by simp; omega)))
    (fun _ _ _ _ _ hs _ _ => hs)
    ⟨⟨⟨_, ((bT.alloc _).alloc _).alloc _, (((r0.alloc _).alloc _).alloc _).alloc _, trivial⟩, (bC.alloc _).alloc _, bB⟩, hB0⟩
    (fun x => { tmps := #[.slice A n ca, .slice B m cb, undef, undef, .slice none 0 0, .pointer (some ⟨w.heap.size + 1, 0, none⟩), .pointer (some ⟨w.heap.size + 1 + 1, 0, none⟩), .int .u64 (xs[x.1]?.getD 0 : Nat), .int .u64 (ys[x.1]?.getD 0 : Nat), .slice A n ca, .int .i64 n, .slice B m cb, .int .i64 m, .bool false, undef, undef, .slice A n ca, .int .i64 n, .int .i64 ((n : Int) + 1), .slice (some ⟨w.heap.size, 0, none⟩) 0 (n + 1), .slice A n ca, .slice B m cb, .func (.func 169) #[] #[.pointer (some ⟨w.heap.size + 1 + 1 + 1, 0, none⟩), .pointer (some ⟨w.heap.size + 1 + 1 + 1 + 1, 0, none⟩)], .int .u64 (xs[x.1]?.getD 0 : Nat), .int .u64 (ys[x.1]?.getD 0 : Nat), undef, undef, undef, undef, undef, undef, undef, undef, undef, undef, undef, undef, undef, undef, undef, undef, undef, undef], defers := [] }) ?assign ?body ?done ?stop
  case assign =>
    intro l x W K hK
    gi_wp2
    exact hK
  case body =>
    rintro l pre ⟨k, hk⟩ W ⟨⟨⟨u, hu, hrow, _⟩, hcar, hbb⟩, hBl⟩ hlen
    have hc1 := addP_carry HA.out.good HB.out.good (ixs pre)
    have hl1 := addP_len xs ys (ixs pre)
    rw [ixs_len] at hl1
    have HSn := Lib.hid (addP_snoc xs ys (ixs pre) k)
    have hgx := HA.out.good.get k
    have hgy := HB.out.good.get k
    generalize hr : addP xs ys (ixs pre) = r at *
    obtain ⟨ts, cy⟩ := r
    have HR := Lib.hid hr
    clear hr
    dsimp only at hc1 hl1 hrow hcar
    have hsz : (W.setCell ⟨w.heap.size + 1 + 1, 0, none⟩ (.int .u64 ((cy : Int) + ((xs[k]?.getD 0 : Nat) + (ys[k]?.getD 0 : Nat))))).heap.size = W.heap.size := World.size_setCell _ _ _
    have hu1 := hu.other (B' := w.heap.size + 1 + 1) (by omega) (.int .u64 ((cy : Int) + ((xs[k]?.getD 0 : Nat) + (ys[k]?.getD 0 : Nat))))
    have hbb1 := hbb.other (B' := w.heap.size + 1 + 1) (by omega) (.int .u64 ((cy : Int) + ((xs[k]?.getD 0 : Nat) + (ys[k]?.getD 0 : Nat))))
    have hcar1 := hcar.set (.int .u64 ((cy : Int) + ((xs[k]?.getD 0 : Nat) + (ys[k]?.getD 0 : Nat))))
    have hrow1 := hrow.kept (grownBy_setCell' W (w.heap.size + 1 + 1) (.int .u64 ((cy : Int) + ((xs[k]?.getD 0 : Nat) + (ys[k]?.getD 0 : Nat))))) (.inr (hcar.not_row (by decide) hrow).symm)
    have hnew := cell_one_new (W.setCell ⟨w.heap.size + 1 + 1, 0, none⟩ (.int .u64 ((cy : Int) + ((xs[k]?.getD 0 : Nat) + (ys[k]?.getD 0 : Nat))))) (.int .u32 (((cy : Int) + ((xs[k]?.getD 0 : Nat) + (ys[k]?.getD 0 : Nat))) % 4294967296)) 79
    rw [hsz] at hnew
    have HNew := Lib.hid hnew
    have HRow := Lib.hid hrow1
    have HU := Lib.hid hu1
    have HC := Lib.hid hcar1
    have HBB := Lib.hid hbb1
    have HBB0 := Lib.hid hbb
    have HL1 := Lib.hid hl1
    have hcc := hcar.cell
    have hcf := hcar.frozen
    have huc := hu.cell
    have hBs := hBl.size
    have HBl := Lib.hid hBl
    have hun : W.heap.size ≤ W.heap.size := Nat.le_refl _
    clear hnew hrow1 hu1 hcar1 hbb1 hbb hrow hBl hu hcar
    dsimp only
    gi_wp2_with (gi_at_builtin; refine wpListIn_append_own _ rfl _ _ 22 rfl w.heap.size 79 i0 (.int .u32 0) 1 4 slice_u32 hi0 hz0 hz1 hz2 rfl (by decide) _ _ _ rfl (HRow.out.alloc _) ⟨W.heap.size, 0, none⟩ 1 1 [.int .u32 (((cy : Int) + ((xs[k]?.getD 0 : Nat) + (ys[k]?.getD 0 : Nat))) % 4294967296)] rfl rfl HNew.out (by simp [Value.oneCell']) (by simp only [maxLen]; omega) (by omega) (by simp [World.size_setCell]; omega) ?_; intro v' w1 hown' hgrow _; obtain ⟨g', cap', rfl⟩ := ownsRow_succ hown'; obtain ⟨hv1, hv2, hr2, hk2, hb2⟩ := HU.out.appended (by decide) HRow.out (by rw [hsz]; omega) (Nat.le_succ _) hown' hgrow; have hcar2 := (HC.out.alloc _).kept hgrow (HC.out.not_row (by decide) HRow.out); have hbb2 := (HBB.out.alloc _).kept hgrow (HBB.out.not_row (by decide) HRow.out); have hc1' := hv1.cell; have hf1 := hv1.frozen; have hcc2 := hcar2.cell; have hcf2 := hcar2.frozen)
    have hcar3 := hcar2.other (B' := w.heap.size + 1) (by omega) (.slice (some ⟨g', 0, none⟩) (pre.length + 1) cap')
    have hbb3 := (hbb2.other (B' := w.heap.size + 1) (by omega) (.slice (some ⟨g', 0, none⟩) (pre.length + 1) cap')).other (B' := w.heap.size + 1 + 1) (by omega) (.int .u64 (((cy : Int) + ((xs[k]?.getD 0 : Nat) + (ys[k]?.getD 0 : Nat))) / 4294967296))
    have hbf := (((Below.refl w.heap.size W).setCell (p := ⟨w.heap.size + 1 + 1, 0, none⟩) (by simp; omega) (.int .u64 ((cy : Int) + ((xs[k]?.getD 0 : Nat) + (ys[k]?.getD 0 : Nat))))).trans hb2).setCell (p := ⟨w.heap.size + 1 + 1, 0, none⟩) (by simp; omega) (.int .u64 (((cy : Int) + ((xs[k]?.getD 0 : Nat) + (ys[k]?.getD 0 : Nat))) / 4294967296))
    refine ⟨(((KeepsOthers.setCell W _ _).trans hk2).trans (KeepsOthers.setCell _ _ _)).from _, ⟨hbf, hbb3.cell.trans HBB0.out.cell.symm⟩, ⟨⟨⟨_, hv2.other (by omega) _, ?_⟩, ?_, hbb3⟩, HBl.out.trans hbf⟩⟩
    · have e := hr2.kept (grownBy_setCell' _ (w.heap.size + 1 + 1) (.int .u64 (((cy : Int) + ((xs[k]?.getD 0 : Nat) + (ys[k]?.getD 0 : Nat))) / 4294967296))) (.inr (hcar3.not_row (by decide) hr2).symm)
      rw [ixs_snoc, HSn.out, List.length_append, List.map_append]
      have e2 : (.int .u32 (((cy : Int) + ((xs[k]?.getD 0 : Nat) + (ys[k]?.getD 0 : Nat))) % 4294967296) : Value) = u32c ((cy + (xs[k]?.getD 0 + ys[k]?.getD 0)) % 4294967296) := by
        unfold u32c
        congr 1
      rw [e2] at e
      exact e
    · have e := hcar3.set (.int .u64 (((cy : Int) + ((xs[k]?.getD 0 : Nat) + (ys[k]?.getD 0 : Nat))) / 4294967296))
      rw [ixs_snoc, HSn.out]
      have e2 : (.int .u64 (((cy : Int) + ((xs[k]?.getD 0 : Nat) + (ys[k]?.getD 0 : Nat))) / 4294967296) : Value) = .int .u64 (((cy + (xs[k]?.getD 0 + ys[k]?.getD 0)) / 4294967296 : Nat) : Int) := by
        congr 1
      rw [e2] at e
      exact e
  case done =>
    rintro D zs W hD hzs ⟨⟨⟨u, hu, hrow, _⟩, hcar, hbb⟩, hBl⟩ hK
    have hix : ixs zs = List.range n := hzs
    rw [hix, addP_range] at hrow hcar
    have hzl : zs.length = n := by
      have e := congrArg List.length hix
      rwa [ixs_len, List.length_range] at e
    rw [hzl] at hrow
    have hc1 := addK_carry HA.out.good HB.out.good n
    have hl1 := addK_len xs ys n
    have hvl : Hid (val ((addK xs ys n).1 ++ [(addK xs ys n).2]) = v) := by
      have e := addK_val xs ys n
      rw [List.take_of_length_le (by rw [HA.out.len]; exact Nat.le_refl _), List.take_of_length_le (by rw [HB.out.len]; exact hge), HV.out] at e
      show _ = _
      rw [val_snoc, hl1]
      exact e
    have hgd : Hid (Good ((addK xs ys n).1 ++ [(addK xs ys n).2])) := (addK_good xs ys n).append (Good.nil.cons (by omega))
    generalize hr : addK xs ys n = r at *
    obtain ⟨ts, cy⟩ := r
    clear hr hix hzs hzl
    dsimp only at hc1 hl1 hrow hcar hvl hgd
    have hcc := hcar.cell
    have huc := hu.cell
    have hBs := hBl.size
    have HRow := Lib.hid hrow
    have HBl := Lib.hid hBl
    have HKD := Lib.hid hK
    have hnew := Lib.hid (cell_one_new W (.int .u32 (cy : Int)) 79)
    clear hrow hBl hcar hbb
    gi_wp2_with (gi_at_builtin; refine wpListIn_append_own _ rfl _ _ 22 rfl w.heap.size 79 i0 (.int .u32 0) 1 4 slice_u32 hi0 hz0 hz1 hz2 rfl (by decide) _ _ _ rfl (HRow.out.alloc _) ⟨W.heap.size, 0, none⟩ 1 1 [.int .u32 (cy : Int)] rfl rfl hnew.out (by simp [Value.oneCell']) (by simp only [maxLen]; omega) (by omega) (by simp; omega) ?_; intro v' w1 hown' hgrow _)
    have hown2 : w1.ownsRow w.heap.size 79 1 v' (n + 1) ((ts ++ [cy]).map u32c) := by rw [List.map_append]; exact hown'
    obtain ⟨A', c', rfl, hL⟩ := Lm.own hown2 hgd.out
    have HL := Lib.hid hL
    have hK1 := Lib.hid (other_kept HRow.out hgrow HKD.out rfl)
    have hbf := Lib.hid (HBl.out.trans (((Below.refl w.heap.size W).alloc hBs _).grown hgrow (by simp; omega) (fun b e => (HRow.out.lt b e).1)))
    clear hL hown2 hown' hgrow
    refine (htrim _ _ _ _ _ _ v HL.out hvl.out).mono ?_
    rintro e w2 ⟨rfl, rfl⟩
    gi_wp2
    refine ⟨by simp, .inl ⟨_, _, rfl, run_takeDeferred hK1.out, ?_⟩⟩
    exact ⟨_, results_tmp rfl _ _ _, A', c', rfl, (HL.out.trim' hvl.out).putObj _ hK1.out rfl, hbf.out.trans (belowK_b (w := w) (Nat.le_refl _) _ D _ _ (by simp at hD; omega) hK1.out rfl rfl)⟩
  case stop =>
    rintro D c pre W _ _ h _
    exact h.elim

set_option maxRecDepth 100000 in
set_option maxHeartbeats 2000000 in
theorem sum_lt_in (F : Fence) (q : Nat) (h3 : F.fn 131) (h5 : F.fn 158) (h7 : F.fn 169) (h8 : F.fn 130) (h9 : F.fn 103) (hro : F.round = none) (hq : 4 ≤ q)
    (hlimb : ∀ (W : World) (A : Option Addr) (m c : Nat) (xs : List Nat) (i : Int), Lm W W.heap.size A m c xs → 0 ≤ i → i ≤ 9223372036854775807 → CallsIn F (q - 1 - 1) Tryz.prog 130 #[.slice A m c, .int .i64 i] W fun e w' => e = .returned (.int .u64 (xs[i.toNat]?.getD 0 : Nat)) ∧ W = w')
    (htrim : ∀ (W : World) (B : Nat) (A : Option Addr) (m c : Nat) (xs : List Nat) (v : Nat), Lm W B A m c xs → val xs = v → CallsIn F (q - 1) Tryz.prog 103 #[.slice A m c] W fun e w' => e = .returned (.slice A (digs v).length c) ∧ W = w')
    (w : World) (A B : Option Addr) (n m ca cb : Nat) (xs ys : List Nat) (v : Nat) (hA : Lm w w.heap.size A n ca xs) (hB : Lm w w.heap.size B m cb ys) (hgt : m < n) (hn : n ≤ 100000000) (hv : val xs + val ys = v) :
    CallsIn F q Tryz.prog 131 #[.slice B m cb, .slice A n ca] w fun e w' => ∃ A' c', e = .returned (.slice A' (digs v).length c') ∧ Lm w' w'.heap.size A' (digs v).length c' (digs v) ∧ Below w.heap.size w w' := by
  have h1 : 1 ≤ q := by omega
  obtain ⟨i0, hi0, hz0, hz1, hz2⟩ := info_parts u32_info
  have hca := hA.cap
  have hma := hA.max
  have hcb := hB.cap
  have hmb := hB.max
  have HA := Lib.hid hA
  have HB := Lib.hid hB
  have HV := Lib.hid hv
  clear hA hB hv
  have hdec : decide (m < n) = true := by simpa using hgt
  have hge : m ≤ n := by omega
  have hmk := fun w => run_make0_u32 ((n : Int) + 1) (n + 1) (by omega) (by omega) w
  refine callsIn_of_wp_marks Tryz.func131 rfl h3 ?_ hro
  simp only [Tryz.ntmps131, List.size_toArray, List.length_cons, List.length_nil, Nat.reduceAdd, Nat.reduceSub, Array.replicate_succ, Array.replicate_zero, List.push_toArray, List.append_toArray, List.nil_append, List.cons_append]
  gi_wp2_with (gi_at_call 158; refine (col_in F (q - 1) h5 hro _ _ _ _ _ _ _).mono ?_; rintro e w' ⟨rfl, rfl⟩)
  clear hmk
  have r0 : (w.alloc (.cells ((zer (n + 1)).map u32c).toArray 79)).ownsRow w.heap.size 79 1 (.slice (some ⟨w.heap.size, 0, none⟩) 0 (n + 1)) 0 [] := World.ownsRow_made _ _ _ (Nat.le_refl _) (by simp only [maxLen]; omega) (by simp [zer])
  have bT := Boxed.new (w.alloc (.cells ((zer (n + 1)).map u32c).toArray 79)) 22 (.slice (some ⟨w.heap.size, 0, none⟩) 0 (n + 1))
  have bC := Boxed.new ((w.alloc (.cells ((zer (n + 1)).map u32c).toArray 79)).alloc (.cells #[.slice (some ⟨w.heap.size, 0, none⟩) 0 (n + 1)] 22)) 77 (.int .u64 0)
  have bA := Boxed.new (((w.alloc (.cells ((zer (n + 1)).map u32c).toArray 79)).alloc (.cells #[.slice (some ⟨w.heap.size, 0, none⟩) 0 (n + 1)] 22)).alloc (.cells #[.int .u64 0] 77)) 22 (.slice A n ca)
  have bB := Boxed.new ((((w.alloc (.cells ((zer (n + 1)).map u32c).toArray 79)).alloc (.cells #[.slice (some ⟨w.heap.size, 0, none⟩) 0 (n + 1)] 22)).alloc (.cells #[.int .u64 0] 77)).alloc (.cells #[.slice A n ca] 22)) 22 (.slice B m cb)
  simp only [World.size_alloc] at bT bC bA bB
  have hB0 : Below w.heap.size w (((((w.alloc (.cells ((zer (n + 1)).map u32c).toArray 79)).alloc (.cells #[.slice (some ⟨w.heap.size, 0, none⟩) 0 (n + 1)] 22)).alloc (.cells #[.int .u64 0] 77)).alloc (.cells #[.slice A n ca] 22)).alloc (.cells #[.slice B m cb] 22)) := (((((Below.refl _ w).alloc (Nat.le_refl _) _).alloc (by simp) _).alloc (by simp; omega) _).alloc (by simp; omega) _).alloc (by simp; omega) _
  refine wpIn_rangeFunc_ownG hro h1 (gf := 169) (lb := #[.pointer (some ⟨w.heap.size + 1 + 1 + 1, 0, none⟩), .pointer (some ⟨w.heap.size + 1 + 1 + 1 + 1, 0, none⟩)]) rfl h7 (enters_of Tryz.func169 (by kernel_rfl) rfl)
    (col_stops F (q - 1) h7 h8 hro (by omega) hlimb (w.heap.size + 1 + 1 + 1) (w.heap.size + 1 + 1 + 1 + 1) w.heap.size A B n m ca cb xs ys _ (by simp) (by simp) (by simp; omega) ((bA.alloc _).cell) bB.cell (HA.out.below hB0) (HB.out.below hB0)) kpB_t (kpB_b (by simp; omega) (by simp)) (Below.refl _ _) (fun _ => rfl)
    (fun pre W => ((∃ u, Boxed W (w.heap.size + 1) 22 u ∧ W.ownsRow w.heap.size 79 1 u pre.length ((addP xs ys (ixs pre)).1.map u32c) ∧ True) ∧ Boxed W (w.heap.size + 1 + 1) 77 (.int .u64 ((addP xs ys (ixs pre)).2 : Nat)) ∧ Boxed W (w.heap.size + 1 + 1 + 1 + 1) 22 (.slice B m cb)) ∧ Below w.heap.size w W)
    (fun _ _ _ => False)
    (OwnFrom.and (OwnFrom.and (Own.from (holdsRow_own w.heap.size (w.heap.size + 1) 22 79 1 (fun pre : List (Idx n) => pre.length) (fun pre => (addP xs ys (ixs pre)).1.map u32c) (fun _ _ => True)) _) (OwnFrom.and (Own.from (boxed_own (w.heap.size + 1 + 1) 77 (fun pre : List (Idx n) => Value.int .u64 ((addP xs ys (ixs pre)).2 : Nat))) _) (Own.from (boxed_own (w.heap.size + 1 + 1 + 1 + 1) 22 (fun _ => .slice B m cb)) _))) (ownFrom_below (Nat.le_refl _) (by simp; omega)))
    (fun _ _ _ _ _ hs _ _ => hs)
    ⟨⟨⟨_, ((bT.alloc _).alloc _).alloc _, (((r0.alloc _).alloc _).alloc _).alloc _, trivial⟩, (bC.alloc _).alloc _, bB⟩, hB0⟩
    (fun x => { tmps := #[.slice A n ca, .slice B m cb, undef, undef, .slice none 0 0, .pointer (some ⟨w.heap.size + 1, 0, none⟩), .pointer (some ⟨w.heap.size + 1 + 1, 0, none⟩), .int .u64 (xs[x.1]?.getD 0 : Nat), .int .u64 (ys[x.1]?.getD 0 : Nat), .slice B m cb, .int .i64 m, .slice A n ca, .int .i64 n, .bool true, .slice A n ca, .slice B m cb, .slice A n ca, .int .i64 n, .int .i64 ((n : Int) + 1), .slice (some ⟨w.heap.size, 0, none⟩) 0 (n + 1), .slice A n ca, .slice B m cb, .func (.func 169) #[] #[.pointer (some ⟨w.heap.size + 1 + 1 + 1, 0, none⟩), .pointer (some ⟨w.heap.size + 1 + 1 + 1 + 1, 0, none⟩)], .int .u64 (xs[x.1]?.getD 0 : Nat), .int .u64 (ys[x.1]?.getD 0 : Nat), undef, undef, undef, undef, undef, undef, undef, undef, undef, undef, undef, undef, undef, undef, undef, undef, undef, undef], defers := [] }) ?assign ?body ?done ?stop
  case assign =>
    intro l x W K hK
    gi_wp2
    exact hK
  case body =>
    rintro l pre ⟨k, hk⟩ W ⟨⟨⟨u, hu, hrow, _⟩, hcar, hbb⟩, hBl⟩ hlen
    have hc1 := addP_carry HA.out.good HB.out.good (ixs pre)
    have hl1 := addP_len xs ys (ixs pre)
    rw [ixs_len] at hl1
    have HSn := Lib.hid (addP_snoc xs ys (ixs pre) k)
    have hgx := HA.out.good.get k
    have hgy := HB.out.good.get k
    generalize hr : addP xs ys (ixs pre) = r at *
    obtain ⟨ts, cy⟩ := r
    have HR := Lib.hid hr
    clear hr
    dsimp only at hc1 hl1 hrow hcar
    have hsz : (W.setCell ⟨w.heap.size + 1 + 1, 0, none⟩ (.int .u64 ((cy : Int) + ((xs[k]?.getD 0 : Nat) + (ys[k]?.getD 0 : Nat))))).heap.size = W.heap.size := World.size_setCell _ _ _
    have hu1 := hu.other (B' := w.heap.size + 1 + 1) (by omega) (.int .u64 ((cy : Int) + ((xs[k]?.getD 0 : Nat) + (ys[k]?.getD 0 : Nat))))
    have hbb1 := hbb.other (B' := w.heap.size + 1 + 1) (by omega) (.int .u64 ((cy : Int) + ((xs[k]?.getD 0 : Nat) + (ys[k]?.getD 0 : Nat))))
    have hcar1 := hcar.set (.int .u64 ((cy : Int) + ((xs[k]?.getD 0 : Nat) + (ys[k]?.getD 0 : Nat))))
    have hrow1 := hrow.kept (grownBy_setCell' W (w.heap.size + 1 + 1) (.int .u64 ((cy : Int) + ((xs[k]?.getD 0 : Nat) + (ys[k]?.getD 0 : Nat))))) (.inr (hcar.not_row (by decide) hrow).symm)
    have hnew := cell_one_new (W.setCell ⟨w.heap.size + 1 + 1, 0, none⟩ (.int .u64 ((cy : Int) + ((xs[k]?.getD 0 : Nat) + (ys[k]?.getD 0 : Nat))))) (.int .u32 (((cy : Int) + ((xs[k]?.getD 0 : Nat) + (ys[k]?.getD 0 : Nat))) % 4294967296)) 79
    rw [hsz] at hnew
    have HNew := Lib.hid hnew
    have HRow := Lib.hid hrow1
    have HU := Lib.hid hu1
    have HC := Lib.hid hcar1
    have HBB := Lib.hid hbb1
    have HBB0 := Lib.hid hbb
    have HL1 := Lib.hid hl1
    have hcc := hcar.cell
    have hcf := hcar.frozen
    have huc := hu.cell
    have hBs := hBl.size
    have HBl := Lib.hid hBl
    have hun : W.heap.size ≤ W.heap.size := Nat.le_refl _
    clear hnew hrow1 hu1 hcar1 hbb1 hbb hrow hBl hu hcar
    dsimp only
    gi_wp2_with (gi_at_builtin; refine wpListIn_append_own _ rfl _ _ 22 rfl w.heap.size 79 i0 (.int .u32 0) 1 4 slice_u32 hi0 hz0 hz1 hz2 rfl (by decide) _ _ _ rfl (HRow.out.alloc _) ⟨W.heap.size, 0, none⟩ 1 1 [.int .u32 (((cy : Int) + ((xs[k]?.getD 0 : Nat) + (ys[k]?.getD 0 : Nat))) % 4294967296)] rfl rfl HNew.out (by simp [Value.oneCell']) (by simp only [maxLen]; omega) (by omega) (by simp [World.size_setCell]; omega) ?_; intro v' w1 hown' hgrow _; obtain ⟨g', cap', rfl⟩ := ownsRow_succ hown'; obtain ⟨hv1, hv2, hr2, hk2, hb2⟩ := HU.out.appended (by decide) HRow.out (by rw [hsz]; omega) (Nat.le_succ _) hown' hgrow; have hcar2 := (HC.out.alloc _).kept hgrow (HC.out.not_row (by decide) HRow.out); have hbb2 := (HBB.out.alloc _).kept hgrow (HBB.out.not_row (by decide) HRow.out); have hc1' := hv1.cell; have hf1 := hv1.frozen; have hcc2 := hcar2.cell; have hcf2 := hcar2.frozen)
    have hcar3 := hcar2.other (B' := w.heap.size + 1) (by omega) (.slice (some ⟨g', 0, none⟩) (pre.length + 1) cap')
    have hbb3 := (hbb2.other (B' := w.heap.size + 1) (by omega) (.slice (some ⟨g', 0, none⟩) (pre.length + 1) cap')).other (B' := w.heap.size + 1 + 1) (by omega) (.int .u64 (((cy : Int) + ((xs[k]?.getD 0 : Nat) + (ys[k]?.getD 0 : Nat))) / 4294967296))
    have hbf := (((Below.refl w.heap.size W).setCell (p := ⟨w.heap.size + 1 + 1, 0, none⟩) (by simp; omega) (.int .u64 ((cy : Int) + ((xs[k]?.getD 0 : Nat) + (ys[k]?.getD 0 : Nat))))).trans hb2).setCell (p := ⟨w.heap.size + 1 + 1, 0, none⟩) (by simp; omega) (.int .u64 (((cy : Int) + ((xs[k]?.getD 0 : Nat) + (ys[k]?.getD 0 : Nat))) / 4294967296))
    refine ⟨(((KeepsOthers.setCell W _ _).trans hk2).trans (KeepsOthers.setCell _ _ _)).from _, ⟨hbf, hbb3.cell.trans HBB0.out.cell.symm⟩, ⟨⟨⟨_, hv2.other (by omega) _, ?_⟩, ?_, hbb3⟩, HBl.out.trans hbf⟩⟩
    · have e := hr2.kept (grownBy_setCell' _ (w.heap.size + 1 + 1) (.int .u64 (((cy : Int) + ((xs[k]?.getD 0 : Nat) + (ys[k]?.getD 0 : Nat))) / 4294967296))) (.inr (hcar3.not_row (by decide) hr2).symm)
      rw [ixs_snoc, HSn.out, List.length_append, List.map_append]
      have e2 : (.int .u32 (((cy : Int) + ((xs[k]?.getD 0 : Nat) + (ys[k]?.getD 0 : Nat))) % 4294967296) : Value) = u32c ((cy + (xs[k]?.getD 0 + ys[k]?.getD 0)) % 4294967296) := by
        unfold u32c
        congr 1
      rw [e2] at e
      exact e
    · have e := hcar3.set (.int .u64 (((cy : Int) + ((xs[k]?.getD 0 : Nat) + (ys[k]?.getD 0 : Nat))) / 4294967296))
      rw [ixs_snoc, HSn.out]
      have e2 : (.int .u64 (((cy : Int) + ((xs[k]?.getD 0 : Nat) + (ys[k]?.getD 0 : Nat))) / 4294967296) : Value) = .int .u64 (((cy + (xs[k]?.getD 0 + ys[k]?.getD 0)) / 4294967296 : Nat) : Int) := by
        congr 1
      rw [e2] at e
      exact e
  case done =>
    rintro D zs W hD hzs ⟨⟨⟨u, hu, hrow, _⟩, hcar, hbb⟩, hBl⟩ hK
    have hix : ixs zs = List.range n := hzs
    rw [hix, addP_range] at hrow hcar
    have hzl : zs.length = n := by
      have e := congrArg List.length hix
      rwa [ixs_len, List.length_range] at e
    rw [hzl] at hrow
    have hc1 := addK_carry HA.out.good HB.out.good n
    have hl1 := addK_len xs ys n
    have hvl : Hid (val ((addK xs ys n).1 ++ [(addK xs ys n).2]) = v) := by
      have e := addK_val xs ys n
      rw [List.take_of_length_le (by rw [HA.out.len]; exact Nat.le_refl _), List.take_of_length_le (by rw [HB.out.len]; exact hge), HV.out] at e
      show _ = _
      rw [val_snoc, hl1]
      exact e
    have hgd : Hid (Good ((addK xs ys n).1 ++ [(addK xs ys n).2])) := (addK_good xs ys n).append (Good.nil.cons (by omega))
    generalize hr : addK xs ys n = r at *
    obtain ⟨ts, cy⟩ := r
    clear hr hix hzs hzl
    dsimp only at hc1 hl1 hrow hcar hvl hgd
    have hcc := hcar.cell
    have huc := hu.cell
    have hBs := hBl.size
    have HRow := Lib.hid hrow
    have HBl := Lib.hid hBl
    have HKD := Lib.hid hK
    have hnew := Lib.hid (cell_one_new W (.int .u32 (cy : Int)) 79)
    clear hrow hBl hcar hbb
    gi_wp2_with (gi_at_builtin; refine wpListIn_append_own _ rfl _ _ 22 rfl w.heap.size 79 i0 (.int .u32 0) 1 4 slice_u32 hi0 hz0 hz1 hz2 rfl (by decide) _ _ _ rfl (HRow.out.alloc _) ⟨W.heap.size, 0, none⟩ 1 1 [.int .u32 (cy : Int)] rfl rfl hnew.out (by simp [Value.oneCell']) (by simp only [maxLen]; omega) (by omega) (by simp; omega) ?_; intro v' w1 hown' hgrow _)
    have hown2 : w1.ownsRow w.heap.size 79 1 v' (n + 1) ((ts ++ [cy]).map u32c) := by rw [List.map_append]; exact hown'
    obtain ⟨A', c', rfl, hL⟩ := Lm.own hown2 hgd.out
    have HL := Lib.hid hL
    have hK1 := Lib.hid (other_kept HRow.out hgrow HKD.out rfl)
    have hbf := Lib.hid (HBl.out.trans (((Below.refl w.heap.size W).alloc hBs _).grown hgrow (by simp; omega) (fun b e => (HRow.out.lt b e).1)))
    clear hL hown2 hown' hgrow
    refine (htrim _ _ _ _ _ _ v HL.out hvl.out).mono ?_
    rintro e w2 ⟨rfl, rfl⟩
    gi_wp2
    refine ⟨by simp, .inl ⟨_, _, rfl, run_takeDeferred hK1.out, ?_⟩⟩
    exact ⟨_, results_tmp rfl _ _ _, A', c', rfl, (HL.out.trim' hvl.out).putObj _ hK1.out rfl, hbf.out.trans (belowK_b (w := w) (Nat.le_refl _) _ D _ _ (by simp at hD; omega) hK1.out rfl rfl)⟩
  case stop =>
    rintro D c pre W _ _ h _
    exact h.elim


theorem sum_any (w : World) (A B : Option Addr) (n m ca cb : Nat) (xs ys : List Nat) (v : Nat) (hA : Lm w w.heap.size A n ca xs) (hB : Lm w w.heap.size B m cb ys) (hn : n ≤ 100000000) (hm : m ≤ 100000000) (hv : val xs + val ys = v) :
    Calls Tryz.prog 131 #[.slice A n ca, .slice B m cb] w fun e w' => ∃ A' c', e = .returned (.slice A' (digs v).length c') ∧ Lm w' w'.heap.size A' (digs v).length c' (digs v) ∧ Below w.heap.size w w' := by
  by_cases h : m ≤ n
  · exact (callsIn_wide (n := 8)).1 (sum_ge_in Fence.wide 8 trivial trivial trivial trivial trivial rfl (by omega) (fun W A m c xs i hL h0 h9 => callsIn_wide.2 (limb_any W A m c xs i hL h0 h9))
      (fun W B A m c xs v hL hv => callsIn_wide.2 (trim_any W B A m c xs v hL hv)) w A B n m ca cb xs ys v hA hB h hn hv)
  · exact (callsIn_wide (n := 8)).1 (sum_lt_in Fence.wide 8 trivial trivial trivial trivial trivial rfl (by omega) (fun W A m c xs i hL h0 h9 => callsIn_wide.2 (limb_any W A m c xs i hL h0 h9))
      (fun W B A m c xs v hL hv => callsIn_wide.2 (trim_any W B A m c xs v hL hv)) w B A m n cb ca ys xs v hB hA (by omega) hm (by rw [Nat.add_comm]; exact hv))

end Go.Proofs.YtbplbbkmfbjkfaaGreatDoor

/- wide.difference of two numbers, the second not the greater one, is the slice of the limbs of the difference, new and trimmed. -/
namespace Go.Proofs.YtbplbbkmfbjkfaaGreatDoor
open Go.RowKit Go.Shelf
attribute [local go_sem] Oper.semAt_some

theorem boxed_eq {W : World} {B : Nat} {t : TypeId} {v v' : Value} (h : Boxed W B t v) (e : v = v') : Boxed W B t v' := by subst e; exact h
theorem owns_eq {W : World} {base : Nat} {t : TypeId} {u : Value} {k : Nat} {us us' : List Value} (h : W.ownsRow base t 1 u k us) (e : us = us') : W.ownsRow base t 1 u k us' := by subst e; exact h

set_option maxRecDepth 100000 in
set_option maxHeartbeats 2000000 in
theorem diff_in (F : Fence) (q : Nat) (h3 : F.fn 132) (h5 : F.fn 158) (h7 : F.fn 169) (h8 : F.fn 130) (h9 : F.fn 103) (hro : F.round = none) (hq : 4 ≤ q)
    (hlimb : ∀ (W : World) (A : Option Addr) (m c : Nat) (xs : List Nat) (i : Int), Lm W W.heap.size A m c xs → 0 ≤ i → i ≤ 9223372036854775807 → CallsIn F (q - 1 - 1) Tryz.prog 130 #[.slice A m c, .int .i64 i] W fun e w' => e = .returned (.int .u64 (xs[i.toNat]?.getD 0 : Nat)) ∧ W = w')
    (htrim : ∀ (W : World) (B : Nat) (A : Option Addr) (m c : Nat) (xs : List Nat) (v : Nat), Lm W B A m c xs → val xs = v → CallsIn F (q - 1) Tryz.prog 103 #[.slice A m c] W fun e w' => e = .returned (.slice A (digs v).length c) ∧ W = w')
    (w : World) (A B : Option Addr) (n m ca cb : Nat) (xs ys : List Nat) (v : Nat) (hA : Lm w w.heap.size A n ca xs) (hB : Lm w w.heap.size B m cb ys) (hge : m ≤ n) (hn : n ≤ 100000000) (hle : val ys ≤ val xs) (hv : val xs - val ys = v) :
    CallsIn F q Tryz.prog 132 #[.slice A n ca, .slice B m cb] w fun e w' => ∃ A' c', e = .returned (.slice A' (digs v).length c') ∧ Lm w' w'.heap.size A' (digs v).length c' (digs v) ∧ Below w.heap.size w w' := by
  have h1 : 1 ≤ q := by omega
  obtain ⟨i0, hi0, hz0, hz1, hz2⟩ := info_parts u32_info
  have hca := hA.cap
  have hma := hA.max
  have hcb := hB.cap
  have hmb := hB.max
  have HA := Lib.hid hA
  have HB := Lib.hid hB
  have HV := Lib.hid hv
  clear hA hB hv
  have hmk := fun w => run_make0_u32 (n : Int) n rfl (by omega) w
  refine callsIn_of_wp_marks Tryz.func132 rfl h3 ?_ hro
  simp only [Tryz.ntmps132, List.size_toArray, List.length_cons, List.length_nil, Nat.reduceAdd, Nat.reduceSub, Array.replicate_succ, Array.replicate_zero, List.push_toArray, List.append_toArray, List.nil_append, List.cons_append]
  gi_wp2_with (gi_at_call 158; refine (col_in F (q - 1) h5 hro _ _ _ _ _ _ _).mono ?_; rintro e w' ⟨rfl, rfl⟩)
  clear hmk
  have r0 : (w.alloc (.cells ((zer n).map u32c).toArray 79)).ownsRow w.heap.size 79 1 (.slice (some ⟨w.heap.size, 0, none⟩) 0 n) 0 [] := World.ownsRow_made _ _ _ (Nat.le_refl _) (by simp only [maxLen]; omega) (by simp [zer])
  have bT := Boxed.new (w.alloc (.cells ((zer n).map u32c).toArray 79)) 22 (.slice (some ⟨w.heap.size, 0, none⟩) 0 n)
  have bC := Boxed.new ((w.alloc (.cells ((zer n).map u32c).toArray 79)).alloc (.cells #[.slice (some ⟨w.heap.size, 0, none⟩) 0 n] 22)) 77 (.int .u64 0)
  have bA := Boxed.new (((w.alloc (.cells ((zer n).map u32c).toArray 79)).alloc (.cells #[.slice (some ⟨w.heap.size, 0, none⟩) 0 n] 22)).alloc (.cells #[.int .u64 0] 77)) 22 (.slice A n ca)
  have bB := Boxed.new ((((w.alloc (.cells ((zer n).map u32c).toArray 79)).alloc (.cells #[.slice (some ⟨w.heap.size, 0, none⟩) 0 n] 22)).alloc (.cells #[.int .u64 0] 77)).alloc (.cells #[.slice A n ca] 22)) 22 (.slice B m cb)
  simp only [World.size_alloc] at bT bC bA bB
  have hB0 : Below w.heap.size w (((((w.alloc (.cells ((zer n).map u32c).toArray 79)).alloc (.cells #[.slice (some ⟨w.heap.size, 0, none⟩) 0 n] 22)).alloc (.cells #[.int .u64 0] 77)).alloc (.cells #[.slice A n ca] 22)).alloc (.cells #[.slice B m cb] 22)) := (((((Below.refl _ w).alloc (Nat.le_refl _) _).alloc (by simp) _).alloc (by simp; omega) _).alloc (by simp; omega) _).alloc (by simp; omega) _
  refine wpIn_rangeFunc_ownG hro h1 (gf := 169) (lb := #[.pointer (some ⟨w.heap.size + 1 + 1 + 1, 0, none⟩), .pointer (some ⟨w.heap.size + 1 + 1 + 1 + 1, 0, none⟩)]) rfl h7 (enters_of Tryz.func169 (by kernel_rfl) rfl)
    (col_stops F (q - 1) h7 h8 hro (by omega) hlimb (w.heap.size + 1 + 1 + 1) (w.heap.size + 1 + 1 + 1 + 1) w.heap.size A B n m ca cb xs ys _ (by simp) (by simp) (by simp; omega) ((bA.alloc _).cell) bB.cell (HA.out.below hB0) (HB.out.below hB0)) kpB_t (kpB_b (by simp; omega) (by simp)) (Below.refl _ _) (fun _ => rfl)
    (fun pre W => ((∃ u, Boxed W (w.heap.size + 1) 22 u ∧ W.ownsRow w.heap.size 79 1 u pre.length ((subP xs ys (ixs pre)).1.map u32c) ∧ True) ∧ Boxed W (w.heap.size + 1 + 1) 77 (.int .u64 ((subP xs ys (ixs pre)).2 : Nat)) ∧ Boxed W (w.heap.size + 1 + 1 + 1 + 1) 22 (.slice B m cb)) ∧ Below w.heap.size w W)
    (fun _ _ _ => False)
    (OwnFrom.and (OwnFrom.and (Own.from (holdsRow_own w.heap.size (w.heap.size + 1) 22 79 1 (fun pre : List (Idx n) => pre.length) (fun pre => (subP xs ys (ixs pre)).1.map u32c) (fun _ _ => True)) _) (OwnFrom.and (Own.from (boxed_own (w.heap.size + 1 + 1) 77 (fun pre : List (Idx n) => Value.int .u64 ((subP xs ys (ixs pre)).2 : Nat))) _) (Own.from (boxed_own (w.heap.size + 1 + 1 + 1 + 1) 22 (fun _ => .slice B m cb)) _))) (ownFrom_below (Nat.le_refl _) (by simp; omega)))
    (fun _ _ _ _ _ hs _ _ => hs)
    ⟨⟨⟨_, ((bT.alloc _).alloc _).alloc _, (((r0.alloc _).alloc _).alloc _).alloc _, trivial⟩, (bC.alloc _).alloc _, bB⟩, hB0⟩
    (fun x => { tmps := #[.slice A n ca, .slice B m cb, undef, undef, .slice none 0 0, .pointer (some ⟨w.heap.size + 1, 0, none⟩), .pointer (some ⟨w.heap.size + 1 + 1, 0, none⟩), .int .u64 (xs[x.1]?.getD 0 : Nat), .int .u64 (ys[x.1]?.getD 0 : Nat), undef, .slice A n ca, .int .i64 n, .slice (some ⟨w.heap.size, 0, none⟩) 0 n, .slice A n ca, .slice B m cb, .func (.func 169) #[] #[.pointer (some ⟨w.heap.size + 1 + 1 + 1, 0, none⟩), .pointer (some ⟨w.heap.size + 1 + 1 + 1 + 1, 0, none⟩)], .int .u64 (xs[x.1]?.getD 0 : Nat), .int .u64 (ys[x.1]?.getD 0 : Nat), undef, undef, undef, undef, undef, undef, undef, undef, undef, undef, undef, undef, undef, undef], defers := [] }) ?assign ?body ?done ?stop
  case assign =>
    intro l x W K hK
    gi_wp2
    exact hK
  case body =>
    rintro l pre ⟨k, hk⟩ W ⟨⟨⟨u, hu, hrow, _⟩, hcar, hbb⟩, hBl⟩ hlen
    have hc1 := subP_carry xs ys (ixs pre)
    have hl1 := subP_len xs ys (ixs pre)
    rw [ixs_len] at hl1
    have HSn := Lib.hid (subP_snoc xs ys (ixs pre) k)
    have hgx := HA.out.good.get k
    have hgy := HB.out.good.get k
    generalize hr : subP xs ys (ixs pre) = r at *
    obtain ⟨ts, cy⟩ := r
    have HR := Lib.hid hr
    clear hr
    dsimp only at hc1 hl1 hrow hcar HSn
    dsimp only
    have HX : Hid ((IntKind.u64.wrap (IntKind.u64.wrap (((xs[k]?.getD 0 : Nat) : Int) - ((ys[k]?.getD 0 : Nat) : Int)) - (cy : Int))) % 4294967296 = (((xs[k]?.getD 0 + 8589934592 - ys[k]?.getD 0 - cy) % 4294967296 : Nat) : Int)) := by show _ = _; rw [IntKind.wrap_u64, IntKind.wrap_u64]; omega
    have HN : Hid ((IntKind.u64.wrap (IntKind.u64.wrap (((xs[k]?.getD 0 : Nat) : Int) - ((ys[k]?.getD 0 : Nat) : Int)) - (cy : Int))) / 9223372036854775808 = ((if xs[k]?.getD 0 < ys[k]?.getD 0 + cy then 1 else 0 : Nat) : Int)) := by show _ = _; rw [IntKind.wrap_u64, IntKind.wrap_u64]; split <;> omega
    have HNew := Lib.hid (cell_one_new W (.int .u32 ((IntKind.u64.wrap (IntKind.u64.wrap (((xs[k]?.getD 0 : Nat) : Int) - ((ys[k]?.getD 0 : Nat) : Int)) - (cy : Int))) % 4294967296)) 79)
    have HRow := Lib.hid hrow
    have HU := Lib.hid hu
    have HC := Lib.hid hcar
    have HBB0 := Lib.hid hbb
    have hcc := hcar.cell
    have hcf := hcar.frozen
    have huc := hu.cell
    have hBs := hBl.size
    have HBl := Lib.hid hBl
    have HL1 := Lib.hid hl1
    clear hrow hbb hBl hu hcar
    gi_wp2_with (gi_at_builtin; refine wpListIn_append_own _ rfl _ _ 22 rfl w.heap.size 79 i0 (.int .u32 0) 1 4 slice_u32 hi0 hz0 hz1 hz2 rfl (by decide) _ _ _ rfl (HRow.out.alloc _) ⟨W.heap.size, 0, none⟩ 1 1 [.int .u32 ((IntKind.u64.wrap (IntKind.u64.wrap (((xs[k]?.getD 0 : Nat) : Int) - ((ys[k]?.getD 0 : Nat) : Int)) - (cy : Int))) % 4294967296)] rfl rfl HNew.out (by simp [Value.oneCell']) (by simp only [maxLen]; omega) (by omega) (by simp; omega) ?_; intro v' w1 hown' hgrow _; obtain ⟨g', cap', rfl⟩ := ownsRow_succ hown'; obtain ⟨hv1, hv2, hr2, hk2, hb2⟩ := HU.out.appended (by decide) HRow.out hBs (Nat.le_succ _) hown' hgrow; have hcar2 := (HC.out.alloc _).kept hgrow (HC.out.not_row (by decide) HRow.out); have hbb2 := (HBB0.out.alloc _).kept hgrow (HBB0.out.not_row (by decide) HRow.out); have hc1' := hv1.cell; have hf1 := hv1.frozen; have hcc2 := hcar2.cell; have hcf2 := hcar2.frozen)
    have hcar3 := hcar2.other (B' := w.heap.size + 1) (by omega) (.slice (some ⟨g', 0, none⟩) (pre.length + 1) cap')
    have hbb3 := (hbb2.other (B' := w.heap.size + 1) (by omega) (.slice (some ⟨g', 0, none⟩) (pre.length + 1) cap')).other (B' := w.heap.size + 1 + 1) (by omega) (.int .u64 ((IntKind.u64.wrap (IntKind.u64.wrap (((xs[k]?.getD 0 : Nat) : Int) - ((ys[k]?.getD 0 : Nat) : Int)) - (cy : Int))) / 9223372036854775808))
    have hbf := hb2.setCell (p := ⟨w.heap.size + 1 + 1, 0, none⟩) (by simp; omega) (.int .u64 ((IntKind.u64.wrap (IntKind.u64.wrap (((xs[k]?.getD 0 : Nat) : Int) - ((ys[k]?.getD 0 : Nat) : Int)) - (cy : Int))) / 9223372036854775808))
    refine ⟨(hk2.trans (KeepsOthers.setCell _ _ _)).from _, ⟨hbf, hbb3.cell.trans HBB0.out.cell.symm⟩, ⟨⟨⟨_, hv2.other (by omega) _, ?_⟩, ?_, hbb3⟩, HBl.out.trans hbf⟩⟩
    · have e := hr2.kept (grownBy_setCell' _ (w.heap.size + 1 + 1) (.int .u64 ((IntKind.u64.wrap (IntKind.u64.wrap (((xs[k]?.getD 0 : Nat) : Int) - ((ys[k]?.getD 0 : Nat) : Int)) - (cy : Int))) / 9223372036854775808))) (.inr (hcar3.not_row (by decide) hr2).symm)
      rw [ixs_snoc, HSn.out, List.length_append, List.map_append]
      have e2 : (.int .u32 ((IntKind.u64.wrap (IntKind.u64.wrap (((xs[k]?.getD 0 : Nat) : Int) - ((ys[k]?.getD 0 : Nat) : Int)) - (cy : Int))) % 4294967296) : Value) = u32c ((xs[k]?.getD 0 + 8589934592 - ys[k]?.getD 0 - cy) % 4294967296) := congrArg (Value.int IntKind.u32) HX.out
      exact ⟨owns_eq e (congrArg (fun y => ts.map u32c ++ [y]) e2), trivial⟩
    · have e := hcar3.set (.int .u64 ((IntKind.u64.wrap (IntKind.u64.wrap (((xs[k]?.getD 0 : Nat) : Int) - ((ys[k]?.getD 0 : Nat) : Int)) - (cy : Int))) / 9223372036854775808))
      rw [ixs_snoc, HSn.out]
      have e2 : (.int .u64 ((IntKind.u64.wrap (IntKind.u64.wrap (((xs[k]?.getD 0 : Nat) : Int) - ((ys[k]?.getD 0 : Nat) : Int)) - (cy : Int))) / 9223372036854775808) : Value) = .int .u64 ((if xs[k]?.getD 0 < ys[k]?.getD 0 + cy then 1 else 0 : Nat) : Int) := congrArg (Value.int IntKind.u64) HN.out
      exact boxed_eq e e2
  case done =>
    rintro D zs W hD hzs ⟨⟨⟨u, hu, hrow, _⟩, hcar, hbb⟩, hBl⟩ hK
    have hix : ixs zs = List.range n := hzs
    rw [hix, subP_range] at hrow hcar
    have hzl : zs.length = n := by
      have e := congrArg List.length hix
      rwa [ixs_len, List.length_range] at e
    rw [hzl] at hrow
    have hvl : Hid (val (subK xs ys n).1 = v) := by
      have e := subK_val HA.out.good HB.out.good n
      have hc1 := subK_carry xs ys n
      have hlt := val_lt (subK_good xs ys n)
      rw [subK_len] at hlt
      rw [List.take_of_length_le (by rw [HB.out.len]; exact hge), List.take_of_length_le (by rw [HA.out.len]; exact Nat.le_refl _)] at e
      have hv := HV.out
      show _ = _
      rcases Nat.eq_zero_or_pos (subK xs ys n).2 with h0 | h0
      · rw [h0, Nat.mul_zero] at e
        omega
      · have h2 : (subK xs ys n).2 = 1 := by omega
        rw [h2, Nat.mul_one] at e
        omega
    have hgd : Hid (Good (subK xs ys n).1) := subK_good xs ys n
    have huc := hu.cell
    have HBl := Lib.hid hBl
    have HKD := Lib.hid hK
    obtain ⟨A', c', rfl, hL⟩ := Lm.own hrow hgd.out
    have HL := Lib.hid hL
    clear hrow hBl hcar hbb hL hu
    gi_wp2_with (gi_at_call 103; refine (htrim _ _ _ _ _ _ v HL.out hvl.out).mono ?_; rintro e w2 ⟨rfl, rfl⟩)
    refine ⟨by simp, .inl ⟨_, _, rfl, run_takeDeferred HKD.out, ?_⟩⟩
    exact ⟨_, results_tmp rfl _ _ _, A', c', rfl, (HL.out.trim' hvl.out).putObj _ HKD.out rfl, HBl.out.trans (belowK_b (w := w) (Nat.le_refl _) _ D _ _ (by simp at hD; omega) HKD.out rfl rfl)⟩
  case stop =>
    rintro D c pre W _ _ h _
    exact h.elim

theorem difference_any (w : World) (A B : Option Addr) (n m ca cb : Nat) (xs ys : List Nat) (v : Nat) (hA : Lm w w.heap.size A n ca xs) (hB : Lm w w.heap.size B m cb ys) (hge : m ≤ n) (hn : n ≤ 100000000) (hle : val ys ≤ val xs) (hv : val xs - val ys = v) :
    Calls Tryz.prog 132 #[.slice A n ca, .slice B m cb] w fun e w' => ∃ A' c', e = .returned (.slice A' (digs v).length c') ∧ Lm w' w'.heap.size A' (digs v).length c' (digs v) ∧ Below w.heap.size w w' :=
  (callsIn_wide (n := 8)).1 (diff_in Fence.wide 8 trivial trivial trivial trivial trivial rfl (by omega) (fun W A m c xs i hL h0 h9 => callsIn_wide.2 (limb_any W A m c xs i hL h0 h9))
    (fun W B A m c xs v hL hv => callsIn_wide.2 (trim_any W B A m c xs v hL hv)) w A B n m ca cb xs ys v hA hB hge hn hle hv)

end Go.Proofs.YtbplbbkmfbjkfaaGreatDoor

/- wide.join: the three ways through it, and its errors. -/
namespace Go.Proofs.YtbplbbkmfbjkfaaGreatDoor
open Go.RowKit

theorem digs_mono {a b : Nat} (h : a ≤ b) : (digs a).length ≤ (digs b).length := digs_len.2 (Nat.lt_of_le_of_lt h (digs_len.1 (Nat.le_refl _)))

set_option maxRecDepth 100000 in
set_option maxHeartbeats 600000 in
theorem join_grow (w : World) (K : FuncId) (na nb : Bool) (A B : Option Addr) (n m ca cb a b : Nat) (hA : Lm w w.heap.size A n ca (digs a)) (hB : Lm w w.heap.size B m cb (digs b)) (hv : chkB na (digs a) nb (digs b) = 0)
    (hR : ∀ w, Sem.run Tryz.prog (callFunc K #[.bool na, .bool nb]) w = .ok (.enter K #[.bool na, .bool nb]) w) (hK : ∀ w, Calls Tryz.prog K #[.bool na, .bool nb] w fun e w' => e = .returned (.bool true) ∧ w = w') :
    Calls Tryz.prog 114 #[.agg #[.bool na, .slice A n ca], .agg #[.bool nb, .slice B m cb], .func (.func K) #[.bool na] #[]] w (RW w (mkN na (a + b)) (mkL (a + b)) (mkE (a + b))) := by
  have h41 := (chk_ok.1 (chkB_ok.1 hv).1).1
  have h42 := (chk_ok.1 (chkB_ok.1 hv).2).1
  rw [hA.len] at h41
  rw [hB.len] at h42
  have HA := Lib.hid hA
  have HB := Lib.hid hB
  have HV := Lib.hid hv
  have HP : Hid (val (digs a) + val (digs b) = a + b) := by show _ = _; rw [digs_val, digs_val]
  clear hv
  go_enter Tryz.func114, Tryz.ntmps114
  go_wp2_with ((go_at_call 73; refine (both_any _ _ _ _ _ _ _ _ _ _ _ 0 (((HA.out.box _).box _).box _) (((HB.out.box _).box _).box _) HV.out).mono ?_; rintro e w1 ⟨rfl, hb1⟩; have ⟨hx0, hx1, hy0, hy1, hz0, hz1, hf0, hf1, hsz⟩ := box3 hb1))

  refine (hK _).mono ?_
  rintro e w1' ⟨rfl, rfl⟩
  go_wp2
  have HA1 := Lib.hid ((((HA.out.box _).box _).box _).via hb1)
  have HB1 := Lib.hid ((((HB.out.box _).box _).box _).via hb1)
  have hs0 : w.heap.size < w1.heap.size := by omega
  have hs1 : w.heap.size + 1 < w1.heap.size := by omega
  go_region_held3 (fun w' => (w'.cell? ⟨w.heap.size, 0, none⟩ = some (.bool na) ∧ w'.cell? ⟨w.heap.size, 1, none⟩ = some (.slice A n ca)) ∧ (w'.cell? ⟨w.heap.size + 1, 0, none⟩ = some (.bool nb) ∧ w'.cell? ⟨w.heap.size + 1, 1, none⟩ = some (.slice B m cb)))
    (first | exact ⟨⟨hx0, hx1⟩, ⟨hy0, hy1⟩⟩ | exact ⟨hk2, hl2⟩ | exact ⟨hk3, hl3⟩ | exact ⟨far2 _ _ (by omega) hk3, far2 _ _ (by omega) hl3⟩ | go_keep)
    (first
     | (go_at_call 131; refine (sum_any _ _ _ _ _ _ _ (digs a) (digs b) (a + b) (by first | exact HA1.out | exact HA1.out.drew) (by first | exact HB1.out | exact HB1.out.drew) (by omega) (by omega) HP.out).mono ?_; rintro e w2 ⟨A2, c2, rfl, hL2, hb2⟩; have B2 := ((Below.refl w1.heap.size w1).drew.trans hb2); have hk2 := keep2 B2 hs0 ⟨hx0, hx1⟩; have hl2 := keep2 B2 hs1 ⟨hy0, hy1⟩; have hz2 := keep2 B2 hsz ⟨hz0, hz1⟩; have hzf2 := keepF B2 hsz ⟨hf0, hf1⟩; have ht0 := Nat.lt_of_lt_of_le hs0 B2.size; have ht1 := Nat.lt_of_lt_of_le hs1 B2.size; have ht2 := Nat.lt_of_lt_of_le hsz B2.size)
     | (go_at_call 71; refine (made_any _ _ _ _ _ (a + b) hL2).mono ?_; rintro e w3 ⟨A3, n3, c3, rfl, hL3, hb3⟩; have hk3 := keep2 hb3 ht0 hk2; have hl3 := keep2 hb3 ht1 hl2; have hz3 := keep2 hb3 ht2 hz2; have ⟨hzf30, hzf31⟩ := keepF hb3 ht2 hzf2))
  go_wp2
  exact post_ws Tryz.results114 rfl rfl hz3.1 hz3.2 ⟨A3, n3, c3, rfl, hL3.set2 hz3.1 hz3.2 _ _,
    below_set2 (((bbox (bbox (bbox hb1))).trans (B2.mono (by omega))).trans (hb3.mono (by omega))) (by omega) _ _⟩
set_option maxRecDepth 100000 in
set_option maxHeartbeats 600000 in
theorem join_less (w : World) (K : FuncId) (na nb : Bool) (A B : Option Addr) (n m ca cb a b : Nat) (hA : Lm w w.heap.size A n ca (digs a)) (hB : Lm w w.heap.size B m cb (digs b)) (hv : chkB na (digs a) nb (digs b) = 0) (hlt : a < b)
    (hR : ∀ w, Sem.run Tryz.prog (callFunc K #[.bool na, .bool nb]) w = .ok (.enter K #[.bool na, .bool nb]) w) (hK : ∀ w, Calls Tryz.prog K #[.bool na, .bool nb] w fun e w' => e = .returned (.bool false) ∧ w = w') :
    Calls Tryz.prog 114 #[.agg #[.bool na, .slice A n ca], .agg #[.bool nb, .slice B m cb], .func (.func K) #[.bool na] #[]] w (RW w (mkN (!na) (b - a)) (mkL (b - a)) (mkE (b - a))) := by
  have h41 := (chk_ok.1 (chkB_ok.1 hv).1).1
  have h42 := (chk_ok.1 (chkB_ok.1 hv).2).1
  rw [hA.len] at h41
  rw [hB.len] at h42
  have HA := Lib.hid hA
  have HB := Lib.hid hB
  have HV := Lib.hid hv
  have HP : Hid (val (digs b) - val (digs a) = b - a) := by show _ = _; rw [digs_val, digs_val]
  have HQ : Hid (val (digs a) ≤ val (digs b)) := by show _ ≤ _; rw [digs_val, digs_val]; omega
  have HLn : Hid (n ≤ m) := by show _ ≤ _; rw [← hA.len, ← hB.len]; exact digs_mono (by omega)
  clear hv
  have HC : Hid (cmpL (digs a) (digs b) = -1) := by show _ = _; rw [cmpL_norm (digs_good _) (digs_good _) (digs_norm _) (digs_norm _), digs_val, digs_val]; exact cmpN_lt hlt
  go_enter Tryz.func114, Tryz.ntmps114
  go_wp2_with ((go_at_call 73; refine (both_any _ _ _ _ _ _ _ _ _ _ _ 0 (((HA.out.box _).box _).box _) (((HB.out.box _).box _).box _) HV.out).mono ?_; rintro e w1 ⟨rfl, hb1⟩; have ⟨hx0, hx1, hy0, hy1, hz0, hz1, hf0, hf1, hsz⟩ := box3 hb1))

  refine (hK _).mono ?_
  rintro e w1' ⟨rfl, rfl⟩
  have HA0 := Lib.hid ((((HA.out.box _).box _).box _).via hb1)
  have HB0 := Lib.hid ((((HB.out.box _).box _).box _).via hb1)
  have HB1b := Lib.hid hb1
  clear hb1 hz0 hz1 hf0 hf1 hsz
  go_wp2_with (go_at_call 98; refine (compare_any _ _ _ _ _ _ (digs a) (digs b) _ HA0.out HB0.out).mono ?_; rintro e wc ⟨he, hbc⟩; rw [HC.out] at he; subst he; have hb2 := HB1b.out.trans (hbc.mono HB1b.out.size); clear hx0 hx1 hy0 hy1; have ⟨hx0, hx1, hy0, hy1, hz0, hz1, hf0, hf1, hsz⟩ := box3 hb2)
  have HA1 := Lib.hid ((((HA.out.box _).box _).box _).via hb2)
  have HB1 := Lib.hid ((((HB.out.box _).box _).box _).via hb2)
  have hs0 : w.heap.size < wc.heap.size := by omega
  have hs1 : w.heap.size + 1 < wc.heap.size := by omega
  go_region_held3 (fun w' => (w'.cell? ⟨w.heap.size, 0, none⟩ = some (.bool na) ∧ w'.cell? ⟨w.heap.size, 1, none⟩ = some (.slice A n ca)) ∧ (w'.cell? ⟨w.heap.size + 1, 0, none⟩ = some (.bool nb) ∧ w'.cell? ⟨w.heap.size + 1, 1, none⟩ = some (.slice B m cb)))
    (first | exact ⟨⟨hx0, hx1⟩, ⟨hy0, hy1⟩⟩ | exact ⟨hk2, hl2⟩ | exact ⟨hk3, hl3⟩ | exact ⟨far2 _ _ (by omega) hk3, far2 _ _ (by omega) hl3⟩ | go_keep)
    (first
     | (go_at_call 132; refine (difference_any _ _ _ _ _ _ _ (digs b) (digs a) (b - a) (by first | exact HB1.out | exact HB1.out.drew) (by first | exact HA1.out | exact HA1.out.drew) HLn.out (by omega) HQ.out HP.out).mono ?_; rintro e w2 ⟨A2, c2, rfl, hL2, hb3'⟩; have B2 := ((Below.refl wc.heap.size wc).drew.trans hb3'); have hk2 := keep2 B2 hs0 ⟨hx0, hx1⟩; have hl2 := keep2 B2 hs1 ⟨hy0, hy1⟩; have hz2 := keep2 B2 hsz ⟨hz0, hz1⟩; have hzf2 := keepF B2 hsz ⟨hf0, hf1⟩; have ht0 := Nat.lt_of_lt_of_le hs0 B2.size; have ht1 := Nat.lt_of_lt_of_le hs1 B2.size; have ht2 := Nat.lt_of_lt_of_le hsz B2.size)
     | (go_at_call 71; refine (made_any _ _ _ _ _ (b - a) hL2).mono ?_; rintro e w3 ⟨A3, n3, c3, rfl, hL3, hb3⟩; have hk3 := keep2 hb3 ht0 hk2; have hl3 := keep2 hb3 ht1 hl2; have hz3 := keep2 hb3 ht2 hz2; have ⟨hzf30, hzf31⟩ := keepF hb3 ht2 hzf2))
  go_wp2
  exact post_ws Tryz.results114 rfl rfl hz3.1 hz3.2 ⟨A3, n3, c3, rfl, hL3.set2 hz3.1 hz3.2 _ _,
    below_set2 (((bbox (bbox (bbox hb2))).trans (B2.mono (by omega))).trans (hb3.mono (by omega))) (by omega) _ _⟩
set_option maxRecDepth 100000 in
set_option maxHeartbeats 600000 in
theorem join_more (w : World) (K : FuncId) (na nb : Bool) (A B : Option Addr) (n m ca cb a b : Nat) (hA : Lm w w.heap.size A n ca (digs a)) (hB : Lm w w.heap.size B m cb (digs b)) (hv : chkB na (digs a) nb (digs b) = 0) (hlt : b ≤ a)
    (hR : ∀ w, Sem.run Tryz.prog (callFunc K #[.bool na, .bool nb]) w = .ok (.enter K #[.bool na, .bool nb]) w) (hK : ∀ w, Calls Tryz.prog K #[.bool na, .bool nb] w fun e w' => e = .returned (.bool false) ∧ w = w') :
    Calls Tryz.prog 114 #[.agg #[.bool na, .slice A n ca], .agg #[.bool nb, .slice B m cb], .func (.func K) #[.bool na] #[]] w (RW w (mkN na (a - b)) (mkL (a - b)) (mkE (a - b))) := by
  have h41 := (chk_ok.1 (chkB_ok.1 hv).1).1
  have h42 := (chk_ok.1 (chkB_ok.1 hv).2).1
  rw [hA.len] at h41
  rw [hB.len] at h42
  have HA := Lib.hid hA
  have HB := Lib.hid hB
  have HV := Lib.hid hv
  have HP : Hid (val (digs a) - val (digs b) = a - b) := by show _ = _; rw [digs_val, digs_val]
  have HQ : Hid (val (digs b) ≤ val (digs a)) := by show _ ≤ _; rw [digs_val, digs_val]; omega
  have HLn : Hid (m ≤ n) := by show _ ≤ _; rw [← hA.len, ← hB.len]; exact digs_mono (by omega)
  clear hv
  obtain ⟨z, hz, HC⟩ : ∃ z : Int, decide (z < 0) = false ∧ Hid (cmpL (digs a) (digs b) = z) := ⟨_, by rw [cmpL_norm (digs_good _) (digs_good _) (digs_norm _) (digs_norm _), digs_val, digs_val]; unfold cmpN; rw [if_neg (by omega)]; split <;> decide, rfl⟩
  go_enter Tryz.func114, Tryz.ntmps114
  go_wp2_with ((go_at_call 73; refine (both_any _ _ _ _ _ _ _ _ _ _ _ 0 (((HA.out.box _).box _).box _) (((HB.out.box _).box _).box _) HV.out).mono ?_; rintro e w1 ⟨rfl, hb1⟩; have ⟨hx0, hx1, hy0, hy1, hz0, hz1, hf0, hf1, hsz⟩ := box3 hb1))

  refine (hK _).mono ?_
  rintro e w1' ⟨rfl, rfl⟩
  have HA0 := Lib.hid ((((HA.out.box _).box _).box _).via hb1)
  have HB0 := Lib.hid ((((HB.out.box _).box _).box _).via hb1)
  have HB1b := Lib.hid hb1
  clear hb1 hz0 hz1 hf0 hf1 hsz
  go_wp2_with (go_at_call 98; refine (compare_any _ _ _ _ _ _ (digs a) (digs b) _ HA0.out HB0.out).mono ?_; rintro e wc ⟨he, hbc⟩; rw [HC.out] at he; subst he; have hb2 := HB1b.out.trans (hbc.mono HB1b.out.size); clear hx0 hx1 hy0 hy1; have ⟨hx0, hx1, hy0, hy1, hz0, hz1, hf0, hf1, hsz⟩ := box3 hb2)
  have HA1 := Lib.hid ((((HA.out.box _).box _).box _).via hb2)
  have HB1 := Lib.hid ((((HB.out.box _).box _).box _).via hb2)
  have hs0 : w.heap.size < wc.heap.size := by omega
  have hs1 : w.heap.size + 1 < wc.heap.size := by omega
  go_region_held3 (fun w' => (w'.cell? ⟨w.heap.size, 0, none⟩ = some (.bool na) ∧ w'.cell? ⟨w.heap.size, 1, none⟩ = some (.slice A n ca)) ∧ (w'.cell? ⟨w.heap.size + 1, 0, none⟩ = some (.bool nb) ∧ w'.cell? ⟨w.heap.size + 1, 1, none⟩ = some (.slice B m cb)))
    (first | exact ⟨⟨hx0, hx1⟩, ⟨hy0, hy1⟩⟩ | exact ⟨hk2, hl2⟩ | exact ⟨hk3, hl3⟩ | exact ⟨far2 _ _ (by omega) hk3, far2 _ _ (by omega) hl3⟩ | go_keep)
    (first
     | (go_at_call 132; refine (difference_any _ _ _ _ _ _ _ (digs a) (digs b) (a - b) (by first | exact HA1.out | exact HA1.out.drew) (by first | exact HB1.out | exact HB1.out.drew) HLn.out (by omega) HQ.out HP.out).mono ?_; rintro e w2 ⟨A2, c2, rfl, hL2, hb3'⟩; have B2 := ((Below.refl wc.heap.size wc).drew.trans hb3'); have hk2 := keep2 B2 hs0 ⟨hx0, hx1⟩; have hl2 := keep2 B2 hs1 ⟨hy0, hy1⟩; have hz2 := keep2 B2 hsz ⟨hz0, hz1⟩; have hzf2 := keepF B2 hsz ⟨hf0, hf1⟩; have ht0 := Nat.lt_of_lt_of_le hs0 B2.size; have ht1 := Nat.lt_of_lt_of_le hs1 B2.size; have ht2 := Nat.lt_of_lt_of_le hsz B2.size)
     | (go_at_call 71; refine (made_any _ _ _ _ _ (a - b) hL2).mono ?_; rintro e w3 ⟨A3, n3, c3, rfl, hL3, hb3⟩; have hk3 := keep2 hb3 ht0 hk2; have hl3 := keep2 hb3 ht1 hl2; have hz3 := keep2 hb3 ht2 hz2; have ⟨hzf30, hzf31⟩ := keepF hb3 ht2 hzf2))
  go_wp2
  exact post_ws Tryz.results114 rfl rfl hz3.1 hz3.2 ⟨A3, n3, c3, rfl, hL3.set2 hz3.1 hz3.2 _ _,
    below_set2 (((bbox (bbox (bbox hb2))).trans (B2.mono (by omega))).trans (hb3.mono (by omega))) (by omega) _ _⟩
end Go.Proofs.YtbplbbkmfbjkfaaGreatDoor

/- wide.Add and wide.Sub: the contracts. -/
namespace Go.Proofs.YtbplbbkmfbjkfaaGreatDoor
open Go.RowKit

def RZ (w : World) (z : Int) : Ending → World → Prop := RW w (mkN (decide (z < 0)) z.natAbs) (mkL z.natAbs) (mkE z.natAbs)
theorem toI_abs (neg : Bool) (v : Nat) : (toI neg v).natAbs = v := by unfold toI; cases neg <;> simp
theorem toI_neg (neg : Bool) (v : Nat) : mkN (decide (toI neg v < 0)) v = mkN neg v := by
  have h : (decide (toI neg v < 0) && decide (v ≠ 0)) = (neg && decide (v ≠ 0)) := by
    unfold toI
    cases neg
    · rw [if_neg (by simp), decide_eq_false (by omega)]
    · rw [if_pos rfl]
      rcases Nat.eq_zero_or_pos v with h | h
      · subst h; rfl
      · rw [decide_eq_true (show -(v : Int) < 0 by omega)]
  unfold mkN
  rw [h]
theorem rz_of (w : World) (neg : Bool) (v : Nat) {z : Int} (h : z = toI neg v) : RW w (mkN neg v) (mkL v) (mkE v) = RZ w z := by
  subst h
  unfold RZ
  rw [toI_abs, toI_neg]
theorem toI_same {na nb : Bool} (h : na = nb) (a b : Nat) : toI na a + toI nb b = toI na (a + b) := by subst h; unfold toI; cases na <;> simp <;> omega
theorem toI_less {na nb : Bool} (h : na ≠ nb) {a b : Nat} (hl : a < b) : toI na a + toI nb b = toI (!na) (b - a) := by unfold toI; cases na <;> cases nb <;> simp_all <;> omega
theorem toI_more {na nb : Bool} (h : na ≠ nb) {a b : Nat} (hl : b ≤ a) : toI na a + toI nb b = toI na (a - b) := by unfold toI; cases na <;> cases nb <;> simp_all <;> omega
theorem toI_not (nb : Bool) (b : Nat) : toI (!nb) b = - toI nb b := by unfold toI; cases nb <;> simp
theorem toI_mul (na nb : Bool) (a b : Nat) : toI na a * toI nb b = toI (na != nb) (a * b) := by unfold toI; cases na <;> cases nb <;> simp [Int.mul_neg, Int.neg_mul]

theorem same_any (s o : Bool) (w : World) : Calls Tryz.prog 141 #[.bool s, .bool o] w fun e w' => e = .returned (.bool (s == o)) ∧ w = w' := by
  go_enter Tryz.func141, Tryz.ntmps141
  go_wp2
  go_ret
  exact ⟨rfl, rfl⟩
theorem differs_any (s o : Bool) (w : World) : Calls Tryz.prog 115 #[.bool s, .bool o] w fun e w' => e = .returned (.bool (s != o)) ∧ w = w' := by
  -- only beside 91
  go_enter Tryz.func115, Tryz.ntmps115
  go_wp2
  go_ret
  exact ⟨rfl, rfl⟩

theorem join_ok (w : World) (K : FuncId) (na nb g : Bool) (A B : Option Addr) (n m ca cb a b : Nat) (z : Int) (hA : Lm w w.heap.size A n ca (digs a)) (hB : Lm w w.heap.size B m cb (digs b)) (hv : chkB na (digs a) nb (digs b) = 0)
    (hR : ∀ w, Sem.run Tryz.prog (callFunc K #[.bool na, .bool nb]) w = .ok (.enter K #[.bool na, .bool nb]) w) (hK : ∀ w, Calls Tryz.prog K #[.bool na, .bool nb] w fun e w' => e = .returned (.bool g) ∧ w = w')
    (hz : z = toI na a + toI (if g = true then na else !na) b) :
    Calls Tryz.prog 114 #[.agg #[.bool na, .slice A n ca], .agg #[.bool nb, .slice B m cb], .func (.func K) #[.bool na] #[]] w (RZ w z) := by
  cases g
  · by_cases hl : a < b
    · rw [← rz_of w (!na) (b - a) (by rw [hz, toI_less (by cases na <;> simp) hl])]
      exact join_less w K na nb A B n m ca cb a b hA hB hv hl hR hK
    · rw [← rz_of w na (a - b) (by rw [hz, toI_more (by cases na <;> simp) (by omega)])]
      exact join_more w K na nb A B n m ca cb a b hA hB hv (by omega) hR hK
  · rw [← rz_of w na (a + b) (by rw [hz, toI_same (by simp)])]
    exact join_grow w K na nb A B n m ca cb a b hA hB hv hR hK

set_option maxRecDepth 100000 in
set_option maxHeartbeats 600000 in
theorem add_ok (w : World) (na nb : Bool) (A B : Option Addr) (n m ca cb a b : Nat) (hA : Lm w w.heap.size A n ca (digs a)) (hB : Lm w w.heap.size B m cb (digs b)) (hv : chkB na (digs a) nb (digs b) = 0) :
    Calls Tryz.prog 116 #[.agg #[.bool na, .slice A n ca], .agg #[.bool nb, .slice B m cb]] w (RZ w (toI na a + toI nb b)) := by
  have hmf : ∀ (fn : Fn) (first cap : Array Value) (w : World), (Instr.makeFunc fn first cap).run Tryz.prog w = .ok (.func fn first cap) w := fun _ _ _ _ => rfl
  have HA := Lib.hid hA
  have HB := Lib.hid hB
  have HV := Lib.hid hv
  clear hv
  go_enter Tryz.func116, Tryz.ntmps116
  go_wp2_with (go_at_call 114; refine (join_ok _ 141 na nb (na == nb) _ _ _ _ _ _ a b (toI na a + toI nb b) (((HA.out.box _).box _).box _) (((HB.out.box _).box _).box _) HV.out (fun _ => by kernel_rfl) (same_any na nb) (by cases na <;> cases nb <;> rfl)).mono ?_; rintro e w1 ⟨A1, n1, c1, rfl, hL1, hb1⟩; have ⟨hx0, hx1, hy0, hy1, hz0, hz1, hf0, hf1, hsz⟩ := box3 hb1)
  exact post_ws Tryz.results116 rfl rfl hz0 hz1 ⟨A1, n1, c1, rfl, hL1.set2 hz0 hz1 _ _, below_set2 (bbox (bbox (bbox hb1))) (by omega) _ _⟩

set_option maxRecDepth 100000 in
set_option maxHeartbeats 600000 in
theorem sub_ok (w : World) (na nb : Bool) (A B : Option Addr) (n m ca cb a b : Nat) (hA : Lm w w.heap.size A n ca (digs a)) (hB : Lm w w.heap.size B m cb (digs b)) (hv : chkB na (digs a) nb (digs b) = 0) :
    Calls Tryz.prog 91 #[.agg #[.bool na, .slice A n ca], .agg #[.bool nb, .slice B m cb]] w (RZ w (toI na a - toI nb b)) := by
  have hmf : ∀ (fn : Fn) (first cap : Array Value) (w : World), (Instr.makeFunc fn first cap).run Tryz.prog w = .ok (.func fn first cap) w := fun _ _ _ _ => rfl
  have HA := Lib.hid hA
  have HB := Lib.hid hB
  have HV := Lib.hid hv
  clear hv
  go_enter Tryz.func91, Tryz.ntmps91
  go_wp2_with (go_at_call 114; refine (join_ok _ 115 na nb (na != nb) _ _ _ _ _ _ a b (toI na a - toI nb b) (((HA.out.box _).box _).box _) (((HB.out.box _).box _).box _) HV.out (fun _ => by kernel_rfl) (differs_any na nb) (by rw [Int.sub_eq_add_neg, ← toI_not]; cases na <;> cases nb <;> rfl)).mono ?_; rintro e w1 ⟨A1, n1, c1, rfl, hL1, hb1⟩; have ⟨hx0, hx1, hy0, hy1, hz0, hz1, hf0, hf1, hsz⟩ := box3 hb1)
  exact post_ws Tryz.results91 rfl rfl hz0 hz1 ⟨A1, n1, c1, rfl, hL1.set2 hz0 hz1 _ _, below_set2 (bbox (bbox (bbox hb1))) (by omega) _ _⟩

end Go.Proofs.YtbplbbkmfbjkfaaGreatDoor

/- Arithmetic on numbers of known size, in whole numbers. -/
namespace Go.Proofs.YtbplbbkmfbjkfaaGreatDoor
open Go.RowKit

/-- A whole number's size in limbs. -/
def Sz (k : Nat) (z : Int) : Prop := z.natAbs < 4294967296 ^ k
theorem Sz.mono {k l : Nat} {z : Int} (h : Sz k z) (hl : k ≤ l) : Sz l z := Nat.lt_of_lt_of_le h (pow_mono_ hl)
theorem Sz.len {k : Nat} {z : Int} (h : Sz k z) : (digs z.natAbs).length ≤ k := digs_len.2 h
theorem Sz.add {k : Nat} {x y : Int} (hx : Sz k x) (hy : Sz k y) : Sz (k + 1) (x + y) := by
  unfold Sz at *
  rw [pow_succ_]
  omega
theorem Sz.neg {k : Nat} {x : Int} (hx : Sz k x) : Sz k (-x) := by unfold Sz at *; omega
theorem Sz.sub {k : Nat} {x y : Int} (hx : Sz k x) (hy : Sz k y) : Sz (k + 1) (x - y) := by
  unfold Sz at *
  rw [pow_succ_]
  omega
theorem Sz.mul {k l : Nat} {x y : Int} (hx : Sz k x) (hy : Sz l y) : Sz (k + l) (x * y) := by
  unfold Sz at *
  rw [Int.natAbs_mul, pow_add_]
  exact Nat.mul_lt_mul_of_lt_of_le hx (Nat.le_of_lt hy) (pow_pos_ _)
theorem Sz.abs {k : Nat} {x : Int} (hx : Sz k x) : Sz k (x.natAbs : Int) := hx
theorem toI_self (z : Int) : toI (decide (z < 0)) z.natAbs = z := by
  unfold toI
  by_cases h : z < 0
  · rw [if_pos (by simpa using h)]; omega
  · rw [if_neg (by simpa using h)]; omega
theorem chk_z {z : Int} {k : Nat} (h : Sz k z) (hk : k ≤ 4096) : chk (decide (z < 0)) (digs z.natAbs) = 0 :=
  chk_ok.2 ⟨Nat.le_trans h.len hk, digs_norm _, fun hn e => by have h1 := digs_nil.1 e; have h2 : z < 0 := (by simpa using hn); omega⟩
theorem chkB_z {x y : Int} {k l : Nat} (hx : Sz k x) (hk : k ≤ 4096) (hy : Sz l y) (hl : l ≤ 4096) : chkB (decide (x < 0)) (digs x.natAbs) (decide (y < 0)) (digs y.natAbs) = 0 :=
  chkB_ok.2 ⟨chk_z hx hk, chk_z hy hl⟩
/-- A valid number that came in, as a whole number. -/
theorem of_chk {neg : Bool} {xs : List Nat} (hc : chk neg xs = 0) (g : Good xs) {k : Nat} (hk : xs.length ≤ k) : ∃ z : Int, neg = decide (z < 0) ∧ xs = digs z.natAbs ∧ Sz k z := by
  have h1 := chk_digs hc g
  have h2 := (chk_ok.1 hc).2.2
  refine ⟨toI neg (val xs), ?_, by rw [toI_abs]; exact h1, by unfold Sz; rw [toI_abs]; exact Nat.lt_of_lt_of_le (val_lt g) (pow_mono_ hk)⟩
  have h3 : neg = true → 0 < val xs := fun hn => val_pos (chk_ok.1 hc).2.1 (h2 hn)
  unfold toI
  cases neg
  · rw [if_neg (by simp)]; simp
  · rw [if_pos rfl]; have := h3 rfl; simp; omega
/-- A call returns the number z, without an error. -/
def RN (w : World) (z : Int) (e : Ending) (w' : World) : Prop := ∃ A n c, e = .returned (.tuple #[.agg #[.bool (decide (z < 0)), .slice A n c], .int .i64 0]) ∧ Lm w' w'.heap.size A n c (digs z.natAbs) ∧ Below w.heap.size w w'
theorem mkN_z {z : Int} {k : Nat} (h : Sz k z) (hk : k ≤ 4096) : mkN (decide (z < 0)) z.natAbs = decide (z < 0) ∧ mkL z.natAbs = digs z.natAbs ∧ mkE z.natAbs = 0 := by
  have hl := Nat.le_trans h.len hk
  refine ⟨?_, by unfold mkL; rw [if_pos hl], by unfold mkE; rw [if_pos hl]⟩
  unfold mkN
  rw [decide_eq_true hl, Bool.true_and]
  by_cases hz : z < 0
  · rw [decide_eq_true hz, decide_eq_true (show z.natAbs ≠ 0 by omega)]; rfl
  · rw [decide_eq_false hz]; rfl
theorem rz_rn {w : World} {z : Int} {k : Nat} (h : Sz k z) (hk : k ≤ 4096) {e : Ending} {w' : World} (hr : RZ w z e w') : RN w z e w' := by
  obtain ⟨h1, h2, h3⟩ := mkN_z h hk
  unfold RZ at hr
  rw [h1, h2, h3] at hr
  exact hr
section
variable (w : World) (A B : Option Addr) (n m ca cb k : Nat) (x y : Int) (hA : Lm w w.heap.size A n ca (digs x.natAbs)) (hB : Lm w w.heap.size B m cb (digs y.natAbs)) (hx : Sz k x) (hy : Sz k y) (hk : k ≤ 2000)
include hA hB hx hy hk
theorem add_z : Calls Tryz.prog 116 #[.agg #[.bool (decide (x < 0)), .slice A n ca], .agg #[.bool (decide (y < 0)), .slice B m cb]] w (RN w (x + y)) := by
  have h := add_ok w _ _ A B n m ca cb _ _ hA hB (chkB_z hx (by omega) hy (by omega))
  rw [toI_self, toI_self] at h
  exact h.mono fun e w' hr => rz_rn (hx.add hy) (by omega) hr
theorem sub_z : Calls Tryz.prog 91 #[.agg #[.bool (decide (x < 0)), .slice A n ca], .agg #[.bool (decide (y < 0)), .slice B m cb]] w (RN w (x - y)) := by
  have h := sub_ok w _ _ A B n m ca cb _ _ hA hB (chkB_z hx (by omega) hy (by omega))
  rw [toI_self, toI_self] at h
  exact h.mono fun e w' hr => rz_rn (hx.sub hy) (by omega) hr
theorem mul_z : Calls Tryz.prog 87 #[.agg #[.bool (decide (x < 0)), .slice A n ca], .agg #[.bool (decide (y < 0)), .slice B m cb]] w (RN w (x * y)) := by
  have h := mul_ok w _ _ A B n m ca cb _ _ hA hB (chkB_z hx (by omega) hy (by omega))
  have e1 := rz_of w (decide (x < 0) != decide (y < 0)) (x.natAbs * y.natAbs) (z := x * y) (by rw [← toI_mul, toI_self, toI_self])
  rw [e1] at h
  exact h.mono fun e w' hr => rz_rn (hx.mul hy) (by omega) hr
theorem add_n {na nb : Bool} (ha : decide (x < 0) = na) (hb : decide (y < 0) = nb) : Calls Tryz.prog 116 #[.agg #[.bool na, .slice A n ca], .agg #[.bool nb, .slice B m cb]] w (RN w (x + y)) := by
  subst ha hb
  exact add_z w A B n m ca cb k x y hA hB hx hy hk
theorem sub_n {na nb : Bool} (ha : decide (x < 0) = na) (hb : decide (y < 0) = nb) : Calls Tryz.prog 91 #[.agg #[.bool na, .slice A n ca], .agg #[.bool nb, .slice B m cb]] w (RN w (x - y)) := by
  subst ha hb
  exact sub_z w A B n m ca cb k x y hA hB hx hy hk
theorem mul_n {na nb : Bool} (ha : decide (x < 0) = na) (hb : decide (y < 0) = nb) : Calls Tryz.prog 87 #[.agg #[.bool na, .slice A n ca], .agg #[.bool nb, .slice B m cb]] w (RN w (x * y)) := by
  subst ha hb
  exact mul_z w A B n m ca cb k x y hA hB hx hy hk
end
end Go.Proofs.YtbplbbkmfbjkfaaGreatDoor

/- Boxes of fractions: four cells. -/
namespace Go.Proofs.YtbplbbkmfbjkfaaGreatDoor
open Go.RowKit

/-- Block g holds the four cells of a fraction, and may be written. -/
structure Qd (w : World) (g : Nat) (x0 x1 x2 x3 : Value) : Prop where
  c0 : w.cell? ⟨g, 0, none⟩ = some x0
  c1 : w.cell? ⟨g, 1, none⟩ = some x1
  c2 : w.cell? ⟨g, 2, none⟩ = some x2
  c3 : w.cell? ⟨g, 3, none⟩ = some x3
  f0 : w.frozen? ⟨g, 0, none⟩ = false
  f1 : w.frozen? ⟨g, 1, none⟩ = false
  f2 : w.frozen? ⟨g, 2, none⟩ = false
  f3 : w.frozen? ⟨g, 3, none⟩ = false
  lt : g < w.heap.size
/-- The four cells of a fraction stored at g. -/
def put4 (w : World) (g : Nat) (y0 y1 y2 y3 : Value) : World := (((w.setCell ⟨g, 0, none⟩ y0).setCell ⟨g, 1, none⟩ y1).setCell ⟨g, 2, none⟩ y2).setCell ⟨g, 3, none⟩ y3
section
variable {w w' : World} {g h : Nat} {x0 x1 x2 x3 : Value}
theorem Qd.new (w : World) (k : Nat) (hk : w.heap.size = k) (x0 x1 x2 x3 : Value) (t : TypeId) : Qd (w.alloc (.cells #[x0, x1, x2, x3] t)) k x0 x1 x2 x3 := by
  subst hk
  refine ⟨?_, ?_, ?_, ?_, ?_, ?_, ?_, ?_, by simp⟩ <;> go_simp
theorem Qd.below (p : Qd w g x0 x1 x2 x3) {B : Nat} (hb : Below B w w') (hg : g < B) : Qd w' g x0 x1 x2 x3 :=
  ⟨(hb.cell (p := ⟨g, 0, none⟩) hg).trans p.c0, (hb.cell (p := ⟨g, 1, none⟩) hg).trans p.c1, (hb.cell (p := ⟨g, 2, none⟩) hg).trans p.c2, (hb.cell (p := ⟨g, 3, none⟩) hg).trans p.c3,
    (hb.frozen (p := ⟨g, 0, none⟩) hg).trans p.f0, (hb.frozen (p := ⟨g, 1, none⟩) hg).trans p.f1, (hb.frozen (p := ⟨g, 2, none⟩) hg).trans p.f2, (hb.frozen (p := ⟨g, 3, none⟩) hg).trans p.f3, Nat.lt_of_lt_of_le p.lt hb.size⟩
theorem Qd.via (p : Qd w g x0 x1 x2 x3) (hb : Below w.heap.size w w') : Qd w' g x0 x1 x2 x3 := p.below hb p.lt
theorem Qd.alloc (p : Qd w g x0 x1 x2 x3) (o : Obj) : Qd (w.alloc o) g x0 x1 x2 x3 := p.via ((Below.refl _ _).alloc (Nat.le_refl _) o)
theorem Qd.drew (p : Qd w g x0 x1 x2 x3) : Qd w.drew g x0 x1 x2 x3 := ⟨p.c0, p.c1, p.c2, p.c3, p.f0, p.f1, p.f2, p.f3, p.lt⟩
theorem Qd.drewN (p : Qd w g x0 x1 x2 x3) (k : Nat) : Qd (w.drewN k) g x0 x1 x2 x3 := ⟨p.c0, p.c1, p.c2, p.c3, p.f0, p.f1, p.f2, p.f3, p.lt⟩
theorem size_put4 (w : World) (h : Nat) (y0 y1 y2 y3 : Value) : (put4 w h y0 y1 y2 y3).heap.size = w.heap.size := by unfold put4; simp [World.size_setCell]
theorem below_put4 {B : Nat} {w w1 : World} (h : Below B w w1) {g : Nat} (hg : B ≤ g) (y0 y1 y2 y3 : Value) : Below B w (put4 w1 g y0 y1 y2 y3) :=
  (((h.setCell (p := ⟨g, 0, none⟩) hg y0).setCell (p := ⟨g, 1, none⟩) hg y1).setCell (p := ⟨g, 2, none⟩) hg y2).setCell (p := ⟨g, 3, none⟩) hg y3
theorem Qd.set (p : Qd w g x0 x1 x2 x3) (y0 y1 y2 y3 : Value) : Qd (put4 w g y0 y1 y2 y3) g y0 y1 y2 y3 := by
  have h0 := p.c0; have h1 := p.c1; have h2 := p.c2; have h3 := p.c3; have f0 := p.f0; have f1 := p.f1; have f2 := p.f2; have f3 := p.f3; have hl := p.lt
  unfold put4
  exact ⟨by go_simp, by go_simp, by go_simp, by go_simp, by simpa using f0, by simpa using f1, by simpa using f2, by simpa using f3, by simpa [World.size_setCell] using hl⟩
theorem put4_cell (y0 y1 y2 y3 : Value) {b o : Nat} (hne : b ≠ h) : (put4 w h y0 y1 y2 y3).cell? ⟨b, o, none⟩ = w.cell? ⟨b, o, none⟩ := by
  have e : ∀ k, (⟨h, k, none⟩ : Addr) ≠ ⟨b, o, none⟩ := fun k e => hne (congrArg Addr.block e).symm
  unfold put4
  rw [World.cell?_setCell_other _ _ _ _ (e 3), World.cell?_setCell_other _ _ _ _ (e 2), World.cell?_setCell_other _ _ _ _ (e 1), World.cell?_setCell_other _ _ _ _ (e 0)]
theorem put4_frozen (y0 y1 y2 y3 : Value) (p : Addr) : (put4 w h y0 y1 y2 y3).frozen? p = w.frozen? p := by
  unfold put4
  simp
theorem Qd.far (p : Qd w g x0 x1 x2 x3) (hne : g ≠ h) (y0 y1 y2 y3 : Value) : Qd (put4 w h y0 y1 y2 y3) g x0 x1 x2 x3 :=
  ⟨(put4_cell _ _ _ _ hne).trans p.c0, (put4_cell _ _ _ _ hne).trans p.c1, (put4_cell _ _ _ _ hne).trans p.c2, (put4_cell _ _ _ _ hne).trans p.c3,
    (put4_frozen _ _ _ _ _).trans p.f0, (put4_frozen _ _ _ _ _).trans p.f1, (put4_frozen _ _ _ _ _).trans p.f2, (put4_frozen _ _ _ _ _).trans p.f3, by rw [size_put4]; exact p.lt⟩
theorem Qd.far2 {x y : Value} (p : Qd w g x0 x1 x2 x3) (hne : g ≠ h) : Qd ((w.setCell ⟨h, 0, none⟩ x).setCell ⟨h, 1, none⟩ y) g x0 x1 x2 x3 := by
  have e : ∀ k j, (⟨h, k, none⟩ : Addr) ≠ ⟨g, j, none⟩ := fun k j e => hne (congrArg Addr.block e).symm
  refine ⟨?_, ?_, ?_, ?_, by have := p.f0; simpa using this, by have := p.f1; simpa using this, by have := p.f2; simpa using this, by have := p.f3; simpa using this, by rw [size_set2]; exact p.lt⟩
  · rw [World.cell?_setCell_other _ _ _ _ (e 1 0), World.cell?_setCell_other _ _ _ _ (e 0 0)]; exact p.c0
  · rw [World.cell?_setCell_other _ _ _ _ (e 1 1), World.cell?_setCell_other _ _ _ _ (e 0 1)]; exact p.c1
  · rw [World.cell?_setCell_other _ _ _ _ (e 1 2), World.cell?_setCell_other _ _ _ _ (e 0 2)]; exact p.c2
  · rw [World.cell?_setCell_other _ _ _ _ (e 1 3), World.cell?_setCell_other _ _ _ _ (e 0 3)]; exact p.c3
end
/-- Limbs lie in no box of a fraction. -/
theorem Lm.put4 {w : World} {n c : Nat} {A : Option Addr} {xs : List Nat} (h : Lm w w.heap.size A n c xs) {g n0 c0 n1 c1 : Nat} {p q : Bool} {A0 A1 : Option Addr}
    (d : Qd w g (.bool p) (.slice A0 n0 c0) (.bool q) (.slice A1 n1 c1)) (y0 y1 y2 y3 : Value) : Lm (put4 w g y0 y1 y2 y3) (put4 w g y0 y1 y2 y3).heap.size A n c xs := by
  rw [size_put4]
  refine ⟨h.len, h.good, h.cap, h.max, h.nil_, fun hn => ?_⟩
  obtain ⟨b, off, e, hb, hc⟩ := h.at_ hn
  refine ⟨b, off, e, hb, fun j hj => ?_⟩
  have hcj := hc j hj
  have ne : ∀ (k : Nat) (v : Value), w.cell? ⟨g, k, none⟩ = some v → (∀ x, v ≠ .int .u32 x) → (⟨g, k, none⟩ : Addr) ≠ ⟨b, off + j, none⟩ := by
    intro k v hv hne e2
    rw [← e2, hv] at hcj
    exact hne _ (Option.some.inj hcj)
  unfold Proofs.YtbplbbkmfbjkfaaGreatDoor.put4
  rw [World.cell?_setCell_other _ _ _ _ (ne 3 _ d.c3 (fun x => by simp)), World.cell?_setCell_other _ _ _ _ (ne 2 _ d.c2 (fun x => by simp)), World.cell?_setCell_other _ _ _ _ (ne 1 _ d.c1 (fun x => by simp)), World.cell?_setCell_other _ _ _ _ (ne 0 _ d.c0 (fun x => by simp))]
  exact hcj

/-- The value of a fraction. -/
abbrev fv (nn : Bool) (A : Option Addr) (n c : Nat) (dn : Bool) (B : Option Addr) (m cb : Nat) : Value := .agg #[.bool nn, .slice A n c, .bool dn, .slice B m cb]
/-- The results of a function that returns a fraction laid in a block, and one value more. -/
theorem res_f {fn : Func} {r s : Nat} (hr : fn.results = #[.cell r 26, .tmp s]) {tmps : Array Value} {w : World} {g : Nat} {x0 x1 x2 x3 : Value} (ht : tmps.getD r undef = .pointer (some ⟨g, 0, none⟩))
    (d : Qd w g x0 x1 x2 x3) : (results fn tmps).run Tryz.prog w = .ok (.tuple #[.agg #[x0, x1, x2, x3], tmps.getD s undef]) w := by
  have h0 := d.c0; have h1 := d.c1; have h2 := d.c2; have h3 := d.c3
  rw [Array.getD_eq_getD_getElem?] at ht
  simp [results, hr, go_sem, ht, h0, h1, h2, h3]
theorem res_f1 {fn : Func} {r : Nat} (hr : fn.results = #[.cell r 26]) {tmps : Array Value} {w : World} {g : Nat} {x0 x1 x2 x3 : Value} (ht : tmps.getD r undef = .pointer (some ⟨g, 0, none⟩))
    (d : Qd w g x0 x1 x2 x3) : (results fn tmps).run Tryz.prog w = .ok (.agg #[x0, x1, x2, x3]) w := by
  have h0 := d.c0; have h1 := d.c1; have h2 := d.c2; have h3 := d.c3
  rw [Array.getD_eq_getD_getElem?] at ht
  simp [results, hr, go_sem, ht, h0, h1, h2, h3]
theorem res_fe {fn : Func} {r s : Nat} (hr : fn.results = #[.cell r 26, .cell s 28]) {tmps : Array Value} {w : World} {g h : Nat} {x0 x1 x2 x3 y : Value} (ht : tmps.getD r undef = .pointer (some ⟨g, 0, none⟩))
    (hs : tmps.getD s undef = .pointer (some ⟨h, 0, none⟩)) (d : Qd w g x0 x1 x2 x3) (hy : w.cell? ⟨h, 0, none⟩ = some y) : (results fn tmps).run Tryz.prog w = .ok (.tuple #[.agg #[x0, x1, x2, x3], y]) w := by
  have h0 := d.c0; have h1 := d.c1; have h2 := d.c2; have h3 := d.c3
  rw [Array.getD_eq_getD_getElem?] at ht hs
  simp [results, hr, go_sem, ht, hs, h0, h1, h2, h3, hy]
theorem post_f {fn : Func} {r s : Nat} (hr : fn.results = #[.cell r 26, .tmp s]) {R : Ending → World → Prop} {a : Act} {w : World} {g : Nat} {x0 x1 x2 x3 : Value} (ht : a.tmps.getD r undef = .pointer (some ⟨g, 0, none⟩))
    (hd : a.defers = []) (d : Qd w g x0 x1 x2 x3) (h : R (.returned (.tuple #[.agg #[x0, x1, x2, x3], a.tmps.getD s undef])) w) : bodyPost Tryz.prog fn R .ret a w :=
  bodyPost_ret (res_f hr ht d) hd h
theorem post_f1 {fn : Func} {r : Nat} (hr : fn.results = #[.cell r 26]) {R : Ending → World → Prop} {a : Act} {w : World} {g : Nat} {x0 x1 x2 x3 : Value} (ht : a.tmps.getD r undef = .pointer (some ⟨g, 0, none⟩))
    (hd : a.defers = []) (d : Qd w g x0 x1 x2 x3) (h : R (.returned (.agg #[x0, x1, x2, x3])) w) : bodyPost Tryz.prog fn R .ret a w :=
  bodyPost_ret (res_f1 hr ht d) hd h
end Go.Proofs.YtbplbbkmfbjkfaaGreatDoor

/- A fraction that came in: the values of its two numbers and what they read as; five arguments. -/
namespace Go.Proofs.YtbplbbkmfbjkfaaGreatDoor
open Go.ChangeShapes Go.WideShapes Go.ChangeAt Go.RowKit Go.Joins

section
variable {H : Type} {enc : TypeId × Value → H} {P : Program} {w : World} {base : Nat} {spare : TypeId → Bool} {held : Bool}
end

set_option maxRecDepth 100000 in
theorem open_wide_cells {H : Type} {enc : TypeId × Value → H} {w : World} {k : Nat} {c0 c1 : Value} {y : DataW H × List MemPlace}
    (h : DataW.trod enc Tryz.prog w 0 (fun _ => true) true k 24 [c0, c1] = some y) (hlt : ∀ x ∈ y.2, x.block < w.heap.size) :
    ∃ neg A n c xs, c0 = .bool neg ∧ c1 = .slice A n c ∧ Lm w w.heap.size A n c xs := by
  obtain ⟨y0, y1, n', rfl, _, h0, h1⟩ := trod_struct2 Tryz.underlying24 h
  have h0' : DataW.trod enc Tryz.prog w 0 (fun _ => true) true n' 4 [c0] = some y0 := h0
  have h1' : DataW.trod enc Tryz.prog w 0 (fun _ => true) true n' 22 [c1] = some y1 := h1
  obtain ⟨neg, e0, rfl⟩ := DataW.trod_bool Tryz.underlying4 h0'
  obtain rfl : c0 = .bool neg := by simpa using e0
  rcases open_ints Tryz.underlying22 Tryz.underlying79 cells_u32 h1' with ⟨e1, rfl⟩ | ⟨a, len, cap, zs, e1, _, hl, hm, hz, rfl, hcell, hwz⟩
  · obtain rfl : c1 = .slice none 0 0 := by simpa using e1
    exact ⟨neg, none, 0, 0, [], rfl, rfl, Lm.nil _ _⟩
  · obtain rfl : c1 = .slice (some a) len cap := by simpa using e1
    simp only [if_true] at hz
    have hget : ∀ j, j < len → (((zs.take len).map Int.toNat)[j]?.getD 0 : Nat) = (zs.getD j 0).toNat ∧ 0 ≤ zs.getD j 0 := by
      intro j hj
      have hjz : j < zs.length := by omega
      have e2 : (zs.take len)[j]? = some zs[j] := by rw [List.getElem?_take_of_lt hj, List.getElem?_eq_getElem hjz]
      have e3 : zs.getD j 0 = zs[j] := by simp [List.getD, List.getElem?_eq_getElem hjz]
      rw [List.getElem?_map, e2, e3]
      exact ⟨rfl, (wf_u32 (hwz _ (List.getElem_mem hjz))).1⟩
    refine ⟨neg, some a, len, cap, (zs.take len).map Int.toNat, rfl, rfl, by simp; omega, ?_, hl, by simp only [maxLen] at hm; omega, (fun e => by cases e), fun hn => ?_⟩
    · intro x hx
      obtain ⟨y, hy, rfl⟩ := List.mem_map.1 hx
      have := wf_u32 (hwz y (List.mem_of_mem_take hy))
      omega
    · obtain ⟨b, off, spot⟩ := a
      have hspot : spot = none := by simpa [Addr.add] using World.cell?_spot (hcell 0 (by omega))
      subst hspot
      have hbW : b < w.heap.size := hlt (.cell b off) (by simp only [List.mem_append]; exact .inr (MemPlace.mem_row.2 ⟨0, by omega, by simp⟩))
      refine ⟨b, off, rfl, hbW, fun j hj => ?_⟩
      have hcj := hcell j (by omega)
      rw [add_plain] at hcj
      rw [hcj, (hget j hj).1, Int.toNat_of_nonneg (hget j hj).2]
theorem cells_frac : Tryz.prog.cellsOf 26 = 4 := by kernel_rfl
set_option maxRecDepth 100000 in
theorem open_frac {H : Type} {enc : TypeId × Value → H} {w : World} {b0 : Nat} {v : Value} {d : DataW H} {p : List MemPlace}
    (hv : Value.okWide Tryz.prog w .any b0 26 v) (h : DataW.Trod enc Tryz.prog w 0 (fun _ => true) true 26 v d p) (hlt : ∀ x ∈ p, x.block < w.heap.size) :
    ∃ nn A n c xs dn B m cb ys, v = fv nn A n c dn B m cb ∧ Lm w w.heap.size A n c xs ∧ Lm w w.heap.size B m cb ys := by
  obtain ⟨cs, rfl, hsz⟩ := okWide_struct Tryz.underlying26 hv
  obtain ⟨c0, c1, c2, c3, rfl⟩ := array4 (hsz.trans cells_frac)
  obtain ⟨fuel, hf⟩ := h
  obtain ⟨y0, y1, n, hx, _, h0, h1⟩ := trod_struct2 Tryz.underlying26 hf
  simp only [Prod.mk.injEq] at hx
  obtain ⟨rfl, rfl⟩ := hx
  rw [cells_wide] at h0 h1
  have h0' : DataW.trod enc Tryz.prog w 0 (fun _ => true) true n 24 [c0, c1] = some y0 := h0
  have h1' : DataW.trod enc Tryz.prog w 0 (fun _ => true) true n 24 [c2, c3] = some y1 := h1
  obtain ⟨nn, A, k, c, xs, rfl, rfl, hA⟩ := open_wide_cells h0' fun x hx => hlt x (List.mem_append_left _ hx)
  obtain ⟨dn, B, m, cb, ys, rfl, rfl, hB⟩ := open_wide_cells h1' fun x hx => hlt x (List.mem_append_right _ hx)
  exact ⟨nn, A, k, c, xs, dn, B, m, cb, ys, rfl, hA, hB⟩
end Go.Proofs.YtbplbbkmfbjkfaaGreatDoor

/- Decimal texts of numbers, in groups of nine digits. -/
namespace Go.Proofs.YtbplbbkmfbjkfaaGreatDoor

/-- A number's lowest k decimal digits. -/
def padk : Nat → Nat → List UInt8
  | 0, _ => []
  | k + 1, x => padk k (x / 10) ++ [UInt8.ofNat (48 + x % 10)]
theorem padk_len (k x : Nat) : (padk k x).length = k := by
  induction k generalizing x with
  | zero => rfl
  | succ k ih => simp [padk, ih]
theorem dec_small {u : Nat} (h : u < 10) : Lib.decDigits u = [UInt8.ofNat (48 + u)] := Lib.decDigits_one h
theorem dec_big {u : Nat} (h : 10 ≤ u) : Lib.decDigits u = Lib.decDigits (u / 10) ++ [UInt8.ofNat (48 + u % 10)] := by
  rw [Lib.decDigits, dif_neg (by omega)]
theorem dec_pad (k : Nat) : ∀ (q x : Nat), 0 < q → x < 10 ^ k → Lib.decDigits (q * 10 ^ k + x) = Lib.decDigits q ++ padk k x := by
  induction k with
  | zero => intro q x hq hx; rw [Nat.pow_zero] at hx; obtain rfl : x = 0 := by omega
            simp [padk]
  | succ k ih =>
    intro q x hq hx
    have hp : 0 < 10 ^ k := Nat.pow_pos (by omega)
    rw [Nat.pow_succ] at hx ⊢
    have h1 : 10 ≤ q * (10 ^ k * 10) + x := by
      have := Nat.mul_le_mul hq (show 1 * 10 ≤ 10 ^ k * 10 by omega)
      omega
    have e1 : q * (10 ^ k * 10) = 10 * (q * 10 ^ k) := by rw [← Nat.mul_assoc, Nat.mul_comm]
    rw [dec_big h1, padk, ← List.append_assoc, ← ih q (x / 10) hq (by omega)]
    rw [e1]
    congr 2
    · congr 1; omega
    · congr 2; omega
/-- The groups of nine digits of a number, the lowest one first. -/
def gB (v : Nat) : List Nat := if h : v = 0 then [] else v % 1000000000 :: gB (v / 1000000000)
termination_by v
decreasing_by omega
theorem gB_zero : gB 0 = [] := by rw [gB]; rfl
theorem gB_pos {v : Nat} (h : 0 < v) : gB v = v % 1000000000 :: gB (v / 1000000000) := by rw [gB, dif_neg (by omega)]
theorem gB_lt : ∀ (v : Nat), ∀ x ∈ gB v, x < 1000000000 := by
  intro v
  induction v using Nat.strongRecOn with
  | _ v ih =>
    rcases Nat.eq_zero_or_pos v with h | h
    · subst h; rw [gB_zero]; intro x hx; cases hx
    · rw [gB_pos h]
      intro x hx
      rcases List.mem_cons.1 hx with rfl | hx
      · omega
      · exact ih _ (by omega) x hx
theorem gB_good (v : Nat) : Good (gB v) := fun x hx => by have := gB_lt v x hx; omega
theorem gB_drop : ∀ (v k : Nat), k ≤ (gB v).length → (gB v).drop k = gB (v / 1000000000 ^ k) := by
  intro v k
  induction k generalizing v with
  | zero => intro _; simp
  | succ k ih =>
    intro hk
    rcases Nat.eq_zero_or_pos v with h | h
    · subst h; rw [gB_zero] at hk; simp at hk
    · rw [gB_pos h] at hk ⊢
      rw [List.drop_succ_cons, ih _ (by simpa using hk), Nat.div_div_eq_div_mul, Nat.pow_succ, Nat.mul_comm]
theorem gB_get {v k : Nat} (hk : k < (gB v).length) : (gB v)[k]?.getD 0 = v / 1000000000 ^ k % 1000000000 ∧ 0 < v / 1000000000 ^ k := by
  have h1 := gB_drop v k (by omega)
  have h2 := List.drop_eq_getElem_cons hk
  have h3 : 0 < v / 1000000000 ^ k := by
    refine Nat.pos_of_ne_zero fun e => ?_
    rw [e, gB_zero, h2] at h1
    cases h1
  rw [gB_pos h3, h2] at h1
  injection h1 with h4 _
  exact ⟨by rw [List.getElem?_eq_getElem hk]; exact h4, h3⟩
theorem gB_len_pos {v : Nat} (h : 0 < v) : 0 < (gB v).length := by rw [gB_pos h]; simp
theorem gB_top {v : Nat} (h : 0 < v) : v / 1000000000 ^ ((gB v).length) = 0 ∧ v / 1000000000 ^ ((gB v).length - 1) < 1000000000 := by
  have h1 := gB_drop v _ (Nat.le_refl _)
  rw [List.drop_length] at h1
  have h2 : v / 1000000000 ^ ((gB v).length) = 0 := by
    refine Nat.eq_zero_of_not_pos fun h3 => ?_
    rw [gB_pos h3] at h1
    cases h1
  refine ⟨h2, ?_⟩
  have h4 := gB_len_pos h
  rw [show (gB v).length = ((gB v).length - 1) + 1 from by omega, Nat.pow_succ, ← Nat.div_div_eq_div_mul] at h2
  omega
/-- The text grows by a group. -/
theorem dec_step {v k : Nat} (hk : 0 < v / 1000000000 ^ (k + 1)) : Lib.decDigits (v / 1000000000 ^ k) = Lib.decDigits (v / 1000000000 ^ (k + 1)) ++ padk 9 (v / 1000000000 ^ k % 1000000000) := by
  rw [Nat.pow_succ, ← Nat.div_div_eq_div_mul] at hk ⊢
  generalize v / 1000000000 ^ k = u at *
  have h := dec_pad 9 (u / 1000000000) (u % 1000000000) hk (by omega)
  rw [← h]
  congr 1
  omega
/-- The text of a number: a sign and its digits. -/
def txt (neg : Bool) (v : Nat) : List UInt8 := (if neg = true then [45] else []) ++ Lib.decDigits v
theorem padk_pre {x j : Nat} (hj : j < 9) : padk (j + 1) (x / 10 ^ (8 - j)) = padk j (x / 10 ^ (9 - j)) ++ [UInt8.ofNat (48 + x / 10 ^ (8 - j) % 10)] := by
  rw [padk, Nat.div_div_eq_div_mul, ← Nat.pow_succ, show (8 - j).succ = 9 - j from by omega]
theorem gB_len_le {v n : Nat} (h : v < 4294967296 ^ n) : (gB v).length ≤ 2 * n + 0 := by
  refine Nat.le_of_not_lt fun hk => ?_
  have h1 := (gB_get (k := 2 * n) (by omega)).2
  have h2 : (4294967296 : Nat) ^ n ≤ 1000000000 ^ (2 * n) := by
    rw [Nat.pow_mul]
    exact Nat.pow_le_pow_left (by decide) n
  rw [Nat.div_eq_of_lt (by omega)] at h1
  omega
/-- The text that rounds over the indices ks have made. -/
def txP (gs ks : List Nat) : List UInt8 := ks.foldl (fun t k => t ++ (if k < gs.length - 1 then padk 9 (gs[k]?.getD 0) else Lib.decDigits (gs[k]?.getD 0))) []
theorem txP_snoc (gs ks : List Nat) (k : Nat) : txP gs (ks ++ [k]) = txP gs ks ++ (if k < gs.length - 1 then padk 9 (gs[k]?.getD 0) else Lib.decDigits (gs[k]?.getD 0)) := by
  unfold txP; rw [List.foldl_append]; rfl
theorem dec_len (k : Nat) : ∀ (u : Nat), u < 10 ^ (k + 1) → (Lib.decDigits u).length ≤ k + 1 := by
  induction k with
  | zero => intro u h; rw [dec_small (by simpa using h)]; simp
  | succ k ih =>
    intro u h
    rcases Nat.lt_or_ge u 10 with h1 | h1
    · rw [dec_small h1]; simp
    · rw [dec_big h1, List.length_append]
      have := ih (u / 10) (by rw [Nat.pow_succ] at h; omega)
      simp only [List.length_cons, List.length_nil]
      omega
theorem txP_len {gs : List Nat} (hg : Good gs) (ks : List Nat) : (txP gs ks).length ≤ 10 * ks.length := by
  have H : ∀ (ks : List Nat) (n : Nat), ks.length = n → (txP gs ks).length ≤ 10 * n := by
    intro ks n
    induction n generalizing ks with
    | zero => intro h; rw [List.eq_nil_of_length_eq_zero h]; exact Nat.le_refl _
    | succ n ih =>
      intro h
      have hne : ks ≠ [] := fun e => by rw [e] at h; cases h
      rw [← List.dropLast_concat_getLast hne, txP_snoc, List.length_append]
      have h1 := ih ks.dropLast (by rw [List.length_dropLast]; omega)
      split
      · rw [padk_len]; omega
      · have := dec_len 9 (gs[ks.getLast hne]?.getD 0) (by have := hg.get (ks.getLast hne); omega)
        omega
  exact H ks _ rfl
end Go.Proofs.YtbplbbkmfbjkfaaGreatDoor

/- Slices of the call own making, grown by append; wide.left. -/
namespace Go.Proofs.YtbplbbkmfbjkfaaGreatDoor
open Go.RowKit

/-- A slice of the call's own making, of the numbers ts: nil, or the head of a block of the call's own. -/
def Ow (w : World) (B : Nat) (v : Value) (ts : List Nat) : Prop := w.ownsRow B 79 1 v ts.length (ts.map u32c)
section
variable {w w' : World} {B : Nat} {v : Value} {ts : List Nat}
theorem Ow.nil (w : World) (B : Nat) : Ow w B (.slice none 0 0) [] := World.ownsRow_nil w B _ 1
theorem Ow.made (w : World) (k n : Nat) (hk : k ≤ n) (hn : n ≤ 4000000000) : Ow (w.alloc (.cells ((zer n).map u32c).toArray 79)) w.heap.size (.slice (some ⟨w.heap.size, 0, none⟩) k n) (zer k) :=
  ⟨by simp, .inr ⟨w.heap.size, n, _, by rw [zer_len], Nat.le_refl _, heap_alloc_new w _, by rw [zer_len]; exact hk, by simp only [maxLen]; omega, by simp [zer], by simp [zer]; omega⟩⟩
theorem Ow.lm (h : Ow w B v ts) (g : Good ts) : ∃ A c, v = .slice A ts.length c ∧ Lm w w.heap.size A ts.length c ts := Lm.own h g
theorem Ow.toLm {A : Option Addr} {n c : Nat} (h : Ow w B (.slice A n c) ts) (g : Good ts) : Lm w w.heap.size A n c ts := by
  obtain ⟨A', c', e, hL⟩ := h.lm g
  injection e with e1 e2 e3
  subst e1 e2 e3
  exact hL
theorem Ow.mono {B' : Nat} (h : Ow w B v ts) (hB : B' ≤ B) : Ow w B' v ts := by
  refine ⟨h.1, ?_⟩
  rcases h.2 with h2 | ⟨g, cap, cur, e, hg, rest⟩
  · exact .inl h2
  · exact .inr ⟨g, cap, cur, e, Nat.le_trans hB hg, rest⟩
theorem Ow.shrink {A : Option Addr} {n c k : Nat} (h : Ow w B (.slice A n c) ts) (hk : k ≤ n) : Ow w B (.slice A k c) (ts.take k) := by
  have hl : ts.length = n := by
    rcases h.2 with ⟨h2, h3⟩ | ⟨g, cap, cur, e, _⟩
    · injection h2 with _ e2 _; omega
    · injection e with _ e2 _; exact e2.symm
  refine ⟨by simp, ?_⟩
  rcases h.2 with ⟨h2, h3⟩ | ⟨g, cap, cur, e, hb, hg, hcap, hm, hs, ht⟩
  · injection h2 with e1 e2 e3
    obtain rfl : k = 0 := by omega
    subst e1 e3
    exact .inl ⟨rfl, by simp⟩
  · injection e with e1 e2 e3
    subst e1 e3
    refine .inr ⟨g, c, cur, by rw [List.length_take, Nat.min_eq_left (by omega)], hb, hg, by rw [List.length_take]; omega, hm, hs, ?_⟩
    rw [List.map_take, ← ht, List.length_take, Nat.min_eq_left (by omega), List.take_take, Nat.mul_one, Nat.mul_one, Nat.min_eq_left (by omega)]
theorem Ld.ow {g : Nat} {cs : List Nat} (h : Ld w g cs) (hB : B ≤ g) (hl : cs.length ≤ 4000000000) : Ow w B (.slice (some ⟨g, 0, none⟩) cs.length cs.length) cs :=
  ⟨by simp, .inr ⟨g, cs.length, _, rfl, hB, h, Nat.le_refl _, by simp only [maxLen]; omega, by simp, by simp only [Nat.mul_one]; exact List.take_of_length_le (by rw [List.length_map]; exact Nat.le_refl _)⟩⟩
theorem Ow.alloc (h : Ow w B v ts) (o : Obj) : Ow (w.alloc o) B v ts := World.ownsRow.alloc h o
theorem Ow.eq {us : List Nat} (h : Ow w B v ts) (e : ts = us) : Ow w B v us := e ▸ h
/-- What lay below is kept by an append. -/
theorem Ow.below {w0 w1 : World} {tmp : Obj} (h : Ow w B v ts) (hb : Below B w0 w) (hB : B ≤ w.heap.size) (hg : (w.alloc tmp).grownBy w1 v.ownBlock) : Below B w0 w1 :=
  (hb.alloc hB tmp).grown hg (by simp; omega) (fun b e => (World.ownsRow.lt h b e).1)
end
theorem wpList_append_u32 (w : World) {ops : Array Oper} {rest : List Oper} {o : Oper} {a : Act} {Q : Exit → Act → World → Prop} (hgd : o.guard = none) (s x : Operand)
    (ho : o.op = .call { callee := .builtin .append, args := #[s, x], argTypes := #[22, 22] })
    (B : Nat) (v : Value) (ts : List Nat) (hs : a.eval s = v) (hown : Ow w B v ts) (E : Int) (y c : Nat) (hE : E = (y : Int)) (hlen : ts.length < 4000000000) (hB : B ≤ w.heap.size)
    (hx : a.eval x = .slice (some ⟨w.heap.size, 0, none⟩) 1 c)
    (h : ∀ v' w', Ow w' B v' (ts ++ [y]) → (w.alloc (.cells #[.int .u32 E] 79)).grownBy w' v.ownBlock → wpList Tryz.prog ops Q rest (a.put o.dst v') w') :
    wpList Tryz.prog ops Q (o :: rest) a (w.alloc (.cells #[.int .u32 E] 79)) := by
  subst hE
  obtain ⟨i0, hi0, hz0, hz1, hz2⟩ := info_parts u32_info
  refine wpList_append_own (w.alloc (.cells #[.int .u32 (y : Int)] 79)) hgd s x 22 ho B 79 i0 (.int .u32 0) 1 4 slice_u32 hi0 hz0 hz1 hz2 rfl (by decide) v ts.length _ hs (World.ownsRow.alloc hown _) ⟨w.heap.size, 0, none⟩ 1 c [.int .u32 (y : Int)] hx rfl (cell_one_new w _ _) (by simp [Value.oneCell']) (by simp only [maxLen]; omega) (by omega) (by simp; omega) ?_
  intro v' w' ho' hg _
  refine h v' w' ?_ hg
  have e : (ts ++ [y]).map u32c = ts.map u32c ++ [.int .u32 (y : Int)] := by rw [List.map_append]; rfl
  unfold Ow
  rw [e, List.length_append]
  exact ho'

/-- make([]uint32, k, n). -/
theorem run_makeL_u32 (l c : Int) (k n : Nat) (hl : l = (k : Int)) (hc : c = (n : Int)) (hk : k ≤ n) (hn : n ≤ 4000000000) (w : World) :
    (Instr.makeSlice 22 (.int .i64 l) (.int .i64 c)).run Tryz.prog w = .ok (.slice (some ⟨w.heap.size, 0, none⟩) k n) (w.alloc (.cells ((zer n).map u32c).toArray 79)) := by
  subst hl hc
  obtain ⟨i0, hi0, hz0, hz1, hz2⟩ := info_parts u32_info
  have h := run_make (P := Tryz.prog) w 22 79 i0 _ slice_u32 hi0 hz0 .i64 .i64 (k : Int) (n : Int) (by omega) (by omega) (by rw [hz2]; omega) (by omega)
  rw [hz1, Int.toNat_natCast, Int.toNat_natCast, made_zer] at h
  exact h

theorem shl_carry {xs : List Nat} {y : Nat} (hx : Good xs) (hy : y ≤ 2147483648) (k : Nat) : (mulK [] xs y k).2 < y ∨ (mulK [] xs y k).2 = 0 := by
  induction k with
  | zero => exact .inr rfl
  | succ k ih =>
    have hg := hx.get k
    have h : (mulK [] xs y (k + 1)).2 = ((mulK [] xs y k).2 + (xs[k]?.getD 0 * y + 0)) / 4294967296 := rfl
    rw [h]
    rcases Nat.eq_zero_or_pos y with h0 | h0
    · subst h0
      right
      have : (mulK [] xs 0 k).2 = 0 := by omega
      rw [this]; simp
    · left
      have hle : (mulK [] xs y k).2 < y := by omega
      rw [Nat.div_lt_iff_lt_mul (by omega)]
      have h2 : xs[k]?.getD 0 * y ≤ 4294967295 * y := Nat.mul_le_mul_right _ (by omega)
      omega

set_option maxRecDepth 100000 in
set_option maxHeartbeats 1000000 in
theorem left_any (w : World) (A : Option Addr) (n c kk : Nat) (xs : List Nat) (v : Nat) (hA : Lm w w.heap.size A n c xs) (hn : n ≤ 100000000) (hkk : kk ≤ 1000000) (hv : val xs * 2 ^ kk = v) :
    Calls Tryz.prog 154 #[.slice A n c, .int .i64 (kk : Int)] w fun e w' => ∃ A' c', e = .returned (.slice A' (digs v).length c') ∧ Lm w' w'.heap.size A' (digs v).length c' (digs v) ∧ Below w.heap.size w w' := by
  have h1 := hA.cap
  have h2 := hA.max
  obtain ⟨sk, hsk⟩ : ∃ sk : Nat, (kk : Int) / 32 = (sk : Int) := ⟨kk / 32, by omega⟩
  obtain ⟨s, hs, hs32⟩ : ∃ s : Nat, (kk : Int) % 32 = (s : Int) ∧ s < 32 := ⟨kk % 32, by omega, by omega⟩
  have HA := Lib.hid hA
  have HV := Lib.hid hv
  clear hA hv
  have hmk := fun w => run_makeL_u32 ((sk : Int)) ((sk : Int) + (n : Int) + 1) sk (sk + n + 1) (by omega) (by omega) (by omega) (by omega) w
  go_enter Tryz.func154, Tryz.ntmps154
  go_wp2
  rw [hs]
  clear hmk
  go_loopw [6, 7, 23] (fun u cy i wr => ∃ k : Nat, k ≤ n ∧ i = .int .i64 k ∧ cy = .int .u64 ((mulK [] xs (2 ^ s) k).2 : Nat) ∧ Ow wr w.heap.size u (zer sk ++ (mulK [] xs (2 ^ s) k).1) ∧ Below w.heap.size w wr) (fun _ _ i _ => n - (intOf i).toNat)
  case atStart => exact ⟨0, Nat.zero_le _, rfl, rfl, (Ow.made w sk (sk + n + 1) (by omega) (by omega)).eq (List.append_nil _).symm, (Below.refl _ _).alloc (Nat.le_refl _) _⟩
  case round =>
    have hk0 : Hid (kk = 32 * sk + s) := by show _ = _; omega
    obtain ⟨k, hk, rfl, rfl, hO, hb⟩ := hrel
    have HO := Lib.hid hO
    have HBl := Lib.hid hb
    clear hO hb
    have hcy := shl_carry HA.out.good (show 2 ^ s ≤ 2147483648 from Nat.pow_le_pow_right (by omega) (show s ≤ 31 by omega)) k
    have hln := mulK_len [] xs (2 ^ s) k
    have hp31 : 2 ^ s ≤ 2147483648 := Nat.pow_le_pow_right (by omega) (show s ≤ 31 by omega)
    have hc32 : (mulK [] xs (2 ^ s) k).2 < 4294967296 := by omega
    by_cases hlt : k < n
    · obtain ⟨b, bo, rfl, hbb, hcx⟩ := (HA.out.below HBl.out).cell hlt
      have hxg := HA.out.good.get k
      have hmx : xs[k]?.getD 0 * 2 ^ s ≤ 4294967295 * 2147483648 := Nat.mul_le_mul (by omega) hp31
      have HX : Hid (bits .or .u64 (((mulK [] xs (2 ^ s) k).2 : Nat) : Int) (IntKind.u64.wrap (((xs[k]?.getD 0 : Nat) : Int) * 2 ^ s)) = (((mulK [] xs (2 ^ s) k).2 + (xs[k]?.getD 0 * 2 ^ s + 0) : Nat) : Int)) := by
        show _ = _
        rw [cast_shl, Nat.mul_comm, wrap_nat, Nat.mod_eq_of_lt (by omega), bits_or _ _ (by omega) (by omega)]
        rcases hcy with h | h
        · rw [Nat.mul_comm, or_add h, Nat.mul_comm]; rfl
        · rw [h]; simp
      go_wp2_with (at_builtin; refine wpList_append_u32 _ rfl _ _ rfl w.heap.size _ _ rfl HO.out _ (((mulK [] xs (2 ^ s) k).2 + (xs[k]?.getD 0 * 2 ^ s + 0)) % 4294967296) 1 (by rw [HX.out]; omega) (by rw [List.length_append, zer_len, hln]; omega) HBl.out.size rfl ?_; intro u' w1 hO1 hg1)
      go_roundw
      case rel =>
        refine ⟨k + 1, by omega, by go_num, ?_, hO1.eq ?_, HO.out.below HBl.out HBl.out.size hg1⟩
        · rw [HX.out]
          exact congrArg (Value.int IntKind.u64) (Int.natCast_ediv _ _).symm
        · rw [List.append_assoc]; rfl
      case measure => simp [intOf]; omega
    · obtain rfl : k = n := by omega
      have hgd : Hid (Good (zer sk ++ (mulK [] xs (2 ^ s) k).1 ++ [(mulK [] xs (2 ^ s) k).2])) := (((zer_good _).append (mulK_good _ _ _ _)).append (Good.nil.cons hc32))
      have hlen : Hid ((zer sk ++ (mulK [] xs (2 ^ s) k).1 ++ [(mulK [] xs (2 ^ s) k).2]).length = sk + k + 1) := by show _ = _; rw [List.length_append, List.length_append, zer_len, hln]; rfl
      have hvs : Hid (val (zer sk ++ (mulK [] xs (2 ^ s) k).1 ++ [(mulK [] xs (2 ^ s) k).2]) = v) := by
        show _ = _
        have e := mulK_val [] xs (2 ^ s) k
        have hz : val (zer sk) = 0 := by have := zer_val sk sk; rwa [List.take_of_length_le (by rw [zer_len]; exact Nat.le_refl _)] at this
        rw [List.append_assoc, val_append, hz, val_snoc, mulK_len, e, List.take_of_length_le (by rw [HA.out.len]; exact Nat.le_refl _), zer_len, ← HV.out]
        simp only [List.take_nil, val_nil, Nat.add_zero, Nat.zero_add]
        rw [hk0.out, Nat.pow_add, Nat.pow_mul, show (2 : Nat) ^ 32 = 4294967296 from rfl, Nat.mul_left_comm]
      go_wp2_with (at_builtin; refine wpList_append_u32 _ rfl _ _ rfl w.heap.size _ _ rfl HO.out _ ((mulK [] xs (2 ^ s) k).2) 1 (by omega) (by rw [List.length_append, zer_len, hln]; omega) HBl.out.size rfl ?_; intro u1 w1 hO1 hg1; obtain ⟨A1, c1, rfl, hL1⟩ := hO1.lm hgd.out; rw [hlen.out] at hL1 ⊢)
      refine (trim_any _ _ _ _ _ _ v hL1 hvs.out).mono ?_
      rintro e w2 ⟨rfl, rfl⟩
      go_wp2
      go_ret
      exact ⟨_, _, rfl, hL1.trim' hvs.out, HO.out.below HBl.out HBl.out.size hg1⟩
end Go.Proofs.YtbplbbkmfbjkfaaGreatDoor

/- Bytes of the call's own, grown by append; wide.appendPadded. -/
namespace Go.Proofs.YtbplbbkmfbjkfaaGreatDoor
open Go.RowKit

/-- A slice of bytes of the call's own making. -/
def Bw (w : World) (B : Nat) (v : Value) (ts : List UInt8) : Prop := w.ownsRow B 5 1 v ts.length (Lib.byteCells ts)
theorem u8_info : (Tryz.prog.info? 5).map (fun i => (i.zero, i.size, i.bytes)) = some (some (.int .u8 0), 1, 1) := by kernel_rfl
theorem slice_u8 : Tryz.prog.underlying 111 = some (.slice 5) := Tryz.underlying111
theorem Bw.eq {w : World} {B : Nat} {v : Value} {ts us : List UInt8} (h : Bw w B v ts) (e : ts = us) : Bw w B v us := e ▸ h
theorem wpList_append_u8 (w : World) {ops : Array Oper} {rest : List Oper} {o : Oper} {a : Act} {Q : Exit → Act → World → Prop} (hgd : o.guard = none) (s x : Operand)
    (ho : o.op = .call { callee := .builtin .append, args := #[s, x], argTypes := #[111, 111] })
    (B : Nat) (v : Value) (ts : List UInt8) (hs : a.eval s = v) (hown : Bw w B v ts) (E : Int) (y : UInt8) (c : Nat) (hE : E = (y.toNat : Int)) (hlen : ts.length < 4000000000) (hB : B ≤ w.heap.size)
    (hx : a.eval x = .slice (some ⟨w.heap.size, 0, none⟩) 1 c)
    (h : ∀ v' w', Bw w' B v' (ts ++ [y]) → Below B w w' → Lib.OthersKept 5 none w w' → wpList Tryz.prog ops Q rest (a.put o.dst v') w') :
    wpList Tryz.prog ops Q (o :: rest) a (w.alloc (.cells #[.int .u8 E] 5)) := by
  subst hE
  obtain ⟨i0, hi0, hz0, hz1, hz2⟩ := info_parts u8_info
  refine wpList_append_own (w.alloc (.cells #[.int .u8 (y.toNat : Int)] 5)) hgd s x 111 ho B 5 i0 (.int .u8 0) 1 1 slice_u8 hi0 hz0 hz1 hz2 rfl (by decide) v ts.length _ hs (World.ownsRow.alloc hown _) ⟨w.heap.size, 0, none⟩ 1 c [.int .u8 (y.toNat : Int)] hx rfl (cell_one_new w _ _) (by simp [Value.oneCell']) (by simp only [maxLen]; omega) (by omega) (by simp; omega) ?_
  intro v' w' ho' hg _
  refine h v' w' ?_ (((Below.refl B w).alloc hB _).grown hg (by simp; omega) (fun b e => (World.ownsRow.lt hown b e).1)) (((Lib.OthersKept.refl _ _ _).alloc _).grown hg (Lib.ownsRow_kind (World.ownsRow.alloc hown _)))
  have e : Lib.byteCells (ts ++ [y]) = Lib.byteCells ts ++ [.int .u8 (y.toNat : Int)] := by unfold Lib.byteCells; rw [List.map_append]; rfl
  unfold Bw
  rw [e, List.length_append]
  exact ho'

set_option maxRecDepth 100000 in
set_option maxHeartbeats 1000000 in
theorem pad_any (w : World) (B : Nat) (v : Value) (ts : List UInt8) (x : Nat) (hown : Bw w B v ts) (hB : B ≤ w.heap.size) (hx : x < 4294967296) (hlen : ts.length ≤ 1000000000) :
    Calls Tryz.prog 85 #[v, .int .u32 (x : Int)] w fun e w' => ∃ v', e = .returned v' ∧ Bw w' B v' (ts ++ padk 9 x) ∧ Below B w w' ∧ Lib.OthersKept 5 none w w' := by
  have HO := Lib.hid hown
  clear hown
  go_enter Tryz.func85, Tryz.ntmps85
  go_wp2
  go_loopw [0, 5] (fun u d wr => ∃ j : Nat, j ≤ 9 ∧ d = .int .u32 (100000000 / 10 ^ j : Nat) ∧ Bw wr B u (ts ++ padk j (x / 10 ^ (9 - j))) ∧ Below B w wr ∧ Lib.OthersKept 5 none w wr) (fun _ d _ => (intOf d).toNat)
  case atStart => exact ⟨0, by omega, rfl, by rw [show padk 0 (x / 10 ^ (9 - 0)) = [] from rfl, List.append_nil]; exact HO.out, Below.refl _ _, Lib.OthersKept.refl _ _ _⟩
  case round =>
    obtain ⟨j, hj, rfl, hu, hb, hk⟩ := hrel
    have HU := Lib.hid hu
    have HBl := Lib.hid hb
    have HK := Lib.hid hk
    have hs := hb.size
    clear hu hb hk
    by_cases h9 : j = 9
    · subst h9
      go_wp2
      go_ret
      exact ⟨_, rfl, by have e := HU.out; rw [show x / 10 ^ (9 - 9) = x from by simp] at e; exact e, HBl.out, HK.out⟩
    · have hpl := padk_len j (x / 10 ^ (9 - j))
      have HP := Lib.hid (padk_pre (x := x) (j := j) (by omega))
      obtain ⟨U, hU⟩ : ∃ U, 100000000 / 10 ^ j = U := ⟨_, rfl⟩
      have hUe : U = 10 ^ (8 - j) := by
        rw [← hU, show (100000000 : Nat) = 10 ^ 8 from rfl, Nat.pow_div (by omega) (by omega)]
      have hU1 : 1 ≤ U := by rw [hUe]; exact Nat.pow_pos (by omega)
      have hU9 : U ≤ 100000000 := by rw [← hU]; exact Nat.div_le_self _ _
      have HUe : Hid (x / U = x / 10 ^ (8 - j)) := by show _ = _; rw [hUe]
      have HUn : Hid (100000000 / 10 ^ (j + 1) = U / 10) := by show _ = _; rw [Nat.pow_succ, ← Nat.div_div_eq_div_mul, hU]
      rw [hU]
      clear hU hUe
      have hUi : ¬ ((U : Int) = 0) := by omega
      have hq0 : (x : Int) / (U : Int) = ((x / U : Nat) : Int) := by rw [← Int.natCast_ediv]
      have hq1 : (x : Int).tdiv (U : Int) = ((x / U : Nat) : Int) := by rw [Int.tdiv_eq_ediv_of_nonneg (by omega), ← Int.natCast_ediv]
      have hql := Nat.div_le_self x U
      obtain ⟨D, hD⟩ : ∃ D, x / U = D := ⟨_, rfl⟩
      rw [hD] at hq0 hq1 hql HUe
      clear hD
      go_wp2_with (at_builtin; refine wpList_append_u8 _ rfl _ _ rfl B _ (ts ++ padk j (x / 10 ^ (9 - j))) rfl HU.out _ (UInt8.ofNat (48 + x / 10 ^ (8 - j) % 10)) 1 ?_ (by rw [List.length_append, hpl]; omega) (by omega) rfl ?_; rotate_left; intro u' w1 hu1 hb1 hk1)
      · go_roundw
        case rel => exact ⟨j + 1, by omega, by rw [HUn.out]; go_num, hu1.eq (by rw [show 9 - (j + 1) = 8 - j from by omega, HP.out, List.append_assoc]), HBl.out.trans hb1, HK.out.trans hk1⟩
        case measure => simp [intOf]; omega
      · rw [← HUe.out, UInt8.toNat_ofNat']
        omega
end Go.Proofs.YtbplbbkmfbjkfaaGreatDoor

/-
  The contract of bits.Len32: how many binary digits a uint32 has.
-/
namespace Go.Proofs.YtbplbbkmfbjkfaaGreatDoor
open Go.RowKit
set_option maxRecDepth 100000 in
set_option maxHeartbeats 400000 in
theorem len32_a (w : World) (x : Int) (h0 : 16777216 ≤ x) (h1 : x ≤ 4294967295) :
    Calls Tryz.prog 139 #[.int .u32 x] w fun e w' => e = .returned (.int .i64 (Lib.bitLen x.toNat)) ∧ w = w' := by
  have hT : ∀ w, (Instr.index 9 (.string Lib.len8tab) (.int .u8 (x / 65536 / 256))).run Tryz.prog w = .ok (.int .u8 (Lib.len8 (x / 65536 / 256))) w := fun w => Lib.run_index_len8tab w 9 .u8 (x / 65536 / 256) Tryz.underlying9 (by omega) (by omega)
  have hE : Hid (Lib.len8 (x / 65536 / 256) = Lib.bitLen (x / 65536 / 256).toNat) := Lib.len8_of (x / 65536 / 256) (by omega) (by omega)
  have hL := Lib.hid (Lib.bitLen_le8' (x / 65536 / 256) (by omega) (by omega))
  have hs := Lib.hid (Lib.bitLen_shift24 x.toNat (by omega) (by omega))
  have he : Hid ((x / 65536 / 256).toNat = x.toNat / 16777216) := by show _ = _; omega
  go_enter Tryz.func139, Tryz.ntmps139
  go_wp2
  go_ret
  refine ⟨ret_int ?_, rfl⟩
  rw [hE.out]
  have l := hL.out
  have s := hs.out
  rw [he.out] at l ⊢
  unfold wrap64
  omega
set_option maxRecDepth 100000 in
set_option maxHeartbeats 400000 in
theorem len32_b (w : World) (x : Int) (h0 : 65536 ≤ x) (h1 : x < 16777216) :
    Calls Tryz.prog 139 #[.int .u32 x] w fun e w' => e = .returned (.int .i64 (Lib.bitLen x.toNat)) ∧ w = w' := by
  have hT : ∀ w, (Instr.index 9 (.string Lib.len8tab) (.int .u8 (x / 65536))).run Tryz.prog w = .ok (.int .u8 (Lib.len8 (x / 65536))) w := fun w => Lib.run_index_len8tab w 9 .u8 (x / 65536) Tryz.underlying9 (by omega) (by omega)
  have hE : Hid (Lib.len8 (x / 65536) = Lib.bitLen (x / 65536).toNat) := Lib.len8_of (x / 65536) (by omega) (by omega)
  have hL := Lib.hid (Lib.bitLen_le8' (x / 65536) (by omega) (by omega))
  have hs := Lib.hid (Lib.bitLen_shift16 x.toNat (by omega) (by omega))
  have he : Hid ((x / 65536).toNat = x.toNat / 65536) := by show _ = _; omega
  go_enter Tryz.func139, Tryz.ntmps139
  go_wp2
  go_ret
  refine ⟨ret_int ?_, rfl⟩
  rw [hE.out]
  have l := hL.out
  have s := hs.out
  rw [he.out] at l ⊢
  unfold wrap64
  omega
set_option maxRecDepth 100000 in
set_option maxHeartbeats 400000 in
theorem len32_c (w : World) (x : Int) (h0 : 256 ≤ x) (h1 : x < 65536) :
    Calls Tryz.prog 139 #[.int .u32 x] w fun e w' => e = .returned (.int .i64 (Lib.bitLen x.toNat)) ∧ w = w' := by
  have hT : ∀ w, (Instr.index 9 (.string Lib.len8tab) (.int .u8 (x / 256))).run Tryz.prog w = .ok (.int .u8 (Lib.len8 (x / 256))) w := fun w => Lib.run_index_len8tab w 9 .u8 (x / 256) Tryz.underlying9 (by omega) (by omega)
  have hE : Hid (Lib.len8 (x / 256) = Lib.bitLen (x / 256).toNat) := Lib.len8_of (x / 256) (by omega) (by omega)
  have hL := Lib.hid (Lib.bitLen_le8' (x / 256) (by omega) (by omega))
  have hs := Lib.hid (Lib.bitLen_shift8 x.toNat (by omega) (by omega))
  have he : Hid ((x / 256).toNat = x.toNat / 256) := by show _ = _; omega
  go_enter Tryz.func139, Tryz.ntmps139
  go_wp2
  go_ret
  refine ⟨ret_int ?_, rfl⟩
  rw [hE.out]
  have l := hL.out
  have s := hs.out
  rw [he.out] at l ⊢
  unfold wrap64
  omega
set_option maxRecDepth 100000 in
set_option maxHeartbeats 400000 in
theorem len32_d (w : World) (x : Int) (h0 : 0 ≤ x) (h1 : x < 256) :
    Calls Tryz.prog 139 #[.int .u32 x] w fun e w' => e = .returned (.int .i64 (Lib.bitLen x.toNat)) ∧ w = w' := by
  have hT : ∀ w, (Instr.index 9 (.string Lib.len8tab) (.int .u8 (x))).run Tryz.prog w = .ok (.int .u8 (Lib.len8 (x))) w := fun w => Lib.run_index_len8tab w 9 .u8 (x) Tryz.underlying9 (by omega) (by omega)
  have hE : Hid (Lib.len8 (x) = Lib.bitLen (x).toNat) := Lib.len8_of (x) (by omega) (by omega)
  have hL := Lib.hid (Lib.bitLen_le8' (x) (by omega) (by omega))
  go_enter Tryz.func139, Tryz.ntmps139
  go_wp2
  go_ret
  refine ⟨ret_int ?_, rfl⟩
  rw [hE.out]
  have l := hL.out
  unfold wrap64
  omega
theorem len32_any (w : World) (x : Int) (h0 : 0 ≤ x) (h1 : x ≤ 4294967295) :
    Calls Tryz.prog 139 #[.int .u32 x] w fun e w' => e = .returned (.int .i64 (Lib.bitLen x.toNat)) ∧ w = w' := by
  by_cases a : 16777216 ≤ x
  · exact len32_a w x a h1
  by_cases b : 65536 ≤ x
  · exact len32_b w x b (by omega)
  by_cases c : 256 ≤ x
  · exact len32_c w x c (by omega)
  exact len32_d w x h0 (by omega)
end Go.Proofs.YtbplbbkmfbjkfaaGreatDoor

/-
  Contracts of wide.length, Bits.
-/
namespace Go.Proofs.YtbplbbkmfbjkfaaGreatDoor
open Go.RowKit

/-- How many binary digits a list of limbs has. -/
def lenS (xs : List Nat) : Nat := if xs.length = 0 then 0 else 32 * (xs.length - 1) + Lib.bitLen (xs[xs.length - 1]?.getD 0)
theorem bitLen32 (x : Nat) (h : x < 4294967296) : Lib.bitLen x ≤ 32 := Lib.bitLen_le x 32 (by omega) h

set_option maxRecDepth 100000 in
set_option maxHeartbeats 400000 in
theorem length_any (w : World) (A : Option Addr) (n c : Nat) (xs : List Nat) (h : Lm w w.heap.size A n c xs) (hn : n ≤ 1000000000) :
    Calls Tryz.prog 127 #[.slice A n c] w fun e w' => e = .returned (.int .i64 (lenS xs)) ∧ w = w' := by
  have hcap := h.cap
  have hmax := h.max
  have hl := h.len
  rcases n with _ | n
  · have HS : Hid (lenS xs = 0) := by show _ = _; unfold lenS; rw [if_pos hl]
    clear hl
    go_enter Tryz.func127, Tryz.ntmps127
    go_wp2
    go_ret
    exact ⟨ret_int (by rw [HS.out]; rfl), rfl⟩
  · have HS : Hid (lenS xs = 32 * n + Lib.bitLen (xs[n]?.getD 0)) := by show _ = _; unfold lenS; rw [if_neg (by omega), hl]; rfl
    have hg := h.good.get n
    have hb32 := bitLen32 _ hg
    clear hl
    obtain ⟨b, off, rfl, hb, hc⟩ := h.cell (k := n) (by omega)
    go_enter Tryz.func127, Tryz.ntmps127
    go_wp2_with (go_at_call 139; refine (len32_any _ _ (by omega) (by omega)).mono ?_; rintro e w' ⟨rfl, rfl⟩)
    go_ret
    refine ⟨ret_int ?_, rfl⟩
    rw [HS.out]
    omega

end Go.Proofs.YtbplbbkmfbjkfaaGreatDoor

/- wide.right, and how many binary digits there are. -/
namespace Go.Proofs.YtbplbbkmfbjkfaaGreatDoor
open Go.RowKit

/-- The first m limbs of a number. -/
def lims (u : Nat) : Nat → List Nat
  | 0 => []
  | m + 1 => lims u m ++ [u / 4294967296 ^ m % 4294967296]
theorem lims_len (u m : Nat) : (lims u m).length = m := by
  induction m with
  | zero => rfl
  | succ m ih => unfold lims; rw [List.length_append, ih]; rfl
theorem lims_good (u m : Nat) : Good (lims u m) := by
  induction m with
  | zero => exact Good.nil
  | succ m ih => exact ih.append (Good.nil.cons (Nat.mod_lt _ (by omega)))
theorem lims_val (u m : Nat) : val (lims u m) = u % 4294967296 ^ m := by
  induction m with
  | zero => simp [lims, val_nil, Nat.mod_one]
  | succ m ih => unfold lims; rw [val_snoc, ih, lims_len, Nat.pow_succ, Nat.mod_mul]
theorem lims_digs {u m : Nat} (h : u < 4294967296 ^ m) (h1 : 0 < m → 4294967296 ^ (m - 1) ≤ u) : lims u m = digs u := by
  refine eq_digs (lims_good _ _) ?_ (by rw [lims_val, Nat.mod_eq_of_lt h])
  rcases m with _ | m
  · exact Norm.nil
  · have h2 := h1 (by omega)
    simp only [Nat.add_sub_cancel] at h2
    unfold Norm lims
    rw [List.getLast?_concat]
    intro e
    have e2 := Option.some.inj e
    rw [Nat.pow_succ] at h
    rw [Nat.mod_eq_of_lt (Nat.div_lt_of_lt_mul h)] at e2
    have := (Nat.div_eq_zero_iff).1 e2
    have hp := pow_pos_ m
    omega
theorem bitLen_bounds {x : Nat} (h0 : x ≠ 0) (h : x < 4294967296) : 1 ≤ Lib.bitLen x ∧ 2 ^ (Lib.bitLen x - 1) ≤ x ∧ x < 2 ^ Lib.bitLen x :=
  Lib.bitLenAux_bounds 64 x (Nat.lt_of_lt_of_le h (by decide)) h0
theorem top_pos {a : Nat} (ha : 0 < a) : (digs a)[(digs a).length - 1]?.getD 0 ≠ 0 := fun h => digs_norm a ((last_get (digs_pos.2 ha)).2 h)
theorem lenS_pos {a : Nat} (ha : 0 < a) : 0 < lenS (digs a) ∧ 2 ^ (lenS (digs a) - 1) ≤ a ∧ a < 2 ^ lenS (digs a) := by
  have hp := digs_pos.2 ha
  obtain ⟨h1, h2, h3⟩ := bitLen_bounds (top_pos ha) ((digs_good a).get _)
  have hs := val_split (digs a) ((digs a).length - 1) (by omega)
  have hd : (digs a).drop ((digs a).length - 1) = [(digs a)[(digs a).length - 1]?.getD 0] := by
    rw [drop_cons_ _ _ (by omega), List.drop_of_length_le (by omega)]
  rw [hd, digs_val, val_cons, val_nil, Nat.mul_zero, Nat.add_zero] at hs
  have hlt := val_lt ((digs_good a).take ((digs a).length - 1))
  rw [List.length_take, Nat.min_eq_left (by omega)] at hlt
  unfold lenS
  rw [if_neg (by omega)]
  generalize (digs a)[(digs a).length - 1]?.getD 0 = x at *
  generalize (digs a).length - 1 = m at *
  generalize val ((digs a).take m) = r at *
  generalize Lib.bitLen x = l at *
  have e1 : 2 ^ (32 * m + l) = 4294967296 ^ m * 2 ^ l := by rw [Nat.pow_add, Nat.pow_mul]
  have e2 : 2 ^ (32 * m + l - 1) = 4294967296 ^ m * 2 ^ (l - 1) := by rw [Nat.add_sub_assoc h1, Nat.pow_add, Nat.pow_mul]
  refine ⟨by omega, ?_, ?_⟩
  · rw [e2]
    have h5 := Nat.mul_le_mul_left (4294967296 ^ m) h2
    omega
  · rw [e1]
    have h5 : 4294967296 ^ m * (x + 1) ≤ 4294967296 ^ m * 2 ^ l := Nat.mul_le_mul_left _ h3
    rw [Nat.mul_add, Nat.mul_one] at h5
    omega
theorem lenS_zero : lenS (digs 0) = 0 := rfl
theorem lenS_le {a k : Nat} : lenS (digs a) ≤ k ↔ a < 2 ^ k := by
  rcases Nat.eq_zero_or_pos a with h | h
  · subst h; rw [lenS_zero]; simp [Nat.pow_pos]
  · obtain ⟨h1, h2, h3⟩ := lenS_pos h
    constructor
    · intro hk; exact Nat.lt_of_lt_of_le h3 (Nat.pow_le_pow_right (by omega) hk)
    · intro hk
      have h4 : 2 ^ (lenS (digs a) - 1) < 2 ^ k := Nat.lt_of_le_of_lt h2 hk
      have := (Nat.pow_lt_pow_iff_right (by omega : 1 < 2)).1 h4
      omega
/-- How many limbs a shifted number has. -/
theorem right_digs (a k : Nat) : lims (a / 2 ^ k) ((lenS (digs a) - k + 31) / 32) = digs (a / 2 ^ k) := by
  refine lims_digs ?_ fun hm => ?_
  · rw [Nat.div_lt_iff_lt_mul (Nat.pow_pos (by omega)), show (4294967296 : Nat) = 2 ^ 32 from rfl, ← Nat.pow_mul, ← Nat.pow_add]
    exact lenS_le.1 (by omega)
  · rcases Nat.eq_zero_or_pos a with h | h
    · subst h; rw [lenS_zero] at hm; omega
    · obtain ⟨h1, h2, h3⟩ := lenS_pos h
      rw [Nat.le_div_iff_mul_le (Nat.pow_pos (by omega)), show (4294967296 : Nat) = 2 ^ 32 from rfl, ← Nat.pow_mul, ← Nat.pow_add]
      exact Nat.le_trans (Nat.pow_le_pow_right (by omega) (by omega)) h2
theorem win_lims (a k i : Nat) : win a (k + 32 * i) % 4294967296 = a / 2 ^ k / 4294967296 ^ i % 4294967296 := by
  unfold win
  rw [Nat.pow_add, ← Nat.div_div_eq_div_mul, Nat.pow_mul, show (2 : Nat) ^ 32 = 4294967296 from rfl]
  omega

set_option maxRecDepth 100000 in
set_option maxHeartbeats 1000000 in
theorem right_ow (w : World) (A : Option Addr) (n c k a v : Nat) (hA : Lm w w.heap.size A n c (digs a)) (hn : n ≤ 10000000) (hk : k ≤ 1000000000) (hv : a / 2 ^ k = v) :
    Calls Tryz.prog 157 #[.slice A n c, .int .i64 (k : Int)] w fun e w' => ∃ A' c', e = .returned (.slice A' (digs v).length c') ∧ Ow w' w.heap.size (.slice A' (digs v).length c') (digs v) ∧ Below w.heap.size w w' := by
  have hl := hA.len
  have h1 := hA.cap
  have h2 := hA.max
  have hL : lenS (digs a) ≤ 32 * n := by
    refine lenS_le.2 ?_
    have := digs_len.1 (Nat.le_of_eq hl)
    rwa [Nat.pow_mul]
  have HA := Lib.hid hA
  have HV := Lib.hid hv
  obtain ⟨m, hm⟩ : ∃ m, m = (lenS (digs a) - k + 31) / 32 := ⟨_, rfl⟩
  have HM := Lib.hid hm
  have hm9 : m ≤ 10000001 := by omega
  have hmk := fun w => run_make_u32 ((max ((lenS (digs a) : Int) - (k : Int)) 0 + 32 - 1) / 32) ((max ((lenS (digs a) : Int) - (k : Int)) 0 + 32 - 1) / 32) m (by omega) (by omega) (by omega) w
  clear hA hv hl hm
  go_enter Tryz.func157, Tryz.ntmps157
  go_wp2_with (go_at_call 127; refine (length_any _ _ _ _ _ HA.out (by omega)).mono ?_; rintro e w1 ⟨rfl, rfl⟩)
  clear hmk
  go_loopw [20] (fun i wr => ∃ j : Nat, j ≤ m ∧ i = .int .i64 j ∧ Ld wr w.heap.size (spl (zer m) 0 (lims v j)) ∧ Below w.heap.size w wr) (fun i _ => m - (intOf i).toNat)
  case atStart => exact ⟨0, Nat.zero_le _, rfl, by show Ld _ _ (spl (zer m) 0 []); rw [spl_nil]; exact Ld.new _ _, (Below.refl _ _).alloc (Nat.le_refl _) _⟩
  case round =>
    obtain ⟨j, hj, rfl, hD, hb⟩ := hrel
    have HD := Lib.hid hD
    have HBl := Lib.hid hb
    clear hD hb
    by_cases hlt : j < m
    · have HA1 := Lib.hid ((HA.out.below HBl.out).mono HBl.out.size)
      have hll := lims_len v j
      have hct := HD.out.cell (i := j) (by rw [spl_len (by rw [hll, zer_len]; omega), zer_len]; exact hlt)
      have hfr := HD.out.frozen j
      have hwl := win_lt a (k + 32 * j)
      go_wp2_with fail
      refine (window_any wr A n c (digs a) a ((k : Int) + (j : Int) * 32) HA1.out (digs_val a) (by omega) (by omega)).mono ?_
      rintro e w1 ⟨rfl, d, rfl⟩
      rw [show ((k : Int) + (j : Int) * 32).toNat = k + 32 * j by omega]
      go_wp2
      go_roundw
      case rel =>
        have e := (show Ld (wr.drewN d) w.heap.size (spl (zer m) 0 (lims v j)) from HD.out).set_ j (v / 4294967296 ^ j % 4294967296)
        have e2 := spl_set (cs := zer m) (off := 0) (ts := lims v j) (v / 4294967296 ^ j % 4294967296) (by rw [hll, zer_len]; omega)
        rw [hll, Nat.zero_add] at e2
        rw [e2] at e
        have e3 : (v / 4294967296 ^ j % 4294967296 : Nat) = win a (k + 32 * j) % 4294967296 := by rw [win_lims, HV.out]
        have e4 : ((win a (k + 32 * j) : Nat) : Int) % 4294967296 = ((v / 4294967296 ^ j % 4294967296 : Nat) : Int) := by rw [e3]; rfl
        refine ⟨j + 1, by omega, by go_num, ?_, ((bdrewN HBl.out d).setCell (p := ⟨w.heap.size, j, none⟩) (Nat.le_refl _) _)⟩
        rw [e4]
        exact e
      case measure => simp [intOf]; omega
    · obtain rfl : j = m := by omega
      go_wp2
      go_ret
      have HX : Hid (spl (zer j) 0 (lims v j) = digs v) := by
        show _ = _
        rw [← HV.out, ← right_digs, ← HM.out, HV.out]
        unfold spl
        rw [List.take_zero, List.nil_append, lims_len, Nat.zero_add, List.drop_of_length_le (by rw [zer_len]; exact Nat.le_refl _), List.append_nil]
      have hl2 : (spl (zer j) 0 (lims v j)).length = j := by rw [spl_len (by rw [lims_len, zer_len]; omega), zer_len]
      have e := HD.out.ow (B := w.heap.size) (Nat.le_refl _) (by rw [hl2]; omega)
      rw [HX.out] at e hl2
      subst hl2
      exact ⟨_, _, rfl, e, HBl.out⟩
end Go.Proofs.YtbplbbkmfbjkfaaGreatDoor

/- wide.divideLimb. -/
namespace Go.Proofs.YtbplbbkmfbjkfaaGreatDoor
open Go.RowKit

/-- Block g begins with the limbs cs; none is frozen. -/
def Ob (w : World) (g : Nat) (cs : List Nat) : Prop := ∃ cur : Array Value, w.heap[g]? = some (.cells cur 79 (0, 0)) ∧ cs.length ≤ cur.size ∧ ∀ i, i < cs.length → cur[i]? = some (.int .u32 (cs[i]?.getD 0 : Nat))
section
variable {w w' : World} {g : Nat} {cs : List Nat}
theorem Ld.ob (h : Ld w g cs) : Ob w g cs := ⟨_, h, by simp, fun i hi => by rw [List.getElem?_toArray, getD_map cs i hi]⟩
theorem Ob.lt (h : Ob w g cs) : g < w.heap.size := by obtain ⟨cur, h, _⟩ := h; exact (Array.getElem?_eq_some_iff.1 h).1
theorem Ob.cell (h : Ob w g cs) {i : Nat} (hi : i < cs.length) : w.cell? ⟨g, i, none⟩ = some (.int .u32 (cs[i]?.getD 0 : Nat)) := by
  obtain ⟨cur, h, _, h2⟩ := h
  rw [cell_of_row w g i _ _ (0, 0) h]
  exact h2 i hi
theorem Ob.frozen (h : Ob w g cs) (i : Nat) : w.frozen? ⟨g, i, none⟩ = false := by
  obtain ⟨cur, h, _⟩ := h
  simp [World.frozen?, h]
theorem Ob.set_ (h : Ob w g cs) (i t : Nat) : Ob (w.setCell ⟨g, i, none⟩ (.int .u32 (t : Int))) g (cs.set i t) := by
  obtain ⟨cur, h, h1, h2⟩ := h
  refine ⟨cur.setIfInBounds i (.int .u32 (t : Int)), ?_, ?_, fun j hj => ?_⟩
  · simp [World.setCell, Array.getElem?_modify, h]
  · simpa using h1
  · rw [List.length_set] at hj
    rw [Array.getElem?_setIfInBounds]
    by_cases e : i = j
    · subst e
      have : i < cur.size := by omega
      simp [this, hj]
    · rw [if_neg e, h2 j hj, List.getElem?_set_ne e]
theorem Ob.grown (h : Ob w g cs) {row : Option Nat} (hb : w.grownBy w' row) (hg : some g ≠ row) : Ob w' g cs := by
  have hl := h.lt
  obtain ⟨cur, h, r⟩ := h
  exact ⟨cur, (hb.block g hl hg).trans h, r⟩
theorem Ob.below (h : Ob w g cs) {B : Nat} (hb : Below B w w') (hg : g < B) : Ob w' g cs := by
  obtain ⟨cur, h, r⟩ := h
  exact ⟨cur, (hb.block g hg).trans h, r⟩
theorem Ob.lm (h : Ob w g cs) (gd : Good cs) {off n c : Nat} (hn : off + n ≤ cs.length) (hc : n ≤ c) (hm : c ≤ 9223372036854775807) : Lm w w.heap.size (some ⟨g, off, none⟩) n c ((cs.drop off).take n) :=
  ⟨by rw [List.length_take, List.length_drop]; omega, (gd.drop _).take _, hc, hm, (fun e => by cases e), fun _ => ⟨g, off, rfl, h.lt, fun j hj => by
    rw [h.cell (by omega), List.getElem?_take_of_lt hj, List.getElem?_drop]⟩⟩
theorem Ow.ob {B : Nat} {A : Option Addr} {n c : Nat} (h : Ow w B (.slice A n c) cs) (hn : 0 < cs.length) : ∃ g, A = some ⟨g, 0, none⟩ ∧ n = cs.length ∧ B ≤ g ∧ Ob w g cs := by
  obtain ⟨h1, ⟨_, h0⟩ | ⟨g, cap, cur, e, hb, hg, hcap, _, hs, ht⟩⟩ := h
  · omega
  · injection e with e1 e2 e3
    refine ⟨g, e1, e2, hb, cur, hg, by omega, fun i hi => ?_⟩
    rw [Nat.mul_one] at ht
    have e4 := getD_map cs i hi
    rw [← ht, List.getElem?_take_of_lt hi] at e4
    simpa using e4
end

/-- A list of limbs divided by a limb: the quotient's limbs, the remainder. -/
def dvL (d : Nat) : List Nat → List Nat × Nat
  | [] => ([], 0)
  | x :: xs => (((dvL d xs).2 * 4294967296 + x) / d :: (dvL d xs).1, ((dvL d xs).2 * 4294967296 + x) % d)
theorem dvL_len (d : Nat) (xs : List Nat) : (dvL d xs).1.length = xs.length := by
  induction xs with
  | nil => rfl
  | cons x xs ih => simp [dvL, ih]
theorem dvL_lt {d : Nat} (hd : 0 < d) (xs : List Nat) : (dvL d xs).2 < d := by
  cases xs with
  | nil => exact hd
  | cons x xs => exact Nat.mod_lt _ hd
theorem dvL_good {d : Nat} (hd : 0 < d) {xs : List Nat} (g : Good xs) : Good (dvL d xs).1 := by
  induction xs with
  | nil => exact Good.nil
  | cons x xs ih =>
    refine Good.cons ?_ (ih g.tail)
    have h := dvL_lt hd xs
    have hx := g.head
    rw [Nat.div_lt_iff_lt_mul hd]
    have : ((dvL d xs).2 + 1) * 4294967296 ≤ d * 4294967296 := Nat.mul_le_mul_right _ h
    omega
theorem dvL_val {d : Nat} (_hd : 0 < d) (xs : List Nat) : val (dvL d xs).1 * d + (dvL d xs).2 = val xs := by
  induction xs with
  | nil => simp [dvL, val_nil]
  | cons x xs ih =>
    show val (((dvL d xs).2 * 4294967296 + x) / d :: (dvL d xs).1) * d + ((dvL d xs).2 * 4294967296 + x) % d = _
    rw [val_cons, val_cons, ← ih, Nat.add_mul]
    have h := Nat.div_add_mod ((dvL d xs).2 * 4294967296 + x) d
    rw [Nat.mul_comm d] at h
    rw [Nat.mul_assoc, Nat.mul_add]
    omega
theorem dvL_quot {d : Nat} (hd : 0 < d) (xs : List Nat) : val (dvL d xs).1 = val xs / d ∧ (dvL d xs).2 = val xs % d := by
  have h := dvL_val hd xs
  have h2 := dvL_lt hd xs
  rw [← h, Nat.mul_comm]
  exact ⟨by rw [Nat.mul_add_div hd, Nat.div_eq_of_lt h2, Nat.add_zero], by rw [Nat.mul_add_mod, Nat.mod_eq_of_lt h2]⟩

set_option maxRecDepth 100000 in
set_option maxHeartbeats 1000000 in
theorem divideLimb_any (w : World) (g n c d : Nat) (cs : List Nat) (hD : Ob w g cs) (hG : Good cs) (hn : cs.length = n) (_ : n ≤ c) (hn9 : n ≤ 1000000000) (hd : 0 < d) (hd9 : d < 4294967296) :
    Calls Tryz.prog 108 #[.slice (some ⟨g, 0, none⟩) n c, .int .u32 (d : Int)] w fun e w' => e = .returned (.int .u32 ((dvL d cs).2 : Nat)) ∧ Ob w' g (dvL d cs).1 ∧ w.grownBy w' (some g) := by
  have HD := Lib.hid hD
  have hd0 : ¬ ((d : Int) = 0) := by omega
  clear hD
  go_enter Tryz.func108, Tryz.ntmps108
  go_wp2
  go_loopw [5, 6] (fun r i wr => ∃ k : Nat, k ≤ n ∧ i = .int .i64 ((k : Int) - 1) ∧ r = .int .u64 ((dvL d (cs.drop k)).2 : Nat) ∧ Ob wr g (cs.take k ++ (dvL d (cs.drop k)).1) ∧ w.grownBy wr (some g)) (fun _ i _ => (intOf i + 1).toNat)
  case atStart => exact ⟨n, Nat.le_refl _, rfl, by rw [List.drop_of_length_le (by omega)]; rfl, by rw [List.drop_of_length_le (by omega), List.take_of_length_le (by omega)]; show Ob _ _ (cs ++ []); rw [List.append_nil]; exact HD.out, World.grownBy.refl _ _⟩
  case round =>
    obtain ⟨k, hk, rfl, rfl, hO, hg⟩ := hrel
    have HO := Lib.hid hO
    have HGr := Lib.hid hg
    clear hO hg
    have hlen : (cs.take k ++ (dvL d (cs.drop k)).1).length = n := by rw [List.length_append, dvL_len, ← List.length_append, List.take_append_drop]; exact hn
    have hr := dvL_lt hd (cs.drop k)
    rcases k with _ | k
    · go_wp2
      go_ret
      rw [List.drop_zero] at hr
      exact ⟨ret_int (by omega), HO.out, HGr.out⟩
    · have hct := HO.out.cell (i := k) (by omega)
      have hfr := HO.out.frozen k
      have hxg := hG.get k
      have hget : (cs.take (k + 1) ++ (dvL d (cs.drop (k + 1))).1)[k]?.getD 0 = cs[k]?.getD 0 := by
        rw [List.getElem?_append_left (by rw [List.length_take]; omega), List.getElem?_take_of_lt (by omega)]
      rw [hget] at hct
      have HStep : Hid (dvL d (cs.drop k) = (((dvL d (cs.drop (k + 1))).2 * 4294967296 + cs[k]?.getD 0) / d :: (dvL d (cs.drop (k + 1))).1, ((dvL d (cs.drop (k + 1))).2 * 4294967296 + cs[k]?.getD 0) % d)) := by
        show _ = _
        rw [drop_cons_ cs k (by omega)]; rfl
      have hq : ((dvL d (cs.drop (k + 1))).2 * 4294967296 + cs[k]?.getD 0) / d < 4294967296 := by
        rw [Nat.div_lt_iff_lt_mul hd]
        have : ((dvL d (cs.drop (k + 1))).2 + 1) * 4294967296 ≤ d * 4294967296 := Nat.mul_le_mul_right _ hr
        omega
      have HX : Hid (bits .or .u64 (((dvL d (cs.drop (k + 1))).2 : Nat) * 4294967296) ((cs[k]?.getD 0 : Nat) : Int) = (((dvL d (cs.drop (k + 1))).2 * 4294967296 + cs[k]?.getD 0 : Nat) : Int)) := by
        show _ = _
        have e1 : (((dvL d (cs.drop (k + 1))).2 : Nat) : Int) * 4294967296 = (((dvL d (cs.drop (k + 1))).2 * 4294967296 : Nat) : Int) := by omega
        rw [e1, bits_or _ _ (by omega) (by omega), Nat.or_comm, Nat.mul_comm, show (4294967296 : Nat) = 2 ^ 32 from rfl, or_add (by omega), Nat.add_comm]
      have HQ : Hid (IntKind.u64.wrap ((bits .or .u64 (((dvL d (cs.drop (k + 1))).2 : Nat) * 4294967296) ((cs[k]?.getD 0 : Nat) : Int)).tdiv (d : Int)) % 4294967296 = ((((dvL d (cs.drop (k + 1))).2 * 4294967296 + cs[k]?.getD 0) / d : Nat) : Int)) := by
        show _ = _
        rw [HX.out, Int.tdiv_eq_ediv_of_nonneg (by omega), ← Int.natCast_ediv, wrap_nat]
        generalize ((dvL d (cs.drop (k + 1))).2 * 4294967296 + cs[k]?.getD 0) / d = q at hq ⊢
        omega
      have HR : Hid ((bits .or .u64 (((dvL d (cs.drop (k + 1))).2 : Nat) * 4294967296) ((cs[k]?.getD 0 : Nat) : Int)).tmod (d : Int) = ((((dvL d (cs.drop (k + 1))).2 * 4294967296 + cs[k]?.getD 0) % d : Nat) : Int)) := by
        show _ = _
        rw [HX.out, Int.tmod_eq_emod_of_nonneg (by omega), ← Int.natCast_emod]
      go_wp2
      go_roundw
      case rel =>
        refine ⟨k, by omega, by go_num, ?_, ?_, grownBy_trans HGr.out (grownBy_setCellAt _ _ _ _)⟩
        · rw [HStep.out]
          exact congrArg (Value.int IntKind.u64) HR.out
        · rw [HQ.out, HStep.out]
          have e := HO.out.set_ k (((dvL d (cs.drop (k + 1))).2 * 4294967296 + cs[k]?.getD 0) / d)
          have e2 : (cs.take (k + 1) ++ (dvL d (cs.drop (k + 1))).1).set k (((dvL d (cs.drop (k + 1))).2 * 4294967296 + cs[k]?.getD 0) / d) = cs.take k ++ (((dvL d (cs.drop (k + 1))).2 * 4294967296 + cs[k]?.getD 0) / d :: (dvL d (cs.drop (k + 1))).1) := by
            rw [take_snocD cs k (by omega), List.append_assoc]
            have hkl : (cs.take k).length = k := by rw [List.length_take]; omega
            have e3 := set_mid (cs.take k) [] ([cs[k]?.getD 0] ++ (dvL d (cs.drop (k + 1))).1) (((dvL d (cs.drop (k + 1))).2 * 4294967296 + cs[k]?.getD 0) / d) (by simp)
            rw [hkl] at e3
            exact e3
          rw [e2] at e
          exact e
      case measure => simp [intOf]
end Go.Proofs.YtbplbbkmfbjkfaaGreatDoor

/- wide.subProduct. -/
namespace Go.Proofs.YtbplbbkmfbjkfaaGreatDoor
open Go.RowKit

/-- A list's product with a limb, taken off the first limbs of another one: the limbs, what is to be borrowed. -/
def sbK (ps xs : List Nat) (y : Nat) : Nat → List Nat × Nat
  | 0 => ([], 0)
  | k + 1 => ((sbK ps xs y k).1 ++ [(ps[k]?.getD 0 + 4294967296 - ((sbK ps xs y k).2 + xs[k]?.getD 0 * y) % 4294967296) % 4294967296],
      ((sbK ps xs y k).2 + xs[k]?.getD 0 * y) / 4294967296 + (if ps[k]?.getD 0 < ((sbK ps xs y k).2 + xs[k]?.getD 0 * y) % 4294967296 then 1 else 0))
theorem sbK_len (ps xs : List Nat) (y k : Nat) : (sbK ps xs y k).1.length = k := by
  induction k with
  | zero => rfl
  | succ k ih => unfold sbK; rw [List.length_append, ih]; rfl
theorem sbK_good (ps xs : List Nat) (y k : Nat) : Good (sbK ps xs y k).1 := by
  induction k with
  | zero => exact Good.nil
  | succ k ih => exact ih.append (Good.nil.cons (Nat.mod_lt _ (by omega)))
theorem sbK_carry {ps xs : List Nat} {y : Nat} (_hp : Good ps) (hx : Good xs) (hy : y < 4294967296) (k : Nat) : (sbK ps xs y k).2 < 4294967296 := by
  induction k with
  | zero => exact Nat.zero_lt_succ _
  | succ k ih =>
    have hm := mul_bd (hx.get k) hy
    show ((sbK ps xs y k).2 + xs[k]?.getD 0 * y) / 4294967296 + _ < _
    split <;> omega
theorem sb_step (c p : Nat) (hp : p < 4294967296) : (p + 4294967296 - c % 4294967296) % 4294967296 + c = p + 4294967296 * (c / 4294967296 + (if p < c % 4294967296 then 1 else 0)) := by
  split <;> omega
theorem sbK_val {ps xs : List Nat} (hp : Good ps) (y k : Nat) : val (sbK ps xs y k).1 + val (xs.take k) * y = val (ps.take k) + 4294967296 ^ k * (sbK ps xs y k).2 := by
  induction k with
  | zero => simp [sbK, val_nil]
  | succ k ih =>
    have hs := sb_step ((sbK ps xs y k).2 + xs[k]?.getD 0 * y) (ps[k]?.getD 0) (hp.get k)
    have hm := congrArg (fun z => 4294967296 ^ k * z) hs
    simp only [Nat.mul_add] at hm
    rw [val_take_succ', val_take_succ']
    show val ((sbK ps xs y k).1 ++ [_]) + _ = _ + _ * (_ + _)
    rw [val_snoc, sbK_len, Nat.add_mul, Nat.mul_assoc, Nat.pow_succ, Nat.mul_assoc, Nat.mul_add]
    simp only [Nat.mul_add]
    omega

set_option maxRecDepth 100000 in
set_option maxHeartbeats 1000000 in
theorem subProduct_any (w : World) (g off m c n cx : Nat) (A : Option Addr) (cs xs : List Nat) (y : Nat) (hL : Ld w g cs) (hG : Good cs) (hX : Lm w g A n cx xs) (hy : y < 4294967296)
    (hm : n ≤ m) (hmc : m ≤ c) (hc : c ≤ 9223372036854775807) (hoff : off + n ≤ cs.length) (hn : n ≤ 1000000000) :
    Calls Tryz.prog 156 #[.slice (some ⟨g, off, none⟩) m c, .slice A n cx, .int .u32 (y : Int)] w fun e w' => e = .returned (.int .u32 ((sbK (cs.drop off) xs y n).2 : Nat)) ∧
      Ld w' g (spl cs off (sbK (cs.drop off) xs y n).1) ∧ w.grownBy w' (some g) := by
  have hcap := hX.cap
  have hmax := hX.max
  have hgs := hL.lt
  have HX := Lib.hid hX
  have HL := Lib.hid hL
  have HC := Lib.hid (fun k => sbK_carry (hG.drop off) hX.good hy k)
  clear hX hL
  go_enter Tryz.func156, Tryz.ntmps156
  go_wp2
  go_loopw [7, 17] (fun v i wr => ∃ k : Nat, k ≤ n ∧ i = .int .i64 k ∧ v = .int .u64 ((sbK (cs.drop off) xs y k).2 : Nat) ∧ Ld wr g (spl cs off (sbK (cs.drop off) xs y k).1) ∧ w.grownBy wr (some g)) (fun _ i _ => n - (intOf i).toNat)
  case atStart => exact ⟨0, Nat.zero_le _, rfl, rfl, by show Ld w g (spl cs off []); rw [spl_nil]; exact HL.out, World.grownBy.refl w _⟩
  case round =>
    obtain ⟨k, hk, rfl, rfl, hLk, hgk⟩ := hrel
    by_cases hlt : k < n
    · have hlen := sbK_len (cs.drop off) xs y k
      obtain ⟨b, bo, rfl, hb, hcx⟩ := (HX.out.grownLt hgk (Nat.le_of_lt hgs)).cell hlt
      have hct := hLk.cell (i := off + k) (by rw [spl_len (by omega)]; omega)
      have hat := spl_at (cs := cs) (off := off) (ts := (sbK (cs.drop off) xs y k).1) (by omega)
      rw [hlen] at hat
      rw [hat] at hct
      have hfr := hLk.frozen (off + k)
      have hcy := HC.out k
      have hxg := HX.out.good.get k
      have hpg := hG.get (off + k)
      have hmul := mul_bd hxg hy
      obtain ⟨E, hE⟩ : ∃ E : Nat, E = (sbK (cs.drop off) xs y k).2 + xs[k]?.getD 0 * y := ⟨_, rfl⟩
      have HE : Hid ((((sbK (cs.drop off) xs y k).2 : Nat) : Int) + ((xs[k]?.getD 0 : Nat) : Int) * ((y : Nat) : Int) = (E : Int)) := by show _ = _; rw [hE]; simp
      have hE9 : E < 18446744073709551616 := by omega
      have HS : Hid ((sbK (cs.drop off) xs y (k + 1)).2 = E / 4294967296 + (if cs[off + k]?.getD 0 < E % 4294967296 then 1 else 0)) := by
        show (((sbK (cs.drop off) xs y k).2 + xs[k]?.getD 0 * y) / 4294967296 + (if (cs.drop off)[k]?.getD 0 < ((sbK (cs.drop off) xs y k).2 + xs[k]?.getD 0 * y) % 4294967296 then 1 else 0)) = _
        rw [List.getElem?_drop, ← hE]
      have HS1 : Hid ((sbK (cs.drop off) xs y (k + 1)).1 = (sbK (cs.drop off) xs y k).1 ++ [(cs[off + k]?.getD 0 + 4294967296 - E % 4294967296) % 4294967296]) := by
        show (sbK (cs.drop off) xs y k).1 ++ [((cs.drop off)[k]?.getD 0 + 4294967296 - ((sbK (cs.drop off) xs y k).2 + xs[k]?.getD 0 * y) % 4294967296) % 4294967296] = _
        rw [List.getElem?_drop, ← hE]
      have HK := Lib.hid hLk
      have HSet := Lib.hid (spl_set (cs := cs) (off := off) (ts := (sbK (cs.drop off) xs y k).1) ((cs[off + k]?.getD 0 + 4294967296 - E % 4294967296) % 4294967296) (by omega))
      have HLen := Lib.hid hlen
      clear hLk hat hlen
      go_wp2
      go_roundw
      case rel =>
        refine ⟨k + 1, by omega, by go_num, ?_, ?_, grownBy_trans hgk (grownBy_setCellAt _ _ _ _)⟩
        · rw [HS.out, HE.out]
          refine congrArg (Value.int IntKind.u64) ?_
          rw [IntKind.wrap_u64, IntKind.wrap_u64]
          split <;> omega
        · have e := HK.out.set_ (off + k) ((cs[off + k]?.getD 0 + 4294967296 - E % 4294967296) % 4294967296)
          have e2 := HSet.out
          rw [HLen.out] at e2
          rw [e2, ← HS1.out] at e
          have e3 : IntKind.u64.wrap (((cs[off + k]?.getD 0 : Nat) : Int) - (E : Int) % 4294967296) % 4294967296 = (((cs[off + k]?.getD 0 + 4294967296 - E % 4294967296) % 4294967296 : Nat) : Int) := by
            rw [IntKind.wrap_u64]; omega
          rw [HE.out, e3]
          exact e
      case measure => simp [intOf]; omega
    · obtain rfl : k = n := by omega
      have hcy := HC.out k
      go_wp2
      go_ret
      exact ⟨rfl, hLk, hgk⟩

end Go.Proofs.YtbplbbkmfbjkfaaGreatDoor

/- The guess of a quotient's digit, in numbers. -/
namespace Go.Proofs.YtbplbbkmfbjkfaaGreatDoor
open Go.RowKit

/-- The guess of a quotient's digit from three limbs and two. -/
def gs (b1 b2 h u1 u2 : Nat) : Nat := min 4294967295 (((h * 4294967296 + u1) * 4294967296 + u2) / (b1 * 4294967296 + b2))

theorem gs_le (b1 b2 h u1 u2 : Nat) : gs b1 b2 h u1 u2 ≤ 4294967295 := Nat.min_le_left _ _
set_option maxRecDepth 100000 in
theorem gs_lt {b1 b2 h u1 u2 D R : Nat} (hw : 0 < b1) (hD : D * b1 + R = h * 4294967296 + u1) (hc : 4294967295 < D ∨ R * 4294967296 + u2 < D * b2) : gs b1 b2 h u1 u2 < D := by
  rcases hc with hc | hc
  · exact Nat.lt_of_le_of_lt (gs_le _ _ _ _ _) hc
  · refine Nat.lt_of_le_of_lt (show gs b1 b2 h u1 u2 ≤ ((h * 4294967296 + u1) * 4294967296 + u2) / (b1 * 4294967296 + b2) from Nat.min_le_right _ _) ?_
    rw [Nat.div_lt_iff_lt_mul (by omega), ← hD, Nat.mul_add, ← Nat.mul_assoc, Nat.add_mul, Nat.add_assoc]
    exact Nat.add_lt_add_left hc _
theorem le_min_ {a b c : Nat} (h1 : a ≤ b) (h2 : a ≤ c) : a ≤ min b c := by omega
theorem gs_eq {b1 b2 h u1 u2 D R : Nat} (hw : 0 < b1) (hD : D * b1 + R = h * 4294967296 + u1) (h1 : D ≤ 4294967295) (h2 : D * b2 ≤ R * 4294967296 + u2) (hq : gs b1 b2 h u1 u2 ≤ D) : gs b1 b2 h u1 u2 = D := by
  refine Nat.le_antisymm hq ?_
  have h3 : D ≤ ((h * 4294967296 + u1) * 4294967296 + u2) / (b1 * 4294967296 + b2) := by
    rw [Nat.le_div_iff_mul_le (by omega), ← hD, Nat.mul_add, ← Nat.mul_assoc, Nat.add_mul]
    omega
  unfold gs
  exact le_min_ h1 h3
theorem gs_break {b1 b2 h u1 u2 D R : Nat} (hw : 0 < b1) (hb2 : b2 < 4294967296) (hu1 : u1 < 4294967296) (hh : h ≤ b1) (hD : D * b1 + R = h * 4294967296 + u1) (hR : 4294967296 ≤ R) (hq : gs b1 b2 h u1 u2 ≤ D) : gs b1 b2 h u1 u2 = D := by
  have h1 : D ≤ 4294967295 := by
    rcases Nat.lt_or_ge 4294967295 D with hc | hc
    · have := Nat.mul_le_mul_right b1 (show 4294967296 ≤ D from hc)
      omega
    · exact hc
  refine gs_eq hw hD h1 ?_ hq
  have := mul_bd (show D < 4294967296 by omega) hb2
  omega
theorem gs_start {b1 b2 h u1 u2 D R : Nat} (hu : u2 < 4294967296) (hD : b1 * D + R = h * 4294967296 + u1) (hR : R < b1) : gs b1 b2 h u1 u2 ≤ D := by
  unfold gs
  refine Nat.le_trans (Nat.min_le_right _ _) (Nat.le_of_lt_succ ?_)
  rw [Nat.div_lt_iff_lt_mul (by omega), ← hD, Nat.mul_add, ← Nat.mul_assoc]
  have h3 : D.succ * b1 = b1 * D + b1 := by rw [Nat.succ_mul, Nat.mul_comm]
  rw [h3]
  have h5 : 0 ≤ D.succ * b2 := Nat.zero_le _
  omega

end Go.Proofs.YtbplbbkmfbjkfaaGreatDoor

/- wide.guess. -/
namespace Go.Proofs.YtbplbbkmfbjkfaaGreatDoor
open Go.RowKit

set_option maxRecDepth 100000 in
set_option maxHeartbeats 1000000 in
theorem guess_any (w : World) (g off m c n cb : Nat) (B : Option Addr) (cs ys : List Nat) (hL : Ld w g cs) (hG : Good cs) (hB : Lm w w.heap.size B n cb ys) (hn2 : 2 ≤ n) (hn9 : n ≤ 1000000000)
    (hm : n < m) (hoff : off + n < cs.length) (h1 : 1 ≤ ys[n - 1]?.getD 0) (hle : cs[off + n]?.getD 0 ≤ ys[n - 1]?.getD 0) :
    Calls Tryz.prog 155 #[.slice (some ⟨g, off, none⟩) m c, .slice B n cb] w fun e w' => e = .returned (.int .u32 (gs (ys[n - 1]?.getD 0) (ys[n - 2]?.getD 0) (cs[off + n]?.getD 0) (cs[off + (n - 1)]?.getD 0) (cs[off + (n - 2)]?.getD 0) : Nat)) ∧ ∃ d, w' = w.drewN d := by
  have hcap := hB.cap
  have hmax := hB.max
  have g1 := hB.good.get (n - 1)
  have g2 := hB.good.get (n - 2)
  have gh := hG.get (off + n)
  have gu1 := hG.get (off + (n - 1))
  have gu2 := hG.get (off + (n - 2))
  have ch := hL.cell (i := off + n) (by omega)
  have cu1 := hL.cell (i := off + (n - 1)) (by omega)
  have cu2 := hL.cell (i := off + (n - 2)) (by omega)
  obtain ⟨bb, bo, rfl, hbb, cb1⟩ := hB.cell (k := n - 1) (by omega)
  obtain ⟨bb', bo', e, _, cb2⟩ := hB.cell (k := n - 2) (by omega)
  cases e
  generalize ys[n - 1]?.getD 0 = b1 at *
  generalize ys[n - 2]?.getD 0 = b2 at *
  generalize cs[off + n]?.getD 0 = h at *
  generalize cs[off + (n - 1)]?.getD 0 = u1 at *
  generalize cs[off + (n - 2)]?.getD 0 = u2 at *
  clear hL hB hG hoff
  have i1 : ((n : Int) - 1).toNat = n - 1 := by omega
  have i2 : ((n : Int) - 2).toNat = n - 2 := by omega
  obtain ⟨hi, hhi⟩ : ∃ hi : Nat, hi = h * 4294967296 + u1 := ⟨_, rfl⟩
  have hbit : bits .or .u64 ((h : Int) * 4294967296) (u1 : Int) = (hi : Int) := by
    have e1 : (h : Int) * 4294967296 = ((h * 4294967296 : Nat) : Int) := by omega
    rw [e1, bits_or _ _ (by omega) (by omega), Nat.or_comm, Nat.mul_comm, show (4294967296 : Nat) = 2 ^ 32 from rfl, or_add (by omega), hhi]
    omega
  have hq0 : (hi : Int).tdiv (b1 : Int) = ((hi / b1 : Nat) : Int) := by rw [Int.tdiv_eq_ediv_of_nonneg (by omega), ← Int.natCast_ediv]
  have hr0 : (hi : Int).tmod (b1 : Int) = ((hi % b1 : Nat) : Int) := by rw [Int.tmod_eq_emod_of_nonneg (by omega), ← Int.natCast_emod]
  have hb0 : ¬ ((b1 : Int) = 0) := by omega
  have hdm := Nat.div_add_mod hi b1
  have hrl := Nat.mod_lt hi (show 0 < b1 by omega)
  have hq0' : (hi : Int) / (b1 : Int) = ((hi / b1 : Nat) : Int) := by rw [← Int.natCast_ediv]
  have hr0' : (hi : Int) % (b1 : Int) = ((hi % b1 : Nat) : Int) := by rw [← Int.natCast_emod]
  have hD9 := Nat.div_le_self hi b1
  generalize hi / b1 = D0 at *
  generalize hi % b1 = R0 at *
  obtain ⟨Q, hQ⟩ : ∃ Q, Q = gs b1 b2 h u1 u2 := ⟨_, rfl⟩
  have HI := Lib.hid hhi
  have HQ := Lib.hid hQ
  have hQ9 : Q ≤ 4294967295 := by rw [hQ]; exact gs_le _ _ _ _ _
  have hQ0 : Q ≤ D0 := by rw [hQ]; exact gs_start gu2 (by rw [← hhi]; exact hdm) hrl
  rw [← hQ]
  have hi9 : hi < 18446744073709551616 := by omega
  clear hhi hQ
  go_enter Tryz.func155, Tryz.ntmps155
  go_wp2
  go_quiet (fail)
  go_wp2
  go_quiet (fail)
  go_wp2
  go_loopw [7, 8] (fun x r wr => ∃ D R d : Nat, x = .int .u64 (D : Int) ∧ r = .int .u64 (R : Int) ∧ D * b1 + R = hi ∧ R < 4294967296 ∧ Q ≤ D ∧ wr = w.drewN d) (fun x _ _ => (intOf x).toNat)
  case atStart => exact ⟨D0, R0, _, rfl, rfl, by rw [Nat.mul_comm]; exact hdm, by omega, hQ0, drewN_add w _ _⟩
  case round =>
    obtain ⟨D, R, d, rfl, rfl, hDR, hR, hQD, rfl⟩ := hrel
    have hDle : D ≤ hi := by
      have := Nat.le_mul_of_pos_right D (show 0 < b1 by omega)
      omega
    by_cases hd : 4294967295 < D
    · have hlt : Q < D := by rw [HQ.out]; exact gs_lt (by omega) (by rw [← HI.out]; exact hDR) (.inl hd)
      have HDM : Hid ((D - 1) * b1 + (R + b1) = D * b1 + R) := by show _ = _; rw [Nat.sub_mul, Nat.one_mul]; have := Nat.le_mul_of_pos_left b1 (show 0 < D by omega); omega
      have hdi : (4294967295 : Int) < (D : Int) := by omega
      go_wp2_with fail
      go_quiet (fail)
      go_wp2
      · have hQE : Hid (Q = D - 1) := by
          show _ = _
          rw [HQ.out]
          exact gs_break (by omega) g2 gu1 hle (by rw [← HI.out, ← hDR]; exact HDM.out) (show 4294967296 ≤ R + b1 by omega) (by rw [← HQ.out]; omega)
        go_ret
        have hQE1 := hQE.out
        exact ⟨ret_int (by omega), _, rfl⟩
      · go_roundw
        case rel => exact ⟨D - 1, R + b1, _, by go_num, by go_num, by rw [← hDR]; exact HDM.out, by omega, by omega, rfl⟩
        case measure => simp [intOf]; omega
    · have hdd : decide ((4294967295 : Int) < (D : Int)) = false := by simp; omega
      have hmul := mul_bd (show D < 4294967296 by omega) g2
      obtain ⟨T, hT⟩ : ∃ T : Nat, T = R * 4294967296 + u2 := ⟨_, rfl⟩
      have hbit2 : bits .or .u64 ((R : Int) * 4294967296) (u2 : Int) = (T : Int) := by
        have e1 : (R : Int) * 4294967296 = ((R * 4294967296 : Nat) : Int) := by omega
        rw [e1, bits_or _ _ (by omega) (by omega), Nat.or_comm, Nat.mul_comm, show (4294967296 : Nat) = 2 ^ 32 from rfl, or_add (by omega), hT]
        omega
      have HT := Lib.hid hT
      clear hT
      by_cases hp : T < D * b2
      · have hlt : Q < D := by rw [HQ.out]; exact gs_lt (by omega) (by rw [← HI.out]; exact hDR) (.inr (by rw [← HT.out]; exact hp))
        have HDM : Hid ((D - 1) * b1 + (R + b1) = D * b1 + R) := by show _ = _; rw [Nat.sub_mul, Nat.one_mul]; have := Nat.le_mul_of_pos_left b1 (show 0 < D by omega); omega
        have hpi : (T : Int) < (D : Int) * (b2 : Int) := by rw [← Int.natCast_mul]; omega
        go_wp2_with fail
        go_quiet (fail)
        go_wp2
        · have hQE : Hid (Q = D - 1) := by
            show _ = _
            rw [HQ.out]
            exact gs_break (by omega) g2 gu1 hle (by rw [← HI.out, ← hDR]; exact HDM.out) (show 4294967296 ≤ R + b1 by omega) (by rw [← HQ.out]; omega)
          go_ret
          exact ⟨ret_int (by rw [hQE.out]; omega), _, rfl⟩
        · go_roundw
          case rel => exact ⟨D - 1, R + b1, _, by go_num, by go_num, by rw [← hDR]; exact HDM.out, by omega, by omega, rfl⟩
          case measure => simp [intOf]; omega
      · have hpd : decide ((T : Int) < (D : Int) * (b2 : Int)) = false := by rw [← Int.natCast_mul]; simp; omega
        have hQE : Hid (Q = D) := by show _ = _; rw [HQ.out]; exact gs_eq (by omega) (by rw [← HI.out]; exact hDR) (by omega) (by rw [← HT.out]; omega) (by rw [← HQ.out]; exact hQD)
        go_wp2_with fail
        go_quiet (fail)
        go_wp2
        go_ret
        exact ⟨ret_int (by rw [hQE.out]), _, rfl⟩
end Go.Proofs.YtbplbbkmfbjkfaaGreatDoor

/- A step of long division, in numbers. -/
namespace Go.Proofs.YtbplbbkmfbjkfaaGreatDoor
open Go.RowKit

theorem gs_bounds {V X W T P vl xl : Nat} (hV : V = vl + P * W) (hvl : vl < P) (hX : X = xl + P * T) (hxl : xl < P) (hXB : X < V * 4294967296) (hW : 4294967296 ≤ W) :
    X / V ≤ min 4294967295 (T / W) ∧ min 4294967295 (T / W) ≤ X / V + 1 := by
  have hV0 : 0 < V := by
    have := Nat.mul_le_mul (show 1 ≤ P by omega) hW
    omega
  have hq : X / V < 4294967296 := Nat.div_lt_of_lt_mul hXB
  have hqV := Nat.div_mul_le_self X V
  constructor
  · refine le_min_ (by omega) ?_
    rw [Nat.le_div_iff_mul_le (by omega)]
    have h1 : X / V * (P * W) ≤ X / V * V := Nat.mul_le_mul_left _ (by omega)
    have h2 : P * (X / V * W) < P * (T + 1) := by
      rw [Nat.mul_left_comm, Nat.mul_add, Nat.mul_one]
      omega
    have := Nat.lt_of_mul_lt_mul_left h2
    omega
  · obtain ⟨g, hg⟩ : ∃ g, g = min 4294967295 (T / W) := ⟨_, rfl⟩
    rw [← hg]
    have g1 : g ≤ 4294967295 := by omega
    have g2 : g ≤ T / W := by omega
    rw [Nat.le_div_iff_mul_le (by omega)] at g2
    clear hg
    rcases g with _ | g
    · exact Nat.zero_le _
    · refine Nat.succ_le_succ ?_
      rw [Nat.le_div_iff_mul_le hV0]
      rw [Nat.add_mul, Nat.one_mul] at g2
      have h3 : g * V ≤ g * (P * (W + 1)) := Nat.mul_le_mul_left _ (by rw [Nat.mul_add, Nat.mul_one]; omega)
      have h4 : g * (W + 1) ≤ T := by
        rw [Nat.mul_add, Nat.mul_one]
        omega
      have h6 : g * (P * (W + 1)) = P * (g * (W + 1)) := Nat.mul_left_comm _ _ _
      have h7 : P * (g * (W + 1)) ≤ P * T := Nat.mul_le_mul_left _ h4
      omega

/-- The guess was right. -/
theorem step_right {V X Y P S g h br : Nat} (hVP : V < P) (hX : X = Y + P * h) (hS : S + V * g = Y + P * br) (h1 : X / V ≤ g) (hV0 : 0 < V) (hle : br ≤ h) : X / V = g ∧ S = X % V ∧ h = br := by
  have h2 : P * h = P * br + P * (h - br) := by rw [← Nat.mul_add]; congr 1; omega
  have h3 : g ≤ X / V := by
    rw [Nat.le_div_iff_mul_le hV0, Nat.mul_comm]
    omega
  have hg : X / V = g := Nat.le_antisymm h1 h3
  have hm := Nat.div_add_mod X V
  have hl := Nat.mod_lt X hV0
  rw [hg] at hm
  have h4 : S + P * (h - br) = X % V := by omega
  have h5 : h - br = 0 := by
    rcases Nat.eq_zero_or_pos (h - br) with h | h
    · exact h
    · have := Nat.le_mul_of_pos_right P h
      omega
  rw [h5, Nat.mul_zero] at h4
  exact ⟨hg, by omega, by omega⟩
/-- The guess was 1 too great. -/
theorem step_over {V X Y P S M c g h br : Nat} (hVP : V < P) (hX : X = Y + P * h) (hS : S + V * g = Y + P * br) (hSP : S < P) (hM : M + P * c = V + S) (hMP : M < P) (h1 : g ≤ X / V + 1) (hV0 : 0 < V) (hlt : h < br) : X / V = g - 1 ∧ 1 ≤ g ∧ M = X % V ∧ c + h = br := by
  obtain ⟨t, rfl⟩ : ∃ t, br = h + t := ⟨br - h, by omega⟩
  rw [Nat.mul_add] at hS
  have h2' := Nat.le_mul_of_pos_right P (show 0 < t by omega)
  have h3 : X / V < g := Nat.div_lt_of_lt_mul (by omega)
  have hg : g = X / V + 1 := by omega
  have hm := Nat.div_add_mod X V
  have hl := Nat.mod_lt X hV0
  rw [hg, Nat.mul_add, Nat.mul_one] at hS
  have h4 : M + P * c = X % V + P * t := by omega
  have h5 : c = t := by
    rcases Nat.lt_trichotomy c t with k | k | k
    · obtain ⟨d, rfl⟩ : ∃ d, t = c + d := ⟨t - c, by omega⟩
      rw [Nat.mul_add] at h4
      have := Nat.le_mul_of_pos_right P (show 0 < d by omega)
      omega
    · exact k
    · obtain ⟨d, rfl⟩ : ∃ d, c = t + d := ⟨c - t, by omega⟩
      rw [Nat.mul_add] at h4
      have := Nat.le_mul_of_pos_right P (show 0 < d by omega)
      omega
  rw [h5] at h4
  exact ⟨by rw [hg, Nat.add_sub_cancel], by rw [hg]; exact Nat.le_add_left 1 _, by omega, by omega⟩

theorem val_take2 (xs : List Nat) (j : Nat) : val (xs.take (j + 2)) = val (xs.take j) + 4294967296 ^ j * (xs[j + 1]?.getD 0 * 4294967296 + xs[j]?.getD 0) := by
  rw [val_take_succ', val_take_succ', Nat.add_assoc]
  generalize xs[j + 1]?.getD 0 = y
  generalize xs[j]?.getD 0 = x
  congr 1
  rw [Nat.pow_succ, Nat.mul_assoc, ← Nat.mul_add]
  congr 1
  omega
theorem take3_alg (B P x y z : Nat) : P * (y * B + x) + P * B * B * z = P * ((z * B + y) * B + x) := by
  rw [Nat.mul_assoc, Nat.mul_assoc, ← Nat.mul_add, Nat.add_mul, Nat.mul_comm B (B * z), Nat.mul_comm B z]
  congr 1
  omega
theorem val_take3 (xs : List Nat) (j : Nat) : val (xs.take (j + 3)) = val (xs.take j) + 4294967296 ^ j * ((xs[j + 2]?.getD 0 * 4294967296 + xs[j + 1]?.getD 0) * 4294967296 + xs[j]?.getD 0) := by
  rw [val_take_succ', val_take2, Nat.add_assoc, Nat.pow_succ, Nat.pow_succ, take3_alg]
/-- What a list of limbs is, of which no more than j are other than 0. -/
theorem val_short {xs : List Nat} {j : Nat} (h : val xs < 4294967296 ^ j) : val (xs.take j) = val xs ∧ val (xs.drop j) = 0 := by
  rcases Nat.lt_or_ge xs.length j with hl | hl
  · rw [List.take_of_length_le (by omega), List.drop_of_length_le (by omega)]; exact ⟨rfl, rfl⟩
  · have e := val_split xs j hl
    rcases Nat.eq_zero_or_pos (val (xs.drop j)) with h0 | h0
    · rw [h0] at e; exact ⟨by omega, h0⟩
    · have := Nat.le_mul_of_pos_right (4294967296 ^ j) h0
      omega

/-- What the limbs of a part are, of which the higher ones are less than the divisor. -/
theorem part_facts {rs : List Nat} {V m k : Nat} (gr : Good rs) (hV : (digs V).length = m) (hm2 : 2 ≤ m) (hk : k + m < rs.length) (hlt : val (rs.drop (k + 1)) < V) :
    val (rs.drop k) = val ((rs.drop k).take m) + 4294967296 ^ m * rs[k + m]?.getD 0 ∧ rs[k + m]?.getD 0 ≤ (digs V)[m - 1]?.getD 0 ∧ V < 4294967296 ^ m ∧ val (rs.drop (k + m + 1)) = 0 ∧ 1 ≤ (digs V)[m - 1]?.getD 0 ∧
    val (rs.drop k) / V ≤ gs ((digs V)[m - 1]?.getD 0) ((digs V)[m - 2]?.getD 0) (rs[k + m]?.getD 0) (rs[k + (m - 1)]?.getD 0) (rs[k + (m - 2)]?.getD 0) ∧
    gs ((digs V)[m - 1]?.getD 0) ((digs V)[m - 2]?.getD 0) (rs[k + m]?.getD 0) (rs[k + (m - 1)]?.getD 0) (rs[k + (m - 2)]?.getD 0) ≤ val (rs.drop k) / V + 1 := by
  obtain ⟨j, rfl⟩ : ∃ j, m = j + 2 := ⟨m - 2, by omega⟩
  have hV0 : 0 < V := digs_pos.1 (by omega)
  have hVlt : V < 4294967296 ^ (j + 2) := digs_len.1 (Nat.le_of_eq hV)
  have hg := gr.get k
  have hd := val_step rs k
  have hXB : val (rs.drop k) < V * 4294967296 := by omega
  have hXP : val (rs.drop k) < 4294967296 ^ (j + 2 + 1) := by
    rw [Nat.pow_succ]
    exact Nat.lt_of_lt_of_le hXB (Nat.mul_le_mul_right _ (Nat.le_of_lt hVlt))
  obtain ⟨hs1, hs2⟩ := val_short hXP
  have e1 : ∀ i, (rs.drop k)[i]?.getD 0 = rs[k + i]?.getD 0 := fun i => by rw [List.getElem?_drop]
  have ht := val_take_succ' (rs.drop k) (j + 2)
  rw [hs1, e1] at ht
  have ht3 := val_take3 (rs.drop k) j
  rw [show j + 3 = j + 2 + 1 from rfl, hs1, e1, e1, e1] at ht3
  have hv2 := val_take2 (digs V) j
  rw [List.take_of_length_le (Nat.le_of_eq hV), digs_val] at hv2
  have hv1 := top_pos hV0
  rw [hV] at hv1
  have hpl : ∀ (xs : List Nat), Good xs → val (xs.take j) < 4294967296 ^ j := fun xs g => by
    refine Nat.lt_of_lt_of_le (val_lt (g.take j)) (pow_mono_ ?_)
    rw [List.length_take]; omega
  have gv1 := (digs_good V).get j
  refine ⟨ht, ?_, hVlt, by rwa [List.drop_drop] at hs2, Nat.pos_of_ne_zero hv1, ?_⟩
  · have h3 := val_take2 (rs.drop (k + 1)) j
    have h4 : val ((rs.drop (k + 1)).take (j + 2)) = val (rs.drop (k + 1)) := (val_short (Nat.lt_trans hlt hVlt)).1
    rw [h4, List.getElem?_drop, List.getElem?_drop] at h3
    have h5 := hpl _ (digs_good V)
    have h6 : k + 1 + (j + 1) = k + (j + 2) := by omega
    rw [h6] at h3
    show rs[k + (j + 2)]?.getD 0 ≤ (digs V)[j + 1]?.getD 0
    rcases Nat.lt_or_ge ((digs V)[j + 1]?.getD 0) (rs[k + (j + 2)]?.getD 0) with hc | hc
    · have h7 : 4294967296 ^ j * ((digs V)[j + 1]?.getD 0 * 4294967296 + (digs V)[j]?.getD 0 + 1) ≤ 4294967296 ^ j * (rs[k + (j + 2)]?.getD 0 * 4294967296 + rs[k + 1 + j]?.getD 0) := Nat.mul_le_mul_left _ (by omega)
      rw [Nat.mul_add _ _ 1, Nat.mul_one] at h7
      omega
    · exact hc
  · exact gs_bounds hv2 (hpl _ (digs_good V)) ht3 (hpl _ (gr.drop k)) hXB (by have h9 : (digs V)[j + 1]?.getD 0 ≠ 0 := hv1; omega)

theorem part_done {rs P : List Nat} {m k v : Nat} (hP : P.length = m) (hk : k + m < rs.length) (hz : val (rs.drop (k + m + 1)) = 0) (hv : val P = v) :
    val ((spl rs k (P ++ [0])).drop k) = v ∧ val (spl rs k (P ++ [0])) = val (rs.take k) + 4294967296 ^ k * v := by
  have hl : (rs.take k).length = k := by rw [List.length_take]; omega
  have e : val ((P ++ [0]) ++ rs.drop (k + (P ++ [0]).length)) = v := by
    rw [val_append, val_snoc, hv, List.length_append, hP, show k + (m + [0].length) = k + m + 1 from rfl, hz]
    simp
  unfold spl
  constructor
  · rw [List.drop_append_of_le_length (by omega), List.drop_of_length_le (by omega), List.nil_append]
    exact e
  · rw [val_append, hl, e]

theorem inv_step {rs qs rs' qs' : List Nat} {k U V X : Nat} (hk : k ≤ rs.length) (hX : X = val (rs.drop k)) (hI : val rs + 4294967296 ^ (k + 1) * (V * val (qs.drop (k + 1))) = U)
    (h1 : val rs' = val (rs.take k) + 4294967296 ^ k * (X % V)) (h2 : val (qs'.drop k) = X / V + 4294967296 * val (qs.drop (k + 1))) : val rs' + 4294967296 ^ k * (V * val (qs'.drop k)) = U := by
  have hs := val_split rs k hk
  rw [← hX] at hs
  have hm := Nat.div_add_mod X V
  rw [h1, h2, Nat.mul_add V, Nat.mul_add (4294967296 ^ k), Nat.mul_left_comm V, ← hI, hs, pow_succ_]
  have e1 : 4294967296 ^ k * X = 4294967296 ^ k * (V * (X / V)) + 4294967296 ^ k * (X % V) := by rw [← Nat.mul_add, hm]
  have e2 : 4294967296 * 4294967296 ^ k * (V * val (qs.drop (k + 1))) = 4294967296 ^ k * (4294967296 * (V * val (qs.drop (k + 1)))) := by rw [Nat.mul_comm 4294967296, Nat.mul_assoc]
  rw [e1, e2]
  omega

end Go.Proofs.YtbplbbkmfbjkfaaGreatDoor

