/- wide.difference of two numbers, the second not the greater one, is the slice of the limbs of the difference, new and trimmed. -/
import Derived.Test.YtdbilpmhejigpaaSum
namespace Go.Proofs.Ytdbilpmhejigpaa
open Go.RowKit Go.Shelf
attribute [local go_sem] Oper.semAt_some

theorem boxed_eq {W : World} {B : Nat} {t : TypeId} {v v' : Value} (h : Boxed W B t v) (e : v = v') : Boxed W B t v' := by subst e; exact h
theorem owns_eq {W : World} {base : Nat} {t : TypeId} {u : Value} {k : Nat} {us us' : List Value} (h : W.ownsRow base t 1 u k us) (e : us = us') : W.ownsRow base t 1 u k us' := by subst e; exact h

set_option maxRecDepth 100000 in
set_option maxHeartbeats 2000000 in
theorem diff_in (F : Fence) (q : Nat) (h3 : F.fn 44) (h5 : F.fn 60) (h7 : F.fn 74) (h8 : F.fn 64) (h9 : F.fn 53) (hro : F.round = none) (hq : 4 ≤ q)
    (hlimb : ∀ (W : World) (A : Option Addr) (m c : Nat) (xs : List Nat) (i : Int), Lm W W.heap.size A m c xs → 0 ≤ i → i ≤ 9223372036854775807 → CallsIn F (q - 1 - 1) Try.prog 64 #[.slice A m c, .int .i64 i] W fun e w' => e = .returned (.int .u64 (xs[i.toNat]?.getD 0 : Nat)) ∧ W = w')
    (htrim : ∀ (W : World) (B : Nat) (A : Option Addr) (m c : Nat) (xs : List Nat) (v : Nat), Lm W B A m c xs → val xs = v → CallsIn F (q - 1) Try.prog 53 #[.slice A m c] W fun e w' => e = .returned (.slice A (digs v).length c) ∧ W = w')
    (w : World) (A B : Option Addr) (n m ca cb : Nat) (xs ys : List Nat) (v : Nat) (hA : Lm w w.heap.size A n ca xs) (hB : Lm w w.heap.size B m cb ys) (hge : m ≤ n) (hn : n ≤ 100000000) (hle : val ys ≤ val xs) (hv : val xs - val ys = v) :
    CallsIn F q Try.prog 44 #[.slice A n ca, .slice B m cb] w fun e w' => ∃ A' c', e = .returned (.slice A' (digs v).length c') ∧ Lm w' w'.heap.size A' (digs v).length c' (digs v) ∧ Below w.heap.size w w' := by
  have h1 : 1 ≤ q := by omega
  obtain ⟨i0, hi0, hz0, hz1, hz2⟩ := info_parts u32_info
  have hca := hA.cap
  have hma := hA.max
  have hcb := hB.cap
  have hmb := hB.max
  have HA := Lib.hid hA
  have HB := Lib.hid hB
  have HV := Lib.hid hv
  clear hA hB hv
  have hmk := fun w => run_make0_u32 (n : Int) n rfl (by omega) w
  refine callsIn_of_wp_marks Try.func44 rfl h3 ?_ hro
  simp only [Try.ntmps44, List.size_toArray, List.length_cons, List.length_nil, Nat.reduceAdd, Nat.reduceSub, Array.replicate_succ, Array.replicate_zero, List.push_toArray, List.append_toArray, List.nil_append, List.cons_append]
  gi_wp2_with (gi_at_call 60; refine (col_in F (q - 1) h5 hro _ _ _ _ _ _ _).mono ?_; rintro e w' ⟨rfl, rfl⟩)
  clear hmk
  have r0 : (w.alloc (.cells ((zer n).map u32c).toArray 63)).ownsRow w.heap.size 63 1 (.slice (some ⟨w.heap.size, 0, none⟩) 0 n) 0 [] := World.ownsRow_made _ _ _ (Nat.le_refl _) (by simp only [maxLen]; omega) (by simp [zer])
  have bT := Boxed.new (w.alloc (.cells ((zer n).map u32c).toArray 63)) 22 (.slice (some ⟨w.heap.size, 0, none⟩) 0 n)
  have bC := Boxed.new ((w.alloc (.cells ((zer n).map u32c).toArray 63)).alloc (.cells #[.slice (some ⟨w.heap.size, 0, none⟩) 0 n] 22)) 65 (.int .u64 0)
  have bA := Boxed.new (((w.alloc (.cells ((zer n).map u32c).toArray 63)).alloc (.cells #[.slice (some ⟨w.heap.size, 0, none⟩) 0 n] 22)).alloc (.cells #[.int .u64 0] 65)) 22 (.slice A n ca)
  have bB := Boxed.new ((((w.alloc (.cells ((zer n).map u32c).toArray 63)).alloc (.cells #[.slice (some ⟨w.heap.size, 0, none⟩) 0 n] 22)).alloc (.cells #[.int .u64 0] 65)).alloc (.cells #[.slice A n ca] 22)) 22 (.slice B m cb)
  simp only [World.size_alloc] at bT bC bA bB
  have hB0 : Below w.heap.size w (((((w.alloc (.cells ((zer n).map u32c).toArray 63)).alloc (.cells #[.slice (some ⟨w.heap.size, 0, none⟩) 0 n] 22)).alloc (.cells #[.int .u64 0] 65)).alloc (.cells #[.slice A n ca] 22)).alloc (.cells #[.slice B m cb] 22)) := (((((Below.refl _ w).alloc (Nat.le_refl _) _).alloc (by simp) _).alloc (by simp; omega) _).alloc (by simp; omega) _).alloc (by simp; omega) _
  refine wpIn_rangeFunc_ownG hro h1 (gf := 74) (lb := #[.pointer (some ⟨w.heap.size + 1 + 1 + 1, 0, none⟩), .pointer (some ⟨w.heap.size + 1 + 1 + 1 + 1, 0, none⟩)]) rfl h7 (enters_of Try.func74 (by kernel_rfl) rfl)
    (col_stops F (q - 1) h7 h8 hro (by omega) hlimb (w.heap.size + 1 + 1 + 1) (w.heap.size + 1 + 1 + 1 + 1) w.heap.size A B n m ca cb xs ys _ (by simp) (by simp) (by simp; omega) ((bA.alloc _).cell) bB.cell (HA.out.below hB0) (HB.out.below hB0)) kpB_t (kpB_b (by simp; omega) (by simp)) (Below.refl _ _) (fun _ => rfl)
    (fun pre W => ((∃ u, Boxed W (w.heap.size + 1) 22 u ∧ W.ownsRow w.heap.size 63 1 u pre.length ((subP xs ys (ixs pre)).1.map u32c) ∧ True) ∧ Boxed W (w.heap.size + 1 + 1) 65 (.int .u64 ((subP xs ys (ixs pre)).2 : Nat)) ∧ Boxed W (w.heap.size + 1 + 1 + 1 + 1) 22 (.slice B m cb)) ∧ Below w.heap.size w W)
    (fun _ _ _ => False)
    (OwnFrom.and (OwnFrom.and (Own.from (holdsRow_own w.heap.size (w.heap.size + 1) 22 63 1 (fun pre : List (Idx n) => pre.length) (fun pre => (subP xs ys (ixs pre)).1.map u32c) (fun _ _ => True)) _) (OwnFrom.and (Own.from (boxed_own (w.heap.size + 1 + 1) 65 (fun pre : List (Idx n) => Value.int .u64 ((subP xs ys (ixs pre)).2 : Nat))) _) (Own.from (boxed_own (w.heap.size + 1 + 1 + 1 + 1) 22 (fun _ => .slice B m cb)) _))) (ownFrom_below (Nat.le_refl _) (by simp; omega)))
    (fun _ _ _ _ _ hs _ _ => hs)
    ⟨⟨⟨_, ((bT.alloc _).alloc _).alloc _, (((r0.alloc _).alloc _).alloc _).alloc _, trivial⟩, (bC.alloc _).alloc _, bB⟩, hB0⟩
    (fun x => { tmps := #[.slice A n ca, .slice B m cb, undef, undef, .slice none 0 0, .pointer (some ⟨w.heap.size + 1, 0, none⟩), .pointer (some ⟨w.heap.size + 1 + 1, 0, none⟩), .int .u64 (xs[x.1]?.getD 0 : Nat), .int .u64 (ys[x.1]?.getD 0 : Nat), undef, .slice A n ca, .int .i64 n, .slice (some ⟨w.heap.size, 0, none⟩) 0 n, .slice A n ca, .slice B m cb, .func (.func 74) #[] #[.pointer (some ⟨w.heap.size + 1 + 1 + 1, 0, none⟩), .pointer (some ⟨w.heap.size + 1 + 1 + 1 + 1, 0, none⟩)], .int .u64 (xs[x.1]?.getD 0 : Nat), .int .u64 (ys[x.1]?.getD 0 : Nat), undef, undef, undef, undef, undef, undef, undef, undef, undef, undef, undef, undef, undef, undef], defers := [] }) ?assign ?body ?done ?stop
  case assign =>
    intro l x W K hK
    gi_wp2
    exact hK
  case body =>
    rintro l pre ⟨k, hk⟩ W ⟨⟨⟨u, hu, hrow, _⟩, hcar, hbb⟩, hBl⟩ hlen
    have hc1 := subP_carry xs ys (ixs pre)
    have hl1 := subP_len xs ys (ixs pre)
    rw [ixs_len] at hl1
    have HSn := Lib.hid (subP_snoc xs ys (ixs pre) k)
    have hgx := HA.out.good.get k
    have hgy := HB.out.good.get k
    generalize hr : subP xs ys (ixs pre) = r at *
    obtain ⟨ts, cy⟩ := r
    have HR := Lib.hid hr
    clear hr
    dsimp only at hc1 hl1 hrow hcar HSn
    dsimp only
    have HX : Hid ((IntKind.u64.wrap (IntKind.u64.wrap (((xs[k]?.getD 0 : Nat) : Int) - ((ys[k]?.getD 0 : Nat) : Int)) - (cy : Int))) % 4294967296 = (((xs[k]?.getD 0 + 8589934592 - ys[k]?.getD 0 - cy) % 4294967296 : Nat) : Int)) := by show _ = _; rw [IntKind.wrap_u64, IntKind.wrap_u64]; omega
    have HN : Hid ((IntKind.u64.wrap (IntKind.u64.wrap (((xs[k]?.getD 0 : Nat) : Int) - ((ys[k]?.getD 0 : Nat) : Int)) - (cy : Int))) / 9223372036854775808 = ((if xs[k]?.getD 0 < ys[k]?.getD 0 + cy then 1 else 0 : Nat) : Int)) := by show _ = _; rw [IntKind.wrap_u64, IntKind.wrap_u64]; split <;> omega
    have HNew := Lib.hid (cell_one_new W (.int .u32 ((IntKind.u64.wrap (IntKind.u64.wrap (((xs[k]?.getD 0 : Nat) : Int) - ((ys[k]?.getD 0 : Nat) : Int)) - (cy : Int))) % 4294967296)) 63)
    have HRow := Lib.hid hrow
    have HU := Lib.hid hu
    have HC := Lib.hid hcar
    have HBB0 := Lib.hid hbb
    have hcc := hcar.cell
    have hcf := hcar.frozen
    have huc := hu.cell
    have hBs := hBl.size
    have HBl := Lib.hid hBl
    have HL1 := Lib.hid hl1
    clear hrow hbb hBl hu hcar
    gi_wp2_with (gi_at_builtin; refine wpListIn_append_own _ rfl _ _ 22 rfl w.heap.size 63 i0 (.int .u32 0) 1 4 slice_u32 hi0 hz0 hz1 hz2 rfl (by decide) _ _ _ rfl (HRow.out.alloc _) ⟨W.heap.size, 0, none⟩ 1 1 [.int .u32 ((IntKind.u64.wrap (IntKind.u64.wrap (((xs[k]?.getD 0 : Nat) : Int) - ((ys[k]?.getD 0 : Nat) : Int)) - (cy : Int))) % 4294967296)] rfl rfl HNew.out (by simp [Value.oneCell']) (by simp only [maxLen]; omega) (by omega) (by simp; omega) ?_; intro v' w1 hown' hgrow _; obtain ⟨g', cap', rfl⟩ := ownsRow_succ hown'; obtain ⟨hv1, hv2, hr2, hk2, hb2⟩ := HU.out.appended (by decide) HRow.out hBs (Nat.le_succ _) hown' hgrow; have hcar2 := (HC.out.alloc _).kept hgrow (HC.out.not_row (by decide) HRow.out); have hbb2 := (HBB0.out.alloc _).kept hgrow (HBB0.out.not_row (by decide) HRow.out); have hc1' := hv1.cell; have hf1 := hv1.frozen; have hcc2 := hcar2.cell; have hcf2 := hcar2.frozen)
    have hcar3 := hcar2.other (B' := w.heap.size + 1) (by omega) (.slice (some ⟨g', 0, none⟩) (pre.length + 1) cap')
    have hbb3 := (hbb2.other (B' := w.heap.size + 1) (by omega) (.slice (some ⟨g', 0, none⟩) (pre.length + 1) cap')).other (B' := w.heap.size + 1 + 1) (by omega) (.int .u64 ((IntKind.u64.wrap (IntKind.u64.wrap (((xs[k]?.getD 0 : Nat) : Int) - ((ys[k]?.getD 0 : Nat) : Int)) - (cy : Int))) / 9223372036854775808))
    have hbf := hb2.setCell (p := ⟨w.heap.size + 1 + 1, 0, none⟩) (by simp; omega) (.int .u64 ((IntKind.u64.wrap (IntKind.u64.wrap (((xs[k]?.getD 0 : Nat) : Int) - ((ys[k]?.getD 0 : Nat) : Int)) - (cy : Int))) / 9223372036854775808))
    refine ⟨(hk2.trans (KeepsOthers.setCell _ _ _)).from _, ⟨hbf, hbb3.cell.trans HBB0.out.cell.symm⟩, ⟨⟨⟨_, hv2.other (by omega) _, ?_⟩, ?_, hbb3⟩, HBl.out.trans hbf⟩⟩
    · have e := hr2.kept (grownBy_setCell' _ (w.heap.size + 1 + 1) (.int .u64 ((IntKind.u64.wrap (IntKind.u64.wrap (((xs[k]?.getD 0 : Nat) : Int) - ((ys[k]?.getD 0 : Nat) : Int)) - (cy : Int))) / 9223372036854775808))) (.inr (hcar3.not_row (by decide) hr2).symm)
      rw [ixs_snoc, HSn.out, List.length_append, List.map_append]
      have e2 : (.int .u32 ((IntKind.u64.wrap (IntKind.u64.wrap (((xs[k]?.getD 0 : Nat) : Int) - ((ys[k]?.getD 0 : Nat) : Int)) - (cy : Int))) % 4294967296) : Value) = u32c ((xs[k]?.getD 0 + 8589934592 - ys[k]?.getD 0 - cy) % 4294967296) := congrArg (Value.int IntKind.u32) HX.out
      exact ⟨owns_eq e (congrArg (fun y => ts.map u32c ++ [y]) e2), trivial⟩
    · have e := hcar3.set (.int .u64 ((IntKind.u64.wrap (IntKind.u64.wrap (((xs[k]?.getD 0 : Nat) : Int) - ((ys[k]?.getD 0 : Nat) : Int)) - (cy : Int))) / 9223372036854775808))
      rw [ixs_snoc, HSn.out]
      have e2 : (.int .u64 ((IntKind.u64.wrap (IntKind.u64.wrap (((xs[k]?.getD 0 : Nat) : Int) - ((ys[k]?.getD 0 : Nat) : Int)) - (cy : Int))) / 9223372036854775808) : Value) = .int .u64 ((if xs[k]?.getD 0 < ys[k]?.getD 0 + cy then 1 else 0 : Nat) : Int) := congrArg (Value.int IntKind.u64) HN.out
      exact boxed_eq e e2
  case done =>
    rintro D zs W hD hzs ⟨⟨⟨u, hu, hrow, _⟩, hcar, hbb⟩, hBl⟩ hK
    have hix : ixs zs = List.range n := hzs
    rw [hix, subP_range] at hrow hcar
    have hzl : zs.length = n := by
      have e := congrArg List.length hix
      rwa [ixs_len, List.length_range] at e
    rw [hzl] at hrow
    have hvl : Hid (val (subK xs ys n).1 = v) := by
      have e := subK_val HA.out.good HB.out.good n
      have hc1 := subK_carry xs ys n
      have hlt := val_lt (subK_good xs ys n)
      rw [subK_len] at hlt
      rw [List.take_of_length_le (by rw [HB.out.len]; exact hge), List.take_of_length_le (by rw [HA.out.len]; exact Nat.le_refl _)] at e
      have hv := HV.out
      show _ = _
      rcases Nat.eq_zero_or_pos (subK xs ys n).2 with h0 | h0
      · rw [h0, Nat.mul_zero] at e
        omega
      · have h2 : (subK xs ys n).2 = 1 := by omega
        rw [h2, Nat.mul_one] at e
        omega
    have hgd : Hid (Good (subK xs ys n).1) := subK_good xs ys n
    have huc := hu.cell
    have HBl := Lib.hid hBl
    have HKD := Lib.hid hK
    obtain ⟨A', c', rfl, hL⟩ := Lm.own hrow hgd.out
    have HL := Lib.hid hL
    clear hrow hBl hcar hbb hL hu
    gi_wp2_with (gi_at_call 53; refine (htrim _ _ _ _ _ _ v HL.out hvl.out).mono ?_; rintro e w2 ⟨rfl, rfl⟩)
    refine ⟨by simp, .inl ⟨_, _, rfl, run_takeDeferred HKD.out, ?_⟩⟩
    exact ⟨_, results_tmp rfl _ _ _, A', c', rfl, (HL.out.trim' hvl.out).putObj _ HKD.out rfl, HBl.out.trans (belowK_b (w := w) (Nat.le_refl _) _ D _ _ (by simp at hD; omega) HKD.out rfl rfl)⟩
  case stop =>
    rintro D c pre W _ _ h _
    exact h.elim

theorem difference_any (w : World) (A B : Option Addr) (n m ca cb : Nat) (xs ys : List Nat) (v : Nat) (hA : Lm w w.heap.size A n ca xs) (hB : Lm w w.heap.size B m cb ys) (hge : m ≤ n) (hn : n ≤ 100000000) (hle : val ys ≤ val xs) (hv : val xs - val ys = v) :
    Calls Try.prog 44 #[.slice A n ca, .slice B m cb] w fun e w' => ∃ A' c', e = .returned (.slice A' (digs v).length c') ∧ Lm w' w'.heap.size A' (digs v).length c' (digs v) ∧ Below w.heap.size w w' :=
  (callsIn_wide (n := 8)).1 (diff_in Fence.wide 8 trivial trivial trivial trivial trivial rfl (by omega) (fun W A m c xs i hL h0 h9 => callsIn_wide.2 (limb_any W A m c xs i hL h0 h9))
    (fun W B A m c xs v hL hv => callsIn_wide.2 (trim_any W B A m c xs v hL hv)) w A B n m ca cb xs ys v hA hB hge hn hle hv)

end Go.Proofs.Ytdbilpmhejigpaa
