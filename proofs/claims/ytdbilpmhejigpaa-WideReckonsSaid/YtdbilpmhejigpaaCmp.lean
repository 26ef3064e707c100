/-
  The contract of wide.compare: lists of limbs are compared, the highest ones first.
-/
import Derived.Test.YtdbilpmhejigpaaW2
import Derived.Test.YtdbilpmhejigpaaIter
namespace Go.Proofs.Ytdbilpmhejigpaa
open Go.RowKit Go.Shelf
attribute [local go_sem] Oper.semAt_some

theorem cmpZ_nat (a b : Nat) : cmpZ (a : Int) (b : Int) = cmpN a b := by
  unfold cmpZ cmpN
  rcases Nat.lt_trichotomy a b with h | h | h
  · rw [if_pos (by omega), if_pos h]
  · subst h
    simp
  · rw [if_neg (by omega), if_neg (by omega), if_neg (by omega), if_neg (by omega)]
/-- Lists that agree at all indices from k on. -/
theorem drop_eq_of {xs ys : List Nat} {n : Nat} (hx : xs.length = n) (hy : ys.length = n) : ∀ (k : Nat), (∀ j, k ≤ j → j < n → xs[j]?.getD 0 = ys[j]?.getD 0) → xs.drop k = ys.drop k := by
  intro k h
  apply List.ext_getElem
  · simp [hx, hy]
  · intro i h1 h2
    rw [List.length_drop] at h1 h2
    rw [List.getElem_drop, List.getElem_drop]
    have e := h (k + i) (by omega) (by omega)
    rw [List.getElem?_eq_getElem (by omega), List.getElem?_eq_getElem (by omega)] at e
    exact e

set_option maxRecDepth 100000 in
set_option maxHeartbeats 2000000 in
theorem compare_in (F : Fence) (n : Nat) (h3 : F.fn 50) (h5 : F.fn 66) (h7 : F.fn 76) (h8 : F.fn 67) (hro : F.round = none) (hn : 4 ≤ n)
    (hcmp : ∀ (l : Nat) (a b : Int) (W : World), CallsIn (F.inRound l) (n - 1 - 1 - 1) Try.prog 67 #[.int .u32 a, .int .u32 b] W fun e w' => e = .returned (.int .i64 (cmpZ a b)) ∧ W = w')
    (A B : Option Addr) (len ca cb : Nat) (xs ys : List Nat) (w : World) (hA : Lm w w.heap.size A len ca xs) (hB : Lm w w.heap.size B len cb ys) :
    CallsIn F n Try.prog 50 #[.slice A len ca, .slice B len cb] w fun e W' => e = .returned (.int .i64 (cmpL xs ys)) ∧ Below w.heap.size w W' := by
  have h1 : 1 ≤ n := by omega
  have hcb := hB.cap
  have hmb := hB.max
  refine callsIn_of_wp_marks Try.func50 rfl h3 ?_ hro
  simp only [Try.ntmps50, List.size_toArray, List.length_cons, List.length_nil, Nat.reduceAdd, Nat.reduceSub, Array.replicate_succ, Array.replicate_zero, List.push_toArray, List.append_toArray, List.nil_append, List.cons_append]
  gi_wp2_with (gi_at_call 66; refine (back_in F (n - 1) h5 hro _ _ _ _).mono ?_; rintro e w' ⟨rfl, rfl⟩)
  have bB := Boxed.new w 22 (.slice B len cb)
  have bR := Boxed.new (w.alloc (.cells #[.slice B len cb] 22)) 3 (.int .i64 0)
  have bN := Boxed.new ((w.alloc (.cells #[.slice B len cb] 22)).alloc (.cells #[.int .i64 0] 3)) 22 (.slice A len ca)
  simp only [World.size_alloc] at bR bN
  have hB0 : Below w.heap.size w (((w.alloc (.cells #[.slice B len cb] 22)).alloc (.cells #[.int .i64 0] 3)).alloc (.cells #[.slice A len ca] 22)) := (((Below.refl _ w).alloc (Nat.le_refl _) _).alloc (by simp) _).alloc (by simp; omega) _
  refine wpIn_rangeFunc_ownG hro h1 (gf := 76) (lb := #[.pointer (some ⟨w.heap.size + 1 + 1, 0, none⟩)]) rfl h7 (enters_of Try.func76 (by kernel_rfl) rfl)
    (back_stops F (n - 1) h7 hro (by omega) (w.heap.size + 1 + 1) w.heap.size A len ca xs _ (by simp) (by simp; omega) bN.cell (hA.below hB0)) kpB_t (kpB_b (by simp; omega) (by simp)) (Below.refl _ _) (fun _ => rfl)
    (fun pre W => ((∀ k ∈ pre, xs[k.1]?.getD 0 = ys[k.1]?.getD 0) ∧ W.cell? ⟨w.heap.size, 0, none⟩ = some (.slice B len cb) ∧ W.cell? ⟨w.heap.size + 1, 0, none⟩ = some (.int .i64 0) ∧ W.frozen? ⟨w.heap.size + 1, 0, none⟩ = false) ∧ Below w.heap.size w W)
    (fun c pre W => (c = .ret ∧ ∃ ini last, pre = ini ++ [last] ∧ (∀ k ∈ ini, xs[k.1]?.getD 0 = ys[k.1]?.getD 0) ∧ xs[last.1]?.getD 0 ≠ ys[last.1]?.getD 0 ∧ W.cell? ⟨w.heap.size + 1, 0, none⟩ = some (.int .i64 (cmpZ (xs[last.1]?.getD 0 : Nat) (ys[last.1]?.getD 0 : Nat)))) ∧ Below w.heap.size w W)
    (OwnFrom.and (Own.from (fun s A B row hs hg hr => ⟨hs.1, cell_kept hs.2.1 hg hr, cell_kept hs.2.2.1 hg hr, (frozen_kept hs.2.2.1 hg hr).trans hs.2.2.2⟩) _) (ownFrom_below (Nat.le_refl _) (by simp; omega)))
    (fun c => OwnFrom.and (Own.from (fun s A B row hs hg hr => by obtain ⟨hc, ini, last, e1, e2, e3, e4⟩ := hs; exact ⟨hc, ini, last, e1, e2, e3, cell_kept e4 hg hr⟩) _) (ownFrom_below (Nat.le_refl _) (by simp; omega)))
    ⟨⟨by simp, ((bB.alloc _).alloc _).cell, (bR.alloc _).cell, (bR.alloc _).frozen⟩, hB0⟩
    (fun x => { tmps := #[.slice A len ca, .slice B len cb, undef, .pointer (some ⟨w.heap.size, 0, none⟩), .pointer (some ⟨w.heap.size + 1, 0, none⟩), .int .i64 (x.1 : Int), .int .u32 (xs[x.1]?.getD 0 : Nat), .slice A len ca, .int .i64 len, .slice B len cb, .int .i64 len, .bool false, undef, undef, undef, undef, undef, .slice A len ca, .func (.func 76) #[] #[.pointer (some ⟨w.heap.size + 1 + 1, 0, none⟩)], .int .i64 (x.1 : Int), .int .u32 (xs[x.1]?.getD 0 : Nat), undef, undef, undef, undef, undef, undef, undef, undef, undef, undef, undef, undef], defers := [] }) ?assign ?body ?done ?stop
  case assign =>
    intro l x W K hK
    gi_wp2
    exact hK
  case body =>
    rintro l pre ⟨k, hk⟩ W ⟨⟨hp, hcb0, hcr, hfr⟩, hBl⟩ _
    have HP := Lib.hid hp
    clear hp
    obtain ⟨b, off, rfl, hb, hc⟩ := (hB.below hBl).cell hk
    dsimp only
    by_cases hx : xs[k]?.getD 0 = ys[k]?.getD 0
    · have HX := Lib.hid hx
      have hx' : ((((xs[k]?.getD 0 : Nat) : Int) == ((ys[k]?.getD 0 : Nat) : Int))) = true := by simp [hx]
      have hx2 : ((((xs[k]?.getD 0 : Nat) : Int) != ((ys[k]?.getD 0 : Nat) : Int))) = false := by simp [hx]
      clear hx
      gi_wp2
      refine ⟨KeepsFrom.refl _ _, ⟨Below.refl _ _, rfl⟩, ⟨fun j hj => ?_, hcb0, hcr, hfr⟩, hBl⟩
      rcases List.mem_append.1 hj with hj | hj
      · exact HP.out j hj
      · have e := List.mem_singleton.1 hj
        subst e
        exact HX.out
    · have HX := Lib.hid hx
      have hx' : ((((xs[k]?.getD 0 : Nat) : Int) == ((ys[k]?.getD 0 : Nat) : Int))) = false := by simp; omega
      have hx2 : ((((xs[k]?.getD 0 : Nat) : Int) != ((ys[k]?.getD 0 : Nat) : Int))) = true := by simp; omega
      clear hx
      gi_wp2_with (refine ⟨fun _ => (by omega), ?_⟩; gi_at_call 67; refine (hcmp l _ _ _).mono ?_; rintro e w' ⟨rfl, rfl⟩)
      exact ⟨(KeepsOthers.setCell _ _ _).from _, ⟨rfl, pre, ⟨k, hk⟩, rfl, HP.out, HX.out, World.cell?_setCell_same' _ _ _ (by rw [hcr]; rfl)⟩, hBl.setCell (p := ⟨w.heap.size + 1, 0, none⟩) (by simp) _⟩
  case done =>
    rintro D zs W hD hzs ⟨⟨hne, hcb0, hcr, hfr⟩, hBl⟩ hK
    have HZ := Lib.hid hzs
    have HN := Lib.hid hne
    clear hzs hne
    gi_wp2
    have hK' := (KeepsOthers.setCell W ⟨w.heap.size + 1, 0, none⟩ (.int .i64 0)).same D _ hK rfl
    refine ⟨by simp, .inl ⟨_, _, rfl, run_takeDeferred hK', ?_⟩⟩
    have hc5 := cell_kept (World.cell?_setCell_same' W ⟨w.heap.size + 1, 0, none⟩ (.int .i64 0) (by rw [hcr]; rfl)) (grownBy_putObj' _ D (.deferred none)) (fun r e => by cases e; exact ⟨_, hK', rfl⟩)
    refine ⟨.int .i64 0, by simp [results, Try.f50, go_sem, hc5], ret_int ?_, (hBl.setCell (p := ⟨w.heap.size + 1, 0, none⟩) (by simp) _).trans (belowK_b (w := w) (Nat.le_refl _) _ D _ _ (by simp at hD; omega) hK' rfl rfl)⟩
    refine (cmpL_of_drop (drop_eq_of hA.len hB.len 0 fun j _ hj => ?_)).symm
    have hm : j ∈ zs.map (·.1) := by rw [HZ.out]; exact dsc_mem.2 ⟨Nat.zero_le _, hj⟩
    obtain ⟨k, hk, rfl⟩ := List.mem_map.1 hm
    exact HN.out k hk
  case stop =>
    rintro D c pre W hD ⟨k, hk, hpre⟩ ⟨⟨rfl, ini, last, e1, e2, e3, hcr⟩, hBl⟩ hK
    have H1 := Lib.hid e1
    have H2 := Lib.hid e2
    have H3 := Lib.hid e3
    have HP := Lib.hid hpre
    clear e1 e2 e3 hpre
    gi_wp2
    refine ⟨by simp, .inl ⟨_, _, rfl, run_takeDeferred hK, ?_⟩⟩
    have hc5 := cell_kept hcr (grownBy_putObj' _ D (.deferred none)) (fun r e => by cases e; exact ⟨_, hK, rfl⟩)
    refine ⟨_, by simp [results, Try.f50, go_sem, hc5]; rfl, ret_int ?_, hBl.trans (belowK_b (w := w) (Nat.le_refl _) W D _ _ (by simp at hD; omega) hK rfl rfl)⟩
    have hp := HP.out
    rw [H1.out, List.map_append] at hp
    have hkl : k < len := by
      rcases Nat.lt_or_ge k len with h | h
      · exact h
      · obtain rfl : k = len := by omega
        rw [dsc_self] at hp
        simp at hp
    rw [dsc_succ hkl] at hp
    obtain ⟨h5, h6⟩ := List.append_inj' hp rfl
    have h7 : last.1 = k := by simpa using h6
    rw [cmpZ_nat, h7]
    refine (cmpL_at hA.good hB.good hA.len hB.len hkl (drop_eq_of hA.len hB.len (k + 1) fun j h1 h2 => ?_) (by have h8 := H3.out; rwa [h7] at h8)).symm
    have hm : j ∈ ini.map (·.1) := by rw [h5]; exact dsc_mem.2 ⟨h1, h2⟩
    obtain ⟨i, hi, rfl⟩ := List.mem_map.1 hm
    exact H2.out i hi

theorem compare_eqlen (A B : Option Addr) (len ca cb : Nat) (xs ys : List Nat) (w : World) (hA : Lm w w.heap.size A len ca xs) (hB : Lm w w.heap.size B len cb ys) :
    Calls Try.prog 50 #[.slice A len ca, .slice B len cb] w fun e W' => e = .returned (.int .i64 (cmpL xs ys)) ∧ Below w.heap.size w W' :=
  (callsIn_wide (n := 6)).1 (compare_in Fence.wide 6 trivial trivial trivial trivial rfl (by omega) (fun l a b W => CallsIn.inRound l (callsIn_wide.2 (cmpu32_any W a b))) A B len ca cb xs ys w hA hB)

set_option maxRecDepth 100000 in
set_option maxHeartbeats 400000 in
theorem compare_len (A B : Option Addr) (n m ca cb : Nat) (xs ys : List Nat) (w : World) (hA : Lm w w.heap.size A n ca xs) (hB : Lm w w.heap.size B m cb ys) (hne : n ≠ m) :
    Calls Try.prog 50 #[.slice A n ca, .slice B m cb] w fun e W' => e = .returned (.int .i64 (cmpL xs ys)) ∧ Below w.heap.size w W' := by
  have h1 := hA.cap
  have h2 := hA.max
  have h3 := hB.cap
  have h4 := hB.max
  have HC : Hid (cmpL xs ys = cmpZ n m) := by
    show _ = _
    unfold cmpL cmpZ
    rw [hA.len, hB.len]
    rcases Nat.lt_or_ge n m with h | h
    · rw [if_pos h, if_pos (by omega)]
    · rw [if_neg (by omega), if_pos (by omega), if_neg (by omega), if_neg (by omega)]
  have hb : (((n : Int) == (m : Int))) = false := by simp; omega
  have hb2 : (((n : Int) != (m : Int))) = true := by simp; omega
  clear hne
  go_enter Try.func50, Try.ntmps50
  go_wp2_with (go_at_call 65; refine (cmpint_any _ _ _).mono ?_; rintro e w' ⟨rfl, rfl⟩)
  go_returns
  exact ⟨ret_int HC.out.symm, by go_grown⟩

theorem compare_any (A B : Option Addr) (n m ca cb : Nat) (xs ys : List Nat) (w : World) (hA : Lm w w.heap.size A n ca xs) (hB : Lm w w.heap.size B m cb ys) :
    Calls Try.prog 50 #[.slice A n ca, .slice B m cb] w fun e W' => e = .returned (.int .i64 (cmpL xs ys)) ∧ Below w.heap.size w W' := by
  by_cases h : n = m
  · subst h
    exact compare_eqlen A B n ca cb xs ys w hA hB
  · exact compare_len A B n m ca cb xs ys w hA hB h

end Go.Proofs.Ytdbilpmhejigpaa
