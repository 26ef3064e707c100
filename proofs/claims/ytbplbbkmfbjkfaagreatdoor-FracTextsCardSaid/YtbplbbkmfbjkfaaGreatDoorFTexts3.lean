/- Lemmas of several claims. -/
import Derived.Laws.CopyOwn
import Derived.Deep.RegionWith
import Derived.Deep.LoopGhost
import Derived.Shelf.Strconv.AppendUint10
import Derived.Test.YtbplbbkmfbjkfaaGreatDoorProg
import Derived.Lib.AppendIntMem
import Derived.Lib.OthersKept
import Derived.Laws.RangeAny
import Derived.Lib.OwnKind
import Derived.Laws.OwnMore
import Derived.Lib.Strings
import Derived.Lib.Slices
import Derived.Lib.Walk
import Derived.Test.YtbplbbkmfbjkfaaGreatDoorRows
import Derived.ProofKit
import Derived.SizedLaws
import Derived.Lib.SmallJoins
import Derived.LaidMore
import Derived.Lay
import Derived.OpenShut
import Derived.Stop.LaidErr
import Derived.MakeChecks
import Derived.SevenTiedAt
import Derived.WalkLawsBesides
import Derived.Test.YtbplbbkmfbjkfaaGreatDoorFTexts2
/- wide.divideLong. -/
namespace Go.Proofs.YtbplbbkmfbjkfaaGreatDoor
open Go.RowKit

set_option maxRecDepth 100000 in
set_option maxHeartbeats 1000000 in
theorem lz32_any (w : World) (x : Nat) (h : x < 4294967296) :
    Calls Tryz.prog 153 #[.int .u32 (x : Int)] w fun e w' => e = .returned (.int .i64 ((32 - Lib.bitLen x : Nat) : Int)) ∧ w = w' := by
  have hb := bitLen32 x h
  go_enter Tryz.func153, Tryz.ntmps153
  go_wp2_with (go_at_call 139; refine (len32_any _ _ (by omega) (by omega)).mono ?_; rintro e w' ⟨rfl, rfl⟩)
  go_ret
  exact ⟨ret_int (by omega), rfl⟩

theorem Lm.addr {w : World} {B n c : Nat} {A : Option Addr} {xs : List Nat} (h : Lm w B A n c xs) (hn : 0 < n) : ∃ ad, A = some ad := by
  obtain ⟨b, off, e, _⟩ := h.at_ hn
  exact ⟨_, e⟩
/-- With the highest binary digit in its place. -/
theorem up_facts {b m : Nat} (hl : (digs b).length = m) (hm : 0 < m) : b * 2 ^ (32 - Lib.bitLen ((digs b)[m - 1]?.getD 0)) < 4294967296 ^ m ∧ 2147483648 * 4294967296 ^ (m - 1) ≤ b * 2 ^ (32 - Lib.bitLen ((digs b)[m - 1]?.getD 0)) ∧ (digs (b * 2 ^ (32 - Lib.bitLen ((digs b)[m - 1]?.getD 0)))).length = m ∧ 1 ≤ Lib.bitLen ((digs b)[m - 1]?.getD 0) := by
  have hb : 0 < b := digs_pos.1 (by omega)
  obtain ⟨h1, h2, h3⟩ := lenS_pos hb
  have e : lenS (digs b) = 32 * (m - 1) + Lib.bitLen ((digs b)[m - 1]?.getD 0) := by unfold lenS; rw [if_neg (by omega), hl]
  have hb32 := bitLen32 _ ((digs_good b).get (m - 1))
  obtain ⟨hx, _, _⟩ := bitLen_bounds (x := (digs b)[m - 1]?.getD 0) (by have := top_pos hb; rwa [hl] at this) ((digs_good b).get (m - 1))
  have p1 : b * 2 ^ (32 - Lib.bitLen ((digs b)[m - 1]?.getD 0)) < 4294967296 ^ m := by
    have h4 := (Nat.mul_lt_mul_right (a := 2 ^ (32 - Lib.bitLen ((digs b)[m - 1]?.getD 0))) (Nat.pow_pos (by omega))).2 h3
    rw [← Nat.pow_add] at h4
    rw [show (4294967296 : Nat) = 2 ^ 32 from rfl, ← Nat.pow_mul]
    have e5 : lenS (digs b) + (32 - Lib.bitLen ((digs b)[m - 1]?.getD 0)) = 32 * m := by omega
    rwa [e5] at h4
  have p2 : 2147483648 * 4294967296 ^ (m - 1) ≤ b * 2 ^ (32 - Lib.bitLen ((digs b)[m - 1]?.getD 0)) := by
    have h4 := Nat.mul_le_mul_right (2 ^ (32 - Lib.bitLen ((digs b)[m - 1]?.getD 0))) h2
    rw [← Nat.pow_add] at h4
    rw [show (4294967296 : Nat) = 2 ^ 32 from rfl, ← Nat.pow_mul, show (2147483648 : Nat) = 2 ^ 31 from rfl, ← Nat.pow_add]
    have e5 : lenS (digs b) - 1 + (32 - Lib.bitLen ((digs b)[m - 1]?.getD 0)) = 31 + 32 * (m - 1) := by omega
    rwa [e5] at h4
  refine ⟨p1, p2, ?_, hx⟩
  generalize b * 2 ^ (32 - Lib.bitLen ((digs b)[m - 1]?.getD 0)) = v at p1 p2
  refine Nat.le_antisymm (digs_len.2 p1) ?_
  rcases Nat.lt_or_ge (digs v).length m with h | h
  · have h5 := digs_len.1 (show (digs v).length ≤ m - 1 by omega)
    have hp := pow_pos_ (m - 1)
    omega
  · exact h

/-- copy(to, from): to a block of the call's own that is known whole, and is not shorter. -/
theorem wpList_copy_u32 {w : World} {ops : Array Oper} {rest : List Oper} {o : Oper} {a : Act} {Q : Exit → Act → World → Prop} (hgd : o.guard = none) (d s : Operand)
    (ho : o.op = .call { callee := .builtin .copy, args := #[d, s], argTypes := #[22, 22] }) (g k c : Nat) (cs : List Nat) (hL : Ld w g cs) (hk : cs.length = k) (hd : a.eval d = .slice (some ⟨g, 0, none⟩) k c)
    (B : Nat) (ad : Addr) (m c' : Nat) (xs : List Nat) (hs : a.eval s = .slice (some ad) m c') (hX : Lm w B (some ad) m c' xs) (hm : m ≤ k)
    (h : ∀ w', Ld w' g (xs ++ cs.drop m) → Below g w w' → wpList Tryz.prog ops Q rest (a.put o.dst (goInt m)) w') : wpList Tryz.prog ops Q (o :: rest) a w := by
  obtain ⟨i0, hi0, hz0, hz1, hz2⟩ := info_parts u32_info
  have hl := hX.len
  have e : (xs.map u32c).length = m := by rw [List.length_map, hl]
  refine wpList_copy_own hgd d s 22 22 ho 79 slice_u32 (by rw [hi0]; show some i0.size = some 1; rw [hz1]) g 0 k c ad m c' hd hs _ 79 hL (xs.map u32c) (by rw [e]; exact (Nat.min_eq_left hm).symm) hX.cells (by simp; omega) (u32c_one xs) ?_
  rw [e]
  refine h _ ?_ (below_setRow (Below.refl _ _) (Nat.le_refl _) _)
  have hr := setRow_heap w g _ ((cs.map u32c).toArray.toList.take 0 ++ (xs.map u32c ++ (cs.map u32c).toArray.toList.drop (0 + m))).toArray 79 _ hL
  unfold Ld
  rw [hr]
  simp [List.map_drop]

theorem Good.set {qs : List Nat} (g : Good qs) {q : Nat} (hq : q < 4294967296) (k : Nat) : Good (qs.set k q) := fun x hx => by
  rcases List.mem_or_eq_of_mem_set hx with h | h
  · exact g x h
  · rw [h]; exact hq
theorem val_set_drop {qs : List Nat} {k : Nat} (q : Nat) (hk : k < qs.length) : val ((qs.set k q).drop k) = q + 4294967296 * val (qs.drop (k + 1)) := by
  rw [val_step, List.drop_set_of_lt (Nat.lt_succ_self k), List.getElem?_set_self hk]
  rfl
theorem spl_drop_take {rs S : List Nat} {k : Nat} (t : Nat) (h : k + S.length < rs.length) : ((spl rs k (S ++ [t])).drop k).take S.length = S := by
  have hl : (rs.take k).length = k := by rw [List.length_take]; omega
  unfold spl
  rw [List.drop_append_of_le_length (by omega), List.drop_of_length_le (by omega), List.nil_append, List.append_assoc, List.take_left]
theorem spl_at_last {rs S : List Nat} {k : Nat} (t : Nat) (h : k + S.length < rs.length) : (spl rs k (S ++ [t]))[k + S.length]?.getD 0 = t := by
  have hl : (rs.take k).length = k := by rw [List.length_take]; omega
  unfold spl
  rw [List.getElem?_append_right (by omega), hl, Nat.add_sub_cancel_left, List.append_assoc, List.getElem?_append_right (Nat.le_refl _), Nat.sub_self]
  rfl
theorem spl_set_last {rs S : List Nat} {k : Nat} (t u : Nat) (h : k + S.length < rs.length) : (spl rs k (S ++ [t])).set (k + S.length) u = spl rs k (S ++ [u]) := by
  have hl : (rs.take k).length = k := by rw [List.length_take]; omega
  have e := set_mid (rs.take k) S ([t] ++ rs.drop (k + (S ++ [t]).length)) u (by simp)
  unfold spl
  rw [hl] at e
  rw [List.append_assoc, e]
  simp
theorem spl_spl {rs S M : List Nat} {k : Nat} (t : Nat) (h : k + S.length < rs.length) (hM : M.length = S.length) : spl (spl rs k (S ++ [t])) k M = spl rs k (M ++ [t]) := by
  have hl : (rs.take k).length = k := by rw [List.length_take]; omega
  have e1 : (spl rs k (S ++ [t])).take k = rs.take k := by
    unfold spl
    rw [List.take_append_of_le_length (by omega), List.take_of_length_le (by omega)]
  have e2 : (spl rs k (S ++ [t])).drop (k + M.length) = [t] ++ rs.drop (k + (S ++ [t]).length) := by
    unfold spl
    rw [hM, List.append_assoc, ← List.append_assoc, List.drop_append, List.drop_of_length_le (by rw [List.length_append, hl]; exact Nat.le_refl _), List.nil_append, List.length_append, hl, Nat.sub_self, List.drop_zero]
  show (spl rs k (S ++ [t])).take k ++ (M ++ (spl rs k (S ++ [t])).drop (k + M.length)) = rs.take k ++ ((M ++ [t]) ++ rs.drop (k + (M ++ [t]).length))
  rw [e1, e2, List.append_assoc M, List.length_append, List.length_append, hM]

set_option maxRecDepth 100000 in
set_option maxHeartbeats 1000000 in
theorem divideLong_ow (w : World) (A B : Option Addr) (n m ca cb a b : Nat) (hA : Lm w w.heap.size A n ca (digs a)) (hB : Lm w w.heap.size B m cb (digs b)) (hm2 : 2 ≤ m) (hle : b ≤ a) (hn9 : n ≤ 1000000) :
    Calls Tryz.prog 129 #[.slice A n ca, .slice B m cb] w fun e w' => ∃ Q cq R cr, e = .returned (.tuple #[.slice Q (digs (a / b)).length cq, .slice R (digs (a % b)).length cr]) ∧
      Lm w' w'.heap.size Q (digs (a / b)).length cq (digs (a / b)) ∧ Ow w' w.heap.size (.slice R (digs (a % b)).length cr) (digs (a % b)) ∧ Below w.heap.size w w' := by
  have hcA := hA.cap
  have hxA := hA.max
  have hcB := hB.cap
  have hxB := hB.max
  have hlA := hA.len
  have hlB := hB.len
  have hmn : m ≤ n := by rw [← hlA, ← hlB]; exact digs_mono hle
  have gt := hB.good.get (m - 1)
  obtain ⟨bb, bo, e, hbb, cb1⟩ := hB.cell (k := m - 1) (by omega)
  have hf := up_facts hlB (by omega)
  obtain ⟨up, hup⟩ : ∃ up, up = 32 - Lib.bitLen ((digs b)[m - 1]?.getD 0) := ⟨_, rfl⟩
  have hup9 : up ≤ 31 := by omega
  rw [← hup] at hf
  obtain ⟨V, hV⟩ : ∃ V, V = b * 2 ^ up := ⟨_, rfl⟩
  obtain ⟨U, hU⟩ : ∃ U, U = a * 2 ^ up := ⟨_, rfl⟩
  rw [← hV] at hf
  have HUP := Lib.hid hup
  have HUB : Hid (U < 2147483648 * 4294967296 ^ n) := by
    show _ < _
    have h1 := digs_len.1 (Nat.le_of_eq hlA)
    rw [hU, Nat.mul_comm]
    exact Nat.mul_lt_mul_of_le_of_lt (Nat.pow_le_pow_right (by omega) hup9) h1 (by decide)
  have HDiv : Hid (U / V = a / b ∧ U % V = a % b * 2 ^ up) := by
    show _ ∧ _
    rw [hU, hV]
    exact ⟨Nat.mul_div_mul_right _ _ (Nat.pow_pos (by omega)), Nat.mul_mod_mul_right _ _ _⟩
  have HV : Hid (val (digs b) * 2 ^ up = V) := by show _ = _; rw [digs_val, hV]
  have HU : Hid (val (digs a) * 2 ^ up = U) := by show _ = _; rw [digs_val, hU]
  have HF := Lib.hid hf
  have HLA := Lib.hid hlA
  have HUl : Hid ((digs U).length ≤ n + 1) := by
    show _ ≤ _
    have h1 := digs_len.1 (Nat.le_of_eq hlA)
    refine digs_len.2 ?_
    rw [hU, Nat.pow_succ]
    exact Nat.mul_lt_mul_of_lt_of_le h1 (Nat.pow_le_pow_right (by omega) (show up ≤ 32 by omega)) (by decide)
  have hap : 0 < a := by
    have := digs_pos (n := b)
    omega
  have HUp : Hid (0 < (digs U).length) := by
    show 0 < _
    rw [digs_pos, hU]
    exact Nat.mul_pos hap (Nat.pow_pos (by omega))
  clear hup hV hU hf
  have hmk := fun w => run_make_u32 ((n : Int) + 1) ((n : Int) + 1) (n + 1) (by omega) (by omega) (by omega) w
  have hmk2 := fun w => run_make_u32 ((n : Int) + 1 - (m : Int)) ((n : Int) + 1 - (m : Int)) (n + 1 - m) (by omega) (by omega) (by omega) w
  have i1 : ((m : Int) - 1).toNat = m - 1 := by omega
  have HA := Lib.hid hA
  have HB := Lib.hid hB
  clear hA hB hlA hlB
  subst e
  go_enter Tryz.func129, Tryz.ntmps129
  go_wp2_with (first
    | (go_at_call 153; refine (lz32_any _ _ gt).mono ?_; rintro e w1 ⟨rfl, rfl⟩; rw [← HUP.out])
    | (go_at_call 154; refine (left_any _ A _ _ _ _ U ((HA.out.via hb1).box _) (by omega) (by omega) HU.out).mono ?_; rintro e w2 ⟨B2, c2, rfl, hL2, hb2⟩; obtain ⟨a2, rfl⟩ := hL2.addr HUp.out; have hD2 := (Ld.new w1 (n + 1)).below hb2 (by simp))
    | (with_reducible refine wpList_copy_u32 rfl _ _ rfl w1.heap.size (n + 1) (n + 1) (zer (n + 1)) hD2 (zer_len _) rfl _ _ _ _ (digs U) rfl hL2 HUl.out ?_; intro w3 hD3 hb3)
    | (go_at_call 154; refine (left_any _ _ _ _ _ _ V HB.out (by omega) (by omega) HV.out).mono ?_; rintro e w1 ⟨B1, c1, rfl, hL1, hb1⟩; rw [HF.out.2.2.1] at hL1 ⊢))
  have hg1 : w1.heap.size < w3.heap.size := hD3.lt
  have hB1 : Below w1.heap.size w1 w3 := (((Below.refl _ _).alloc (Nat.le_refl _) _).trans (hb2.mono (by simp))).trans hb3
  have HB0 := Lib.hid hb1
  have HL1 := Lib.hid hL1
  have HB1 := Lib.hid hB1
  have HD3 := Lib.hid hD3
  clear hD2 hL2 hb2 hb3 hL1 hb1 hB1 hD3 hmk hmk2
  go_loopw [9] (fun i wr => ∃ (k : Nat) (rs qs : List Nat), k ≤ n + 1 - m ∧ i = .int .i64 ((k : Int) - 1) ∧ Ld wr w1.heap.size rs ∧ Good rs ∧ rs.length = n + 1 ∧ Ld wr w3.heap.size qs ∧ Good qs ∧ qs.length = n + 1 - m ∧
      val (rs.drop k) < V ∧ val rs + 4294967296 ^ k * (V * val (qs.drop k)) = U ∧ Below w1.heap.size w1 wr) (fun i _ => (intOf i + 1).toNat)
  case atStart =>
    have hrl : (digs U ++ (zer (n + 1)).drop (digs U).length).length = n + 1 := by have := HUl.out; simp [zer]; omega
    have hrv : val (digs U ++ (zer (n + 1)).drop (digs U).length) = U := by
      rw [val_append, digs_val, val_zero (xs := (zer (n + 1)).drop (digs U).length) (fun x hx => (List.mem_replicate.1 (List.mem_of_mem_drop hx)).2)]
      rfl
    have hgr : Good (digs U ++ (zer (n + 1)).drop (digs U).length) := (digs_good U).append ((zer_good _).drop _)
    refine ⟨n + 1 - m, _, zer (n + 1 - m), Nat.le_refl _, rfl, HD3.out.below ((Below.refl _ _).alloc (Nat.le_refl _) _) hg1, hgr, hrl, Ld.new _ _, zer_good _, zer_len _, ?_, ?_, HB1.out.alloc (Nat.le_of_lt hg1) _⟩
    · rw [val_drop _ hgr, hrv]
      refine Nat.div_lt_of_lt_mul (Nat.lt_of_lt_of_le HUB.out ?_)
      have h5 := Nat.mul_le_mul_left (4294967296 ^ (n + 1 - m)) HF.out.2.1
      rw [Nat.mul_left_comm, ← Nat.pow_add, show n + 1 - m + (m - 1) = n by omega] at h5
      exact h5
    · rw [hrv, List.drop_of_length_le (by rw [zer_len]; exact Nat.le_refl _)]
      simp [val_nil]
  case round =>
    obtain ⟨k, rs, qs, hk, rfl, hR, hGR, hlR, hQ, hGQ, hlQ, hI1, hI2, hb⟩ := hrel
    have HR := Lib.hid hR
    have HQ := Lib.hid hQ
    have HI1 := Lib.hid hI1
    have HI2 := Lib.hid hI2
    have HBl := Lib.hid hb
    have HGR := Lib.hid hGR
    have HGQ := Lib.hid hGQ
    clear hR hQ hI1 hI2 hb hGR hGQ
    rcases k with _ | k
    · have hQe : Hid (val qs = a / b) := by
        show _ = _
        have h1 := HI1.out
        have h2 := HI2.out
        simp only [List.drop_zero, Nat.pow_zero, Nat.one_mul] at h1 h2
        rw [← HDiv.out.1, ← h2, Nat.add_mul_div_left _ _ (by omega), Nat.div_eq_of_lt h1, Nat.zero_add]
      have hRe : Hid (val rs = a % b * 2 ^ up) := by
        show _ = _
        have h1 := HI1.out
        have h2 := HI2.out
        simp only [List.drop_zero, Nat.pow_zero, Nat.one_mul] at h1 h2
        rw [← HDiv.out.2, ← h2, Nat.add_mul_mod_self_left, Nat.mod_eq_of_lt h1]
      have HLq : Hid (Lm wr wr.heap.size (some ⟨w3.heap.size, 0, none⟩) (n + 1 - m) (n + 1 - m) qs) := by
        have e := HQ.out.lm HGQ.out (off := 0) (n := n + 1 - m) (c := n + 1 - m) (by omega) (Nat.le_refl _) (by omega)
        rwa [List.drop_zero, List.take_of_length_le (by omega)] at e
      have HLr : Hid (Lm wr wr.heap.size (some ⟨w1.heap.size, 0, none⟩) (n + 1) (n + 1) rs) := by
        have e := HR.out.lm HGR.out (off := 0) (n := n + 1) (c := n + 1) (by omega) (Nat.le_refl _) (by omega)
        rwa [List.drop_zero, List.take_of_length_le (by omega)] at e
      have hll : (digs (a % b * 2 ^ up)).length ≤ n + 1 := by
        have e := HLr.out.trim' hRe.out
        have e2 := val_lt HLr.out.good
        rw [hRe.out, HLr.out.len] at e2
        exact digs_len.2 e2
      go_wp2_with fail
      refine (trim_any _ _ _ _ _ _ (a / b) HLq.out hQe.out).mono ?_
      rintro e w8 ⟨rfl, rfl⟩
      go_wp2_with fail
      refine (trim_any _ _ _ _ _ _ (a % b * 2 ^ up) HLr.out hRe.out).mono ?_
      rintro e w8 ⟨rfl, rfl⟩
      go_wp2_with fail
      refine (right_ow wr _ _ _ up (a % b * 2 ^ up) (a % b) (HLr.out.trim' hRe.out) (by omega) (by omega) (Nat.mul_div_cancel _ (Nat.pow_pos (by omega)))).mono ?_
      rintro e w9 ⟨A9, c9, rfl, hL9, hb9⟩
      go_wp2
      go_ret2
      exact ⟨_, _, _, _, rfl, (HLq.out.trim' hQe.out).via hb9, hL9.mono (Nat.le_trans HB0.out.size HBl.out.size), HB0.out.trans ((HBl.out.trans (hb9.mono HBl.out.size)).mono HB0.out.size)⟩
    · have hkm : k + m < rs.length := by omega
      have HP := Lib.hid (part_facts HGR.out HF.out.2.2.1 hm2 hkm HI1.out)
      have hne : ¬ (n + 1 = k) := by omega
      have HLb := Lib.hid ((HL1.out.below HBl.out))
      go_wp2_with fail
      rw [show k + m + 1 - k = m + 1 by omega]
      refine (guess_any wr w1.heap.size k (m + 1) (n + 1 - k) m c1 B1 rs (digs V) HR.out HGR.out (HLb.out.mono HBl.out.size) hm2 (by omega) (by omega) hkm HP.out.2.2.2.2.1 HP.out.2.1).mono ?_
      rintro e w4 ⟨rfl, d4, rfl⟩
      obtain ⟨D, hD⟩ : ∃ D, D = gs ((digs V)[m - 1]?.getD 0) ((digs V)[m - 2]?.getD 0) (rs[k + m]?.getD 0) (rs[k + (m - 1)]?.getD 0) (rs[k + (m - 2)]?.getD 0) := ⟨_, rfl⟩
      have hD9 : D ≤ 4294967295 := by rw [hD]; exact gs_le _ _ _ _ _
      have HP2 := HP.out.2.2.2.2.2
      rw [← hD] at HP2 ⊢
      have HPq := Lib.hid HP2
      clear hD HP2
      go_wp2_with fail
      refine (subProduct_any (wr.drewN d4) w1.heap.size k (m + 1) (n + 1 - k) m c1 B1 rs (digs V) D HR.out HGR.out (HLb.out.keep (fun _ _ _ => rfl)) (by omega) (by omega) (by omega) (by omega) (by omega) (by omega)).mono ?_
      rintro e w5 ⟨rfl, hL5, hg5⟩
      have hSl := sbK_len (rs.drop k) (digs V) D m
      have hSg := sbK_good (rs.drop k) (digs V) D m
      have hbr := sbK_carry (HGR.out.drop k) (digs_good V) (show D < 4294967296 by omega) m
      have hSv := sbK_val (xs := digs V) (HGR.out.drop k) D m
      obtain ⟨S, hS⟩ : ∃ S, S = (sbK (rs.drop k) (digs V) D m).1 := ⟨_, rfl⟩
      obtain ⟨br, hbe⟩ : ∃ br, br = (sbK (rs.drop k) (digs V) D m).2 := ⟨_, rfl⟩
      rw [← hS] at hSl hSg hSv hL5
      rw [← hbe] at hbr hSv ⊢
      rw [List.take_of_length_le (Nat.le_of_eq HF.out.2.2.1), digs_val] at hSv
      have HSv := Lib.hid hSv
      have HSg := Lib.hid hSg
      have HSl := Lib.hid hSl
      clear hS hbe hSv hSg
      have hsl : (spl rs k S).length = n + 1 := by rw [spl_len (by omega), hlR]
      have hct := hL5.cell (i := k + m) (by omega)
      rw [spl_after (by omega) (by omega)] at hct
      have hfr := hL5.frozen (k + m)
      have hgt := HGR.out.get (k + m)
      have hQ5 : Ld w5 w3.heap.size qs := (show Ld (wr.drewN d4) w3.heap.size qs from HQ.out).grown hg5 (fun e => by injection e with e; omega)
      have hcq := hQ5.cell (i := k) (by omega)
      have hfq := hQ5.frozen k
      have hgh : ¬ (w1.heap.size = w3.heap.size) := by omega
      have hhg : ¬ (w3.heap.size = w1.heap.size) := by omega
      have HL5 := Lib.hid hL5
      have HG5 := Lib.hid hg5
      have HQ5 := Lib.hid hQ5
      clear hL5 hg5 hQ5
      have hV0 : 0 < V := by have := digs_pos (n := V); rw [HF.out.2.2.1] at this; omega
      have HSP : Hid (val S < 4294967296 ^ m) := by have e := val_lt HSg.out; rwa [HSl.out] at e
      have HFin : Hid (∀ (wz : World) (P : List Nat) (q : Nat), P.length = m → Good P → val P = val (rs.drop k) % V → val (rs.drop k) / V = q → q < 4294967296 → Ld wz w1.heap.size (spl rs k (P ++ [0])) → Ld wz w3.heap.size (qs.set k q) → Below w1.heap.size w1 wz →
          ∃ (k' : Nat) (rs' qs' : List Nat), k' ≤ n + 1 - m ∧ Value.int .i64 ((k : Int) - 1) = .int .i64 ((k' : Int) - 1) ∧ Ld wz w1.heap.size rs' ∧ Good rs' ∧ rs'.length = n + 1 ∧ Ld wz w3.heap.size qs' ∧ Good qs' ∧ qs'.length = n + 1 - m ∧
            val (rs'.drop k') < V ∧ val rs' + 4294967296 ^ k' * (V * val (qs'.drop k')) = U ∧ Below w1.heap.size w1 wz) := by
        intro wz P q hPl hPg hPv hq hq9 hLz hQz hBz
        obtain ⟨p1, p2⟩ := part_done hPl hkm HP.out.2.2.2.1 hPv
        refine ⟨k, _, _, by omega, rfl, hLz, spl_good HGR.out (hPg.append (Good.nil.cons (by omega))), by rw [spl_len (by rw [List.length_append, hPl]; show k + (m + 1) ≤ _; omega), hlR], hQz, HGQ.out.set hq9 k, by rw [List.length_set]; exact hlQ, ?_, ?_, hBz⟩
        · rw [p1]; exact Nat.mod_lt _ hV0
        · exact inv_step (by omega) rfl HI2.out p2 (by rw [hq]; exact val_set_drop q (by omega))
      by_cases hov : rs[k + m]?.getD 0 < br
      · have hovi : ((rs[k + m]?.getD 0 : Nat) : Int) < (br : Int) := by omega
        go_wp2_with fail
        obtain ⟨t, ht⟩ : ∃ t : Nat, (((rs[k + m]?.getD 0 : Nat) : Int) - (br : Int)) % 4294967296 = (t : Int) := ⟨((((rs[k + m]?.getD 0 : Nat) : Int) - (br : Int)) % 4294967296).toNat, by omega⟩
        have htl : t < 4294967296 := by omega
        have HT := Lib.hid ht
        rw [ht]
        clear ht
        have hL6 := HL5.out.set_ (k + m) t
        have hset := spl_set (cs := rs) (off := k) (ts := S) t (by omega)
        rw [HSl.out] at hset
        rw [hset] at hL6
        have hQ6 := HQ5.out.grown (grownBy_setCellAt w5 w1.heap.size (k + m) (.int .u32 (t : Int))) (fun e => by injection e with e; omega)
        have hg6 := grownBy_trans HG5.out (grownBy_setCellAt w5 w1.heap.size (k + m) (.int .u32 (t : Int)))
        generalize w5.setCell ⟨w1.heap.size, k + m, none⟩ (.int .u32 (t : Int)) = w6 at hL6 hQ6 hg6 ⊢
        have hl6 : (spl rs k (S ++ [t])).length = n + 1 := by rw [spl_len (by rw [List.length_append, HSl.out]; show k + (m + 1) ≤ _; omega), hlR]
        have hg6' : Good (spl rs k (S ++ [t])) := spl_good HGR.out (HSg.out.append (Good.nil.cons htl))
        have hc6 := hL6.cell (i := k + m) (by omega)
        have hat := spl_at_last (rs := rs) (k := k) (S := S) t (by omega)
        rw [HSl.out] at hat
        rw [hat] at hc6
        have hf6 := hL6.frozen (k + m)
        have hcq6 := hQ6.cell (i := k) (by omega)
        have hfq6 := hQ6.frozen k
        have HL6 := Lib.hid hL6
        have HQ6 := Lib.hid hQ6
        have HG6 := Lib.hid hg6
        have HGd6 := Lib.hid hg6'
        have HX6 : Hid (Lm w6 w1.heap.size B1 m c1 (digs V)) := (HLb.out.keep (w' := wr.drewN d4) (fun _ _ _ => rfl)).grownLt hg6 HBl.out.size
        have hml := mulK_len ((spl rs k (S ++ [t])).drop k) (digs V) 1 m
        have hcy := mulK_carry (HGd6.out.drop k) (digs_good V) (show 1 < 4294967296 by omega) m
        have HMv := Lib.hid (mulK_val ((spl rs k (S ++ [t])).drop k) (digs V) 1 m)
        have HMg := Lib.hid (mulK_good ((spl rs k (S ++ [t])).drop k) (digs V) 1 m)
        have hMv2 : val (mulK ((spl rs k (S ++ [t])).drop k) (digs V) 1 m).1 + 4294967296 ^ m * (mulK ((spl rs k (S ++ [t])).drop k) (digs V) 1 m).2 = V + val S := by
          have e := HMv.out
          have e2 := spl_drop_take (rs := rs) (k := k) (S := S) t (by omega)
          rw [HSl.out] at e2
          rw [e2, List.take_of_length_le (Nat.le_of_eq HF.out.2.2.1), digs_val, Nat.mul_one] at e
          exact e
        have hMP : val (mulK ((spl rs k (S ++ [t])).drop k) (digs V) 1 m).1 < 4294967296 ^ m := by have e := val_lt HMg.out; rwa [hml] at e
        have HOv := Lib.hid (step_over HP.out.2.2.1 HP.out.1 HSv.out HSP.out hMv2 hMP HPq.out.2 hV0 hov)
        have hD1 : 1 ≤ D := HOv.out.2.1
        have HB6 : Hid (Below w1.heap.size w1 w6) := (bdrewN HBl.out d4).grown HG6.out HBl.out.size (fun b e => by injection e with e; omega)
        clear hMv2 hMP
        have HSS := Lib.hid (spl_spl (rs := rs) (S := S) (M := (mulK ((spl rs k (S ++ [t])).drop k) (digs V) 1 m).1) (k := k) t (by omega) (by omega))
        have HAt7 := Lib.hid (spl_at_last (rs := rs) (k := k) (S := (mulK ((spl rs k (S ++ [t])).drop k) (digs V) 1 m).1) t (by omega))
        have hl7 : (spl rs k ((mulK ((spl rs k (S ++ [t])).drop k) (digs V) 1 m).1 ++ [t])).length = n + 1 := by rw [spl_len (by rw [List.length_append, hml]; show k + (m + 1) ≤ _; omega), hlR]
        clear hct hfr hcq hfq hL6 hQ6 hg6 hg6' hset hat
        go_region_with (go_at_call 138; refine (addProduct_any w6.drew w1.heap.size k (m + 1) (n + 1 - k) m c1 B1 (spl rs k (S ++ [t])) (digs V) 1 HL6.out HGd6.out (HX6.out.keep (fun _ _ _ => rfl)) (by omega) (by omega) (by omega) (by omega) (by omega) (by omega)).mono ?_; rintro e w7 ⟨rfl, hL7, hg7⟩; rw [HSS.out] at hL7; have hc7 := hL7.cell (i := k + m) (by omega); have hat7 := HAt7.out; rw [hml] at hat7; rw [hat7] at hc7; have hf7 := hL7.frozen (k + m))
        all_goals
          have hQ7 := (show Ld w6.drew w3.heap.size qs from HQ6.out).grown hg7 (fun e => by injection e with e; omega)
          have hcq7 := hQ7.cell (i := k) (by omega)
          have hfq7 := hQ7.frozen k
          have HL7 := Lib.hid hL7
          have HQ7 := Lib.hid hQ7
          have HG7 := Lib.hid hg7
          clear hL7 hQ7 hg7
          go_wp2
          go_roundw
          case rel =>
            have h0 := HOv.out.2.2.2
            have hT := HT.out
            have e1 : (((t : Nat) : Int) + (((mulK ((spl rs k (S ++ [t])).drop k) (digs V) 1 m).2 : Nat) : Int)) % 4294967296 = ((0 : Nat) : Int) := by omega
            have e2 : ((D : Int) - 1) % 4294967296 = ((D - 1 : Nat) : Int) := by omega
            rw [e1, e2]
            refine HFin.out _ _ (D - 1) hml HMg.out HOv.out.2.2.1 HOv.out.1 (by omega) ?_ ?_ ?_
            · have e3 := HL7.out.set_ (k + m) 0
              have e4 := spl_set_last (rs := rs) (S := (mulK ((spl rs k (S ++ [t])).drop k) (digs V) 1 m).1) (k := k) t 0 (by omega)
              rw [hml] at e4
              rw [e4] at e3
              exact e3.grown (grownBy_setCellAt _ _ _ _) (fun e => by injection e with e; omega)
            · exact (HQ7.out.grown (grownBy_setCellAt _ w1.heap.size (k + m) (.int .u32 ((0 : Nat) : Int))) (fun e => by injection e with e; omega)).set_ k (D - 1)
            · have hs6 := HB6.out.size
              exact ((HB6.out.drew.grown HG7.out hs6 (fun b e => by injection e with e; omega)).setCell (p := ⟨w1.heap.size, k + m, none⟩) (Nat.le_refl _) _).setCell (p := ⟨w3.heap.size, k, none⟩) (by show w1.heap.size ≤ w3.heap.size; omega) _
          case measure => simp [intOf]
      · have hovd : decide (((rs[k + m]?.getD 0 : Nat) : Int) < (br : Int)) = false := by simp; omega
        have HRt := Lib.hid (step_right HP.out.2.2.1 HP.out.1 HSv.out HPq.out.1 hV0 (by omega))
        have hheq : rs[k + m]?.getD 0 = br := HRt.out.2.2
        have HB5 : Hid (Below w1.heap.size w1 w5) := (bdrewN HBl.out d4).grown HG5.out HBl.out.size (fun b e => by injection e with e; omega)
        go_wp2
        go_roundw
        case rel =>
          refine HFin.out _ _ D HSl.out HSg.out HRt.out.2.1 HRt.out.1 (by omega) ?_ ?_ ?_
          · have e3 := HL5.out.set_ (k + m) 0
            have e4 := spl_set (cs := rs) (off := k) (ts := S) 0 (by omega)
            rw [HSl.out] at e4
            rw [e4] at e3
            exact e3.grown (grownBy_setCellAt _ _ _ _) (fun e => by injection e with e; omega)
          · exact (HQ5.out.grown (grownBy_setCellAt _ w1.heap.size (k + m) (.int .u32 ((0 : Nat) : Int))) (fun e => by injection e with e; omega)).set_ k D
          · exact (HB5.out.setCell (p := ⟨w1.heap.size, k + m, none⟩) (Nat.le_refl _) _).setCell (p := ⟨w3.heap.size, k, none⟩) (by show w1.heap.size ≤ w3.heap.size; omega) _
        case measure => simp [intOf]
end Go.Proofs.YtbplbbkmfbjkfaaGreatDoor

/- wide.divide. -/
namespace Go.Proofs.YtbplbbkmfbjkfaaGreatDoor
open Go.RowKit

set_option maxRecDepth 100000 in
set_option maxHeartbeats 1000000 in
theorem clone_own (w : World) (A : Option Addr) (n c : Nat) (xs : List Nat) (h : Lm w w.heap.size A n c xs) (hn0 : 0 < n) (hn : n ≤ 1000000000) :
    Calls Tryz.prog 72 #[.slice A n c] w fun e w' => ∃ g c', e = .returned (.slice (some ⟨g, 0, none⟩) n c') ∧ n ≤ c' ∧ c' ≤ 9223372036854775807 ∧ w.heap.size ≤ g ∧ Ob w' g xs ∧ Below w.heap.size w w' := by
  obtain ⟨i0, hi0, hz0, hz1, hz2⟩ := info_parts u32_info
  have hr := h.max
  have hl := h.len
  have HH := Lib.hid h
  have hnil := fun (w : World) (a : Option Addr) (n c n' c' : Nat) => Lib.run_eql_slice_nil (P := Tryz.prog) w 22 79 a n c n' c' slice_u32
  obtain ⟨ad, rfl⟩ := h.addr hn0
  go_enter Tryz.func72, Tryz.ntmps72
  go_wp2_with (at_builtin; refine wpList_append_lm _ rfl _ _ _ rfl w.heap.size _ i0 slice_u32 hi0 hz0 hz1 hz2 _ 0 [] rfl (World.ownsRow_made _ _ _ (Nat.le_refl _) (by simp [maxLen]) rfl) _ _ _ _ xs rfl (HH.out.box _) (by simp only [maxLen]; omega) (by omega) (by simp) ?_; intro v1 w1 hown1 hg1)
  go_ret
  rw [Nat.zero_add, List.nil_append] at hown1
  have hO : Ow w1 w.heap.size v1 xs := by unfold Ow; rw [hl]; exact hown1
  obtain ⟨A', c', rfl, hL⟩ := hO.lm HH.out.good
  obtain ⟨g, rfl, _, hgB, hOb⟩ := hO.ob (by omega)
  have hcp := hL.cap
  have hmx := hL.max
  rw [hl] at hcp hL ⊢
  refine ⟨g, c', rfl, hcp, hmx, hgB, hOb, ((Below.refl _ _).alloc (Nat.le_refl _) _).grown hg1 (by simp) (fun k hk => ?_)⟩
  have e : w.heap.size = k := Option.some.inj hk
  omega

theorem Lm.one (w : World) (x : Nat) (X : Int) (hX : X = (x : Int)) (hx : x < 4294967296) :
    Lm (w.alloc (.cells #[.int .u32 X] 79)) (w.alloc (.cells #[.int .u32 X] 79)).heap.size (some ⟨w.heap.size, 0, none⟩) 1 1 [x] := by
  subst hX
  exact ⟨rfl, Good.nil.cons hx, Nat.le_refl _, by omega, fun h => (by cases h), fun _ => ⟨_, 0, rfl, by simp, fun j hj => by
    match j, hj with
    | 0, _ => go_simp⟩⟩
theorem val_one (x : Nat) : val [x] = x := by simp [val_cons, val_nil]

/-- A quotient and a remainder, which is the call's own. -/
def RDo (w : World) (q r : Nat) (e : Ending) (w' : World) : Prop := ∃ Q cq R cr, e = .returned (.tuple #[.slice Q (digs q).length cq, .slice R (digs r).length cr]) ∧
  Lm w' w'.heap.size Q (digs q).length cq (digs q) ∧ Ow w' w.heap.size (.slice R (digs r).length cr) (digs r) ∧ Below w.heap.size w w'
/-- A call returns a quotient and a remainder, as limbs. -/
def RD (w : World) (q r : Nat) (e : Ending) (w' : World) : Prop := ∃ Q cq R cr, e = .returned (.tuple #[.slice Q (digs q).length cq, .slice R (digs r).length cr]) ∧
  Lm w' w'.heap.size Q (digs q).length cq (digs q) ∧ Lm w' w'.heap.size R (digs r).length cr (digs r) ∧ Below w.heap.size w w'

set_option maxRecDepth 100000 in
set_option maxHeartbeats 1000000 in
theorem divide_less (w : World) (A B : Option Addr) (n m ca cb a b : Nat) (hA : Lm w w.heap.size A n ca (digs a)) (hB : Lm w w.heap.size B m cb (digs b)) (hlt : a < b) (hn9 : n ≤ 1000000) :
    Calls Tryz.prog 101 #[.slice A n ca, .slice B m cb] w (RD w (a / b) (a % b)) := by
  have HC : Hid (cmpL (digs a) (digs b) = -1) := by show _ = _; rw [cmpL_norm (digs_good _) (digs_good _) (digs_norm _) (digs_norm _), digs_val, digs_val]; exact cmpN_lt hlt
  have HA := Lib.hid hA
  have HB := Lib.hid hB
  rw [Nat.div_eq_of_lt hlt, Nat.mod_eq_of_lt hlt]
  have HN := Lib.hid hA.len
  clear hA hB hlt
  go_enter Tryz.func101, Tryz.ntmps101
  go_wp2_with fail
  refine (compare_any _ _ _ _ _ _ (digs a) (digs b) _ HA.out HB.out).mono ?_
  rintro e w1 ⟨he, hb1⟩
  rw [HC.out] at he
  subst he
  go_wp2_with fail
  refine (clone_any _ _ _ _ (digs a) (HA.out.via hb1) (by omega)).mono ?_
  rintro e w2 ⟨A2, c2, rfl, hL2, hb2⟩
  go_wp2
  go_ret2
  refine ⟨none, 0, A2, c2, by rw [HN.out]; rfl, Lm.nil _ _, by rw [HN.out]; exact hL2, hb1.trans (hb2.mono hb1.size)⟩

set_option maxRecDepth 100000 in
set_option maxHeartbeats 1000000 in
theorem divide_one (w : World) (A B : Option Addr) (n ca cb a b : Nat) (hA : Lm w w.heap.size A n ca (digs a)) (hB : Lm w w.heap.size B 1 cb (digs b)) (hle : b ≤ a) (hn9 : n ≤ 1000000) :
    Calls Tryz.prog 101 #[.slice A n ca, .slice B 1 cb] w (RD w (a / b) (a % b)) := by
  obtain ⟨z, hz, HC⟩ : ∃ z : Int, decide (z < 0) = false ∧ Hid (cmpL (digs a) (digs b) = z) := ⟨_, by rw [cmpL_norm (digs_good _) (digs_good _) (digs_norm _) (digs_norm _), digs_val, digs_val]; unfold cmpN; rw [if_neg (by omega)]; split <;> decide, rfl⟩
  have hb0 : 0 < b := by rw [← digs_pos, hB.len]; omega
  have hn0 : 0 < n := by rw [← hA.len, digs_pos]; omega
  have hbe : (digs b)[0]?.getD 0 = b := by
    have h1 := val_take_succ' (digs b) 0
    rw [List.take_of_length_le (by rw [hB.len]; omega), digs_val] at h1
    simpa [val_nil] using h1.symm
  have hb9 := hB.good.get 0
  obtain ⟨bb, bo, rfl, hbb, cb1⟩ := hB.cell (k := 0) (by omega)
  rw [hbe] at cb1 hb9
  have hcB := hB.cap
  have hxB := hB.max
  have HA := Lib.hid hA
  have HB := Lib.hid hB
  have HN := Lib.hid hA.len
  have HQ := Lib.hid (dvL_quot hb0 (digs a))
  have HG := Lib.hid (dvL_good hb0 (digs_good a))
  have HDl := Lib.hid (dvL_len b (digs a))
  have HVa := Lib.hid (digs_val a)
  have HRm : Hid ((dvL b (digs a)).2 < 4294967296) := Nat.lt_trans (dvL_lt hb0 _) hb9
  clear hA hB hle hbe
  go_enter Tryz.func101, Tryz.ntmps101
  go_wp2_with fail
  refine (compare_any _ _ _ _ _ _ (digs a) (digs b) _ HA.out HB.out).mono ?_
  rintro e w1 ⟨he, hb1⟩
  rw [HC.out] at he
  subst he
  go_wp2_with fail
  refine (clone_own _ _ _ _ (digs a) (HA.out.via hb1) hn0 (by omega)).mono ?_
  rintro e w2 ⟨g, c2, rfl, hc2, hx2, hg2, hO2, hb2⟩
  have hB2 := hb1.trans (hb2.mono hb1.size)
  have cb2 : w2.cell? ⟨bb, bo, none⟩ = some (.int .u32 (b : Int)) := (hB2.cell (p := ⟨bb, bo + 0, none⟩) hbb).trans cb1
  go_wp2_with fail
  refine (divideLimb_any w2 g n c2 b (digs a) hO2 (digs_good a) HN.out hc2 (by omega) hb0 hb9).mono ?_
  rintro e w3 ⟨rfl, hO3, hg3⟩
  have hs1 := hb1.size
  have HB3 : Hid (Below w.heap.size w w3) := hB2.grown hg3 (hB2.size) (fun k e => by injection e with e; omega)
  have HL3 : Hid (Lm w3 w3.heap.size (some ⟨g, 0, none⟩) n c2 (dvL b (digs a)).1) := by
    have e := hO3.lm HG.out (off := 0) (n := n) (c := c2) (by rw [HDl.out, HN.out]; omega) hc2 hx2
    rwa [List.drop_zero, List.take_of_length_le (by rw [HDl.out, HN.out]; exact Nat.le_refl _)] at e
  have HVq : Hid (val (dvL b (digs a)).1 = a / b) := by show _ = _; rw [HQ.out.1, HVa.out]
  have HVr : Hid (val [(dvL b (digs a)).2] = a % b) := by show _ = _; rw [val_one, HQ.out.2, HVa.out]
  clear hO3 hg3 hO2 hb2 hB2
  go_wp2_with fail
  refine (trim_any _ _ _ _ _ _ (a / b) HL3.out HVq.out).mono ?_
  rintro e w4 ⟨rfl, rfl⟩
  go_wp2_with fail
  refine (trim_any _ _ _ _ _ _ (a % b) (Lm.one w3 (dvL b (digs a)).2 _ rfl HRm.out) HVr.out).mono ?_
  rintro e w4 ⟨rfl, rfl⟩
  go_wp2
  go_ret2
  exact ⟨_, _, _, _, rfl, (HL3.out.trim' HVq.out).box _, (Lm.one w3 (dvL b (digs a)).2 _ rfl HRm.out).trim' HVr.out, HB3.out.alloc HB3.out.size _⟩

set_option maxRecDepth 100000 in
set_option maxHeartbeats 1000000 in
theorem divide_ow (w : World) (A B : Option Addr) (n m ca cb a b : Nat) (hA : Lm w w.heap.size A n ca (digs a)) (hB : Lm w w.heap.size B m cb (digs b)) (hle : b ≤ a) (hm : 2 ≤ m) (hn9 : n ≤ 1000000) :
    Calls Tryz.prog 101 #[.slice A n ca, .slice B m cb] w (RDo w (a / b) (a % b)) := by
  obtain ⟨z, hz, HC⟩ : ∃ z : Int, decide (z < 0) = false ∧ Hid (cmpL (digs a) (digs b) = z) := ⟨_, by rw [cmpL_norm (digs_good _) (digs_good _) (digs_norm _) (digs_norm _), digs_val, digs_val]; unfold cmpN; rw [if_neg (by omega)]; split <;> decide, rfl⟩
  have HA := Lib.hid hA
  have HB := Lib.hid hB
  have hm1 : ((m : Int) == 1) = false := by simp; omega
  have hcB := hB.cap
  have hxB := hB.max
  clear hA hB
  go_enter Tryz.func101, Tryz.ntmps101
  go_wp2_with fail
  refine (compare_any _ _ _ _ _ _ (digs a) (digs b) _ HA.out HB.out).mono ?_
  rintro e w1 ⟨he, hb1⟩
  rw [HC.out] at he
  subst he
  go_wp2_with fail
  refine (divideLong_ow w1 A B n m ca cb a b (HA.out.via hb1) (HB.out.via hb1) hm hle hn9).mono ?_
  rintro e w2 ⟨Q, cq, R, cr, rfl, hQ, hR, hb2⟩
  go_wp2
  go_ret2
  exact ⟨Q, cq, R, cr, rfl, hQ, hR.mono hb1.size, hb1.trans (hb2.mono hb1.size)⟩

theorem divide_long (w : World) (A B : Option Addr) (n m ca cb a b : Nat) (hA : Lm w w.heap.size A n ca (digs a)) (hB : Lm w w.heap.size B m cb (digs b)) (hle : b ≤ a) (hm : 2 ≤ m) (hn9 : n ≤ 1000000) :
    Calls Tryz.prog 101 #[.slice A n ca, .slice B m cb] w (RD w (a / b) (a % b)) :=
  (divide_ow w A B n m ca cb a b hA hB hle hm hn9).mono fun _ _ ⟨Q, cq, R, cr, e, hQ, hR, hb⟩ => ⟨Q, cq, R, cr, e, hQ, hR.toLm (digs_good _), hb⟩

theorem divide_any (w : World) (A B : Option Addr) (n m ca cb a b : Nat) (hA : Lm w w.heap.size A n ca (digs a)) (hB : Lm w w.heap.size B m cb (digs b)) (hb : 0 < b) (hn9 : n ≤ 1000000) :
    Calls Tryz.prog 101 #[.slice A n ca, .slice B m cb] w (RD w (a / b) (a % b)) := by
  rcases Nat.lt_or_ge a b with h | h
  · exact divide_less w A B n m ca cb a b hA hB h hn9
  · have hm : 0 < m := by rw [← hB.len, digs_pos]; exact hb
    rcases Nat.lt_or_ge m 2 with h1 | h1
    · obtain rfl : m = 1 := by omega
      exact divide_one w A B n ca cb a b hA hB h hn9
    · exact divide_long w A B n m ca cb a b hA hB h h1 hn9
end Go.Proofs.YtbplbbkmfbjkfaaGreatDoor

/- wide.groups: the groups of nine digits. -/
namespace Go.Proofs.YtbplbbkmfbjkfaaGreatDoor
open Go.RowKit

theorem Ob.take {w : World} {g : Nat} {cs : List Nat} (h : Ob w g cs) (m : Nat) : Ob w g (cs.take m) := by
  obtain ⟨cur, h1, h2, h3⟩ := h
  refine ⟨cur, h1, Nat.le_trans (by rw [List.length_take]; omega) h2, fun i hi => ?_⟩
  rw [List.length_take] at hi
  rw [h3 i (by omega), List.getElem?_take_of_lt (by omega)]
theorem Ob.eq {w : World} {g : Nat} {cs ds : List Nat} (h : Ob w g cs) (e : cs = ds) : Ob w g ds := e ▸ h
theorem take_digs {cs : List Nat} (g : Good cs) {v : Nat} (hv : val cs = v) : cs.take (digs v).length = digs v := by
  have h1 := tr_digs g rfl
  have h2 := tr_len g rfl
  rw [h2] at h1
  rw [← hv]
  exact h1
theorem Ow.kept {w w' : World} {B g : Nat} {v : Value} {ts : List Nat} (h : Ow w B v ts) (hg : w.grownBy w' (some g)) (hl : g < B) : Ow w' B v ts :=
  World.ownsRow.kept h hg (.inr fun e => by have := (World.ownsRow.lt h g e).1; omega)
theorem Ow.ne {w : World} {B g : Nat} {v : Value} {ts : List Nat} (h : Ow w B v ts) (hl : g < B) : some g ≠ v.ownBlock := fun e => by
  have := (World.ownsRow.lt h g e.symm).1
  omega

set_option maxRecDepth 100000 in
set_option maxHeartbeats 1000000 in
theorem groups_any (w : World) (A : Option Addr) (n c v : Nat) (hA : Lm w w.heap.size A n c (digs v)) (hv : 0 < v) (hn : n ≤ 4096) :
    Calls Tryz.prog 83 #[.slice A n c] w fun e w' => ∃ A' c', e = .returned (.slice A' (gB v).length c') ∧ Lm w' w'.heap.size A' (gB v).length c' (gB v) ∧ Below w.heap.size w w' := by
  have hn0 : 0 < n := by rw [← hA.len, digs_pos]; exact hv
  have hgl : (gB v).length ≤ 2 * n := gB_len_le (digs_len.1 (Nat.le_of_eq hA.len))
  have HA := Lib.hid hA
  have HN := Lib.hid hA.len
  have hcA := hA.cap
  have hxA := hA.max
  clear hA
  go_enter Tryz.func83, Tryz.ntmps83
  go_wp2_with fail
  refine (clone_own _ _ _ _ (digs v) HA.out hn0 (by omega)).mono ?_
  rintro e w1 ⟨g, c1, rfl, hc1, hx1, hg1, hO1, hb1⟩
  have HO1 := Lib.hid hO1
  have HB1 := Lib.hid hb1
  have hs1 := hb1.size
  have hgs := hO1.lt
  clear hO1 hb1
  go_wp2
  go_loopg [3, 4] (gB v).length (fun k r u wr => ∃ (q m : Nat) (ts : List Nat), (gB q).length = k ∧ r = .slice (some ⟨g, 0, none⟩) m c1 ∧ (digs q).length = m ∧ m ≤ n ∧ Ob wr g (digs q) ∧ gB v = ts ++ gB q ∧ Ow wr w1.heap.size u ts ∧ Below w.heap.size w wr ∧ w1.heap.size ≤ wr.heap.size)
  case atStart => exact ⟨v, n, [], rfl, rfl, HN.out, Nat.le_refl _, HO1.out, rfl, Ow.nil _ _, HB1.out, Nat.le_refl _⟩
  case round =>
    obtain ⟨q, m, ts, hk, rfl, hl, hm, hO, hg, hU, hb, hsz⟩ := hrel
    have HK := Lib.hid hk
    have HL := Lib.hid hl
    have HO := Lib.hid hO
    have HG := Lib.hid hg
    have HU := Lib.hid hU
    have HBl := Lib.hid hb
    have hsw := hb.size
    clear hk hl hO hg hU hb
    rcases Nat.eq_zero_or_pos q with h0 | h0
    · have hm0 : m = 0 := by rw [← HL.out, h0]; rfl
      have HE : Hid (ts = gB v) := by show _ = _; rw [HG.out, h0, gB_zero, List.append_nil]
      subst hm0
      go_wp2
      go_ret
      obtain ⟨A', c', e1, hL1⟩ := (HU.out.eq HE.out).lm (gB_good v)
      refine ⟨A', c', ?_, hL1, HBl.out⟩
      rw [← e1]
      rfl
    · have hm0 : 0 < m := by rw [← HL.out, digs_pos]; exact h0
      have HQ := Lib.hid (dvL_quot (show 0 < 1000000000 by omega) (digs q))
      have HGd := Lib.hid (dvL_good (show 0 < 1000000000 by omega) (digs_good q))
      have HDl := Lib.hid (dvL_len 1000000000 (digs q))
      have hrl := dvL_lt (show 0 < 1000000000 by omega) (digs q)
      have HE : Hid (gB v = ts ++ [(dvL 1000000000 (digs q)).2] ++ gB (q / 1000000000)) := by show _ = _; rw [HG.out, gB_pos h0, HQ.out.2, digs_val]; simp
      have hkl : Hid ((gB (q / 1000000000)).length + 1 = gk) := by show _ = _; rw [← HK.out, gB_pos h0]; rfl
      have htl : ts.length ≤ 8192 := by
        have e := congrArg List.length HG.out
        rw [List.length_append] at e
        omega
      have hqm : (digs (q / 1000000000)).length ≤ m := by rw [← HL.out]; exact digs_mono (Nat.div_le_self _ _)
      go_wp2_with fail
      refine (divideLimb_any wr g m c1 1000000000 (digs q) HO.out (digs_good q) HL.out (by omega) (by omega) (by omega) (by omega)).mono ?_
      rintro e w2 ⟨rfl, hO2, hg2⟩
      have HO2 := Lib.hid hO2
      have HU2 := Lib.hid (HU.out.kept hg2 (by omega))
      have HB2 := Lib.hid (HBl.out.grown hg2 HBl.out.size (fun k e => by injection e with e; subst e; exact hg1))
      have hs2 := hg2.size
      clear hO2 hg2
      go_wp2_with (at_builtin; refine wpList_append_u32 _ rfl _ _ rfl w1.heap.size _ _ rfl HU2.out _ ((dvL 1000000000 (digs q)).2) 1 rfl (by omega) (by omega) rfl ?_; intro u' w3 hU3 hg3)
      have HU3 := Lib.hid hU3
      have HO3 := Lib.hid (HO2.out.grown ((World.grownBy_alloc w2 _ _).trans hg3) (HU2.out.ne (by omega)))
      have HB3 := Lib.hid ((HB2.out.alloc (by omega) _).grown hg3 (by simp; omega) (fun b e => Nat.le_trans hs1 (World.ownsRow.lt HU2.out b e).1))
      have hs3 := hg3.size
      simp only [World.size_alloc] at hs3
      have hd1 := dvL_len 1000000000 (digs q)
      have HV : Hid (val (dvL 1000000000 (digs q)).1 = q / 1000000000) := by show _ = _; rw [HQ.out.1, digs_val]
      have HL3 : Hid (Lm w3 w3.heap.size (some ⟨g, 0, none⟩) m c1 (dvL 1000000000 (digs q)).1) := by
        have e := HO3.out.lm HGd.out (off := 0) (n := m) (c := c1) (by rw [HDl.out, HL.out]; omega) (by omega) (by omega)
        rwa [List.drop_zero, List.take_of_length_le (by rw [HDl.out, HL.out]; exact Nat.le_refl _)] at e
      refine (trim_any _ _ _ _ _ _ (q / 1000000000) HL3.out HV.out).mono ?_
      rintro e w4 ⟨rfl, rfl⟩
      go_wp2
      go_roundg (gB (q / 1000000000)).length
      case measure => have := hkl.out; omega
      case rel =>
        exact ⟨q / 1000000000, _, _, rfl, rfl, rfl, by omega, (HO3.out.take _).eq (take_digs HGd.out HV.out), HE.out, HU3.out, HB3.out, by omega⟩
end Go.Proofs.YtbplbbkmfbjkfaaGreatDoor

/- The library's contract of internal/strconv.AppendUint, laid at this translation in plain words by the kit's command. -/
namespace Go.Proofs.YtbplbbkmfbjkfaaGreatDoor
open Go.Shelf
def apuLays_ren : Go.Shelf.Ren := ⟨fun | 288 => 110 | 283 => 133 | 284 => 134 | 285 => 135 | 286 => 136 | 129 => 140 | 317 => 159 | 318 => 160 | 319 => 161 | 320 => 162 | 337 => 170 | 338 => 171 | n => n, fun | 37 => 111 | 53 => 77 | 3 => 3 | 4 => 4 | 9 => 9 | 171 => 158 | 0 => 0 | 173 => 161 | 212 => 184 | 51 => 79 | 5 => 5 | 20 => 20 | 213 => 185 | 46 => 80 | 232 => 206 | 233 => 207 | n => n, fun | 17 => 0 | 18 => 5 | 19 => 6 | n => n⟩
theorem apuLays : Go.Proofs.LaysM.n288 Tryz.prog apuLays_ren := {
  mixed := by kernel_rfl
  f129 := Tryz.func140.trans (congrArg some (by kernel_rfl))
  f283 := Tryz.func133.trans (congrArg some (by kernel_rfl))
  f284 := Tryz.func134.trans (congrArg some (by kernel_rfl))
  f285 := Tryz.func135.trans (congrArg some (by kernel_rfl))
  f286 := Tryz.func136.trans (congrArg some (by kernel_rfl))
  f288 := Tryz.func110.trans (congrArg some (by kernel_rfl))
  f317 := Tryz.func159.trans (congrArg some (by kernel_rfl))
  f318 := Tryz.func160.trans (congrArg some (by kernel_rfl))
  f319 := Tryz.func161.trans (congrArg some (by kernel_rfl))
  f320 := Tryz.func162.trans (congrArg some (by kernel_rfl))
  f337 := Tryz.func170.trans (congrArg some (by kernel_rfl))
  f338 := Tryz.func171.trans (congrArg some (by kernel_rfl))
  t0 := Tryz.underlying0
  a0 := Tryz.isAgg0
  z0 := Tryz.sizeOf0
  v0 := Tryz.zeroValue0
  t3 := Tryz.underlying3
  a3 := Tryz.isAgg3
  z3 := Tryz.sizeOf3
  v3 := Tryz.zeroValue3
  t4 := Tryz.underlying4
  a4 := Tryz.isAgg4
  z4 := Tryz.sizeOf4
  v4 := Tryz.zeroValue4
  t5 := Tryz.underlying5
  a5 := Tryz.isAgg5
  z5 := Tryz.sizeOf5
  v5 := Tryz.zeroValue5
  t9 := Tryz.underlying9
  a9 := Tryz.isAgg9
  z9 := Tryz.sizeOf9
  v9 := Tryz.zeroValue9
  t20 := Tryz.underlying20
  a20 := Tryz.isAgg20
  z20 := Tryz.sizeOf20
  v20 := Tryz.zeroValue20
  t37 := Tryz.underlying111
  a37 := Tryz.isAgg111
  z37 := Tryz.sizeOf111
  v37 := Tryz.zeroValue111
  t46 := Tryz.underlying80
  a46 := Tryz.isAgg80
  z46 := Tryz.sizeOf80
  v46 := Tryz.zeroValue80
  t51 := Tryz.underlying79
  a51 := Tryz.isAgg79
  z51 := Tryz.sizeOf79
  v51 := Tryz.zeroValue79
  t53 := Tryz.underlying77
  a53 := Tryz.isAgg77
  z53 := Tryz.sizeOf77
  v53 := Tryz.zeroValue77
  t171 := Tryz.underlying158
  a171 := Tryz.isAgg158
  z171 := Tryz.sizeOf158
  v171 := Tryz.zeroValue158
  t173 := Tryz.underlying161
  a173 := Tryz.isAgg161
  z173 := Tryz.sizeOf161
  v173 := Tryz.zeroValue161
  t212 := Tryz.underlying184
  a212 := Tryz.isAgg184
  z212 := Tryz.sizeOf184
  v212 := Tryz.zeroValue184
  t213 := Tryz.underlying185
  a213 := Tryz.isAgg185
  z213 := Tryz.sizeOf185
  t232 := Tryz.underlying206
  a232 := Tryz.isAgg206
  z232 := Tryz.sizeOf206
  v232 := Tryz.zeroValue206
  t233 := Tryz.underlying207
  a233 := Tryz.isAgg207
  z233 := Tryz.sizeOf207
  v233 := Tryz.zeroValue207
  g17 := by kernel_rfl
  g18 := by kernel_rfl
  g19 := by kernel_rfl
  i0 := by kernel_rfl
  i3 := by kernel_rfl
  i4 := by kernel_rfl
  i5 := by kernel_rfl
  i9 := by kernel_rfl
  i20 := by kernel_rfl
  i37 := by kernel_rfl
  i46 := by kernel_rfl
  i51 := by kernel_rfl
  i53 := by kernel_rfl
  i171 := by kernel_rfl
  i173 := by kernel_rfl
  i212 := by kernel_rfl
  i232 := by kernel_rfl
  i233 := by kernel_rfl
  m17 := by kernel_rfl
  m18 := by kernel_rfl
  m19 := by kernel_rfl }
open Go.RowKit Go.Sort Go.Lib in
theorem apu_10_small (B n u : Nat) (hu : u < 100) (sv : Value) (xs : List Value) (w : World) (hown : w.ownsRow B 5 1 sv n xs) (hBw : B ≤ w.heap.size) (hlim : n + 20 ≤ 140737488355328) :
    Calls Tryz.prog 110 #[sv, .int .u64 u, .int .i64 10] w fun e w' => ∃ v', e = .returned v' ∧ w'.ownsRow B 5 1 v' (n + (Lib.decDigits u).length) (xs ++ Lib.byteCells (Lib.decDigits u)) ∧ Below B w w' ∧ Lib.OthersKept 5 none w w' := Any.internal_strconv_AppendUint_10_small apuLays B n u hu sv xs w hown hBw hlim
open Go.RowKit Go.Sort Go.Lib in
theorem apu_10_big (B n u : Nat) (hu : 100 ≤ u) (hu64 : u < 18446744073709551616) (sv : Value) (xs : List Value) (w : World) (hown : w.ownsRow B 5 1 sv n xs) (hBw : B ≤ w.heap.size) (hlim : n + 20 ≤ 140737488355328) (htab : Lib.TabIs Tryz.prog w "internal/strconv.uint64pow10" .u64 Lib.pow10Tab) :
    Calls Tryz.prog 110 #[sv, .int .u64 u, .int .i64 10] w fun e w' => ∃ v', e = .returned v' ∧ w'.ownsRow B 5 1 v' (n + (Lib.decDigits u).length) (xs ++ Lib.byteCells (Lib.decDigits u)) ∧ Below B w w' ∧ Lib.OthersKept 5 none w w' := Any.internal_strconv_AppendUint_10_big apuLays B n u hu hu64 sv xs w hown hBw hlim htab
end Go.Proofs.YtbplbbkmfbjkfaaGreatDoor

/- wide.Text: the text of a number. -/
namespace Go.Proofs.YtbplbbkmfbjkfaaGreatDoor
open Go.RowKit Go.Shelf

/-- The table of powers of ten lies in its variable. -/
def TabU (w : World) : Prop := Lib.TabIs Tryz.prog w "internal/strconv.uint64pow10" .u64 Lib.pow10Tab
theorem TabU.via {w w' : World} (h : TabU w) (hb : Below w.heap.size w w') : TabU w' := (Lib.tabBelow_of_tabIs h) w' hb
theorem TabU.box {w : World} (h : TabU w) (o : Obj) : TabU (w.alloc o) := h.via ((Below.refl _ _).alloc (Nat.le_refl _) o)

set_option maxRecDepth 100000 in
set_option maxHeartbeats 1000000 in
theorem apu_any (w : World) (B : Nat) (v : Value) (ts : List UInt8) (u : Nat) (hown : Bw w B v ts) (hB : B ≤ w.heap.size) (hu : u < 18446744073709551616) (hlen : ts.length ≤ 1000000000) (hT : 100 ≤ u → TabU w) :
    Calls Tryz.prog 86 #[v, .int .u64 (u : Int), .int .i64 10] w fun e w' => ∃ v', e = .returned v' ∧ Bw w' B v' (ts ++ Lib.decDigits u) ∧ Below B w w' ∧ Lib.OthersKept 5 none w w' := by
  have HO := Lib.hid hown
  have HT := Lib.hid hT
  clear hown hT
  have fin : ∀ (v' : Value) (w' : World), w'.ownsRow B 5 1 v' (ts.length + (Lib.decDigits u).length) (Lib.byteCells ts ++ Lib.byteCells (Lib.decDigits u)) → Bw w' B v' (ts ++ Lib.decDigits u) := by
    intro v' w' h
    unfold Bw
    rw [List.length_append, show Lib.byteCells (ts ++ Lib.decDigits u) = Lib.byteCells ts ++ Lib.byteCells (Lib.decDigits u) from by unfold Lib.byteCells; rw [List.map_append]]
    exact h
  have FIN := Lib.hid fin
  clear fin
  by_cases h : u < 100
  · go_enter Tryz.func86, Tryz.ntmps86
    go_wp2_with fail
    refine (apu_10_small B ts.length u h v _ w HO.out hB (by omega)).mono ?_
    rintro e w1 ⟨v', rfl, h1, h2, h3⟩
    go_wp2
    go_ret
    exact ⟨v', rfl, FIN.out _ _ h1, h2, h3⟩
  · go_enter Tryz.func86, Tryz.ntmps86
    go_wp2_with fail
    refine (apu_10_big B ts.length u (by omega) hu v _ w HO.out hB (by omega) (HT.out (by omega))).mono ?_
    rintro e w1 ⟨v', rfl, h1, h2, h3⟩
    go_wp2
    go_ret
    exact ⟨v', rfl, FIN.out _ _ h1, h2, h3⟩

set_option maxRecDepth 100000 in
set_option maxHeartbeats 400000 in
theorem text_zero (w : World) (A : Option Addr) (c : Nat) (h : Lm w w.heap.size A 0 c []) :
    Calls Tryz.prog 54 #[.agg #[.bool false, .slice A 0 c]] w fun e w' => e = .returned (.tuple #[.string ⟨#[48]⟩, .int .i64 0]) ∧ Below w.heap.size w w' := by
  have HH := Lib.hid h
  have HC : Hid (chk false [] = 0) := by show _ = _; decide
  go_enter Tryz.func54, Tryz.ntmps54
  go_wp2_with fail
  refine (check_ok _ _ _ _ _ _ (HH.out.box _) HC.out).mono ?_
  rintro e w1 ⟨rfl, hb1⟩
  have ⟨hc1, hf1⟩ := bcell hb1
  have hs1 := hb1.size
  simp only [World.size_alloc] at hc1 hf1 hs1
  go_wp2
  go_ret2
  exact ⟨rfl, bbox hb1⟩
end Go.Proofs.YtbplbbkmfbjkfaaGreatDoor

/- wide.Text: the text of a number other than 0. -/
namespace Go.Proofs.YtbplbbkmfbjkfaaGreatDoor
open Go.RowKit Go.Shelf
attribute [local go_sem] Oper.semAt_some

theorem Bw.slice {w : World} {B : Nat} {v : Value} {ts : List UInt8} (h : Bw w B v ts) (hne : 0 < ts.length) : ∃ g cap, v = .slice (some ⟨g, 0, none⟩) ts.length cap ∧ ∀ j (hj : j < ts.length), w.cell? (Addr.add ⟨g, 0, none⟩ j) = some (.int .u8 (ts[j].toNat : Int)) := by
  rcases h.2 with ⟨_, hn⟩ | ⟨g, cap, cur, rfl, _⟩
  · omega
  · refine ⟨g, cap, rfl, fun j hj => ?_⟩
    have hc := World.ownsRow.cells h (g := g) rfl j (.int .u8 (ts[j].toNat : Int)) (by unfold Lib.byteCells; rw [List.getElem?_map, List.getElem?_eq_getElem hj]; rfl)
    exact hc
theorem dec_ne (u : Nat) : 0 < (Lib.decDigits u).length := by rw [Lib.decDigits_length]; exact Lib.nDigits_pos u
theorem keepsO {e : TypeId} {w w' : World} (h : Lib.OthersKept e none w w') (hs : w.heap.size ≤ w'.heap.size) : KeepsOthers w w' :=
  ⟨hs, fun k o hk ho => h k o hk (by simp) (fun c fz e1 => by subst e1; cases ho)⟩
theorem boxed_others {e t : TypeId} {w w' : World} {B : Nat} {v : Value} (h : Boxed w B t v) (hk : Lib.OthersKept e none w w') (hne : t ≠ e) : Boxed w' B t v :=
  hk B _ h (by simp) (fun c fz e1 => by injection e1 with _ e2 _; exact hne e2)
theorem txP_end {v N : Nat} (hN : (gB v).length = N) : ∀ (d : Nat), d < N → txP (gB v) (dsc N (N - 1 - d)) = Lib.decDigits (v / 1000000000 ^ (N - 1 - d)) := by
  intro d
  induction d with
  | zero =>
    intro hd
    rw [dsc_succ (by omega), show N - 1 - 0 + 1 = N from by omega, dsc_self, txP_snoc, if_neg (by omega)]
    have h1 := (gB_get (v := v) (k := N - 1) (by omega)).1
    have hv : 0 < v := Nat.pos_of_ne_zero fun e => by subst e; rw [gB_zero] at hN; simp at hN; omega
    have h2 := (gB_top hv).2
    rw [hN] at h2
    rw [show N - 1 - 0 = N - 1 from rfl, h1, Nat.mod_eq_of_lt h2]
    rfl
  | succ d ih =>
    intro hd
    have h1 := gB_get (v := v) (k := N - 1 - (d + 1)) (by omega)
    have h2 := (gB_get (v := v) (k := N - 1 - d) (by omega)).2
    have e : N - 1 - (d + 1) + 1 = N - 1 - d := by omega
    rw [dsc_succ (by omega), e, txP_snoc, ih (by omega), if_pos (by omega), h1.1]
    have h3 := dec_step (v := v) (k := N - 1 - (d + 1)) (by rw [e]; exact h2)
    rw [e] at h3
    exact h3.symm

/-- make([]byte, 0, n). -/
theorem made_u8 (n : Nat) : madeCells (Value.int .u8 0).cells (n * 1) = (Lib.byteCells (List.replicate n 0)).toArray := by
  apply Array.ext
  · simp [size_madeCells, Lib.byteCells]
  · intro i h1 h2
    simp [madeCells, Lib.byteCells, Value.cells, Nat.mod_one]
theorem run_make0_u8 (c : Int) (n : Nat) (hc : c = (n : Int)) (hn : n ≤ 4000000000) (w : World) :
    (Instr.makeSlice 111 (.int .i64 0) (.int .i64 c)).run Tryz.prog w = .ok (.slice (some ⟨w.heap.size, 0, none⟩) 0 n) (w.alloc (.cells (Lib.byteCells (List.replicate n 0)).toArray 5)) := by
  subst hc
  obtain ⟨i0, hi0, hz0, hz1, hz2⟩ := info_parts u8_info
  have h := run_make (P := Tryz.prog) w 111 5 i0 _ slice_u8 hi0 hz0 .i64 .i64 (0 : Int) (n : Int) (by omega) (by omega) (by rw [hz2]; omega) (by omega)
  rw [hz1, Int.toNat_natCast, made_u8] at h
  exact h

set_option maxRecDepth 100000 in
set_option maxHeartbeats 2000000 in
theorem text_pos (w : World) (neg : Bool) (A : Option Addr) (n c v : Nat) (h : Lm w w.heap.size A n c (digs v)) (hc : chk neg (digs v) = 0) (hv : 0 < v) (hT : TabU w) :
    Calls Tryz.prog 54 #[.agg #[.bool neg, .slice A n c]] w fun e w' => e = .returned (.tuple #[.string ⟨(txt neg v).toArray⟩, .int .i64 0]) ∧ Below w.heap.size w w' := by
  have hl := (chk_ok.1 hc).1
  rw [h.len] at hl
  have hn0 : 0 < n := by rw [← h.len, digs_pos]; exact hv
  have hnz : ((n : Int) == 0) = false := by simp; omega
  have hgl : (gB v).length ≤ 2 * n := gB_len_le (digs_len.1 (Nat.le_of_eq h.len))
  have hg1 := gB_len_pos hv
  have HH := Lib.hid h
  have HC := Lib.hid hc
  have HT := Lib.hid hT
  have hcA := h.cap
  have hxA := h.max
  clear hc h hT
  refine (callsIn_wide (n := 8)).1 ?_
  refine callsIn_of_wp_marks Tryz.func54 rfl trivial ?_ rfl
  simp only [Tryz.ntmps54, List.size_toArray, List.length_cons, List.length_nil, Nat.reduceAdd, Nat.reduceSub, Array.replicate_succ, Array.replicate_zero, List.push_toArray, List.append_toArray, List.nil_append, List.cons_append]
  gi_wp2_with fail
  refine ⟨trivial, (callsIn_wide.2 (check_ok _ _ _ _ _ _ (HH.out.box _) HC.out)).mono ?_⟩
  rintro e w1 ⟨rfl, hb1⟩
  have ⟨hx0, hx1, hf0, hf1, hsz⟩ := box1 hb1
  have HL1 := Lib.hid ((HH.out.box _).via hb1)
  have HB1 := Lib.hid (bbox hb1)
  have HT1 := Lib.hid ((HT.out.box _).via hb1)
  clear hb1
  gi_wp2_with fail
  refine ⟨trivial, (callsIn_wide.2 (groups_any w1 A n c v HL1.out hv hl)).mono ?_⟩
  rintro e w2 ⟨G, cg, rfl, hG, hb2⟩
  have ⟨ax0, ax1⟩ := keep2 hb2 (by omega) ⟨hx0, hx1⟩
  have HB2 := Lib.hid (HB1.out.trans (hb2.mono HB1.out.size))
  have HT2 := Lib.hid (HT1.out.via hb2)
  have HG := Lib.hid hG
  have hcG := hG.cap
  have hxG := hG.max
  have hs2 := HB2.out.size
  have hs1 := hb2.size
  have hs0 : w.heap.size < w2.heap.size := by omega
  clear hb2 hG
  obtain ⟨N, hN⟩ : ∃ N, (gB v).length = N := ⟨_, rfl⟩
  have HN := Lib.hid hN
  rw [hN] at hgl hg1 hcG HG ⊢
  have hmk := fun w => run_make0_u8 (1 + (N : Int) * 9) (1 + N * 9) (by omega) (by omega) w
  clear hN
  have hq : ∀ o1 o2 o3, (((w2.alloc o1).alloc o2).alloc o3).cell? ⟨w.heap.size, 0, none⟩ = some (.bool neg) := fun o1 o2 o3 =>
    ((World.cell?_alloc_lt _ o3 _ (by simp; omega)).trans (World.cell?_alloc_lt _ o2 _ (by simp; omega))).trans ((World.cell?_alloc_lt _ o1 _ hs0).trans ax0)
  cases neg
  · gi_wp2_with fail
    obtain ⟨X, hX⟩ : ∃ X, (((w2.alloc (Obj.cells #[Value.slice G N cg] 22)).alloc (Obj.cells (Lib.byteCells (List.replicate (1 + N * 9) 0)).toArray 5)).alloc (Obj.cells #[Value.slice (some ⟨w2.heap.size + 1, 0, none⟩) 0 (1 + N * 9)] 111)) = X := ⟨_, rfl⟩
    have hbG : Hid (Boxed X w2.heap.size 22 (.slice G N cg)) := by show Boxed _ _ _ _; rw [← hX]; exact ((Boxed.new w2 _ _).alloc _).alloc _
    have hbT : Hid (Boxed X (w2.heap.size + 1 + 1) 111 (.slice (some ⟨w2.heap.size + 1, 0, none⟩) 0 (1 + N * 9))) := by
      show Boxed _ _ _ _
      have e := Boxed.new ((w2.alloc (Obj.cells #[Value.slice G N cg] 22)).alloc (Obj.cells (Lib.byteCells (List.replicate (1 + N * 9) 0)).toArray 5)) 111 (.slice (some ⟨w2.heap.size + 1, 0, none⟩) 0 (1 + N * 9))
      simp only [World.size_alloc] at e
      rw [← hX]
      exact e
    have hrow : Hid (X.ownsRow w2.heap.size 5 1 (.slice (some ⟨w2.heap.size + 1, 0, none⟩) 0 (1 + N * 9)) ([] ++ txP (gB v) (ixs ([] : List (Idx N)))).length (Lib.byteCells ([] ++ txP (gB v) (ixs ([] : List (Idx N)))))) := by
      show World.ownsRow _ _ _ _ _ _ _
      rw [← hX]
      have e : (((w2.alloc (Obj.cells #[Value.slice G N cg] 22)).alloc (Obj.cells (Lib.byteCells (List.replicate (1 + N * 9) 0)).toArray 5))).ownsRow w2.heap.size 5 1 (.slice (some ⟨(w2.alloc (Obj.cells #[Value.slice G N cg] 22)).heap.size, 0, none⟩) 0 (1 + N * 9)) 0 [] := World.ownsRow_made _ _ _ (by simp) (by simp only [maxLen]; omega) (by simp [Lib.byteCells])
      simp only [World.size_alloc] at e
      exact e.alloc _
    have hBX : Hid (Below w2.heap.size w2 X) := by
      show Below _ _ _
      rw [← hX]
      exact (((Below.refl _ w2).alloc (Nat.le_refl _) _).alloc (by simp) _).alloc (by simp; omega) _
    rw [hX]
    clear hX hq hmk
    refine ⟨trivial, (back_in Fence.wide 7 trivial rfl _ _ _ _).mono ?_⟩
    rintro e w' ⟨rfl, rfl⟩
    gi_wp2
    have bI := Boxed.new X 22 (.slice G N cg)
    have hXs := hBX.out.size
    have hXlt := Boxed.lt hbT.out
    refine wpIn_rangeFunc_ownG rfl (by omega) (gf := 109) (lb := #[.pointer (some ⟨X.heap.size, 0, none⟩)]) rfl trivial (enters_of Tryz.func109 (by kernel_rfl) rfl)
      (back_stops Fence.wide 7 trivial rfl (by omega) X.heap.size w2.heap.size G N cg (gB v) _ (by simp) (by simp; omega) bI.cell ((HG.out.below hBX.out).below ((Below.refl _ X).alloc hXs _))) kpB_t (kpB_b (by simp; omega) (by simp)) (Below.refl _ _) (fun _ => rfl)
      (fun pre W => (((∃ u, Boxed W (w2.heap.size + 1 + 1) 111 u ∧ W.ownsRow w2.heap.size 5 1 u ([] ++ txP (gB v) (ixs pre)).length (Lib.byteCells ([] ++ txP (gB v) (ixs pre))) ∧ True) ∧ Boxed W w2.heap.size 22 (.slice G N cg)) ∧ Boxed W X.heap.size 22 (.slice G N cg)) ∧ Below w2.heap.size w2 W)
      (fun _ _ _ => False)
      (OwnFrom.and (OwnFrom.and (OwnFrom.and (Own.from (holdsRow_own w2.heap.size (w2.heap.size + 1 + 1) 111 5 1 (fun pre : List (Idx N) => ([] ++ txP (gB v) (ixs pre)).length) (fun pre => Lib.byteCells ([] ++ txP (gB v) (ixs pre))) (fun _ _ => True)) _) (Own.from (boxed_own w2.heap.size 22 (fun _ => .slice G N cg)) _)) (Own.from (boxed_own X.heap.size 22 (fun _ => .slice G N cg)) _)) (ownFrom_below (Nat.le_refl _) (by simp; omega)))
      (fun _ _ _ _ _ hs _ _ => hs)
      ⟨⟨⟨⟨_, hbT.out.alloc _, hrow.out.alloc _, trivial⟩, hbG.out.alloc _⟩, bI⟩, hBX.out.alloc hXs _⟩
      (fun x => { tmps := #[.agg #[.bool false, .slice A n c], .pointer (some ⟨w.heap.size, 0, none⟩), .string ⟨#[]⟩, .int .i64 0, .int .i64 0, .pointer (some ⟨w2.heap.size, 0, none⟩), .pointer (some ⟨w2.heap.size + 1 + 1, 0, none⟩), .int .i64 (x.1 : Int), .int .u32 ((gB v)[x.1]?.getD 0 : Nat), .agg #[.bool false, .slice A n c], .int .i64 0, .int .i64 0, .bool false, undef, .pointer (some ⟨w.heap.size, 1, none⟩), .slice A n c, .int .i64 n, .bool false, .pointer (some ⟨w.heap.size, 1, none⟩), .slice A n c, .slice G N cg, .slice G N cg, .int .i64 N, .int .i64 ((N : Int) * 9), .int .i64 (1 + (N : Int) * 9), .slice (some ⟨w2.heap.size + 1, 0, none⟩) 0 (1 + N * 9), .pointer (some ⟨w.heap.size, 0, none⟩), .bool false, undef, undef, undef, .slice G N cg, .func (.func 109) #[] #[.pointer (some ⟨X.heap.size, 0, none⟩)], .int .i64 (x.1 : Int), .int .u32 ((gB v)[x.1]?.getD 0 : Nat), undef, undef, undef, undef, undef, undef, undef, undef, undef, undef, undef, undef, undef, undef], defers := [] }) ?assign ?body ?done ?stop
    case assign =>
      intro l x W K hK
      gi_wp2
      exact hK
    case body =>
      rintro l pre ⟨k, hk⟩ W ⟨⟨⟨⟨u, hu, hr, _⟩, hbg⟩, hbi⟩, hBl⟩ hlen
      have hgx := (gB_good v).get k
      have HSn := Lib.hid (txP_snoc (gB v) (ixs pre) k)
      have hl1 := txP_len (gB_good v) (ixs pre)
      rw [ixs_len] at hl1
      have hWs := hBl.size
      have HTW := Lib.hid (HT2.out.via hBl)
      have HBl := Lib.hid hBl
      have HU := Lib.hid hu
      have HR := Lib.hid hr
      have HBG := Lib.hid hbg
      have HBI := Lib.hid hbi
      have huc := hu.cell
      have hgc := hbg.cell
      generalize (gB v)[k]?.getD 0 = x at *
      generalize htx : [] ++ txP (gB v) (ixs pre) = T at *
      have hTl : T.length ≤ 1000000 := by rw [← htx, List.length_append]; simp; omega
      have HTX := Lib.hid htx
      clear hu hr hbg hbi hBl htx hl1 hlen
      dsimp only
      by_cases hkn : k < N - 1
      · have HST : Hid (txP (gB v) (ixs (pre ++ [⟨k, hk⟩])) = txP (gB v) (ixs pre) ++ padk 9 x) := by show _ = _; rw [ixs_snoc, HSn.out, if_pos (by rw [HN.out]; exact hkn)]
        gi_wp2_with fail
        refine ⟨trivial, (CallsIn.inRound l (callsIn_wide.2 (pad_any W w2.heap.size u T x HR.out hWs hgx (by omega)))).mono ?_⟩
        rintro e w3 ⟨v', rfl, hr3, hb3, hk3⟩
        have h3 := boxed_others HU.out hk3 (by decide)
        have hg3 := boxed_others HBG.out hk3 (by decide)
        have hi3 := boxed_others HBI.out hk3 (by decide)
        have hY0 : 0 < (T ++ padk 9 x).length := by rw [List.length_append]; first | (have := dec_ne x; omega) | (rw [padk_len]; omega)
        obtain ⟨Y, hY⟩ : ∃ Y, T ++ padk 9 x = Y := ⟨_, rfl⟩
        rw [hY] at hr3 hY0
        obtain ⟨g', cap', hv', _⟩ := hr3.slice hY0
        have HY := Lib.hid hY
        clear hY hY0
        subst hv'
        have hc3 := h3.cell
        have hf3 := h3.frozen
        have HR3 := Lib.hid hr3
        have HI3 := Lib.hid hi3
        have HG3 := Lib.hid hg3
        have HB3 := Lib.hid hb3
        have HK3 := Lib.hid hk3
        have HU3 := Lib.hid h3
        clear hr3 hi3 hg3 hb3 hk3 h3
        gi_wp2
        have hbf := HB3.out.setCell (p := ⟨w2.heap.size + 1 + 1, 0, none⟩) (by simp; omega) (.slice (some ⟨g', 0, none⟩) Y.length cap')
        refine ⟨((keepsO HK3.out HB3.out.size).trans (KeepsOthers.setCell _ _ _)).from _, ⟨hbf, (HI3.out.other (B' := w2.heap.size + 1 + 1) (by omega) _).cell.trans HBI.out.cell.symm⟩, ⟨⟨⟨_, HU3.out.set _, ?_, trivial⟩, HG3.out.other (by omega) _⟩, HI3.out.other (by omega) _⟩, HBl.out.trans hbf⟩
        rw [HST.out, ← List.append_assoc, HTX.out, HY.out]
        exact World.ownsRow.kept HR3.out (grownBy_setCell' _ _ _) (.inr (HU3.out.not_row (by decide) HR3.out).symm)
      · have hki : decide ((k : Int) < (N : Int) - 1) = false := by simp; omega
        have HST : Hid (txP (gB v) (ixs (pre ++ [⟨k, hk⟩])) = txP (gB v) (ixs pre) ++ Lib.decDigits x) := by show _ = _; rw [ixs_snoc, HSn.out, if_neg (by rw [HN.out]; exact hkn)]
        gi_wp2_with fail
        refine ⟨trivial, (CallsIn.inRound l (callsIn_wide.2 (apu_any W w2.heap.size u T x HR.out hWs (by omega) (by omega) (fun _ => HTW.out)))).mono ?_⟩
        rintro e w3 ⟨v', rfl, hr3, hb3, hk3⟩
        have h3 := boxed_others HU.out hk3 (by decide)
        have hg3 := boxed_others HBG.out hk3 (by decide)
        have hi3 := boxed_others HBI.out hk3 (by decide)
        have hY0 : 0 < (T ++ Lib.decDigits x).length := by rw [List.length_append]; first | (have := dec_ne x; omega) | (rw [padk_len]; omega)
        obtain ⟨Y, hY⟩ : ∃ Y, T ++ Lib.decDigits x = Y := ⟨_, rfl⟩
        rw [hY] at hr3 hY0
        obtain ⟨g', cap', hv', _⟩ := hr3.slice hY0
        have HY := Lib.hid hY
        clear hY hY0
        subst hv'
        have hc3 := h3.cell
        have hf3 := h3.frozen
        have HR3 := Lib.hid hr3
        have HI3 := Lib.hid hi3
        have HG3 := Lib.hid hg3
        have HB3 := Lib.hid hb3
        have HK3 := Lib.hid hk3
        have HU3 := Lib.hid h3
        clear hr3 hi3 hg3 hb3 hk3 h3
        gi_wp2
        have hbf := HB3.out.setCell (p := ⟨w2.heap.size + 1 + 1, 0, none⟩) (by simp; omega) (.slice (some ⟨g', 0, none⟩) Y.length cap')
        refine ⟨((keepsO HK3.out HB3.out.size).trans (KeepsOthers.setCell _ _ _)).from _, ⟨hbf, (HI3.out.other (B' := w2.heap.size + 1 + 1) (by omega) _).cell.trans HBI.out.cell.symm⟩, ⟨⟨⟨_, HU3.out.set _, ?_, trivial⟩, HG3.out.other (by omega) _⟩, HI3.out.other (by omega) _⟩, HBl.out.trans hbf⟩
        rw [HST.out, ← List.append_assoc, HTX.out, HY.out]
        exact World.ownsRow.kept HR3.out (grownBy_setCell' _ _ _) (.inr (HU3.out.not_row (by decide) HR3.out).symm)
    case done =>
      rintro D zs W hD hzs ⟨⟨⟨⟨u, hu, hr, _⟩, hbg⟩, hbi⟩, hBl⟩ hK
      have huc := hu.cell
      have HT9 : Hid ([] ++ txP (gB v) (ixs zs) = txt false v) := by
        show _ = _
        have h1 : ixs zs = dsc N (N - 1 - (N - 1)) := by rw [Nat.sub_self]; exact hzs
        rw [h1, txP_end HN.out (N - 1) (by omega), Nat.sub_self, Nat.pow_zero, Nat.div_one]
        rfl
      rw [HT9.out] at hr
      have hBw : Bw W w2.heap.size u (txt false v) := hr
      obtain ⟨g', cap', hv', hcs⟩ := hBw.slice (by unfold txt; rw [List.length_append]; have := dec_ne v; omega)
      have hcv := run_convert_bytes_back (P := Tryz.prog) W 111 9 5 ⟨g', 0, none⟩ cap' (txt false v) slice_u8 (Tryz.underlying5) (Tryz.underlying9) hcs
      subst hv'
      have HB9 := Lib.hid (HB2.out.trans ((hBl.trans (belowK_b (w := w2) (Nat.le_refl _) W D (.deferred (some [])) (.deferred none) (by simp at hD; omega) hK rfl rfl)).mono hs2))
      clear hbg hbi hBl hzs hr hBw hcs
      gi_wp2
      refine ⟨by simp, .inl ⟨_, _, rfl, run_takeDeferred hK, ?_⟩⟩
      exact ⟨.tuple #[.string ⟨(txt false v).toArray⟩, .int .i64 0], by simp [results, Tryz.f54, go_sem], rfl, HB9.out⟩
    case stop =>
      rintro D c pre W _ _ h _
      exact h.elim
  · obtain ⟨i0, hi0, hz0, hz1, hz2⟩ := info_parts u8_info
    have hbG0 : Hid (Boxed (((w2.alloc (Obj.cells #[Value.slice G N cg] 22)).alloc (Obj.cells (Lib.byteCells (List.replicate (1 + N * 9) 0)).toArray 5)).alloc (Obj.cells #[Value.slice (some ⟨w2.heap.size + 1, 0, none⟩) 0 (1 + N * 9)] 111)) w2.heap.size 22 (.slice G N cg)) := ((Boxed.new w2 _ _).alloc _).alloc _
    have hbT0 : Hid (Boxed (((w2.alloc (Obj.cells #[Value.slice G N cg] 22)).alloc (Obj.cells (Lib.byteCells (List.replicate (1 + N * 9) 0)).toArray 5)).alloc (Obj.cells #[Value.slice (some ⟨w2.heap.size + 1, 0, none⟩) 0 (1 + N * 9)] 111)) (w2.heap.size + 1 + 1) 111 (.slice (some ⟨w2.heap.size + 1, 0, none⟩) 0 (1 + N * 9))) := by
      show Boxed _ _ _ _
      have e := Boxed.new ((w2.alloc (Obj.cells #[Value.slice G N cg] 22)).alloc (Obj.cells (Lib.byteCells (List.replicate (1 + N * 9) 0)).toArray 5)) 111 (.slice (some ⟨w2.heap.size + 1, 0, none⟩) 0 (1 + N * 9))
      simp only [World.size_alloc] at e
      exact e
    have hrow0 : Hid ((((w2.alloc (Obj.cells #[Value.slice G N cg] 22)).alloc (Obj.cells (Lib.byteCells (List.replicate (1 + N * 9) 0)).toArray 5)).alloc (Obj.cells #[Value.slice (some ⟨w2.heap.size + 1, 0, none⟩) 0 (1 + N * 9)] 111)).ownsRow w2.heap.size 5 1 (.slice (some ⟨w2.heap.size + 1, 0, none⟩) 0 (1 + N * 9)) 0 []) := by
      show World.ownsRow _ _ _ _ _ _ _
      have e : (((w2.alloc (Obj.cells #[Value.slice G N cg] 22)).alloc (Obj.cells (Lib.byteCells (List.replicate (1 + N * 9) 0)).toArray 5))).ownsRow w2.heap.size 5 1 (.slice (some ⟨(w2.alloc (Obj.cells #[Value.slice G N cg] 22)).heap.size, 0, none⟩) 0 (1 + N * 9)) 0 [] := World.ownsRow_made _ _ _ (by simp) (by simp only [maxLen]; omega) (by simp [Lib.byteCells])
      simp only [World.size_alloc] at e
      exact e.alloc _
    have hBX0 : Hid (Below w2.heap.size w2 (((w2.alloc (Obj.cells #[Value.slice G N cg] 22)).alloc (Obj.cells (Lib.byteCells (List.replicate (1 + N * 9) 0)).toArray 5)).alloc (Obj.cells #[Value.slice (some ⟨w2.heap.size + 1, 0, none⟩) 0 (1 + N * 9)] 111))) := (((Below.refl _ w2).alloc (Nat.le_refl _) _).alloc (by simp) _).alloc (by simp; omega) _
    have hnew : Hid (∀ (j : Nat) (u : Value), [Value.int .u8 45][j]? = some u → ((((w2.alloc (Obj.cells #[Value.slice G N cg] 22)).alloc (Obj.cells (Lib.byteCells (List.replicate (1 + N * 9) 0)).toArray 5)).alloc (Obj.cells #[Value.slice (some ⟨w2.heap.size + 1, 0, none⟩) 0 (1 + N * 9)] 111)).alloc (Obj.cells #[Value.int .u8 45] 5)).cell? (Addr.add ⟨w2.heap.size + 1 + 1 + 1, 0, none⟩ j) = some u) := by
      have e := cell_one_new (((w2.alloc (Obj.cells #[Value.slice G N cg] 22)).alloc (Obj.cells (Lib.byteCells (List.replicate (1 + N * 9) 0)).toArray 5)).alloc (Obj.cells #[Value.slice (some ⟨w2.heap.size + 1, 0, none⟩) 0 (1 + N * 9)] 111)) (.int .u8 45) 5
      simp only [World.size_alloc] at e
      exact e
    gi_wp2_with (gi_at_builtin; refine wpListIn_append_own _ rfl _ _ 111 rfl w2.heap.size 5 i0 (.int .u8 0) 1 1 slice_u8 hi0 hz0 hz1 hz2 rfl (by decide) _ _ _ rfl (hrow0.out.alloc _) ⟨w2.heap.size + 1 + 1 + 1, 0, none⟩ 1 1 [.int .u8 45] rfl rfl hnew.out (by simp [Value.oneCell']) (by simp only [maxLen]; omega) (by omega) (by simp; omega) ?_; intro v' w5 hown' hgrow _; obtain ⟨g', cap', rfl⟩ := ownsRow_succ hown'; obtain ⟨hv1, hv2, hr2, hk2, hb2⟩ := hbT0.out.appended (by decide) hrow0.out (by simp; omega) (by omega) hown' hgrow; have hc1' := hv1.cell; have hf1' := hv1.frozen; have hbG5 := Lib.hid ((hbG0.out.alloc _).kept hgrow (hbG0.out.not_row (by decide) hrow0.out)); have hgc5 := hbG5.out.cell)
    have hbG6 := Lib.hid (hbG5.out.other (B' := w2.heap.size + 1 + 1) (by omega) (.slice (some ⟨g', 0, none⟩) 1 cap'))
    have hHV := Lib.hid hv2
    have hHR := Lib.hid hr2
    have hHB := Lib.hid (hBX0.out.trans hb2)
    clear hv1 hv2 hr2 hk2 hb2 hown' hgrow hc1' hf1' hgc5
    obtain ⟨X, hX⟩ : ∃ X, w5.setCell ⟨w2.heap.size + 1 + 1, 0, none⟩ (.slice (some ⟨g', 0, none⟩) 1 cap') = X := ⟨_, rfl⟩
    have hbG : Hid (Boxed X w2.heap.size 22 (.slice G N cg)) := by show Boxed _ _ _ _; rw [← hX]; exact hbG6.out
    have hbT : Hid (Boxed X (w2.heap.size + 1 + 1) 111 (.slice (some ⟨g', 0, none⟩) 1 cap')) := by show Boxed _ _ _ _; rw [← hX]; exact hHV.out
    have hrow : Hid (X.ownsRow w2.heap.size 5 1 (.slice (some ⟨g', 0, none⟩) 1 cap') ([45] ++ txP (gB v) (ixs ([] : List (Idx N)))).length (Lib.byteCells ([45] ++ txP (gB v) (ixs ([] : List (Idx N)))))) := by show World.ownsRow _ _ _ _ _ _ _; rw [← hX]; exact hHR.out
    have hBX : Hid (Below w2.heap.size w2 X) := by show Below _ _ _; rw [← hX]; exact hHB.out
    rw [hX]
    clear hX hq hmk
    refine ⟨trivial, (back_in Fence.wide 7 trivial rfl _ _ _ _).mono ?_⟩
    rintro e w' ⟨rfl, rfl⟩
    gi_wp2
    have bI := Boxed.new X 22 (.slice G N cg)
    have hXs := hBX.out.size
    have hXlt := Boxed.lt hbT.out
    refine wpIn_rangeFunc_ownG rfl (by omega) (gf := 109) (lb := #[.pointer (some ⟨X.heap.size, 0, none⟩)]) rfl trivial (enters_of Tryz.func109 (by kernel_rfl) rfl)
      (back_stops Fence.wide 7 trivial rfl (by omega) X.heap.size w2.heap.size G N cg (gB v) _ (by simp) (by simp; omega) bI.cell ((HG.out.below hBX.out).below ((Below.refl _ X).alloc hXs _))) kpB_t (kpB_b (by simp; omega) (by simp)) (Below.refl _ _) (fun _ => rfl)
      (fun pre W => (((∃ u, Boxed W (w2.heap.size + 1 + 1) 111 u ∧ W.ownsRow w2.heap.size 5 1 u ([45] ++ txP (gB v) (ixs pre)).length (Lib.byteCells ([45] ++ txP (gB v) (ixs pre))) ∧ True) ∧ Boxed W w2.heap.size 22 (.slice G N cg)) ∧ Boxed W X.heap.size 22 (.slice G N cg)) ∧ Below w2.heap.size w2 W)
      (fun _ _ _ => False)
      (OwnFrom.and (OwnFrom.and (OwnFrom.and (Own.from (holdsRow_own w2.heap.size (w2.heap.size + 1 + 1) 111 5 1 (fun pre : List (Idx N) => ([45] ++ txP (gB v) (ixs pre)).length) (fun pre => Lib.byteCells ([45] ++ txP (gB v) (ixs pre))) (fun _ _ => True)) _) (Own.from (boxed_own w2.heap.size 22 (fun _ => .slice G N cg)) _)) (Own.from (boxed_own X.heap.size 22 (fun _ => .slice G N cg)) _)) (ownFrom_below (Nat.le_refl _) (by simp; omega)))
      (fun _ _ _ _ _ hs _ _ => hs)
      ⟨⟨⟨⟨_, hbT.out.alloc _, hrow.out.alloc _, trivial⟩, hbG.out.alloc _⟩, bI⟩, hBX.out.alloc hXs _⟩
      (fun x => { tmps := #[.agg #[.bool true, .slice A n c], .pointer (some ⟨w.heap.size, 0, none⟩), .string ⟨#[]⟩, .int .i64 0, .int .i64 0, .pointer (some ⟨w2.heap.size, 0, none⟩), .pointer (some ⟨w2.heap.size + 1 + 1, 0, none⟩), .int .i64 (x.1 : Int), .int .u32 ((gB v)[x.1]?.getD 0 : Nat), .agg #[.bool true, .slice A n c], .int .i64 0, .int .i64 0, .bool false, undef, .pointer (some ⟨w.heap.size, 1, none⟩), .slice A n c, .int .i64 n, .bool false, .pointer (some ⟨w.heap.size, 1, none⟩), .slice A n c, .slice G N cg, .slice G N cg, .int .i64 N, .int .i64 ((N : Int) * 9), .int .i64 (1 + (N : Int) * 9), .slice (some ⟨w2.heap.size + 1, 0, none⟩) 0 (1 + N * 9), .pointer (some ⟨w.heap.size, 0, none⟩), .bool true, .slice (some ⟨w2.heap.size + 1, 0, none⟩) 0 (1 + N * 9), .slice (some ⟨w2.heap.size + 1 + 1 + 1, 0, none⟩) 1 1, .slice (some ⟨g', 0, none⟩) 1 cap', .slice G N cg, .func (.func 109) #[] #[.pointer (some ⟨X.heap.size, 0, none⟩)], .int .i64 (x.1 : Int), .int .u32 ((gB v)[x.1]?.getD 0 : Nat), undef, undef, undef, undef, undef, undef, undef, undef, undef, undef, undef, undef, undef, undef], defers := [] }) ?assign ?body ?done ?stop
    case assign =>
      intro l x W K hK
      gi_wp2
      exact hK
    case body =>
      rintro l pre ⟨k, hk⟩ W ⟨⟨⟨⟨u, hu, hr, _⟩, hbg⟩, hbi⟩, hBl⟩ hlen
      have hgx := (gB_good v).get k
      have HSn := Lib.hid (txP_snoc (gB v) (ixs pre) k)
      have hl1 := txP_len (gB_good v) (ixs pre)
      rw [ixs_len] at hl1
      have hWs := hBl.size
      have HTW := Lib.hid (HT2.out.via hBl)
      have HBl := Lib.hid hBl
      have HU := Lib.hid hu
      have HR := Lib.hid hr
      have HBG := Lib.hid hbg
      have HBI := Lib.hid hbi
      have huc := hu.cell
      have hgc := hbg.cell
      generalize (gB v)[k]?.getD 0 = x at *
      generalize htx : [45] ++ txP (gB v) (ixs pre) = T at *
      have hTl : T.length ≤ 1000000 := by rw [← htx, List.length_append]; simp; omega
      have HTX := Lib.hid htx
      clear hu hr hbg hbi hBl htx hl1 hlen
      dsimp only
      by_cases hkn : k < N - 1
      · have HST : Hid (txP (gB v) (ixs (pre ++ [⟨k, hk⟩])) = txP (gB v) (ixs pre) ++ padk 9 x) := by show _ = _; rw [ixs_snoc, HSn.out, if_pos (by rw [HN.out]; exact hkn)]
        gi_wp2_with fail
        refine ⟨trivial, (CallsIn.inRound l (callsIn_wide.2 (pad_any W w2.heap.size u T x HR.out hWs hgx (by omega)))).mono ?_⟩
        rintro e w3 ⟨v', rfl, hr3, hb3, hk3⟩
        have h3 := boxed_others HU.out hk3 (by decide)
        have hg3 := boxed_others HBG.out hk3 (by decide)
        have hi3 := boxed_others HBI.out hk3 (by decide)
        have hY0 : 0 < (T ++ padk 9 x).length := by rw [List.length_append]; first | (have := dec_ne x; omega) | (rw [padk_len]; omega)
        obtain ⟨Y, hY⟩ : ∃ Y, T ++ padk 9 x = Y := ⟨_, rfl⟩
        rw [hY] at hr3 hY0
        obtain ⟨g', cap', hv', _⟩ := hr3.slice hY0
        have HY := Lib.hid hY
        clear hY hY0
        subst hv'
        have hc3 := h3.cell
        have hf3 := h3.frozen
        have HR3 := Lib.hid hr3
        have HI3 := Lib.hid hi3
        have HG3 := Lib.hid hg3
        have HB3 := Lib.hid hb3
        have HK3 := Lib.hid hk3
        have HU3 := Lib.hid h3
        clear hr3 hi3 hg3 hb3 hk3 h3
        gi_wp2
        have hbf := HB3.out.setCell (p := ⟨w2.heap.size + 1 + 1, 0, none⟩) (by simp; omega) (.slice (some ⟨g', 0, none⟩) Y.length cap')
        refine ⟨((keepsO HK3.out HB3.out.size).trans (KeepsOthers.setCell _ _ _)).from _, ⟨hbf, (HI3.out.other (B' := w2.heap.size + 1 + 1) (by omega) _).cell.trans HBI.out.cell.symm⟩, ⟨⟨⟨_, HU3.out.set _, ?_, trivial⟩, HG3.out.other (by omega) _⟩, HI3.out.other (by omega) _⟩, HBl.out.trans hbf⟩
        rw [HST.out, ← List.append_assoc, HTX.out, HY.out]
        exact World.ownsRow.kept HR3.out (grownBy_setCell' _ _ _) (.inr (HU3.out.not_row (by decide) HR3.out).symm)
      · have hki : decide ((k : Int) < (N : Int) - 1) = false := by simp; omega
        have HST : Hid (txP (gB v) (ixs (pre ++ [⟨k, hk⟩])) = txP (gB v) (ixs pre) ++ Lib.decDigits x) := by show _ = _; rw [ixs_snoc, HSn.out, if_neg (by rw [HN.out]; exact hkn)]
        gi_wp2_with fail
        refine ⟨trivial, (CallsIn.inRound l (callsIn_wide.2 (apu_any W w2.heap.size u T x HR.out hWs (by omega) (by omega) (fun _ => HTW.out)))).mono ?_⟩
        rintro e w3 ⟨v', rfl, hr3, hb3, hk3⟩
        have h3 := boxed_others HU.out hk3 (by decide)
        have hg3 := boxed_others HBG.out hk3 (by decide)
        have hi3 := boxed_others HBI.out hk3 (by decide)
        have hY0 : 0 < (T ++ Lib.decDigits x).length := by rw [List.length_append]; first | (have := dec_ne x; omega) | (rw [padk_len]; omega)
        obtain ⟨Y, hY⟩ : ∃ Y, T ++ Lib.decDigits x = Y := ⟨_, rfl⟩
        rw [hY] at hr3 hY0
        obtain ⟨g', cap', hv', _⟩ := hr3.slice hY0
        have HY := Lib.hid hY
        clear hY hY0
        subst hv'
        have hc3 := h3.cell
        have hf3 := h3.frozen
        have HR3 := Lib.hid hr3
        have HI3 := Lib.hid hi3
        have HG3 := Lib.hid hg3
        have HB3 := Lib.hid hb3
        have HK3 := Lib.hid hk3
        have HU3 := Lib.hid h3
        clear hr3 hi3 hg3 hb3 hk3 h3
        gi_wp2
        have hbf := HB3.out.setCell (p := ⟨w2.heap.size + 1 + 1, 0, none⟩) (by simp; omega) (.slice (some ⟨g', 0, none⟩) Y.length cap')
        refine ⟨((keepsO HK3.out HB3.out.size).trans (KeepsOthers.setCell _ _ _)).from _, ⟨hbf, (HI3.out.other (B' := w2.heap.size + 1 + 1) (by omega) _).cell.trans HBI.out.cell.symm⟩, ⟨⟨⟨_, HU3.out.set _, ?_, trivial⟩, HG3.out.other (by omega) _⟩, HI3.out.other (by omega) _⟩, HBl.out.trans hbf⟩
        rw [HST.out, ← List.append_assoc, HTX.out, HY.out]
        exact World.ownsRow.kept HR3.out (grownBy_setCell' _ _ _) (.inr (HU3.out.not_row (by decide) HR3.out).symm)
    case done =>
      rintro D zs W hD hzs ⟨⟨⟨⟨u, hu, hr, _⟩, hbg⟩, hbi⟩, hBl⟩ hK
      have huc := hu.cell
      have HT9 : Hid ([45] ++ txP (gB v) (ixs zs) = txt true v) := by
        show _ = _
        have h1 : ixs zs = dsc N (N - 1 - (N - 1)) := by rw [Nat.sub_self]; exact hzs
        rw [h1, txP_end HN.out (N - 1) (by omega), Nat.sub_self, Nat.pow_zero, Nat.div_one]
        rfl
      rw [HT9.out] at hr
      have hBw : Bw W w2.heap.size u (txt true v) := hr
      obtain ⟨g', cap', hv', hcs⟩ := hBw.slice (by unfold txt; rw [List.length_append]; have := dec_ne v; omega)
      have hcv := run_convert_bytes_back (P := Tryz.prog) W 111 9 5 ⟨g', 0, none⟩ cap' (txt true v) slice_u8 (Tryz.underlying5) (Tryz.underlying9) hcs
      subst hv'
      have HB9 := Lib.hid (HB2.out.trans ((hBl.trans (belowK_b (w := w2) (Nat.le_refl _) W D (.deferred (some [])) (.deferred none) (by simp at hD; omega) hK rfl rfl)).mono hs2))
      clear hbg hbi hBl hzs hr hBw hcs
      gi_wp2
      refine ⟨by simp, .inl ⟨_, _, rfl, run_takeDeferred hK, ?_⟩⟩
      exact ⟨.tuple #[.string ⟨(txt true v).toArray⟩, .int .i64 0], by simp [results, Tryz.f54, go_sem], rfl, HB9.out⟩
    case stop =>
      rintro D c pre W _ _ h _
      exact h.elim
end Go.Proofs.YtbplbbkmfbjkfaaGreatDoor

/- wide.Text at every number. -/
namespace Go.Proofs.YtbplbbkmfbjkfaaGreatDoor
open Go.RowKit
theorem text_ok (w : World) (neg : Bool) (A : Option Addr) (n c v : Nat) (h : Lm w w.heap.size A n c (digs v)) (hc : chk neg (digs v) = 0) (hT : TabU w) :
    Calls Tryz.prog 54 #[.agg #[.bool neg, .slice A n c]] w fun e w' => e = .returned (.tuple #[.string ⟨(txt neg v).toArray⟩, .int .i64 0]) ∧ Below w.heap.size w w' := by
  rcases Nat.eq_zero_or_pos v with h0 | h0
  · subst h0
    obtain rfl : n = 0 := h.len.symm
    obtain rfl : neg = false := by
      cases neg
      · rfl
      · exact absurd rfl ((chk_ok.1 hc).2.2 rfl)
    have e : txt false 0 = [48] := by unfold txt; rw [dec_small (by omega)]; rfl
    rw [e]
    exact text_zero w A c h
  · exact text_pos w neg A n c v h hc h0 hT
end Go.Proofs.YtbplbbkmfbjkfaaGreatDoor

/- wide.isText: whether bytes are the text of an absolute value. -/
namespace Go.Proofs.YtbplbbkmfbjkfaaGreatDoor
open Go.RowKit

def isDig (c : UInt8) : Bool := decide (48 ≤ c.toNat) && decide (c.toNat ≤ 57)
def txtOk (l : List UInt8) : Bool := l.all isDig && (decide (l = [48]) || (decide (l ≠ []) && decide (l[0]?.getD 0 ≠ 48)))
def decV (l : List UInt8) : Nat := l.foldl (fun a c => a * 10 + (c.toNat - 48)) 0
theorem str_get (l : List UInt8) (k : Nat) (_ : k < l.length) (h2 : k < (⟨l.toArray⟩ : ByteArray).size) : (⟨l.toArray⟩ : ByteArray)[k]'h2 = l[k] := rfl
theorem str_size (l : List UInt8) : (⟨l.toArray⟩ : ByteArray).size = l.length := by simp [ByteArray.size]

set_option maxRecDepth 100000 in
set_option maxHeartbeats 2000000 in
theorem istext_any (w : World) (l : List UInt8) (hl : l.length ≤ 1000000000000) :
    Calls Tryz.prog 121 #[.string ⟨l.toArray⟩] w fun e w' => e = .returned (.bool (txtOk l)) ∧ Below w.heap.size w w' := by
  have hs := str_size l
  have hk0 : (w.iter ⟨l.toArray⟩ 0).heap[w.heap.size]? = some (.stringIter ⟨l.toArray⟩ 0) := World.iter_heap w _ 0
  have hb0 : Below w.heap.size w (w.iter ⟨l.toArray⟩ 0) := (Below.refl _ w).alloc (Nat.le_refl _) _
  have HK0 := Lib.hid hk0
  have HB0 := Lib.hid hb0
  have HS := Lib.hid hs
  clear hk0 hb0 hs
  go_enter Tryz.func121, Tryz.ntmps121
  go_wp2
  go_loopw [4] (fun _ wr => ∃ pos : Nat, pos ≤ l.length ∧ wr.heap[w.heap.size]? = some (.stringIter ⟨l.toArray⟩ pos) ∧ (l.take pos).all isDig = true ∧ Below w.heap.size w wr)
    (fun _ wr => l.length - wr.iterPos w.heap.size)
  case atStart => exact ⟨0, Nat.zero_le _, HK0.out, rfl, HB0.out⟩
  case round =>
    obtain ⟨pos, hps, hk, hall, hbl⟩ := hrel
    have HK := Lib.hid hk
    have HAll := Lib.hid hall
    have HBl := Lib.hid hbl
    have hmu : wr.iterPos w.heap.size = pos := by simp [World.iterPos, hk]
    have HMu := Lib.hid hmu
    clear hk hall hbl hmu
    by_cases hp : pos < l.length
    · have hps2 : pos < (⟨l.toArray⟩ : ByteArray).size := by rw [HS.out]; exact hp
      have hge := str_get l pos hp hps2
      by_cases h128 : (l[pos]'hp).toNat < 128
      · have hnext : ∀ ty, (Instr.next (.pointer (some ⟨w.heap.size, 0, none⟩)) true ty).run Tryz.prog wr = .ok (.tuple #[.bool true, .int .i64 pos, .int .i32 (l[pos]'hp).toNat]) (wr.iterAt w.heap.size ⟨l.toArray⟩ (pos + 1)) := fun ty => by
          have e := Lib.run_next_ascii_at (P := Tryz.prog) wr w.heap.size ⟨l.toArray⟩ pos ty HK.out hps2 (by rw [hge]; exact h128)
          rw [hge] at e
          exact e
        have hk1 := Lib.hid (Lib.iterAt_heap wr w.heap.size ⟨l.toArray⟩ pos (pos + 1) HK.out)
        have hb1 := Lib.hid (Lib.below_iterAt HBl.out (Nat.le_refl _) ⟨l.toArray⟩ (pos + 1))
        have HT : Hid (∀ k, (l.take (pos + 1)).all k = ((l.take pos).all k && k (l[pos]'hp))) := by
          show ∀ k, _ = _
          intro k
          rw [take_snoc_ l pos hp, List.all_append]
          simp
        generalize wr.iterAt w.heap.size ⟨l.toArray⟩ (pos + 1) = W1 at hnext hk1 hb1
        clear hge hps2
        by_cases hd : 48 ≤ (l[pos]'hp).toNat ∧ (l[pos]'hp).toNat ≤ 57
        · have HD : Hid (isDig (l[pos]'hp) = true) := by show _ = _; unfold isDig; simp [hd.1, hd.2]
          obtain ⟨hd1, hd2⟩ := hd
          generalize (l[pos]'hp).toNat = c at *
          go_wp2
          go_roundw
          case rel => exact ⟨pos + 1, by omega, hk1.out, by rw [HT.out, HAll.out, HD.out]; rfl, hb1.out⟩
          case measure =>
            have hmu2 : W1.iterPos w.heap.size = pos + 1 := by simp [World.iterPos, hk1.out]
            rw [HMu.out, hmu2]
            omega
        · have HF : Hid (txtOk l = false) := by
            show _ = _
            unfold txtOk
            have h1 : l.all isDig = false := by
              rw [List.all_eq_false]
              exact ⟨l[pos]'hp, List.getElem_mem hp, by unfold isDig; simp; omega⟩
            rw [h1]; rfl
          generalize (l[pos]'hp).toNat = c at *
          by_cases h48 : c < 48
          · clear hd
            go_wp2
            go_ret
            exact ⟨by rw [HF.out]; rfl, hb1.out⟩
          · have h57 : 57 < c := by omega
            clear hd
            go_wp2
            go_ret
            exact ⟨by rw [HF.out]; rfl, hb1.out⟩
      · have hdh := decode_high ⟨l.toArray⟩ pos hps2 (by rw [hge]; omega)
        have hnext : ∀ ty, (Instr.next (.pointer (some ⟨w.heap.size, 0, none⟩)) true ty).run Tryz.prog wr = .ok (.tuple #[.bool true, .int .i64 pos, .int .i32 (Utf8.decode ⟨l.toArray⟩ pos).1]) (wr.iterAt w.heap.size ⟨l.toArray⟩ (pos + (Utf8.decode ⟨l.toArray⟩ pos).2)) := fun ty => Lib.run_next_any_at wr w.heap.size ⟨l.toArray⟩ pos ty HK.out hps2
        have hb1 := Lib.hid (Lib.below_iterAt HBl.out (Nat.le_refl _) ⟨l.toArray⟩ (pos + (Utf8.decode ⟨l.toArray⟩ pos).2))
        have hle := decode_le ⟨l.toArray⟩ pos
        have HF : Hid (txtOk l = false) := by
          show _ = _
          unfold txtOk
          have h1 : l.all isDig = false := by
            rw [List.all_eq_false]
            exact ⟨l[pos]'hp, List.getElem_mem hp, by unfold isDig; simp; omega⟩
          rw [h1]; rfl
        have hr1 := hdh.1
        clear hdh
        generalize wr.iterAt w.heap.size ⟨l.toArray⟩ (pos + (Utf8.decode ⟨l.toArray⟩ pos).2) = W1 at hnext hb1
        generalize (Utf8.decode ⟨l.toArray⟩ pos).1 = r at *
        clear hge hps2
        go_wp2
        go_ret
        exact ⟨by rw [HF.out]; rfl, hb1.out⟩
    · have hnext : ∀ ty, (Instr.next (.pointer (some ⟨w.heap.size, 0, none⟩)) true ty).run Tryz.prog wr = .ok (.tuple #[.bool false]) wr := fun ty => Lib.run_next_end_at wr w.heap.size ⟨l.toArray⟩ pos ty HK.out (by rw [HS.out]; exact hp)
      have HAll2 : Hid (l.all isDig = true) := by
        have e := HAll.out
        rw [List.take_of_length_le (by omega)] at e
        exact e
      by_cases h1 : l = [48]
      · subst h1
        go_wp2
        go_ret
        exact ⟨rfl, HBl.out⟩
      · by_cases h2 : l = []
        · subst h2
          go_wp2
          go_ret
          exact ⟨rfl, HBl.out⟩
        · obtain ⟨c, t, rfl⟩ := List.exists_cons_of_ne_nil h2
          have hnt : ¬c = 48 ∨ ¬t = [] := by
            by_cases hc : c = 48
            · right; rintro rfl; exact h1 (by rw [hc])
            · exact .inl hc
          have H1 := Lib.hid h1
          clear h1 h2
          go_wp2
          go_ret
          refine ⟨ret_bool ?_, HBl.out⟩
          show ((c == 48 && t.isEmpty) || ((c.toNat : Int) != 48)) = _
          have e1 : (c == 48 && t.isEmpty) = false := by
            rcases hnt with h | h
            · simp [h]
            · cases t with
              | nil => exact absurd rfl h
              | cons a b => simp
          rw [e1]
          unfold txtOk
          rw [HAll2.out, decide_eq_false H1.out, decide_eq_true (show c :: t ≠ [] by simp)]
          by_cases hc : c = 48
          · subst hc; rfl
          · have h3 : c.toNat ≠ 48 := fun e => hc (UInt8.toNat_inj.1 e)
            have h2 : (c.toNat : Int) ≠ 48 := by omega
            simp [hc, h2]
end Go.Proofs.YtbplbbkmfbjkfaaGreatDoor

/- wide.pushGroup: an absolute value whose text has nine digits more. -/
namespace Go.Proofs.YtbplbbkmfbjkfaaGreatDoor
open Go.RowKit

/-- The limbs of a product with y and a sum with g, from the lowest one on, and what is carried. -/
def mgK (g : Nat) (xs : List Nat) (y : Nat) : Nat → List Nat × Nat
  | 0 => ([], g)
  | k + 1 => ((mgK g xs y k).1 ++ [((mgK g xs y k).2 + xs[k]?.getD 0 * y) % 4294967296], ((mgK g xs y k).2 + xs[k]?.getD 0 * y) / 4294967296)
theorem mgK_len (g : Nat) (xs : List Nat) (y k : Nat) : (mgK g xs y k).1.length = k := by
  induction k with
  | zero => rfl
  | succ k ih => simp [mgK, ih]
theorem mgK_good (g : Nat) (xs : List Nat) (y k : Nat) : Good (mgK g xs y k).1 := by
  induction k with
  | zero => exact Good.nil
  | succ k ih => exact ih.append (Good.nil.cons (Nat.mod_lt _ (by omega)))
theorem mgK_carry {g : Nat} {xs : List Nat} {y : Nat} (hx : Good xs) (hg : g < 1000000000) (hy : y ≤ 1000000000) (k : Nat) : (mgK g xs y k).2 ≤ 1000000000 := by
  induction k with
  | zero => show g ≤ _; omega
  | succ k ih =>
    show ((mgK g xs y k).2 + xs[k]?.getD 0 * y) / 4294967296 ≤ _
    have h1 := hx.get k
    have h2 : xs[k]?.getD 0 * y ≤ 4294967295 * 1000000000 := Nat.mul_le_mul (by omega) hy
    omega
theorem mgK_val (g : Nat) (xs : List Nat) (y k : Nat) : val (mgK g xs y k).1 + 4294967296 ^ k * (mgK g xs y k).2 = val (xs.take k) * y + g := by
  induction k with
  | zero => simp [mgK, val_nil]
  | succ k ih =>
    have h1 : (mgK g xs y (k + 1)).1 = (mgK g xs y k).1 ++ [((mgK g xs y k).2 + xs[k]?.getD 0 * y) % 4294967296] := rfl
    have h2 : (mgK g xs y (k + 1)).2 = ((mgK g xs y k).2 + xs[k]?.getD 0 * y) / 4294967296 := rfl
    rw [h1, h2, val_snoc, mgK_len, val_take_succ', pow_succ_]
    generalize (mgK g xs y k).2 = c at *
    generalize xs[k]?.getD 0 = x at *
    have h3 := Nat.div_add_mod (c + x * y) 4294967296
    generalize (c + x * y) / 4294967296 = q at *
    generalize (c + x * y) % 4294967296 = r at *
    have h4 : 4294967296 ^ k * r + 4294967296 * 4294967296 ^ k * q = 4294967296 ^ k * (4294967296 * q + r) := by grind
    have h5 : (val (xs.take k) + 4294967296 ^ k * x) * y = val (xs.take k) * y + 4294967296 ^ k * (x * y) := by grind
    rw [h3, Nat.mul_add] at h4
    rw [h5]
    omega
theorem norm_of_ge {xs : List Nat} (g : Good xs) (h : 0 < xs.length → 4294967296 ^ (xs.length - 1) ≤ val xs) : Norm xs := by
  intro h0
  have hne : xs ≠ [] := fun e => by subst e; cases h0
  have hl : 0 < xs.length := List.length_pos_iff.2 hne
  have h1 := h hl
  have h2 := val_split xs (xs.length - 1) (by omega)
  have h3 : val (xs.drop (xs.length - 1)) = 0 := by
    rw [val_step, show xs.length - 1 + 1 = xs.length from by omega, List.drop_length, val_nil, (last_get hl).1 h0]
  rw [h3, Nat.mul_zero, Nat.add_zero] at h2
  have h5 := val_lt (g.take (xs.length - 1))
  rw [List.length_take, Nat.min_eq_left (by omega)] at h5
  omega
/-- With the carry as a last limb, where there is one, these are the number's limbs. -/
theorem mg_digs {g V n : Nat} (hn : (digs V).length = n) (hg : g < 1000000000) (hc : 0 < (mgK g (digs V) 1000000000 n).2) : (mgK g (digs V) 1000000000 n).1 ++ [(mgK g (digs V) 1000000000 n).2] = digs (V * 1000000000 + g) := by
  have hcy := mgK_carry (digs_good V) hg (Nat.le_refl 1000000000) n
  have hv := mgK_val g (digs V) 1000000000 n
  rw [List.take_of_length_le (by omega), digs_val] at hv
  refine eq_digs ((mgK_good _ _ _ _).append (Good.nil.cons (by omega))) ?_ (by rw [val_snoc, mgK_len]; exact hv)
  intro h0
  rw [List.getLast?_append] at h0
  simp at h0
  omega
theorem mg_digs0 {g V n : Nat} (hn : (digs V).length = n) (hc : (mgK g (digs V) 1000000000 n).2 = 0) : (mgK g (digs V) 1000000000 n).1 = digs (V * 1000000000 + g) := by
  have hv := mgK_val g (digs V) 1000000000 n
  rw [List.take_of_length_le (by omega), digs_val, hc, Nat.mul_zero, Nat.add_zero] at hv
  refine eq_digs (mgK_good _ _ _ _) (norm_of_ge (mgK_good _ _ _ _) fun h0 => ?_) hv
  rw [mgK_len] at h0 ⊢
  rw [hv]
  have h1 := val_ge (digs_norm V) (n - 1) (by omega)
  rw [digs_val] at h1
  omega

/-- A call returns the limbs of v in a slice of the call's own. -/
def ROw (w : World) (B v : Nat) (e : Ending) (w' : World) : Prop := ∃ A c, e = .returned (.slice A (digs v).length c) ∧ Ow w' B (.slice A (digs v).length c) (digs v) ∧ Below B w w' ∧ Lib.OthersKept 79 none w w'
theorem Ow.slice {w : World} {B n c : Nat} {A : Option Addr} {ts : List Nat} (h : Ow w B (.slice A n c) ts) (hn : 0 < ts.length) : ∃ g, A = some ⟨g, 0, none⟩ := by
  rcases h.2 with ⟨_, h0⟩ | ⟨g, cap, cur, e, _⟩
  · omega
  · injection e with e1 _ _
    exact ⟨g, e1⟩

set_option maxRecDepth 100000 in
set_option maxHeartbeats 1000000 in
theorem push_any (w : World) (B : Nat) (A : Option Addr) (n c V g : Nat) (hO : Ow w B (.slice A n c) (digs V)) (hn : (digs V).length = n) (hB : B ≤ w.heap.size) (hg : g < 1000000000) (hlen : n ≤ 1000000) :
    Calls Tryz.prog 145 #[.slice A n c, .int .u64 (g : Int)] w (ROw w B (V * 1000000000 + g)) := by
  have HO := Lib.hid hO
  have HN := Lib.hid hn
  clear hO hn
  go_enter Tryz.func145, Tryz.ntmps145
  go_wp2
  go_loopw [5, 11] (fun cy i wr => ∃ k : Nat, k ≤ n ∧ i = .int .i64 k ∧ cy = .int .u64 ((mgK g (digs V) 1000000000 k).2 : Nat) ∧ Ow wr B (.slice A n c) ((mgK g (digs V) 1000000000 k).1 ++ (digs V).drop k) ∧ Below B w wr ∧ Lib.OthersKept 79 none w wr) (fun _ i _ => n - (intOf i).toNat)
  case atStart => exact ⟨0, Nat.zero_le _, rfl, rfl, HO.out, Below.refl _ _, Lib.OthersKept.refl _ _ _⟩
  case round =>
    obtain ⟨k, hk, rfl, rfl, hU, hb, hkp⟩ := hrel
    have HU := Lib.hid hU
    have HBl := Lib.hid hb
    have HK := Lib.hid hkp
    have hs := hb.size
    clear hU hb hkp
    have hcy := mgK_carry (digs_good V) hg (Nat.le_refl 1000000000) k
    have hml := mgK_len g (digs V) 1000000000 k
    by_cases hlt : k < n
    · obtain ⟨gb, rfl⟩ := HU.out.slice (by rw [List.length_append, hml, List.length_drop, HN.out]; omega)
      have hxg := (digs_good V).get k
      have hmx : (digs V)[k]?.getD 0 * 1000000000 ≤ 4294967295 * 1000000000 := Nat.mul_le_mul_right _ (by omega)
      have hT : Hid ((((mgK g (digs V) 1000000000 k).1 ++ (digs V).drop k).length) = n) := by show _ = _; rw [List.length_append, hml, List.length_drop, HN.out]; omega
      have hU' : Hid (wr.ownsRow B 79 1 (.slice (some ⟨gb, 0, none⟩) n c) n (((mgK g (digs V) 1000000000 k).1 ++ (digs V).drop k).map u32c)) := by
        show World.ownsRow _ _ _ _ _ _ _
        have e := HU.out
        unfold Ow at e
        rw [hT.out] at e
        exact e
      have hel : ((mgK g (digs V) 1000000000 k).1 ++ (digs V).drop k)[k]?.getD 0 = (digs V)[k]?.getD 0 := by
        rw [List.getElem?_append_right (by rw [hml]; exact Nat.le_refl _), hml, Nat.sub_self, List.getElem?_drop, Nat.add_zero]
      have hct : wr.cell? ⟨gb, k, none⟩ = some (.int .u32 ((digs V)[k]?.getD 0 : Nat)) := by
        rw [hU'.out.cellAt k (by omega), getD_map _ k (by rw [hT.out]; exact hlt), hel]
      have hft := hU'.out.frozenAt k
      have HSt : Hid (((mgK g (digs V) 1000000000 k).1 ++ (digs V).drop k).set k (((mgK g (digs V) 1000000000 k).2 + (digs V)[k]?.getD 0 * 1000000000) % 4294967296) = (mgK g (digs V) 1000000000 (k + 1)).1 ++ (digs V).drop (k + 1)) := by
        show _ = _
        rw [List.set_append_right _ _ (by rw [hml]; exact Nat.le_refl _), hml, Nat.sub_self, drop_cons_ _ k (by rw [HN.out]; exact hlt), List.set_cons_zero]
        show _ = ((mgK g (digs V) 1000000000 k).1 ++ [((mgK g (digs V) 1000000000 k).2 + (digs V)[k]?.getD 0 * 1000000000) % 4294967296]) ++ (digs V).drop (k + 1)
        rw [List.append_assoc]
        rfl
      have HCy : Hid ((mgK g (digs V) 1000000000 (k + 1)).2 = ((mgK g (digs V) 1000000000 k).2 + (digs V)[k]?.getD 0 * 1000000000) / 4294967296) := rfl
      have HKi := Lib.hid (Lib.ownsRow_kind hU'.out)
      clear hel hT
      generalize (mgK g (digs V) 1000000000 k).2 = cy at *
      generalize (digs V)[k]?.getD 0 = x at *
      go_wp2
      go_roundw
      case rel =>
        have hst := hU'.out.stored k (u32c ((cy + x * 1000000000) % 4294967296))
        refine ⟨k + 1, by omega, by go_num, by rw [HCy.out]; go_num, ?_, HBl.out.setCell (p := ⟨gb, k, none⟩) (World.ownsRow.lt hU'.out gb rfl).1 _, HK.out.trans ((Lib.OthersKept.refl _ _ _).grown hst.2 HKi.out)⟩
        have e := hst.1
        rw [← List.map_set, HSt.out] at e
        have hl : ((mgK g (digs V) 1000000000 (k + 1)).1 ++ (digs V).drop (k + 1)).length = n := by rw [List.length_append, mgK_len, List.length_drop, HN.out]; omega
        unfold Ow
        rw [hl]
        have e2 : (.int .u32 (((cy : Int) + (x : Int) * 1000000000) % 4294967296) : Value) = u32c ((cy + x * 1000000000) % 4294967296) := by
          unfold u32c
          congr 1
        rw [e2]
        exact e
      case measure => simp [intOf]; omega
    · obtain rfl : k = n := by omega
      have HD : Hid ((digs V).drop k = []) := by show _ = _; exact List.drop_of_length_le (by rw [HN.out]; exact Nat.le_refl _)
      have HU2 : Hid (Ow wr B (.slice A k c) (mgK g (digs V) 1000000000 k).1) := HU.out.eq (by rw [HD.out, List.append_nil])
      rcases Nat.eq_zero_or_pos (mgK g (digs V) 1000000000 k).2 with h0 | h0
      · have HE := Lib.hid (mg_digs0 HN.out h0)
        rw [h0]
        clear h0
        go_wp2
        go_ret
        have HL : Hid ((digs (V * 1000000000 + g)).length = k) := by show _ = _; rw [← HE.out, mgK_len]
        refine ⟨A, c, by rw [HL.out]; rfl, by rw [HL.out]; exact HU2.out.eq HE.out, HBl.out, HK.out⟩
      · have HE := Lib.hid (mg_digs HN.out hg h0)
        generalize hcc : (mgK g (digs V) 1000000000 k).2 = cc at *
        go_wp2_with (at_builtin; refine wpList_append_u32 _ rfl _ _ rfl B _ _ rfl HU2.out _ cc 1 (by omega) (by rw [hml]; omega) (by omega) rfl ?_; intro u' w1 hU1 hg1)
        have hU3 := hU1.eq HE.out
        obtain ⟨A', c', rfl, _⟩ := hU3.lm (digs_good _)
        go_ret
        refine ⟨A', c', rfl, hU3, HBl.out.trans (HU2.out.below (Below.refl B wr) (by omega) hg1), HK.out.trans (((Lib.OthersKept.refl _ _ _).alloc _).grown hg1 (Lib.ownsRow_kind (World.ownsRow.alloc HU2.out _)))⟩
end Go.Proofs.YtbplbbkmfbjkfaaGreatDoor

/- wide.read: the absolute value with a text. -/
namespace Go.Proofs.YtbplbbkmfbjkfaaGreatDoor
open Go.RowKit

theorem decV_snoc (l : List UInt8) (c : UInt8) : decV (l ++ [c]) = decV l * 10 + (c.toNat - 48) := by
  unfold decV; rw [List.foldl_append]; rfl
theorem decV_take {l : List UInt8} {p : Nat} (h : p < l.length) : decV (l.take (p + 1)) = decV (l.take p) * 10 + ((l[p]'h).toNat - 48) := by
  rw [take_snoc_ l p h, decV_snoc]
theorem all_get {l : List UInt8} (h : l.all isDig = true) {p : Nat} (hp : p < l.length) : 48 ≤ (l[p]'hp).toNat ∧ (l[p]'hp).toNat ≤ 57 := by
  have h1 := List.all_eq_true.1 h _ (List.getElem_mem hp)
  unfold isDig at h1
  simpa using h1
theorem fold_lt : ∀ (l : List UInt8) (a : Nat), l.all isDig = true → l.foldl (fun a c => a * 10 + (c.toNat - 48)) a < (a + 1) * 10 ^ l.length
  | [], a, _ => by simp
  | c :: t, a, h => by
    rw [List.all_cons, Bool.and_eq_true] at h
    have h1 := fold_lt t (a * 10 + (c.toNat - 48)) h.2
    have h2 : c.toNat ≤ 57 := by
      have := h.1
      unfold isDig at this
      simp at this
      exact this.2
    have h3 : (a * 10 + (c.toNat - 48) + 1) * 10 ^ t.length ≤ ((a + 1) * 10) * 10 ^ t.length := Nat.mul_le_mul_right _ (by omega)
    rw [List.foldl_cons, List.length_cons, Nat.pow_succ, Nat.mul_comm (10 ^ t.length), ← Nat.mul_assoc]
    exact Nat.lt_of_lt_of_le h1 h3
theorem decV_lt {l : List UInt8} (h : l.all isDig = true) : decV l < 10 ^ l.length := by
  have := fold_lt l 0 h
  rw [Nat.zero_add, Nat.one_mul] at this
  exact this
theorem all_take {l : List UInt8} (h : l.all isDig = true) (k : Nat) : (l.take k).all isDig = true := by
  rw [List.all_eq_true] at h ⊢
  exact fun c hc => h c (List.mem_of_mem_take hc)
theorem decT_len {l : List UInt8} (h : l.all isDig = true) (k : Nat) : (digs (decV (l.take k))).length ≤ l.length := by
  have h1 := digs_len.2 (Nat.lt_of_lt_of_le (decV_lt (all_take h k)) (Nat.pow_le_pow_left (show 10 ≤ 4294967296 by omega) _))
  rw [List.length_take] at h1
  omega
/-- Where the last whole group ends. -/
def fl (L p : Nat) : Nat := if p < L % 9 then 0 else p - (p - L % 9) % 9
theorem fl_le (L p : Nat) : fl L p ≤ p := by unfold fl; split <;> omega
theorem fl_lt (L p : Nat) : p - fl L p ≤ 8 := by unfold fl; split <;> omega
theorem fl_hit {L p : Nat} (hp : p < L) (h : (L - 1 - p) % 9 = 0) : fl L (p + 1) = p + 1 ∧ (fl L p = 0 ∨ p + 1 - fl L p = 9) := by unfold fl; split <;> split <;> omega
theorem fl_miss {L p : Nat} (hp : p < L) (h : (L - 1 - p) % 9 ≠ 0) : fl L (p + 1) = fl L p := by unfold fl; split <;> split <;> omega
theorem ten_bd {d G : Nat} (h : d ≤ 8) (hG : G < 10 ^ d) : G < 100000000 := Nat.lt_of_lt_of_le hG (by
  have := Nat.pow_le_pow_right (show 1 ≤ 10 by omega) h
  exact this)
theorem Ow.iterAt {w : World} {B : Nat} {v : Value} {ts : List Nat} (h : Ow w B v ts) {k : Nat} {s : ByteArray} {pos : Nat} (hk : w.heap[k]? = some (.stringIter s pos)) (p : Nat) : Ow (w.iterAt k s p) B v ts := by
  refine ⟨h.1, ?_⟩
  rcases h.2 with h0 | ⟨g, cap, cur, e, hb, hg, r⟩
  · exact .inl h0
  · refine .inr ⟨g, cap, cur, e, hb, ?_, r⟩
    rw [Lib.iterAt_other w k g s p (fun e1 => by rw [e1, hk] at hg; cases hg)]
    exact hg
theorem read_step {L p f G d D1 D2 D3 T : Nat} (hT : T = 10 ^ 9) (hp : p < L) (hf : f = fl L p) (h1 : D1 = D2 * 10 ^ (p - f) + G) (h3 : D3 = D1 * 10 + d) (h0 : fl L p = 0 → D2 = 0) (hit : (L - 1 - p) % 9 = 0) : D3 = D2 * T + (G * 10 + d) := by
  have h4 := (fl_hit hp hit).2
  rw [← hf] at h4 h0
  rcases h4 with h5 | h5
  · rw [h0 h5, Nat.zero_mul, Nat.zero_add] at h1
    rw [h0 h5, Nat.zero_mul, Nat.zero_add, h3, h1]
  · have e : T = 10 ^ (p - f) * 10 := by rw [← Nat.pow_succ, show (p - f).succ = 9 from by omega, hT]
    rw [e, h3, h1, Nat.add_mul, Nat.mul_assoc, Nat.add_assoc]

set_option maxRecDepth 100000 in
set_option maxHeartbeats 2000000 in
theorem read_any (w : World) (l : List UInt8) (hd : l.all isDig = true) (hl : l.length ≤ 100000) :
    Calls Tryz.prog 122 #[.string ⟨l.toArray⟩] w fun e w' => ∃ A c, e = .returned (.slice A (digs (decV l)).length c) ∧ Lm w' w'.heap.size A (digs (decV l)).length c (digs (decV l)) ∧ Below w.heap.size w w' := by
  have HD := Lib.hid hd
  have HS := Lib.hid (str_size l)
  have hmk := fun w => run_make0_u32 ((l.length : Int) / 9 + 1) (l.length / 9 + 1) (by omega) (by omega) w
  have r0 := (Ow.made w 0 (l.length / 9 + 1) (Nat.zero_le _) (by omega)).alloc (.stringIter ⟨l.toArray⟩ 0)
  have R0 := Lib.hid r0
  have hk0 := Lib.hid (World.iter_heap (w.alloc (.cells ((zer (l.length / 9 + 1)).map u32c).toArray 79)) ⟨l.toArray⟩ 0)
  have hb0 := Lib.hid (((Below.refl _ w).alloc (Nat.le_refl _) (.cells ((zer (l.length / 9 + 1)).map u32c).toArray 79)).alloc (by show _ ≤ (w.heap.push _).size; rw [Array.size_push]; omega) (.stringIter ⟨l.toArray⟩ 0))
  have hz0 : Hid ((w.alloc (.cells ((zer (l.length / 9 + 1)).map u32c).toArray 79)).heap.size = w.heap.size + 1) := by show (w.heap.push _).size = _; rw [Array.size_push]
  clear hd r0
  go_enter Tryz.func122, Tryz.ntmps122
  go_wp2
  go_loopw [3, 4, 5, 6] (fun mag grp _ _ wr => ∃ pos G c : Nat, ∃ A : Option Addr, pos ≤ l.length ∧ wr.heap[w.heap.size + 1]? = some (.stringIter ⟨l.toArray⟩ pos) ∧ mag = .slice A (digs (decV (l.take (fl l.length pos)))).length c ∧ Ow wr w.heap.size mag (digs (decV (l.take (fl l.length pos)))) ∧ grp = .int .u64 (G : Int) ∧ G < 10 ^ (pos - fl l.length pos) ∧ decV (l.take pos) = decV (l.take (fl l.length pos)) * 10 ^ (pos - fl l.length pos) + G ∧ Below w.heap.size w wr)
    (fun _ _ _ _ wr => l.length - wr.iterPos (w.heap.size + 1))
  case atStart =>
    have e : fl l.length 0 = 0 := by unfold fl; split <;> omega
    refine ⟨0, 0, l.length / 9 + 1, some ⟨w.heap.size, 0, none⟩, Nat.zero_le _, ?_, ?_, ?_, rfl, ?_, ?_, hb0.out⟩
    · have e1 := hk0.out
      rw [hz0.out] at e1
      exact e1
    · rw [e]; rfl
    · rw [e]; exact R0.out
    · rw [e]; decide
    · rw [e]; rfl
  case round =>
    obtain ⟨pos, G, c, A, hps, hk, rfl, hO, rfl, hG, hdv, hbl⟩ := hrel
    have HK := Lib.hid hk
    have HO := Lib.hid hO
    have HBl := Lib.hid hbl
    have HDv := Lib.hid hdv
    have hmu : wr.iterPos (w.heap.size + 1) = pos := by simp [World.iterPos, hk]
    have HMu := Lib.hid hmu
    have hGs := ten_bd (fl_lt l.length pos) hG
    have HG := Lib.hid hG
    clear hk hO hbl hmu hG hdv
    by_cases hp : pos < l.length
    · have hps2 : pos < (⟨l.toArray⟩ : ByteArray).size := by rw [HS.out]; exact hp
      have hge := str_get l pos hp hps2
      have hcd := all_get HD.out hp
      have hnext : ∀ ty, (Instr.next (.pointer (some ⟨w.heap.size + 1, 0, none⟩)) true ty).run Tryz.prog wr = .ok (.tuple #[.bool true, .int .i64 pos, .int .i32 (l[pos]'hp).toNat]) (wr.iterAt (w.heap.size + 1) ⟨l.toArray⟩ (pos + 1)) := fun ty => by
        have e := Lib.run_next_ascii_at (P := Tryz.prog) wr (w.heap.size + 1) ⟨l.toArray⟩ pos ty HK.out hps2 (by rw [hge]; omega)
        rw [hge] at e
        exact e
      have hk1 := Lib.hid (Lib.iterAt_heap wr (w.heap.size + 1) ⟨l.toArray⟩ pos (pos + 1) HK.out)
      have hb1 := Lib.hid (Lib.below_iterAt HBl.out (Nat.le_succ _) ⟨l.toArray⟩ (pos + 1))
      have hO1 := Lib.hid (HO.out.iterAt HK.out (pos + 1))
      have hz1 : w.heap.size ≤ (wr.iterAt (w.heap.size + 1) ⟨l.toArray⟩ (pos + 1)).heap.size := hb1.out.size
      have HT := Lib.hid (decV_take hp)
      have hlen := decT_len HD.out (fl l.length pos)
      generalize wr.iterAt (w.heap.size + 1) ⟨l.toArray⟩ (pos + 1) = W1 at hnext hk1 hb1 hO1 hz1
      generalize (l[pos]'hp).toNat = x at *
      have hGx : G * 10 + (x - 48) < 1000000000 := by omega
      clear hge hps2
      by_cases hit : (l.length - 1 - pos) % 9 = 0
      · have hitI : ((l.length : Int) - 1 - pos) % 9 = 0 := by omega
        have HGx : Hid (((G : Int) * 10 + ((x : Int) - 48)) = ((G * 10 + (x - 48) : Nat) : Int)) := by show _ = _; omega
        go_wp2_with (go_at_call 145; rw [HGx.out]; refine (push_any _ w.heap.size A _ c _ _ hO1.out rfl hz1 hGx (by omega)).mono ?_; rintro e w2 ⟨A2, c2, rfl, hO2, hb2, hkp2⟩; have HO2 := Lib.hid hO2; have HB2 := Lib.hid hb2; have HK2 := Lib.hid (hkp2 _ _ hk1.out (by simp) (fun _ _ e => by cases e)); clear hO2 hb2 hkp2)
        go_roundw
        case rel =>
          have hf1 := (fl_hit hp hit).1
          have hval : decV (l.take (fl l.length pos)) * 1000000000 + (G * 10 + (x - 48)) = decV (l.take (pos + 1)) := (read_step (T := 1000000000) (by decide) hp rfl HDv.out HT.out (fun e => by rw [e]; rfl) hit).symm
          rw [hval] at HO2
          refine ⟨pos + 1, 0, c2, A2, by omega, HK2.out, ?_, ?_, rfl, ?_, ?_, hb1.out.trans HB2.out⟩
          · rw [hf1, hval]
          · rw [hf1, hval]; exact HO2.out
          · rw [hf1, Nat.sub_self]; decide
          · rw [hf1, Nat.sub_self]; omega
        case measure =>
          have hmu2 : w2.iterPos (w.heap.size + 1) = pos + 1 := by simp [World.iterPos, HK2.out]
          rw [HMu.out, hmu2]
          omega
      · have hitI : ¬((l.length : Int) - 1 - pos) % 9 = 0 := by omega
        go_wp2
        go_roundw
        case rel =>
          have hf1 := fl_miss hp hit
          have hle := fl_le l.length pos
          refine ⟨pos + 1, G * 10 + (x - 48), c, A, by omega, hk1.out, ?_, ?_, ?_, ?_, ?_, hb1.out⟩
          · rw [hf1]
          · rw [hf1]; exact hO1.out
          · congr 1; omega
          · rw [hf1, Nat.sub_add_comm hle, Nat.pow_succ]
            have := HG.out
            omega
          · rw [hf1, Nat.sub_add_comm hle, Nat.pow_succ, HT.out, HDv.out, Nat.add_mul, Nat.mul_assoc, Nat.add_assoc]
        case measure =>
          have hmu2 : W1.iterPos (w.heap.size + 1) = pos + 1 := by simp [World.iterPos, hk1.out]
          rw [HMu.out, hmu2]
          omega
    · have hnext : ∀ ty, (Instr.next (.pointer (some ⟨w.heap.size + 1, 0, none⟩)) true ty).run Tryz.prog wr = .ok (.tuple #[.bool false]) wr := fun ty => Lib.run_next_end_at wr (w.heap.size + 1) ⟨l.toArray⟩ pos ty HK.out (by rw [HS.out]; exact hp)
      have hfin : fl l.length pos = l.length := by
        unfold fl
        have : pos = l.length := by omega
        subst this
        split <;> omega
      have HO2 : Hid (Ow wr w.heap.size (.slice A (digs (decV l)).length c) (digs (decV l))) := by
        have e := HO.out
        rw [hfin, List.take_length] at e
        exact e
      rw [hfin, List.take_length]
      obtain ⟨A2, c2, e2, hLm⟩ := HO2.out.lm (digs_good _)
      injection e2 with eA _ eC
      subst eA eC
      have HLm := Lib.hid hLm
      clear hLm
      go_wp2
      go_ret
      exact ⟨A, c, rfl, HLm.out, HBl.out⟩
end Go.Proofs.YtbplbbkmfbjkfaaGreatDoor

/- strings.CutPrefix of a minus sign. -/
namespace Go.Proofs.YtbplbbkmfbjkfaaGreatDoor
open Go.RowKit

set_option maxHeartbeats 1000000 in
theorem cut_any (s p : ByteArray) (w : World) :
    Calls Tryz.prog 60 #[.string s, .string p] w fun e w' => e = .returned (.tuple #[.string ⟨(Lib.trimPrefix s.data.toList p.data.toList).toArray⟩, .bool (Lib.hasPrefix s.data.toList p.data.toList)]) ∧ w' = w := by
  go_enter Tryz.func60, Tryz.ntmps60
  go_wp2
  · have h1 : p.size ≤ s.size := by assumption
    have h2 : (!((s.extract 0 p.size).toList == p.toList)) = true := by assumption
    have h4 : ((s.extract 0 p.size).toList == p.toList) = false := by simpa using h2
    have h3 : (decide (p.size ≤ s.size) && ((s.extract 0 p.size).toList == p.toList)) = false := by rw [h4, Bool.and_false]
    go_ret2
    refine ⟨?_, rfl⟩
    rw [Lib.trimPrefix_miss s p h3, ← Lib.hasPrefix_raw, h3]
    rfl
  · have h1 : p.size ≤ s.size := by assumption
    have h2 : (!((s.extract 0 p.size).toList == p.toList)) = false := by assumption
    have h4 : ((s.extract 0 p.size).toList == p.toList) = true := by simpa using h2
    go_ret2
    refine ⟨?_, rfl⟩
    rw [Lib.trimPrefix_hit s p h1 h4, ← Lib.hasPrefix_raw, h4, decide_eq_true h1]
    rfl
  · have h1 : ¬ p.size ≤ s.size := by assumption
    have h3 : (decide (p.size ≤ s.size) && ((s.extract 0 p.size).toList == p.toList)) = false := by rw [decide_eq_false h1, Bool.false_and]
    go_ret2
    refine ⟨?_, rfl⟩
    rw [Lib.trimPrefix_miss s p h3, ← Lib.hasPrefix_raw, h3]
    rfl
/-- Whether a text begins with a minus sign, and what is behind it. -/
def minus : List UInt8 → Bool × List UInt8
  | 45 :: t => (true, t)
  | l => (false, l)
theorem minus_pfx (l : List UInt8) : Lib.hasPrefix l [45] = (minus l).1 ∧ Lib.trimPrefix l [45] = (minus l).2 := by
  cases l with
  | nil => exact ⟨rfl, rfl⟩
  | cons c t =>
    by_cases h : c = 45
    · subst h
      exact ⟨rfl, rfl⟩
    · have h0 : (45 == c) = false := by simpa using fun e => h e.symm
      have h1 : Lib.hasPrefix (c :: t) [45] = false := by
        unfold Lib.hasPrefix
        simp [List.isPrefixOf, h0]
      have h2 : minus (c :: t) = (false, c :: t) := by
        unfold minus
        split
        · rename_i e
          injection e with e1 _
          exact absurd e1 h
        · rfl
      rw [h1, h2]
      exact ⟨rfl, by unfold Lib.trimPrefix; rw [h1]; rfl⟩
theorem cut_minus (l : List UInt8) (w : World) :
    Calls Tryz.prog 60 #[.string ⟨l.toArray⟩, .string ⟨#[45]⟩] w fun e w' => e = .returned (.tuple #[.string ⟨(minus l).2.toArray⟩, .bool (minus l).1]) ∧ w' = w := by
  refine (cut_any ⟨l.toArray⟩ ⟨#[45]⟩ w).mono ?_
  rintro e w' ⟨rfl, rfl⟩
  refine ⟨?_, rfl⟩
  have h := minus_pfx l
  show Ending.returned (.tuple #[.string ⟨(Lib.trimPrefix l [45]).toArray⟩, .bool (Lib.hasPrefix l [45])]) = _
  rw [h.1, h.2]
theorem minus_len (l : List UInt8) : (minus l).2.length ≤ l.length := by
  unfold minus
  split
  · exact Nat.le_succ _
  · exact Nat.le_refl _
end Go.Proofs.YtbplbbkmfbjkfaaGreatDoor

/- wide.Parse: the number with a text. -/
namespace Go.Proofs.YtbplbbkmfbjkfaaGreatDoor
open Go.RowKit

/-- Whether bytes are the text of a number. -/
def pOk (l : List UInt8) : Bool := txtOk (minus l).2 && !((minus l).1 && decide ((minus l).2 = [48]))
theorem txtOk_all {l : List UInt8} (h : txtOk l = true) : l.all isDig = true := by
  unfold txtOk at h
  rw [Bool.and_eq_true] at h
  exact h.1
theorem boxes1 {w w1 : World} {t0 : TypeId} {a0 a1 : Value} (hb : Below (w.alloc (.cells #[a0, a1] t0)).heap.size (w.alloc (.cells #[a0, a1] t0)) w1) : Pr w1 w.heap.size a0 a1 := (Pr.new w _ rfl a0 a1 t0).via hb

set_option maxRecDepth 100000 in
set_option maxHeartbeats 1000000 in
theorem parse_good (w : World) (l : List UInt8) (neg : Bool) (t : List UInt8) (hm : minus l = (neg, t)) (hO : txtOk t = true) (hN : neg = true → t ≠ [48]) (hl : t.length ≤ 39457) :
    Calls Tryz.prog 96 #[.string ⟨l.toArray⟩] w (RW w (mkN neg (decV t)) (mkL (decV t)) (mkE (decV t))) := by
  have hcut := cut_minus l
  rw [hm] at hcut
  have HC := Lib.hid hcut
  have HO := Lib.hid hO
  have HS := Lib.hid (str_size t)
  have HN := Lib.hid hN
  clear hcut hO hm hN
  go_enter Tryz.func96, Tryz.ntmps96
  cases neg with
  | false =>
    go_wp2_with (first
      | (go_at_call 60; refine (HC.out _).mono ?_; rintro e w' ⟨rfl, rfl⟩)
      | (go_at_call 121; refine (istext_any _ t (by omega)).mono ?_; rintro e w1 ⟨rfl, hb1⟩; rw [HO.out]; have P1 := boxes1 hb1; obtain ⟨c0, c1, f0, f1, lt1⟩ := P1; have HB1 := Lib.hid hb1; clear hb1)
      | (go_at_call 122; refine (read_any _ t (txtOk_all HO.out) (by omega)).mono ?_; rintro e w2 ⟨A, c, rfl, hL, hb2⟩; have P2 := Lib.hid (Pr.via ⟨c0, c1, f0, f1, lt1⟩ hb2); have HL := Lib.hid hL; have HB2 := Lib.hid hb2; clear hL hb2 c0 c1 f0 f1 lt1)
      | (go_at_call 71; refine (made_any _ _ _ _ _ _ HL.out).mono ?_; rintro e w3 ⟨A3, n3, c3, rfl, hL3, hb3⟩; obtain ⟨c0, c1, f0, f1, lt1⟩ := P2.out.via hb3; have HL3 := Lib.hid hL3; have HB3 := Lib.hid hb3; clear hL3 hb3)
      | fail)
    have P3 : Pr w3 w.heap.size (.bool false) (.slice none 0 0) := ⟨c0, c1, f0, f1, lt1⟩
    exact post_ws Tryz.results96 rfl rfl P3.c0 P3.c1 ⟨A3, n3, c3, rfl, HL3.out.setP P3 _ _,
      below_set2 (((bbox HB1.out).trans (HB2.out.mono (bbox HB1.out).size)).trans (HB3.out.mono (Nat.le_trans (bbox HB1.out).size HB2.out.size))) (by omega) _ _⟩
  | true =>
    have hz2 : (t == [48]) = false := by simpa using HN.out rfl
    go_wp2_with (first
      | (go_at_call 60; refine (HC.out _).mono ?_; rintro e w' ⟨rfl, rfl⟩)
      | (go_at_call 121; refine (istext_any _ t (by omega)).mono ?_; rintro e w1 ⟨rfl, hb1⟩; rw [HO.out]; have P1 := boxes1 hb1; obtain ⟨c0, c1, f0, f1, lt1⟩ := P1; have HB1 := Lib.hid hb1; clear hb1)
      | (go_at_call 122; refine (read_any _ t (txtOk_all HO.out) (by omega)).mono ?_; rintro e w2 ⟨A, c, rfl, hL, hb2⟩; have P2 := Lib.hid (Pr.via ⟨c0, c1, f0, f1, lt1⟩ hb2); have HL := Lib.hid hL; have HB2 := Lib.hid hb2; clear hL hb2 c0 c1 f0 f1 lt1)
      | (go_at_call 71; refine (made_any _ _ _ _ _ _ HL.out).mono ?_; rintro e w3 ⟨A3, n3, c3, rfl, hL3, hb3⟩; obtain ⟨c0, c1, f0, f1, lt1⟩ := P2.out.via hb3; have HL3 := Lib.hid hL3; have HB3 := Lib.hid hb3; clear hL3 hb3)
      | fail)
    have P3 : Pr w3 w.heap.size (.bool false) (.slice none 0 0) := ⟨c0, c1, f0, f1, lt1⟩
    exact post_ws Tryz.results96 rfl rfl P3.c0 P3.c1 ⟨A3, n3, c3, rfl, HL3.out.setP P3 _ _,
      below_set2 (((bbox HB1.out).trans (HB2.out.mono (bbox HB1.out).size)).trans (HB3.out.mono (Nat.le_trans (bbox HB1.out).size HB2.out.size))) (by omega) _ _⟩

/-- Whether bytes are the text of a number. -/
theorem parse_ok (w : World) (l : List UInt8) (h : pOk l = true) (hl : l.length ≤ 39457) :
    Calls Tryz.prog 96 #[.string ⟨l.toArray⟩] w (RW w (mkN (minus l).1 (decV (minus l).2)) (mkL (decV (minus l).2)) (mkE (decV (minus l).2))) := by
  unfold pOk at h
  rw [Bool.and_eq_true, Bool.not_eq_true'] at h
  refine parse_good w l _ _ rfl h.1 (fun e e2 => ?_) (Nat.le_trans (minus_len l) hl)
  have h2 := h.2
  rw [e, e2] at h2
  cases h2
end Go.Proofs.YtbplbbkmfbjkfaaGreatDoor

/- Decimal texts and numbers: one is the other's. -/
namespace Go.Proofs.YtbplbbkmfbjkfaaGreatDoor
open Go.RowKit

theorem dig_toNat {d : Nat} (h : d < 10) : (UInt8.ofNat (48 + d)).toNat = 48 + d := by
  rw [UInt8.toNat_ofNat']
  exact Nat.mod_eq_of_lt (by omega)
theorem dig_isDig {d : Nat} (h : d < 10) : isDig (UInt8.ofNat (48 + d)) = true := by
  unfold isDig
  rw [dig_toNat h, decide_eq_true (by omega), decide_eq_true (by omega)]
  rfl
theorem decV_one (c : UInt8) : decV [c] = c.toNat - 48 := by
  show 0 * 10 + _ = _
  omega
theorem dec_all (u : Nat) : (Lib.decDigits u).all isDig = true := by
  induction u using Nat.strongRecOn with
  | _ u ih =>
    by_cases h : u < 10
    · rw [dec_small h, List.all_cons, dig_isDig h]
      rfl
    · rw [dec_big (by omega), List.all_append, ih (u / 10) (by omega), List.all_cons, dig_isDig (Nat.mod_lt _ (by omega))]
      rfl
theorem dec_head (u : Nat) (h0 : 0 < u) : Lib.decDigits u ≠ [] ∧ (Lib.decDigits u)[0]?.getD 0 ≠ 48 := by
  induction u using Nat.strongRecOn with
  | _ u ih =>
    by_cases h : u < 10
    · rw [dec_small h]
      refine ⟨by simp, fun e => ?_⟩
      have e2 : (UInt8.ofNat (48 + u)).toNat = 48 := congrArg UInt8.toNat e
      rw [dig_toNat h] at e2
      omega
    · have h1 := ih (u / 10) (by omega) (by omega)
      rw [dec_big (by omega)]
      refine ⟨by simp, ?_⟩
      rw [List.getElem?_append_left (List.length_pos_iff.2 h1.1)]
      exact h1.2
theorem minus_dig {l : List UInt8} (h : l.all isDig = true) : minus l = (false, l) := by
  unfold minus
  split
  · rename_i t
    have h1 : isDig 45 = true := by
      rw [List.all_cons, Bool.and_eq_true] at h
      exact h.1
    exact absurd h1 (by decide)
  · rfl
theorem minus_txt (neg : Bool) (v : Nat) : minus (txt neg v) = (neg, Lib.decDigits v) := by
  unfold txt
  cases neg with
  | true => rfl
  | false =>
    rw [if_neg (by simp), List.nil_append]
    exact minus_dig (dec_all v)
theorem dec_short {v n : Nat} (h : (digs v).length ≤ n) (h0 : 0 < n) : (Lib.decDigits v).length ≤ 10 * n := by
  have h1 := digs_len.1 h
  have h2 : v < 10 ^ (10 * n) := by
    rw [Nat.pow_mul]
    exact Nat.lt_of_lt_of_le h1 (Nat.pow_le_pow_left (show 4294967296 ≤ 10 ^ 10 by decide) n)
  have h3 := dec_len (10 * n - 1) v (by rw [Nat.sub_add_cancel (by omega)]; exact h2)
  omega
theorem txt_short {v n : Nat} (neg : Bool) (h : (digs v).length ≤ n) (h0 : 0 < n) : (txt neg v).length ≤ 10 * n + 1 := by
  have := dec_short h h0
  unfold txt
  rw [List.length_append]
  cases neg <;> simp <;> omega
theorem dec_decV : ∀ (k : Nat) (t : List UInt8), t.length = k + 1 → t.all isDig = true → t[0]?.getD 0 ≠ 48 → Lib.decDigits (decV t) = t
  | 0, t, hk, ha, _ => by
    obtain ⟨c, rfl⟩ := List.length_eq_one_iff.1 hk
    have hc : isDig c = true := by simpa using ha
    unfold isDig at hc
    rw [Bool.and_eq_true, decide_eq_true_eq, decide_eq_true_eq] at hc
    rw [decV_one, dec_small (by omega), show 48 + (c.toNat - 48) = c.toNat from by omega, UInt8.ofNat_toNat]
  | k + 1, t, hk, ha, h0 => by
    obtain ⟨s, c, rfl⟩ : ∃ s c, t = s ++ [c] := ⟨t.dropLast, t.getLast (fun e => by subst e; cases hk), (List.dropLast_concat_getLast _).symm⟩
    rw [List.length_append, List.length_singleton] at hk
    have hs : s.length = k + 1 := by omega
    rw [List.all_append, Bool.and_eq_true] at ha
    have hc : isDig c = true := by simpa using ha.2
    unfold isDig at hc
    rw [Bool.and_eq_true, decide_eq_true_eq, decide_eq_true_eq] at hc
    rw [List.getElem?_append_left (by omega)] at h0
    have ih := dec_decV k s hs ha.1 h0
    have hp : 0 < decV s := by
      rcases Nat.eq_zero_or_pos (decV s) with e | e
      · rw [e, dec_small (by omega)] at ih
        rw [← ih] at h0
        exact absurd rfl h0
      · exact e
    rw [decV_snoc, dec_big (by omega), show (decV s * 10 + (c.toNat - 48)) / 10 = decV s from by omega, show (decV s * 10 + (c.toNat - 48)) % 10 = c.toNat - 48 from by omega, ih,
      show 48 + (c.toNat - 48) = c.toNat from by omega, UInt8.ofNat_toNat]
theorem dec_txt {t : List UInt8} (h : txtOk t = true) : Lib.decDigits (decV t) = t := by
  unfold txtOk at h
  rw [Bool.and_eq_true, Bool.or_eq_true, decide_eq_true_eq, Bool.and_eq_true, decide_eq_true_eq, decide_eq_true_eq] at h
  rcases h.2 with e | ⟨e1, e2⟩
  · subst e
    rw [decV_one]
    exact dec_small (by decide)
  · have hl := List.length_pos_iff.2 e1
    exact dec_decV (t.length - 1) t (by omega) h.1 e2
/-- The number that a text means. -/
def pZ (l : List UInt8) : Int := toI (minus l).1 (decV (minus l).2)
theorem pZ_abs (l : List UInt8) : (pZ l).natAbs = decV (minus l).2 := toI_abs _ _
theorem pZ_neg {l : List UInt8} (h : pOk l = true) : decide (pZ l < 0) = (minus l).1 := by
  unfold pOk at h
  rw [Bool.and_eq_true, Bool.not_eq_true'] at h
  unfold pZ toI
  cases hm : (minus l).1 with
  | false => simp
  | true =>
    rw [hm, Bool.true_and] at h
    have hne : decV (minus l).2 ≠ 0 := fun e => by
      have e2 := dec_txt h.1
      rw [e, dec_small (by omega)] at e2
      have h2 := h.2
      rw [← e2] at h2
      exact absurd h2 (by decide)
    simp
    omega
theorem pZ_sz {l : List UInt8} (h : pOk l = true) {k : Nat} (hl : l.length ≤ k) : Sz k (pZ l) := by
  unfold Sz
  rw [pZ_abs]
  unfold pOk at h
  rw [Bool.and_eq_true] at h
  have h1 := decV_lt (txtOk_all h.1)
  have h2 := minus_len l
  exact Nat.lt_of_lt_of_le h1 (Nat.le_trans (Nat.pow_le_pow_right (by omega) (show (minus l).2.length ≤ k by omega)) (Nat.pow_le_pow_left (by omega) k))
theorem parse_n (w : World) (l : List UInt8) (h : pOk l = true) (hl : l.length ≤ 3001) :
    Calls Tryz.prog 96 #[.string ⟨l.toArray⟩] w (RN w (pZ l)) := by
  have h1 := parse_ok w l h (by omega)
  rw [← pZ_neg h, ← pZ_abs] at h1
  have h2 := mkN_z (pZ_sz h hl) (by omega)
  rw [h2.1, h2.2.1, h2.2.2] at h1
  exact h1
end Go.Proofs.YtbplbbkmfbjkfaaGreatDoor

/- Texts of whole numbers: Text and Parse in numbers. -/
namespace Go.Proofs.YtbplbbkmfbjkfaaGreatDoor
open Go.RowKit

/-- The text of a number. -/
def tx (x : Int) : List UInt8 := txt (decide (x < 0)) x.natAbs
theorem text_n (w : World) (A : Option Addr) (n c k : Nat) (x : Int) {na : Bool} (hA : Lm w w.heap.size A n c (digs x.natAbs)) (hx : Sz k x) (hk : k ≤ 4096) (hU : TabU w) (ha : decide (x < 0) = na) :
    Calls Tryz.prog 54 #[.agg #[.bool na, .slice A n c]] w fun e w' => e = .returned (.tuple #[.string ⟨(tx x).toArray⟩, .int .i64 0]) ∧ Below w.heap.size w w' := by
  subst ha
  exact text_ok w _ A n c _ hA (chk_z hx hk) hU
end Go.Proofs.YtbplbbkmfbjkfaaGreatDoor

/- What the conditions of the rows of law 02 give: the table of powers of ten lies in its variable; the witness. -/
namespace Go.Proofs.YtbplbbkmfbjkfaaGreatDoor
open Go.ChangeShapes Go.WideShapes Go.ChangeAt Go.RowKit Go.Joins

theorem own : ownKnob Tryz.prog.godebug = none := by kernel_rfl
/-- The variables that the rows list. -/
def laid7 : List (String × DataW Unit) := [("math/bits.deBruijn32tab", Rows.laid_math_bits_deBruijn32tab), ("math/bits.deBruijn64tab", Rows.laid_math_bits_deBruijn64tab), ("internal/strconv.uint64pow10", Rows.laid_internal_strconv_uint64pow10), ("unicode/utf8.acceptRanges", Rows.laid_unicode_utf8_acceptRanges), ("strconv.ErrRange", Rows.laid_strconv_ErrRange), ("strconv.ErrSyntax", Rows.laid_strconv_ErrSyntax), ("unicode/utf8.first", Rows.laid_unicode_utf8_first)]
theorem gU64 : Tryz.prog.globalNamed "internal/strconv.uint64pow10" = some 0 := by kernel_rfl
theorem tabU_of {W : World} (h : laidMetH Tryz.prog laid7 W) : TabU W := by
  rw [MakeChecks.laidMetH_plain _ _ _ (by kernel_rfl)] at h
  exact Lib.tabIs_of_head (n := 20) (t := 184) (e := 77) gU64 (by kernel_rfl) (by kernel_rfl) Tryz.underlying77 (by kernel_rfl) (by kernel_rfl) h.tail.tail
end Go.Proofs.YtbplbbkmfbjkfaaGreatDoor

/- Package frac: isOne, pass, must. -/
namespace Go.Proofs.YtbplbbkmfbjkfaaGreatDoor
open Go.RowKit

set_option maxRecDepth 100000 in
set_option maxHeartbeats 400000 in
theorem isOne_yes (w : World) (A : Option Addr) (n c : Nat) (h : Lm w w.heap.size A n c (digs 1)) :
    Calls Tryz.prog 55 #[.agg #[.bool false, .slice A n c]] w fun e w' => e = .returned (.bool true) ∧ Below w.heap.size w w' := by
  obtain rfl : n = 1 := h.len.symm
  obtain ⟨b, off, rfl, hb, hc⟩ := h.cell (k := 0) (by omega)
  have hc1 : w.cell? ⟨b, off, none⟩ = some (.int .u32 1) := hc
  have h1 := h.cap
  have h2 := h.max
  clear hc
  go_enter Tryz.func55, Tryz.ntmps55
  go_wp2
  go_ret
  exact ⟨rfl, by go_grown⟩

set_option maxRecDepth 100000 in
set_option maxHeartbeats 400000 in
theorem isOne_no (w : World) (neg : Bool) (A : Option Addr) (n c : Nat) (xs : List Nat) (h : Lm w w.heap.size A n c xs) (hno : neg = true ∨ xs ≠ [1]) :
    Calls Tryz.prog 55 #[.agg #[.bool neg, .slice A n c]] w fun e w' => e = .returned (.bool false) ∧ Below w.heap.size w w' := by
  have h1 := h.cap
  have h2 := h.max
  cases neg
  · have hno2 : xs ≠ [1] := by rcases hno with h | h; cases h; exact h
    by_cases hn : n = 1
    · subst hn
      obtain ⟨b, off, rfl, hb, hc⟩ := h.cell (k := 0) (by omega)
      have hx : xs[0]?.getD 0 ≠ 1 := by
        intro e
        match xs, h.len, hno2, e with
        | [x], _, hn, e => exact hn (by simpa using e)
      have hc1 : w.cell? ⟨b, off, none⟩ = some (.int .u32 (xs[0]?.getD 0 : Nat)) := hc
      have hz : (((xs[0]?.getD 0 : Nat) : Int) == 1) = false := by simp; omega
      clear hc hno hno2 hx
      go_enter Tryz.func55, Tryz.ntmps55
      go_wp2
      go_ret
      exact ⟨rfl, by go_grown⟩
    · have hz : ((n : Int) == 1) = false := by simp; omega
      clear hno hno2 hn
      go_enter Tryz.func55, Tryz.ntmps55
      go_wp2
      go_ret
      exact ⟨rfl, by go_grown⟩
  · clear hno
    go_enter Tryz.func55, Tryz.ntmps55
    go_wp2
    go_ret
    exact ⟨rfl, by go_grown⟩

/-- A panic with an error of the chapter. -/
def Pan (e : Int) : Ending := .panicked [{ v := .iface 28 (.int .i64 e), recovered := false }]
set_option maxHeartbeats 400000 in
theorem pass_ok (w : World) : Calls Tryz.prog 69 #[.int .i64 0] w fun e w' => e = .returned (.tuple #[]) ∧ w = w' := by
  go_enter Tryz.func69, Tryz.ntmps69
  go_wp2
  go_end0
  exact ⟨rfl, rfl⟩
set_option maxHeartbeats 400000 in
theorem pass_no (w : World) (x : Int) (hx : x ≠ 0) : Calls Tryz.prog 69 #[.int .i64 x] w fun e w' => e = Pan x ∧ w = w' := by
  have hz : (x != 0) = true := by simpa using hx
  clear hx
  go_enter Tryz.func69, Tryz.ntmps69
  go_wp2
  exact ⟨rfl, rfl, rfl⟩
end Go.Proofs.YtbplbbkmfbjkfaaGreatDoor

