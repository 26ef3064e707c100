/- Lemmas, part 3. -/
import Derived.Laws.CopyOwn
import Derived.Deep.RegionWith
import Derived.Shelf.Spec.TrailingZeros
import Derived.RegionTactic
import Derived.ChangeAlike
import Derived.Test.YtkcdijhfiahibaaDoorGBak2
/- wide.divideLong. -/
namespace Go.Proofs.YtkcdijhfiahibaaDoor
open Go.RowKit

set_option maxRecDepth 100000 in
set_option maxHeartbeats 1000000 in
theorem lz32_any (w : World) (x : Nat) (h : x < 4294967296) :
    Calls Tryd.prog 86 #[.int .u32 (x : Int)] w fun e w' => e = .returned (.int .i64 ((32 - Lib.bitLen x : Nat) : Int)) ∧ w = w' := by
  have hb := bitLen32 x h
  go_enter Tryd.func86, Tryd.ntmps86
  go_wp2_with (go_at_call 69; refine (len32_any _ _ (by omega) (by omega)).mono ?_; rintro e w' ⟨rfl, rfl⟩)
  go_ret
  exact ⟨ret_int (by omega), rfl⟩

theorem Lm.addr {w : World} {B n c : Nat} {A : Option Addr} {xs : List Nat} (h : Lm w B A n c xs) (hn : 0 < n) : ∃ ad, A = some ad := by
  obtain ⟨b, off, e, _⟩ := h.at_ hn
  exact ⟨_, e⟩
/-- With the highest binary digit in its place. -/
theorem up_facts {b m : Nat} (hl : (digs b).length = m) (hm : 0 < m) : b * 2 ^ (32 - Lib.bitLen ((digs b)[m - 1]?.getD 0)) < 4294967296 ^ m ∧ 2147483648 * 4294967296 ^ (m - 1) ≤ b * 2 ^ (32 - Lib.bitLen ((digs b)[m - 1]?.getD 0)) ∧ (digs (b * 2 ^ (32 - Lib.bitLen ((digs b)[m - 1]?.getD 0)))).length = m ∧ 1 ≤ Lib.bitLen ((digs b)[m - 1]?.getD 0) := by
  have hb : 0 < b := digs_pos.1 (by omega)
  obtain ⟨h1, h2, h3⟩ := lenS_pos hb
  have e : lenS (digs b) = 32 * (m - 1) + Lib.bitLen ((digs b)[m - 1]?.getD 0) := by unfold lenS; rw [if_neg (by omega), hl]
  have hb32 := bitLen32 _ ((digs_good b).get (m - 1))
  obtain ⟨hx, _, _⟩ := bitLen_bounds (x := (digs b)[m - 1]?.getD 0) (by have := top_pos hb; rwa [hl] at this) ((digs_good b).get (m - 1))
  have p1 : b * 2 ^ (32 - Lib.bitLen ((digs b)[m - 1]?.getD 0)) < 4294967296 ^ m := by
    have h4 := (Nat.mul_lt_mul_right (a := 2 ^ (32 - Lib.bitLen ((digs b)[m - 1]?.getD 0))) (Nat.pow_pos (by omega))).2 h3
    rw [← Nat.pow_add] at h4
    rw [show (4294967296 : Nat) = 2 ^ 32 from rfl, ← Nat.pow_mul]
    have e5 : lenS (digs b) + (32 - Lib.bitLen ((digs b)[m - 1]?.getD 0)) = 32 * m := by omega
    rwa [e5] at h4
  have p2 : 2147483648 * 4294967296 ^ (m - 1) ≤ b * 2 ^ (32 - Lib.bitLen ((digs b)[m - 1]?.getD 0)) := by
    have h4 := Nat.mul_le_mul_right (2 ^ (32 - Lib.bitLen ((digs b)[m - 1]?.getD 0))) h2
    rw [← Nat.pow_add] at h4
    rw [show (4294967296 : Nat) = 2 ^ 32 from rfl, ← Nat.pow_mul, show (2147483648 : Nat) = 2 ^ 31 from rfl, ← Nat.pow_add]
    have e5 : lenS (digs b) - 1 + (32 - Lib.bitLen ((digs b)[m - 1]?.getD 0)) = 31 + 32 * (m - 1) := by omega
    rwa [e5] at h4
  refine ⟨p1, p2, ?_, hx⟩
  generalize b * 2 ^ (32 - Lib.bitLen ((digs b)[m - 1]?.getD 0)) = v at p1 p2
  refine Nat.le_antisymm (digs_len.2 p1) ?_
  rcases Nat.lt_or_ge (digs v).length m with h | h
  · have h5 := digs_len.1 (show (digs v).length ≤ m - 1 by omega)
    have hp := pow_pos_ (m - 1)
    omega
  · exact h

/-- copy(to, from): to a block of the call's own that is known whole, and is not shorter. -/
theorem wpList_copy_u32 {w : World} {ops : Array Oper} {rest : List Oper} {o : Oper} {a : Act} {Q : Exit → Act → World → Prop} (hgd : o.guard = none) (d s : Operand)
    (ho : o.op = .call { callee := .builtin .copy, args := #[d, s], argTypes := #[22, 22] }) (g k c : Nat) (cs : List Nat) (hL : Ld w g cs) (hk : cs.length = k) (hd : a.eval d = .slice (some ⟨g, 0, none⟩) k c)
    (B : Nat) (ad : Addr) (m c' : Nat) (xs : List Nat) (hs : a.eval s = .slice (some ad) m c') (hX : Lm w B (some ad) m c' xs) (hm : m ≤ k)
    (h : ∀ w', Ld w' g (xs ++ cs.drop m) → Below g w w' → wpList Tryd.prog ops Q rest (a.put o.dst (goInt m)) w') : wpList Tryd.prog ops Q (o :: rest) a w := by
  obtain ⟨i0, hi0, hz0, hz1, hz2⟩ := info_parts u32_info
  have hl := hX.len
  have e : (xs.map u32c).length = m := by rw [List.length_map, hl]
  refine wpList_copy_own hgd d s 22 22 ho 53 slice_u32 (by rw [hi0]; show some i0.size = some 1; rw [hz1]) g 0 k c ad m c' hd hs _ 53 hL (xs.map u32c) (by rw [e]; exact (Nat.min_eq_left hm).symm) hX.cells (by simp; omega) (u32c_one xs) ?_
  rw [e]
  refine h _ ?_ (below_setRow (Below.refl _ _) (Nat.le_refl _) _)
  have hr := setRow_heap w g _ ((cs.map u32c).toArray.toList.take 0 ++ (xs.map u32c ++ (cs.map u32c).toArray.toList.drop (0 + m))).toArray 53 _ hL
  unfold Ld
  rw [hr]
  simp [List.map_drop]

theorem Good.set {qs : List Nat} (g : Good qs) {q : Nat} (hq : q < 4294967296) (k : Nat) : Good (qs.set k q) := fun x hx => by
  rcases List.mem_or_eq_of_mem_set hx with h | h
  · exact g x h
  · rw [h]; exact hq
theorem val_set_drop {qs : List Nat} {k : Nat} (q : Nat) (hk : k < qs.length) : val ((qs.set k q).drop k) = q + 4294967296 * val (qs.drop (k + 1)) := by
  rw [val_step, List.drop_set_of_lt (Nat.lt_succ_self k), List.getElem?_set_self hk]
  rfl
theorem spl_drop_take {rs S : List Nat} {k : Nat} (t : Nat) (h : k + S.length < rs.length) : ((spl rs k (S ++ [t])).drop k).take S.length = S := by
  have hl : (rs.take k).length = k := by rw [List.length_take]; omega
  unfold spl
  rw [List.drop_append_of_le_length (by omega), List.drop_of_length_le (by omega), List.nil_append, List.append_assoc, List.take_left]
theorem spl_at_last {rs S : List Nat} {k : Nat} (t : Nat) (h : k + S.length < rs.length) : (spl rs k (S ++ [t]))[k + S.length]?.getD 0 = t := by
  have hl : (rs.take k).length = k := by rw [List.length_take]; omega
  unfold spl
  rw [List.getElem?_append_right (by omega), hl, Nat.add_sub_cancel_left, List.append_assoc, List.getElem?_append_right (Nat.le_refl _), Nat.sub_self]
  rfl
theorem spl_set_last {rs S : List Nat} {k : Nat} (t u : Nat) (h : k + S.length < rs.length) : (spl rs k (S ++ [t])).set (k + S.length) u = spl rs k (S ++ [u]) := by
  have hl : (rs.take k).length = k := by rw [List.length_take]; omega
  have e := set_mid (rs.take k) S ([t] ++ rs.drop (k + (S ++ [t]).length)) u (by simp)
  unfold spl
  rw [hl] at e
  rw [List.append_assoc, e]
  simp
theorem spl_spl {rs S M : List Nat} {k : Nat} (t : Nat) (h : k + S.length < rs.length) (hM : M.length = S.length) : spl (spl rs k (S ++ [t])) k M = spl rs k (M ++ [t]) := by
  have hl : (rs.take k).length = k := by rw [List.length_take]; omega
  have e1 : (spl rs k (S ++ [t])).take k = rs.take k := by
    unfold spl
    rw [List.take_append_of_le_length (by omega), List.take_of_length_le (by omega)]
  have e2 : (spl rs k (S ++ [t])).drop (k + M.length) = [t] ++ rs.drop (k + (S ++ [t]).length) := by
    unfold spl
    rw [hM, List.append_assoc, ← List.append_assoc, List.drop_append, List.drop_of_length_le (by rw [List.length_append, hl]; exact Nat.le_refl _), List.nil_append, List.length_append, hl, Nat.sub_self, List.drop_zero]
  show (spl rs k (S ++ [t])).take k ++ (M ++ (spl rs k (S ++ [t])).drop (k + M.length)) = rs.take k ++ ((M ++ [t]) ++ rs.drop (k + (M ++ [t]).length))
  rw [e1, e2, List.append_assoc M, List.length_append, List.length_append, hM]

set_option maxRecDepth 100000 in
set_option maxHeartbeats 1000000 in
theorem divideLong_ow (w : World) (A B : Option Addr) (n m ca cb a b : Nat) (hA : Lm w w.heap.size A n ca (digs a)) (hB : Lm w w.heap.size B m cb (digs b)) (hm2 : 2 ≤ m) (hle : b ≤ a) (hn9 : n ≤ 1000000) :
    Calls Tryd.prog 63 #[.slice A n ca, .slice B m cb] w fun e w' => ∃ Q cq R cr, e = .returned (.tuple #[.slice Q (digs (a / b)).length cq, .slice R (digs (a % b)).length cr]) ∧
      Lm w' w'.heap.size Q (digs (a / b)).length cq (digs (a / b)) ∧ Ow w' w.heap.size (.slice R (digs (a % b)).length cr) (digs (a % b)) ∧ Below w.heap.size w w' := by
  have hcA := hA.cap
  have hxA := hA.max
  have hcB := hB.cap
  have hxB := hB.max
  have hlA := hA.len
  have hlB := hB.len
  have hmn : m ≤ n := by rw [← hlA, ← hlB]; exact digs_mono hle
  have gt := hB.good.get (m - 1)
  obtain ⟨bb, bo, e, hbb, cb1⟩ := hB.cell (k := m - 1) (by omega)
  have hf := up_facts hlB (by omega)
  obtain ⟨up, hup⟩ : ∃ up, up = 32 - Lib.bitLen ((digs b)[m - 1]?.getD 0) := ⟨_, rfl⟩
  have hup9 : up ≤ 31 := by omega
  rw [← hup] at hf
  obtain ⟨V, hV⟩ : ∃ V, V = b * 2 ^ up := ⟨_, rfl⟩
  obtain ⟨U, hU⟩ : ∃ U, U = a * 2 ^ up := ⟨_, rfl⟩
  rw [← hV] at hf
  have HUP := Lib.hid hup
  have HUB : Hid (U < 2147483648 * 4294967296 ^ n) := by
    show _ < _
    have h1 := digs_len.1 (Nat.le_of_eq hlA)
    rw [hU, Nat.mul_comm]
    exact Nat.mul_lt_mul_of_le_of_lt (Nat.pow_le_pow_right (by omega) hup9) h1 (by decide)
  have HDiv : Hid (U / V = a / b ∧ U % V = a % b * 2 ^ up) := by
    show _ ∧ _
    rw [hU, hV]
    exact ⟨Nat.mul_div_mul_right _ _ (Nat.pow_pos (by omega)), Nat.mul_mod_mul_right _ _ _⟩
  have HV : Hid (val (digs b) * 2 ^ up = V) := by show _ = _; rw [digs_val, hV]
  have HU : Hid (val (digs a) * 2 ^ up = U) := by show _ = _; rw [digs_val, hU]
  have HF := Lib.hid hf
  have HLA := Lib.hid hlA
  have HUl : Hid ((digs U).length ≤ n + 1) := by
    show _ ≤ _
    have h1 := digs_len.1 (Nat.le_of_eq hlA)
    refine digs_len.2 ?_
    rw [hU, Nat.pow_succ]
    exact Nat.mul_lt_mul_of_lt_of_le h1 (Nat.pow_le_pow_right (by omega) (show up ≤ 32 by omega)) (by decide)
  have hap : 0 < a := by
    have := digs_pos (n := b)
    omega
  have HUp : Hid (0 < (digs U).length) := by
    show 0 < _
    rw [digs_pos, hU]
    exact Nat.mul_pos hap (Nat.pow_pos (by omega))
  clear hup hV hU hf
  have hmk := fun w => run_make_u32 ((n : Int) + 1) ((n : Int) + 1) (n + 1) (by omega) (by omega) (by omega) w
  have hmk2 := fun w => run_make_u32 ((n : Int) + 1 - (m : Int)) ((n : Int) + 1 - (m : Int)) (n + 1 - m) (by omega) (by omega) (by omega) w
  have i1 : ((m : Int) - 1).toNat = m - 1 := by omega
  have HA := Lib.hid hA
  have HB := Lib.hid hB
  clear hA hB hlA hlB
  subst e
  go_enter Tryd.func63, Tryd.ntmps63
  go_wp2_with (first
    | (go_at_call 86; refine (lz32_any _ _ gt).mono ?_; rintro e w1 ⟨rfl, rfl⟩; rw [← HUP.out])
    | (go_at_call 44; refine (left_any _ A _ _ _ _ U ((HA.out.via hb1).box _) (by omega) (by omega) HU.out).mono ?_; rintro e w2 ⟨B2, c2, rfl, hL2, hb2⟩; obtain ⟨a2, rfl⟩ := hL2.addr HUp.out; have hD2 := (Ld.new w1 (n + 1)).below hb2 (by simp))
    | (with_reducible refine wpList_copy_u32 rfl _ _ rfl w1.heap.size (n + 1) (n + 1) (zer (n + 1)) hD2 (zer_len _) rfl _ _ _ _ (digs U) rfl hL2 HUl.out ?_; intro w3 hD3 hb3)
    | (go_at_call 44; refine (left_any _ _ _ _ _ _ V HB.out (by omega) (by omega) HV.out).mono ?_; rintro e w1 ⟨B1, c1, rfl, hL1, hb1⟩; rw [HF.out.2.2.1] at hL1 ⊢))
  have hg1 : w1.heap.size < w3.heap.size := hD3.lt
  have hB1 : Below w1.heap.size w1 w3 := (((Below.refl _ _).alloc (Nat.le_refl _) _).trans (hb2.mono (by simp))).trans hb3
  have HB0 := Lib.hid hb1
  have HL1 := Lib.hid hL1
  have HB1 := Lib.hid hB1
  have HD3 := Lib.hid hD3
  clear hD2 hL2 hb2 hb3 hL1 hb1 hB1 hD3 hmk hmk2
  go_loopw [9] (fun i wr => ∃ (k : Nat) (rs qs : List Nat), k ≤ n + 1 - m ∧ i = .int .i64 ((k : Int) - 1) ∧ Ld wr w1.heap.size rs ∧ Good rs ∧ rs.length = n + 1 ∧ Ld wr w3.heap.size qs ∧ Good qs ∧ qs.length = n + 1 - m ∧
      val (rs.drop k) < V ∧ val rs + 4294967296 ^ k * (V * val (qs.drop k)) = U ∧ Below w1.heap.size w1 wr) (fun i _ => (intOf i + 1).toNat)
  case atStart =>
    have hrl : (digs U ++ (zer (n + 1)).drop (digs U).length).length = n + 1 := by have := HUl.out; simp [zer]; omega
    have hrv : val (digs U ++ (zer (n + 1)).drop (digs U).length) = U := by
      rw [val_append, digs_val, val_zero (xs := (zer (n + 1)).drop (digs U).length) (fun x hx => (List.mem_replicate.1 (List.mem_of_mem_drop hx)).2)]
      rfl
    have hgr : Good (digs U ++ (zer (n + 1)).drop (digs U).length) := (digs_good U).append ((zer_good _).drop _)
    refine ⟨n + 1 - m, _, zer (n + 1 - m), Nat.le_refl _, rfl, HD3.out.below ((Below.refl _ _).alloc (Nat.le_refl _) _) hg1, hgr, hrl, Ld.new _ _, zer_good _, zer_len _, ?_, ?_, HB1.out.alloc (Nat.le_of_lt hg1) _⟩
    · rw [val_drop _ hgr, hrv]
      refine Nat.div_lt_of_lt_mul (Nat.lt_of_lt_of_le HUB.out ?_)
      have h5 := Nat.mul_le_mul_left (4294967296 ^ (n + 1 - m)) HF.out.2.1
      rw [Nat.mul_left_comm, ← Nat.pow_add, show n + 1 - m + (m - 1) = n by omega] at h5
      exact h5
    · rw [hrv, List.drop_of_length_le (by rw [zer_len]; exact Nat.le_refl _)]
      simp [val_nil]
  case round =>
    obtain ⟨k, rs, qs, hk, rfl, hR, hGR, hlR, hQ, hGQ, hlQ, hI1, hI2, hb⟩ := hrel
    have HR := Lib.hid hR
    have HQ := Lib.hid hQ
    have HI1 := Lib.hid hI1
    have HI2 := Lib.hid hI2
    have HBl := Lib.hid hb
    have HGR := Lib.hid hGR
    have HGQ := Lib.hid hGQ
    clear hR hQ hI1 hI2 hb hGR hGQ
    rcases k with _ | k
    · have hQe : Hid (val qs = a / b) := by
        show _ = _
        have h1 := HI1.out
        have h2 := HI2.out
        simp only [List.drop_zero, Nat.pow_zero, Nat.one_mul] at h1 h2
        rw [← HDiv.out.1, ← h2, Nat.add_mul_div_left _ _ (by omega), Nat.div_eq_of_lt h1, Nat.zero_add]
      have hRe : Hid (val rs = a % b * 2 ^ up) := by
        show _ = _
        have h1 := HI1.out
        have h2 := HI2.out
        simp only [List.drop_zero, Nat.pow_zero, Nat.one_mul] at h1 h2
        rw [← HDiv.out.2, ← h2, Nat.add_mul_mod_self_left, Nat.mod_eq_of_lt h1]
      have HLq : Hid (Lm wr wr.heap.size (some ⟨w3.heap.size, 0, none⟩) (n + 1 - m) (n + 1 - m) qs) := by
        have e := HQ.out.lm HGQ.out (off := 0) (n := n + 1 - m) (c := n + 1 - m) (by omega) (Nat.le_refl _) (by omega)
        rwa [List.drop_zero, List.take_of_length_le (by omega)] at e
      have HLr : Hid (Lm wr wr.heap.size (some ⟨w1.heap.size, 0, none⟩) (n + 1) (n + 1) rs) := by
        have e := HR.out.lm HGR.out (off := 0) (n := n + 1) (c := n + 1) (by omega) (Nat.le_refl _) (by omega)
        rwa [List.drop_zero, List.take_of_length_le (by omega)] at e
      have hll : (digs (a % b * 2 ^ up)).length ≤ n + 1 := by
        have e := HLr.out.trim' hRe.out
        have e2 := val_lt HLr.out.good
        rw [hRe.out, HLr.out.len] at e2
        exact digs_len.2 e2
      go_wp2_with fail
      refine (trim_any _ _ _ _ _ _ (a / b) HLq.out hQe.out).mono ?_
      rintro e w8 ⟨rfl, rfl⟩
      go_wp2_with fail
      refine (trim_any _ _ _ _ _ _ (a % b * 2 ^ up) HLr.out hRe.out).mono ?_
      rintro e w8 ⟨rfl, rfl⟩
      go_wp2_with fail
      refine (right_ow wr _ _ _ up (a % b * 2 ^ up) (a % b) (HLr.out.trim' hRe.out) (by omega) (by omega) (Nat.mul_div_cancel _ (Nat.pow_pos (by omega)))).mono ?_
      rintro e w9 ⟨A9, c9, rfl, hL9, hb9⟩
      go_wp2
      go_ret2
      exact ⟨_, _, _, _, rfl, (HLq.out.trim' hQe.out).via hb9, hL9.mono (Nat.le_trans HB0.out.size HBl.out.size), HB0.out.trans ((HBl.out.trans (hb9.mono HBl.out.size)).mono HB0.out.size)⟩
    · have hkm : k + m < rs.length := by omega
      have HP := Lib.hid (part_facts HGR.out HF.out.2.2.1 hm2 hkm HI1.out)
      have hne : ¬ (n + 1 = k) := by omega
      have HLb := Lib.hid ((HL1.out.below HBl.out))
      go_wp2_with fail
      rw [show k + m + 1 - k = m + 1 by omega]
      refine (guess_any wr w1.heap.size k (m + 1) (n + 1 - k) m c1 B1 rs (digs V) HR.out HGR.out (HLb.out.mono HBl.out.size) hm2 (by omega) (by omega) hkm HP.out.2.2.2.2.1 HP.out.2.1).mono ?_
      rintro e w4 ⟨rfl, d4, rfl⟩
      obtain ⟨D, hD⟩ : ∃ D, D = gs ((digs V)[m - 1]?.getD 0) ((digs V)[m - 2]?.getD 0) (rs[k + m]?.getD 0) (rs[k + (m - 1)]?.getD 0) (rs[k + (m - 2)]?.getD 0) := ⟨_, rfl⟩
      have hD9 : D ≤ 4294967295 := by rw [hD]; exact gs_le _ _ _ _ _
      have HP2 := HP.out.2.2.2.2.2
      rw [← hD] at HP2 ⊢
      have HPq := Lib.hid HP2
      clear hD HP2
      go_wp2_with fail
      refine (subProduct_any (wr.drewN d4) w1.heap.size k (m + 1) (n + 1 - k) m c1 B1 rs (digs V) D HR.out HGR.out (HLb.out.keep (fun _ _ _ => rfl)) (by omega) (by omega) (by omega) (by omega) (by omega) (by omega)).mono ?_
      rintro e w5 ⟨rfl, hL5, hg5⟩
      have hSl := sbK_len (rs.drop k) (digs V) D m
      have hSg := sbK_good (rs.drop k) (digs V) D m
      have hbr := sbK_carry (HGR.out.drop k) (digs_good V) (show D < 4294967296 by omega) m
      have hSv := sbK_val (xs := digs V) (HGR.out.drop k) D m
      obtain ⟨S, hS⟩ : ∃ S, S = (sbK (rs.drop k) (digs V) D m).1 := ⟨_, rfl⟩
      obtain ⟨br, hbe⟩ : ∃ br, br = (sbK (rs.drop k) (digs V) D m).2 := ⟨_, rfl⟩
      rw [← hS] at hSl hSg hSv hL5
      rw [← hbe] at hbr hSv ⊢
      rw [List.take_of_length_le (Nat.le_of_eq HF.out.2.2.1), digs_val] at hSv
      have HSv := Lib.hid hSv
      have HSg := Lib.hid hSg
      have HSl := Lib.hid hSl
      clear hS hbe hSv hSg
      have hsl : (spl rs k S).length = n + 1 := by rw [spl_len (by omega), hlR]
      have hct := hL5.cell (i := k + m) (by omega)
      rw [spl_after (by omega) (by omega)] at hct
      have hfr := hL5.frozen (k + m)
      have hgt := HGR.out.get (k + m)
      have hQ5 : Ld w5 w3.heap.size qs := (show Ld (wr.drewN d4) w3.heap.size qs from HQ.out).grown hg5 (fun e => by injection e with e; omega)
      have hcq := hQ5.cell (i := k) (by omega)
      have hfq := hQ5.frozen k
      have hgh : ¬ (w1.heap.size = w3.heap.size) := by omega
      have hhg : ¬ (w3.heap.size = w1.heap.size) := by omega
      have HL5 := Lib.hid hL5
      have HG5 := Lib.hid hg5
      have HQ5 := Lib.hid hQ5
      clear hL5 hg5 hQ5
      have hV0 : 0 < V := by have := digs_pos (n := V); rw [HF.out.2.2.1] at this; omega
      have HSP : Hid (val S < 4294967296 ^ m) := by have e := val_lt HSg.out; rwa [HSl.out] at e
      have HFin : Hid (∀ (wz : World) (P : List Nat) (q : Nat), P.length = m → Good P → val P = val (rs.drop k) % V → val (rs.drop k) / V = q → q < 4294967296 → Ld wz w1.heap.size (spl rs k (P ++ [0])) → Ld wz w3.heap.size (qs.set k q) → Below w1.heap.size w1 wz →
          ∃ (k' : Nat) (rs' qs' : List Nat), k' ≤ n + 1 - m ∧ Value.int .i64 ((k : Int) - 1) = .int .i64 ((k' : Int) - 1) ∧ Ld wz w1.heap.size rs' ∧ Good rs' ∧ rs'.length = n + 1 ∧ Ld wz w3.heap.size qs' ∧ Good qs' ∧ qs'.length = n + 1 - m ∧
            val (rs'.drop k') < V ∧ val rs' + 4294967296 ^ k' * (V * val (qs'.drop k')) = U ∧ Below w1.heap.size w1 wz) := by
        intro wz P q hPl hPg hPv hq hq9 hLz hQz hBz
        obtain ⟨p1, p2⟩ := part_done hPl hkm HP.out.2.2.2.1 hPv
        refine ⟨k, _, _, by omega, rfl, hLz, spl_good HGR.out (hPg.append (Good.nil.cons (by omega))), by rw [spl_len (by rw [List.length_append, hPl]; show k + (m + 1) ≤ _; omega), hlR], hQz, HGQ.out.set hq9 k, by rw [List.length_set]; exact hlQ, ?_, ?_, hBz⟩
        · rw [p1]; exact Nat.mod_lt _ hV0
        · exact inv_step (by omega) rfl HI2.out p2 (by rw [hq]; exact val_set_drop q (by omega))
      by_cases hov : rs[k + m]?.getD 0 < br
      · have hovi : ((rs[k + m]?.getD 0 : Nat) : Int) < (br : Int) := by omega
        go_wp2_with fail
        obtain ⟨t, ht⟩ : ∃ t : Nat, (((rs[k + m]?.getD 0 : Nat) : Int) - (br : Int)) % 4294967296 = (t : Int) := ⟨((((rs[k + m]?.getD 0 : Nat) : Int) - (br : Int)) % 4294967296).toNat, by omega⟩
        have htl : t < 4294967296 := by omega
        have HT := Lib.hid ht
        rw [ht]
        clear ht
        have hL6 := HL5.out.set_ (k + m) t
        have hset := spl_set (cs := rs) (off := k) (ts := S) t (by omega)
        rw [HSl.out] at hset
        rw [hset] at hL6
        have hQ6 := HQ5.out.grown (grownBy_setCellAt w5 w1.heap.size (k + m) (.int .u32 (t : Int))) (fun e => by injection e with e; omega)
        have hg6 := grownBy_trans HG5.out (grownBy_setCellAt w5 w1.heap.size (k + m) (.int .u32 (t : Int)))
        generalize w5.setCell ⟨w1.heap.size, k + m, none⟩ (.int .u32 (t : Int)) = w6 at hL6 hQ6 hg6 ⊢
        have hl6 : (spl rs k (S ++ [t])).length = n + 1 := by rw [spl_len (by rw [List.length_append, HSl.out]; show k + (m + 1) ≤ _; omega), hlR]
        have hg6' : Good (spl rs k (S ++ [t])) := spl_good HGR.out (HSg.out.append (Good.nil.cons htl))
        have hc6 := hL6.cell (i := k + m) (by omega)
        have hat := spl_at_last (rs := rs) (k := k) (S := S) t (by omega)
        rw [HSl.out] at hat
        rw [hat] at hc6
        have hf6 := hL6.frozen (k + m)
        have hcq6 := hQ6.cell (i := k) (by omega)
        have hfq6 := hQ6.frozen k
        have HL6 := Lib.hid hL6
        have HQ6 := Lib.hid hQ6
        have HG6 := Lib.hid hg6
        have HGd6 := Lib.hid hg6'
        have HX6 : Hid (Lm w6 w1.heap.size B1 m c1 (digs V)) := (HLb.out.keep (w' := wr.drewN d4) (fun _ _ _ => rfl)).grownLt hg6 HBl.out.size
        have hml := mulK_len ((spl rs k (S ++ [t])).drop k) (digs V) 1 m
        have hcy := mulK_carry (HGd6.out.drop k) (digs_good V) (show 1 < 4294967296 by omega) m
        have HMv := Lib.hid (mulK_val ((spl rs k (S ++ [t])).drop k) (digs V) 1 m)
        have HMg := Lib.hid (mulK_good ((spl rs k (S ++ [t])).drop k) (digs V) 1 m)
        have hMv2 : val (mulK ((spl rs k (S ++ [t])).drop k) (digs V) 1 m).1 + 4294967296 ^ m * (mulK ((spl rs k (S ++ [t])).drop k) (digs V) 1 m).2 = V + val S := by
          have e := HMv.out
          have e2 := spl_drop_take (rs := rs) (k := k) (S := S) t (by omega)
          rw [HSl.out] at e2
          rw [e2, List.take_of_length_le (Nat.le_of_eq HF.out.2.2.1), digs_val, Nat.mul_one] at e
          exact e
        have hMP : val (mulK ((spl rs k (S ++ [t])).drop k) (digs V) 1 m).1 < 4294967296 ^ m := by have e := val_lt HMg.out; rwa [hml] at e
        have HOv := Lib.hid (step_over HP.out.2.2.1 HP.out.1 HSv.out HSP.out hMv2 hMP HPq.out.2 hV0 hov)
        have hD1 : 1 ≤ D := HOv.out.2.1
        have HB6 : Hid (Below w1.heap.size w1 w6) := (bdrewN HBl.out d4).grown HG6.out HBl.out.size (fun b e => by injection e with e; omega)
        clear hMv2 hMP
        have HSS := Lib.hid (spl_spl (rs := rs) (S := S) (M := (mulK ((spl rs k (S ++ [t])).drop k) (digs V) 1 m).1) (k := k) t (by omega) (by omega))
        have HAt7 := Lib.hid (spl_at_last (rs := rs) (k := k) (S := (mulK ((spl rs k (S ++ [t])).drop k) (digs V) 1 m).1) t (by omega))
        have hl7 : (spl rs k ((mulK ((spl rs k (S ++ [t])).drop k) (digs V) 1 m).1 ++ [t])).length = n + 1 := by rw [spl_len (by rw [List.length_append, hml]; show k + (m + 1) ≤ _; omega), hlR]
        clear hct hfr hcq hfq hL6 hQ6 hg6 hg6' hset hat
        go_region_with (go_at_call 73; refine (addProduct_any w6.drew w1.heap.size k (m + 1) (n + 1 - k) m c1 B1 (spl rs k (S ++ [t])) (digs V) 1 HL6.out HGd6.out (HX6.out.keep (fun _ _ _ => rfl)) (by omega) (by omega) (by omega) (by omega) (by omega) (by omega)).mono ?_; rintro e w7 ⟨rfl, hL7, hg7⟩; rw [HSS.out] at hL7; have hc7 := hL7.cell (i := k + m) (by omega); have hat7 := HAt7.out; rw [hml] at hat7; rw [hat7] at hc7; have hf7 := hL7.frozen (k + m))
        all_goals
          have hQ7 := (show Ld w6.drew w3.heap.size qs from HQ6.out).grown hg7 (fun e => by injection e with e; omega)
          have hcq7 := hQ7.cell (i := k) (by omega)
          have hfq7 := hQ7.frozen k
          have HL7 := Lib.hid hL7
          have HQ7 := Lib.hid hQ7
          have HG7 := Lib.hid hg7
          clear hL7 hQ7 hg7
          go_wp2
          go_roundw
          case rel =>
            have h0 := HOv.out.2.2.2
            have hT := HT.out
            have e1 : (((t : Nat) : Int) + (((mulK ((spl rs k (S ++ [t])).drop k) (digs V) 1 m).2 : Nat) : Int)) % 4294967296 = ((0 : Nat) : Int) := by omega
            have e2 : ((D : Int) - 1) % 4294967296 = ((D - 1 : Nat) : Int) := by omega
            rw [e1, e2]
            refine HFin.out _ _ (D - 1) hml HMg.out HOv.out.2.2.1 HOv.out.1 (by omega) ?_ ?_ ?_
            · have e3 := HL7.out.set_ (k + m) 0
              have e4 := spl_set_last (rs := rs) (S := (mulK ((spl rs k (S ++ [t])).drop k) (digs V) 1 m).1) (k := k) t 0 (by omega)
              rw [hml] at e4
              rw [e4] at e3
              exact e3.grown (grownBy_setCellAt _ _ _ _) (fun e => by injection e with e; omega)
            · exact (HQ7.out.grown (grownBy_setCellAt _ w1.heap.size (k + m) (.int .u32 ((0 : Nat) : Int))) (fun e => by injection e with e; omega)).set_ k (D - 1)
            · have hs6 := HB6.out.size
              exact ((HB6.out.drew.grown HG7.out hs6 (fun b e => by injection e with e; omega)).setCell (p := ⟨w1.heap.size, k + m, none⟩) (Nat.le_refl _) _).setCell (p := ⟨w3.heap.size, k, none⟩) (by show w1.heap.size ≤ w3.heap.size; omega) _
          case measure => simp [intOf]
      · have hovd : decide (((rs[k + m]?.getD 0 : Nat) : Int) < (br : Int)) = false := by simp; omega
        have HRt := Lib.hid (step_right HP.out.2.2.1 HP.out.1 HSv.out HPq.out.1 hV0 (by omega))
        have hheq : rs[k + m]?.getD 0 = br := HRt.out.2.2
        have HB5 : Hid (Below w1.heap.size w1 w5) := (bdrewN HBl.out d4).grown HG5.out HBl.out.size (fun b e => by injection e with e; omega)
        go_wp2
        go_roundw
        case rel =>
          refine HFin.out _ _ D HSl.out HSg.out HRt.out.2.1 HRt.out.1 (by omega) ?_ ?_ ?_
          · have e3 := HL5.out.set_ (k + m) 0
            have e4 := spl_set (cs := rs) (off := k) (ts := S) 0 (by omega)
            rw [HSl.out] at e4
            rw [e4] at e3
            exact e3.grown (grownBy_setCellAt _ _ _ _) (fun e => by injection e with e; omega)
          · exact (HQ5.out.grown (grownBy_setCellAt _ w1.heap.size (k + m) (.int .u32 ((0 : Nat) : Int))) (fun e => by injection e with e; omega)).set_ k D
          · exact (HB5.out.setCell (p := ⟨w1.heap.size, k + m, none⟩) (Nat.le_refl _) _).setCell (p := ⟨w3.heap.size, k, none⟩) (by show w1.heap.size ≤ w3.heap.size; omega) _
        case measure => simp [intOf]
end Go.Proofs.YtkcdijhfiahibaaDoor

/- wide.divide. -/
namespace Go.Proofs.YtkcdijhfiahibaaDoor
open Go.RowKit

set_option maxRecDepth 100000 in
set_option maxHeartbeats 1000000 in
theorem clone_own (w : World) (A : Option Addr) (n c : Nat) (xs : List Nat) (h : Lm w w.heap.size A n c xs) (hn0 : 0 < n) (hn : n ≤ 1000000000) :
    Calls Tryd.prog 61 #[.slice A n c] w fun e w' => ∃ g c', e = .returned (.slice (some ⟨g, 0, none⟩) n c') ∧ n ≤ c' ∧ c' ≤ 9223372036854775807 ∧ w.heap.size ≤ g ∧ Ob w' g xs ∧ Below w.heap.size w w' := by
  obtain ⟨i0, hi0, hz0, hz1, hz2⟩ := info_parts u32_info
  have hr := h.max
  have hl := h.len
  have HH := Lib.hid h
  have hnil := fun (w : World) (a : Option Addr) (n c n' c' : Nat) => Lib.run_eql_slice_nil (P := Tryd.prog) w 22 53 a n c n' c' slice_u32
  obtain ⟨ad, rfl⟩ := h.addr hn0
  go_enter Tryd.func61, Tryd.ntmps61
  go_wp2_with (at_builtin; refine wpList_append_lm _ rfl _ _ _ rfl w.heap.size _ i0 slice_u32 hi0 hz0 hz1 hz2 _ 0 [] rfl (World.ownsRow_made _ _ _ (Nat.le_refl _) (by simp [maxLen]) rfl) _ _ _ _ xs rfl (HH.out.box _) (by simp only [maxLen]; omega) (by omega) (by simp) ?_; intro v1 w1 hown1 hg1)
  go_ret
  rw [Nat.zero_add, List.nil_append] at hown1
  have hO : Ow w1 w.heap.size v1 xs := by unfold Ow; rw [hl]; exact hown1
  obtain ⟨A', c', rfl, hL⟩ := hO.lm HH.out.good
  obtain ⟨g, rfl, _, hgB, hOb⟩ := hO.ob (by omega)
  have hcp := hL.cap
  have hmx := hL.max
  rw [hl] at hcp hL ⊢
  refine ⟨g, c', rfl, hcp, hmx, hgB, hOb, ((Below.refl _ _).alloc (Nat.le_refl _) _).grown hg1 (by simp) (fun k hk => ?_)⟩
  have e : w.heap.size = k := Option.some.inj hk
  omega

set_option maxRecDepth 100000 in
set_option maxHeartbeats 1000000 in
theorem clone_ow (w : World) (A : Option Addr) (n c : Nat) (xs : List Nat) (h : Lm w w.heap.size A n c xs) (hn0 : 0 < n) (hn : n ≤ 1000000000) :
    Calls Tryd.prog 61 #[.slice A n c] w fun e w' => ∃ A' c', e = .returned (.slice A' n c') ∧ Ow w' w.heap.size (.slice A' n c') xs ∧ Below w.heap.size w w' := by
  obtain ⟨i0, hi0, hz0, hz1, hz2⟩ := info_parts u32_info
  have hr := h.max
  have hl := h.len
  have HH := Lib.hid h
  have hnil := fun (w : World) (a : Option Addr) (n c n' c' : Nat) => Lib.run_eql_slice_nil (P := Tryd.prog) w 22 53 a n c n' c' slice_u32
  obtain ⟨ad, rfl⟩ := h.addr hn0
  go_enter Tryd.func61, Tryd.ntmps61
  go_wp2_with (at_builtin; refine wpList_append_lm _ rfl _ _ _ rfl w.heap.size _ i0 slice_u32 hi0 hz0 hz1 hz2 _ 0 [] rfl (World.ownsRow_made _ _ _ (Nat.le_refl _) (by simp [maxLen]) rfl) _ _ _ _ xs rfl (HH.out.box _) (by simp only [maxLen]; omega) (by omega) (by simp) ?_; intro v1 w1 hown1 hg1)
  go_ret
  rw [Nat.zero_add, List.nil_append] at hown1
  have hO : Ow w1 w.heap.size v1 xs := by unfold Ow; rw [hl]; exact hown1
  obtain ⟨A', c', rfl, hL⟩ := hO.lm HH.out.good
  rw [hl] at hO ⊢
  refine ⟨A', c', rfl, hO, ((Below.refl _ _).alloc (Nat.le_refl _) _).grown hg1 (by simp) (fun k hk => ?_)⟩
  have e : w.heap.size = k := Option.some.inj hk
  omega

theorem Lm.one (w : World) (x : Nat) (X : Int) (hX : X = (x : Int)) (hx : x < 4294967296) :
    Lm (w.alloc (.cells #[.int .u32 X] 53)) (w.alloc (.cells #[.int .u32 X] 53)).heap.size (some ⟨w.heap.size, 0, none⟩) 1 1 [x] := by
  subst hX
  exact ⟨rfl, Good.nil.cons hx, Nat.le_refl _, by omega, fun h => (by cases h), fun _ => ⟨_, 0, rfl, by simp, fun j hj => by
    match j, hj with
    | 0, _ => go_simp⟩⟩
theorem val_one (x : Nat) : val [x] = x := by simp [val_cons, val_nil]

/-- A quotient and a remainder, which is the call's own. -/
def RDo (w : World) (q r : Nat) (e : Ending) (w' : World) : Prop := ∃ Q cq R cr, e = .returned (.tuple #[.slice Q (digs q).length cq, .slice R (digs r).length cr]) ∧
  Lm w' w'.heap.size Q (digs q).length cq (digs q) ∧ Ow w' w.heap.size (.slice R (digs r).length cr) (digs r) ∧ Below w.heap.size w w'
/-- A call returns a quotient and a remainder, as limbs. -/
def RD (w : World) (q r : Nat) (e : Ending) (w' : World) : Prop := ∃ Q cq R cr, e = .returned (.tuple #[.slice Q (digs q).length cq, .slice R (digs r).length cr]) ∧
  Lm w' w'.heap.size Q (digs q).length cq (digs q) ∧ Lm w' w'.heap.size R (digs r).length cr (digs r) ∧ Below w.heap.size w w'

set_option maxRecDepth 100000 in
set_option maxHeartbeats 1000000 in
theorem divide_less (w : World) (A B : Option Addr) (n m ca cb a b : Nat) (hA : Lm w w.heap.size A n ca (digs a)) (hB : Lm w w.heap.size B m cb (digs b)) (hlt : a < b) (hn9 : n ≤ 1000000) :
    Calls Tryd.prog 32 #[.slice A n ca, .slice B m cb] w (RD w (a / b) (a % b)) := by
  have HC : Hid (cmpL (digs a) (digs b) = -1) := by show _ = _; rw [cmpL_norm (digs_good _) (digs_good _) (digs_norm _) (digs_norm _), digs_val, digs_val]; exact cmpN_lt hlt
  have HA := Lib.hid hA
  have HB := Lib.hid hB
  rw [Nat.div_eq_of_lt hlt, Nat.mod_eq_of_lt hlt]
  have HN := Lib.hid hA.len
  clear hA hB hlt
  go_enter Tryd.func32, Tryd.ntmps32
  go_wp2_with fail
  refine (compare_any _ _ _ _ _ _ (digs a) (digs b) _ HA.out HB.out).mono ?_
  rintro e w1 ⟨he, hb1⟩
  rw [HC.out] at he
  subst he
  go_wp2_with fail
  refine (clone_any _ _ _ _ (digs a) (HA.out.via hb1) (by omega)).mono ?_
  rintro e w2 ⟨A2, c2, rfl, hL2, hb2⟩
  go_wp2
  go_ret2
  refine ⟨none, 0, A2, c2, by rw [HN.out]; rfl, Lm.nil _ _, by rw [HN.out]; exact hL2, hb1.trans (hb2.mono hb1.size)⟩

set_option maxRecDepth 100000 in
set_option maxHeartbeats 1000000 in
theorem divide_one (w : World) (A B : Option Addr) (n ca cb a b : Nat) (hA : Lm w w.heap.size A n ca (digs a)) (hB : Lm w w.heap.size B 1 cb (digs b)) (hle : b ≤ a) (hn9 : n ≤ 1000000) :
    Calls Tryd.prog 32 #[.slice A n ca, .slice B 1 cb] w (RD w (a / b) (a % b)) := by
  obtain ⟨z, hz, HC⟩ : ∃ z : Int, decide (z < 0) = false ∧ Hid (cmpL (digs a) (digs b) = z) := ⟨_, by rw [cmpL_norm (digs_good _) (digs_good _) (digs_norm _) (digs_norm _), digs_val, digs_val]; unfold cmpN; rw [if_neg (by omega)]; split <;> decide, rfl⟩
  have hb0 : 0 < b := by rw [← digs_pos, hB.len]; omega
  have hn0 : 0 < n := by rw [← hA.len, digs_pos]; omega
  have hbe : (digs b)[0]?.getD 0 = b := by
    have h1 := val_take_succ' (digs b) 0
    rw [List.take_of_length_le (by rw [hB.len]; omega), digs_val] at h1
    simpa [val_nil] using h1.symm
  have hb9 := hB.good.get 0
  obtain ⟨bb, bo, rfl, hbb, cb1⟩ := hB.cell (k := 0) (by omega)
  rw [hbe] at cb1 hb9
  have hcB := hB.cap
  have hxB := hB.max
  have HA := Lib.hid hA
  have HB := Lib.hid hB
  have HN := Lib.hid hA.len
  have HQ := Lib.hid (dvL_quot hb0 (digs a))
  have HG := Lib.hid (dvL_good hb0 (digs_good a))
  have HDl := Lib.hid (dvL_len b (digs a))
  have HVa := Lib.hid (digs_val a)
  have HRm : Hid ((dvL b (digs a)).2 < 4294967296) := Nat.lt_trans (dvL_lt hb0 _) hb9
  clear hA hB hle hbe
  go_enter Tryd.func32, Tryd.ntmps32
  go_wp2_with fail
  refine (compare_any _ _ _ _ _ _ (digs a) (digs b) _ HA.out HB.out).mono ?_
  rintro e w1 ⟨he, hb1⟩
  rw [HC.out] at he
  subst he
  go_wp2_with fail
  refine (clone_own _ _ _ _ (digs a) (HA.out.via hb1) hn0 (by omega)).mono ?_
  rintro e w2 ⟨g, c2, rfl, hc2, hx2, hg2, hO2, hb2⟩
  have hB2 := hb1.trans (hb2.mono hb1.size)
  have cb2 : w2.cell? ⟨bb, bo, none⟩ = some (.int .u32 (b : Int)) := (hB2.cell (p := ⟨bb, bo + 0, none⟩) hbb).trans cb1
  go_wp2_with fail
  refine (divideLimb_any w2 g n c2 b (digs a) hO2 (digs_good a) HN.out hc2 (by omega) hb0 hb9).mono ?_
  rintro e w3 ⟨rfl, hO3, hg3⟩
  have hs1 := hb1.size
  have HB3 : Hid (Below w.heap.size w w3) := hB2.grown hg3 (hB2.size) (fun k e => by injection e with e; omega)
  have HL3 : Hid (Lm w3 w3.heap.size (some ⟨g, 0, none⟩) n c2 (dvL b (digs a)).1) := by
    have e := hO3.lm HG.out (off := 0) (n := n) (c := c2) (by rw [HDl.out, HN.out]; omega) hc2 hx2
    rwa [List.drop_zero, List.take_of_length_le (by rw [HDl.out, HN.out]; exact Nat.le_refl _)] at e
  have HVq : Hid (val (dvL b (digs a)).1 = a / b) := by show _ = _; rw [HQ.out.1, HVa.out]
  have HVr : Hid (val [(dvL b (digs a)).2] = a % b) := by show _ = _; rw [val_one, HQ.out.2, HVa.out]
  clear hO3 hg3 hO2 hb2 hB2
  go_wp2_with fail
  refine (trim_any _ _ _ _ _ _ (a / b) HL3.out HVq.out).mono ?_
  rintro e w4 ⟨rfl, rfl⟩
  go_wp2_with fail
  refine (trim_any _ _ _ _ _ _ (a % b) (Lm.one w3 (dvL b (digs a)).2 _ rfl HRm.out) HVr.out).mono ?_
  rintro e w4 ⟨rfl, rfl⟩
  go_wp2
  go_ret2
  exact ⟨_, _, _, _, rfl, (HL3.out.trim' HVq.out).box _, (Lm.one w3 (dvL b (digs a)).2 _ rfl HRm.out).trim' HVr.out, HB3.out.alloc HB3.out.size _⟩

set_option maxRecDepth 100000 in
set_option maxHeartbeats 1000000 in
theorem divide_ow (w : World) (A B : Option Addr) (n m ca cb a b : Nat) (hA : Lm w w.heap.size A n ca (digs a)) (hB : Lm w w.heap.size B m cb (digs b)) (hle : b ≤ a) (hm : 2 ≤ m) (hn9 : n ≤ 1000000) :
    Calls Tryd.prog 32 #[.slice A n ca, .slice B m cb] w (RDo w (a / b) (a % b)) := by
  obtain ⟨z, hz, HC⟩ : ∃ z : Int, decide (z < 0) = false ∧ Hid (cmpL (digs a) (digs b) = z) := ⟨_, by rw [cmpL_norm (digs_good _) (digs_good _) (digs_norm _) (digs_norm _), digs_val, digs_val]; unfold cmpN; rw [if_neg (by omega)]; split <;> decide, rfl⟩
  have HA := Lib.hid hA
  have HB := Lib.hid hB
  have hm1 : ((m : Int) == 1) = false := by simp; omega
  have hcB := hB.cap
  have hxB := hB.max
  clear hA hB
  go_enter Tryd.func32, Tryd.ntmps32
  go_wp2_with fail
  refine (compare_any _ _ _ _ _ _ (digs a) (digs b) _ HA.out HB.out).mono ?_
  rintro e w1 ⟨he, hb1⟩
  rw [HC.out] at he
  subst he
  go_wp2_with fail
  refine (divideLong_ow w1 A B n m ca cb a b (HA.out.via hb1) (HB.out.via hb1) hm hle hn9).mono ?_
  rintro e w2 ⟨Q, cq, R, cr, rfl, hQ, hR, hb2⟩
  go_wp2
  go_ret2
  exact ⟨Q, cq, R, cr, rfl, hQ, hR.mono hb1.size, hb1.trans (hb2.mono hb1.size)⟩

theorem divide_long (w : World) (A B : Option Addr) (n m ca cb a b : Nat) (hA : Lm w w.heap.size A n ca (digs a)) (hB : Lm w w.heap.size B m cb (digs b)) (hle : b ≤ a) (hm : 2 ≤ m) (hn9 : n ≤ 1000000) :
    Calls Tryd.prog 32 #[.slice A n ca, .slice B m cb] w (RD w (a / b) (a % b)) :=
  (divide_ow w A B n m ca cb a b hA hB hle hm hn9).mono fun _ _ ⟨Q, cq, R, cr, e, hQ, hR, hb⟩ => ⟨Q, cq, R, cr, e, hQ, hR.toLm (digs_good _), hb⟩

theorem divide_any (w : World) (A B : Option Addr) (n m ca cb a b : Nat) (hA : Lm w w.heap.size A n ca (digs a)) (hB : Lm w w.heap.size B m cb (digs b)) (hb : 0 < b) (hn9 : n ≤ 1000000) :
    Calls Tryd.prog 32 #[.slice A n ca, .slice B m cb] w (RD w (a / b) (a % b)) := by
  rcases Nat.lt_or_ge a b with h | h
  · exact divide_less w A B n m ca cb a b hA hB h hn9
  · have hm : 0 < m := by rw [← hB.len, digs_pos]; exact hb
    rcases Nat.lt_or_ge m 2 with h1 | h1
    · obtain rfl : m = 1 := by omega
      exact divide_one w A B n ca cb a b hA hB h hn9
    · exact divide_long w A B n m ca cb a b hA hB h h1 hn9
end Go.Proofs.YtkcdijhfiahibaaDoor

/- wide.DivMod. -/
namespace Go.Proofs.YtkcdijhfiahibaaDoor
open Go.RowKit

/-- A call returns two numbers and an error. -/
def RWW (w : World) (n1 : Bool) (l1 : List Nat) (n2 : Bool) (l2 : List Nat) (err : Int) (e : Ending) (w' : World) : Prop :=
  ∃ A n c A' n' c', e = .returned (.tuple #[.agg #[.bool n1, .slice A n c], .agg #[.bool n2, .slice A' n' c'], .int .i64 err]) ∧ Lm w' w'.heap.size A n c l1 ∧ Lm w' w'.heap.size A' n' c' l2 ∧ Below w.heap.size w w'

set_option maxRecDepth 100000 in
set_option maxHeartbeats 1000000 in
theorem divmod_bad (w : World) (na nb : Bool) (A B : Option Addr) (n m ca cb : Nat) (xs ys : List Nat) (hA : Lm w w.heap.size A n ca xs) (hB : Lm w w.heap.size B m cb ys) (hv : chkB na xs nb ys = 8) :
    Calls Tryd.prog 8 #[.agg #[.bool na, .slice A n ca], .agg #[.bool nb, .slice B m cb]] w (RWW w false [] false [] 8) := by
  have HA := Lib.hid hA
  have HB := Lib.hid hB
  have HV := Lib.hid hv
  clear hv
  go_enter Tryd.func8, Tryd.ntmps8
  go_wp2_with fail
  refine (both_any _ _ _ _ _ _ _ _ _ _ _ 8 ((((HA.out.box _).box _).box _).box _) ((((HB.out.box _).box _).box _).box _) HV.out).mono ?_
  rintro e w1 ⟨rfl, hb1⟩
  have ⟨_, _, PQ, PR⟩ := boxes4 hb1
  have ⟨q0, q1, qf0, qf1, ql⟩ := PQ
  have ⟨r0, r1, rf0, rf1, rl⟩ := PR
  have HB1 := Lib.hid (bbox (bbox (bbox (bbox hb1))))
  clear hb1
  go_wp2
  refine post_ww Tryd.results8 rfl rfl rfl ((PQ.set (.bool false) (.slice none 0 0)).far (by omega) _ _) ((PR.far (by omega) _ _).set _ _) ⟨none, 0, 0, none, 0, 0, rfl, Lm.nil _ _, Lm.nil _ _, below_set2 (below_set2 HB1.out (by omega) _ _) (by omega) _ _⟩

set_option maxRecDepth 100000 in
set_option maxHeartbeats 1000000 in
theorem divmod_zero (w : World) (na nb : Bool) (A B : Option Addr) (n ca cb : Nat) (xs : List Nat) (hA : Lm w w.heap.size A n ca xs) (hB : Lm w w.heap.size B 0 cb []) (hv : chkB na xs nb [] = 0) :
    Calls Tryd.prog 8 #[.agg #[.bool na, .slice A n ca], .agg #[.bool nb, .slice B 0 cb]] w (RWW w false [] false [] 18) := by
  have HA := Lib.hid hA
  have HB := Lib.hid hB
  have HV := Lib.hid hv
  clear hv
  go_enter Tryd.func8, Tryd.ntmps8
  go_wp2_with fail
  refine (both_any _ _ _ _ _ _ _ _ _ _ _ 0 ((((HA.out.box _).box _).box _).box _) ((((HB.out.box _).box _).box _).box _) HV.out).mono ?_
  rintro e w1 ⟨rfl, hb1⟩
  have ⟨_, PB, PQ, PR⟩ := boxes4 hb1
  obtain ⟨b0, b1, bf0, bf1, bl⟩ := PB
  have ⟨q0, q1, qf0, qf1, ql⟩ := PQ
  have ⟨r0, r1, rf0, rf1, rl⟩ := PR
  have HB1 := Lib.hid (bbox (bbox (bbox (bbox hb1))))
  clear hb1
  go_wp2
  refine post_ww Tryd.results8 rfl rfl rfl ((Pr.set ⟨q0, q1, qf0, qf1, ql⟩ (.bool false) (.slice none 0 0)).far (by omega) _ _) ((Pr.far ⟨r0, r1, rf0, rf1, rl⟩ (by omega) _ _).set _ _) ⟨none, 0, 0, none, 0, 0, rfl, Lm.nil _ _, Lm.nil _ _, below_set2 (below_set2 HB1.out (by omega) _ _) (by omega) _ _⟩

/-! ### DivMod where the remainder is 0 or the signs agree, and where not -/
set_option maxRecDepth 100000 in
set_option maxHeartbeats 2000000 in
theorem divmod_same (w : World) (na nb : Bool) (A B : Option Addr) (n m ca cb a b : Nat) (hA : Lm w w.heap.size A n ca (digs a)) (hB : Lm w w.heap.size B m cb (digs b)) (hv : chkB na (digs a) nb (digs b) = 0) (hb : 0 < b) (hs : na = nb) :
    Calls Tryd.prog 8 #[.agg #[.bool na, .slice A n ca], .agg #[.bool nb, .slice B m cb]] w (RWW w (mkN false (a / b)) (digs (a / b)) (mkN nb (a % b)) (digs (a % b)) 0) := by
  have h41 := (chk_ok.1 (chkB_ok.1 hv).1).1
  have h42 := (chk_ok.1 (chkB_ok.1 hv).2).1
  have hq : (digs (a / b)).length ≤ 4096 := Nat.le_trans (digs_mono (Nat.div_le_self a b)) h41
  have hr : (digs (a % b)).length ≤ 4096 := Nat.le_trans (digs_mono (Nat.le_of_lt (Nat.mod_lt a hb))) h42
  have HLq : Hid (mkL (a / b) = digs (a / b)) := by show _ = _; unfold mkL; rw [if_pos hq]
  have HLr : Hid (mkL (a % b) = digs (a % b)) := by show _ = _; unfold mkL; rw [if_pos hr]
  rw [hA.len] at h41
  rw [hB.len] at h42
  have hm0 : 0 < m := by rw [← hB.len, digs_pos]; exact hb
  have hm1 : ((m : Int) == 0) = false := by simp; omega
  have hcB := hB.cap
  have hxB := hB.max
  have HA := Lib.hid hA
  have HB := Lib.hid hB
  have HV := Lib.hid hv
  have hrl : decide (0 < (digs (a % b)).length) = decide (0 < a % b) := decide_eq_decide.2 digs_pos
  clear hrl
  clear hv
  subst hs
  cases na
  · go_enter Tryd.func8, Tryd.ntmps8
    go_wp2_with fail
    refine (both_any _ _ _ _ _ _ _ _ _ _ _ 0 ((((HA.out.box _).box _).box _).box _) ((((HB.out.box _).box _).box _).box _) HV.out).mono ?_
    rintro e w1 ⟨rfl, hb1⟩
    have ⟨PA, PB, PQ, PR⟩ := boxes4 hb1
    have LA1 := Lib.hid (((((HA.out.box _).box _).box _).box _).via hb1)
    have LB1 := Lib.hid (((((HB.out.box _).box _).box _).box _).via hb1)
    have HB1 := Lib.hid (bbox (bbox (bbox (bbox hb1))))
    have ⟨a0, a1, _, _, _⟩ := PA
    have ⟨b0, b1, _, _, _⟩ := PB
    clear hb1
    go_wp2_with fail
    refine (divide_any w1 A B n m ca cb a b LA1.out LB1.out hb (by omega)).mono ?_
    rintro e w2 ⟨Q, cq, R, cr, rfl, hQ, hR, hb2⟩
    have PA2 := PA.via hb2
    have PB2 := PB.via hb2
    have PQ2 := PQ.via hb2
    have PR2 := PR.via hb2
    have HB2 := Lib.hid (HB1.out.trans (hb2.mono HB1.out.size))
    have HQ := Lib.hid hQ
    have HR := Lib.hid hR
    have LB2 := Lib.hid (LB1.out.via hb2)
    clear PA PB PQ PR LA1 LB1 HB1 a0 a1 b0 b1 hb2 hQ hR
    have ⟨a0, a1, _, _, _⟩ := PA2
    have ⟨b0, b1, _, _, _⟩ := PB2
    go_wp2_with fail
    refine (made_any _ _ _ _ _ (a / b) HQ.out).mono ?_
    rintro e w3 ⟨A3, n3, c3, rfl, hL3, hb3⟩
    rw [HLq.out] at hL3
    have PB3 := PB2.via hb3
    have PQ3 := PQ2.via hb3
    have PR3 := PR2.via hb3
    have HB3 := Lib.hid (HB2.out.trans (hb3.mono HB2.out.size))
    have HR3 := Lib.hid (HR.out.via hb3)
    have HL3 := Lib.hid hL3
    clear PA2 PB2 PQ2 PR2 HQ HR HB2 hb3 hL3 a0 a1 b0 b1
    have ⟨q0, q1, qf0, qf1, ql⟩ := PQ3
    have X4 := Lib.hid (PB3.far (h := w.heap.size + 1 + 1) (by omega) (.bool (mkN false (a / b))) (.slice A3 n3 c3))
    have PQ4 := PQ3.set (.bool (mkN false (a / b))) (.slice A3 n3 c3)
    have PR4 := PR3.far (h := w.heap.size + 1 + 1) (by omega) (.bool (mkN false (a / b))) (.slice A3 n3 c3)
    have HR4 := Lib.hid (HR3.out.setP PQ3 (.bool (mkN false (a / b))) (.slice A3 n3 c3))
    have HL4 := Lib.hid (HL3.out.setP PQ3 (.bool (mkN false (a / b))) (.slice A3 n3 c3))
    have PB4 := X4.out
    have ⟨b0, b1, _, _, _⟩ := PB4
    go_wp2_with fail
    refine (made_any _ _ _ _ _ (a % b) HR4.out).mono ?_
    rintro e w5 ⟨A5, n5, c5, rfl, hL5, hb5⟩
    rw [HLr.out] at hL5
    have PQ5 := PQ4.via hb5
    have PR5 := PR4.via hb5
    have HB5 := Lib.hid ((below_set2 HB3.out (by omega) (.bool (mkN false (a / b))) (.slice A3 n3 c3)).trans (hb5.mono (by rw [size_set2]; exact HB3.out.size)))
    have HL5 := Lib.hid (HL4.out.via hb5)
    have HM5 := Lib.hid hL5
    clear X4 HR3 HL3 HR4 HL4 PB3 PQ3 PR3 PQ4 PR4 PB4 hb5 hL5 q0 q1 qf0 qf1 b0 b1 HB3
    have ⟨r0, r1, rf0, rf1, rl⟩ := PR5
    have PQ6 := PQ5.far (h := w.heap.size + 1 + 1 + 1) (by omega) (.bool (mkN false (a % b))) (.slice A5 n5 c5)
    have PR6 := PR5.set (.bool (mkN false (a % b))) (.slice A5 n5 c5)
    have HL6 := Lib.hid (HL5.out.setP PR5 (.bool (mkN false (a % b))) (.slice A5 n5 c5))
    have HM6 := Lib.hid (HM5.out.setP PR5 (.bool (mkN false (a % b))) (.slice A5 n5 c5))
    have HB6 := Lib.hid (below_set2 HB5.out (by omega) (.bool (mkN false (a % b))) (.slice A5 n5 c5) (g := w.heap.size + 1 + 1 + 1))
    go_wp2_with fail
    generalize ((w5.setCell ⟨w.heap.size + 1 + 1 + 1, 0, none⟩ (.bool (mkN false (a % b)))).setCell ⟨w.heap.size + 1 + 1 + 1, 1, none⟩ (.slice A5 n5 c5)) = w6 at *
    clear PQ5 PR5 HL5 HM5 HB5 r0 r1 rf0 rf1 rl
    have ⟨q0, q1, qf0, qf1, ql⟩ := PQ6
    have ⟨r0, r1, rf0, rf1, rl⟩ := PR6
    go_region
    go_wp2
    refine post_ww Tryd.results8 rfl rfl rfl ((PQ6.set _ _).far (by omega) _ _).drew ((PR6.far (by omega) _ _).set _ _).drew ⟨A3, n3, c3, A5, n5, c5, rfl, ?_, ?_, ?_⟩
    · exact ((HL6.out.setP PQ6 _ _).setP (PR6.far (by omega) _ _) _ _).drew
    · exact ((HM6.out.setP PQ6 _ _).setP (PR6.far (by omega) _ _) _ _).drew
    · exact (below_set2 (below_set2 HB6.out (by omega) _ _) (by omega) _ _).drew
  · go_enter Tryd.func8, Tryd.ntmps8
    go_wp2_with fail
    refine (both_any _ _ _ _ _ _ _ _ _ _ _ 0 ((((HA.out.box _).box _).box _).box _) ((((HB.out.box _).box _).box _).box _) HV.out).mono ?_
    rintro e w1 ⟨rfl, hb1⟩
    have ⟨PA, PB, PQ, PR⟩ := boxes4 hb1
    have LA1 := Lib.hid (((((HA.out.box _).box _).box _).box _).via hb1)
    have LB1 := Lib.hid (((((HB.out.box _).box _).box _).box _).via hb1)
    have HB1 := Lib.hid (bbox (bbox (bbox (bbox hb1))))
    have ⟨a0, a1, _, _, _⟩ := PA
    have ⟨b0, b1, _, _, _⟩ := PB
    clear hb1
    go_wp2_with fail
    refine (divide_any w1 A B n m ca cb a b LA1.out LB1.out hb (by omega)).mono ?_
    rintro e w2 ⟨Q, cq, R, cr, rfl, hQ, hR, hb2⟩
    have PA2 := PA.via hb2
    have PB2 := PB.via hb2
    have PQ2 := PQ.via hb2
    have PR2 := PR.via hb2
    have HB2 := Lib.hid (HB1.out.trans (hb2.mono HB1.out.size))
    have HQ := Lib.hid hQ
    have HR := Lib.hid hR
    have LB2 := Lib.hid (LB1.out.via hb2)
    clear PA PB PQ PR LA1 LB1 HB1 a0 a1 b0 b1 hb2 hQ hR
    have ⟨a0, a1, _, _, _⟩ := PA2
    have ⟨b0, b1, _, _, _⟩ := PB2
    go_wp2_with fail
    refine (made_any _ _ _ _ _ (a / b) HQ.out).mono ?_
    rintro e w3 ⟨A3, n3, c3, rfl, hL3, hb3⟩
    rw [HLq.out] at hL3
    have PB3 := PB2.via hb3
    have PQ3 := PQ2.via hb3
    have PR3 := PR2.via hb3
    have HB3 := Lib.hid (HB2.out.trans (hb3.mono HB2.out.size))
    have HR3 := Lib.hid (HR.out.via hb3)
    have HL3 := Lib.hid hL3
    clear PA2 PB2 PQ2 PR2 HQ HR HB2 hb3 hL3 a0 a1 b0 b1
    have ⟨q0, q1, qf0, qf1, ql⟩ := PQ3
    have X4 := Lib.hid (PB3.far (h := w.heap.size + 1 + 1) (by omega) (.bool (mkN false (a / b))) (.slice A3 n3 c3))
    have PQ4 := PQ3.set (.bool (mkN false (a / b))) (.slice A3 n3 c3)
    have PR4 := PR3.far (h := w.heap.size + 1 + 1) (by omega) (.bool (mkN false (a / b))) (.slice A3 n3 c3)
    have HR4 := Lib.hid (HR3.out.setP PQ3 (.bool (mkN false (a / b))) (.slice A3 n3 c3))
    have HL4 := Lib.hid (HL3.out.setP PQ3 (.bool (mkN false (a / b))) (.slice A3 n3 c3))
    have PB4 := X4.out
    have ⟨b0, b1, _, _, _⟩ := PB4
    go_wp2_with fail
    refine (made_any _ _ _ _ _ (a % b) HR4.out).mono ?_
    rintro e w5 ⟨A5, n5, c5, rfl, hL5, hb5⟩
    rw [HLr.out] at hL5
    have PQ5 := PQ4.via hb5
    have PR5 := PR4.via hb5
    have HB5 := Lib.hid ((below_set2 HB3.out (by omega) (.bool (mkN false (a / b))) (.slice A3 n3 c3)).trans (hb5.mono (by rw [size_set2]; exact HB3.out.size)))
    have HL5 := Lib.hid (HL4.out.via hb5)
    have HM5 := Lib.hid hL5
    clear X4 HR3 HL3 HR4 HL4 PB3 PQ3 PR3 PQ4 PR4 PB4 hb5 hL5 q0 q1 qf0 qf1 b0 b1 HB3
    have ⟨r0, r1, rf0, rf1, rl⟩ := PR5
    have PQ6 := PQ5.far (h := w.heap.size + 1 + 1 + 1) (by omega) (.bool (mkN true (a % b))) (.slice A5 n5 c5)
    have PR6 := PR5.set (.bool (mkN true (a % b))) (.slice A5 n5 c5)
    have HL6 := Lib.hid (HL5.out.setP PR5 (.bool (mkN true (a % b))) (.slice A5 n5 c5))
    have HM6 := Lib.hid (HM5.out.setP PR5 (.bool (mkN true (a % b))) (.slice A5 n5 c5))
    have HB6 := Lib.hid (below_set2 HB5.out (by omega) (.bool (mkN true (a % b))) (.slice A5 n5 c5) (g := w.heap.size + 1 + 1 + 1))
    go_wp2_with fail
    generalize ((w5.setCell ⟨w.heap.size + 1 + 1 + 1, 0, none⟩ (.bool (mkN true (a % b)))).setCell ⟨w.heap.size + 1 + 1 + 1, 1, none⟩ (.slice A5 n5 c5)) = w6 at *
    clear PQ5 PR5 HL5 HM5 HB5 r0 r1 rf0 rf1 rl
    have ⟨q0, q1, qf0, qf1, ql⟩ := PQ6
    have ⟨r0, r1, rf0, rf1, rl⟩ := PR6
    go_region
    go_wp2
    refine post_ww Tryd.results8 rfl rfl rfl ((PQ6.set _ _).far (by omega) _ _).drew ((PR6.far (by omega) _ _).set _ _).drew ⟨A3, n3, c3, A5, n5, c5, rfl, ?_, ?_, ?_⟩
    · exact ((HL6.out.setP PQ6 _ _).setP (PR6.far (by omega) _ _) _ _).drew
    · exact ((HM6.out.setP PQ6 _ _).setP (PR6.far (by omega) _ _) _ _).drew
    · exact (below_set2 (below_set2 HB6.out (by omega) _ _) (by omega) _ _).drew
set_option maxRecDepth 100000 in
set_option maxHeartbeats 2000000 in
theorem divmod_exact (w : World) (na nb : Bool) (A B : Option Addr) (n m ca cb a b : Nat) (hA : Lm w w.heap.size A n ca (digs a)) (hB : Lm w w.heap.size B m cb (digs b)) (hv : chkB na (digs a) nb (digs b) = 0) (hb : 0 < b) (hs : na = true ∧ nb = false ∨ na = false ∧ nb = true) (h0 : a % b = 0) :
    Calls Tryd.prog 8 #[.agg #[.bool na, .slice A n ca], .agg #[.bool nb, .slice B m cb]] w (RWW w (mkN true (a / b)) (digs (a / b)) (mkN nb (a % b)) (digs (a % b)) 0) := by
  have h41 := (chk_ok.1 (chkB_ok.1 hv).1).1
  have h42 := (chk_ok.1 (chkB_ok.1 hv).2).1
  have hq : (digs (a / b)).length ≤ 4096 := Nat.le_trans (digs_mono (Nat.div_le_self a b)) h41
  have hr : (digs (a % b)).length ≤ 4096 := Nat.le_trans (digs_mono (Nat.le_of_lt (Nat.mod_lt a hb))) h42
  have HLq : Hid (mkL (a / b) = digs (a / b)) := by show _ = _; unfold mkL; rw [if_pos hq]
  have HLr : Hid (mkL (a % b) = digs (a % b)) := by show _ = _; unfold mkL; rw [if_pos hr]
  rw [hA.len] at h41
  rw [hB.len] at h42
  have hm0 : 0 < m := by rw [← hB.len, digs_pos]; exact hb
  have hm1 : ((m : Int) == 0) = false := by simp; omega
  have hcB := hB.cap
  have hxB := hB.max
  have HA := Lib.hid hA
  have HB := Lib.hid hB
  have HV := Lib.hid hv
  have hrl : decide (0 < (digs (a % b)).length) = decide (0 < a % b) := decide_eq_decide.2 digs_pos
  have hrz : decide (0 < (digs (a % b)).length) = false := by rw [hrl]; simp; omega
  have H0 := Lib.hid h0
  clear hrl h0
  clear hv
  rcases hs with ⟨rfl, rfl⟩ | ⟨rfl, rfl⟩
  · go_enter Tryd.func8, Tryd.ntmps8
    go_wp2_with fail
    refine (both_any _ _ _ _ _ _ _ _ _ _ _ 0 ((((HA.out.box _).box _).box _).box _) ((((HB.out.box _).box _).box _).box _) HV.out).mono ?_
    rintro e w1 ⟨rfl, hb1⟩
    have ⟨PA, PB, PQ, PR⟩ := boxes4 hb1
    have LA1 := Lib.hid (((((HA.out.box _).box _).box _).box _).via hb1)
    have LB1 := Lib.hid (((((HB.out.box _).box _).box _).box _).via hb1)
    have HB1 := Lib.hid (bbox (bbox (bbox (bbox hb1))))
    have ⟨a0, a1, _, _, _⟩ := PA
    have ⟨b0, b1, _, _, _⟩ := PB
    clear hb1
    go_wp2_with fail
    refine (divide_any w1 A B n m ca cb a b LA1.out LB1.out hb (by omega)).mono ?_
    rintro e w2 ⟨Q, cq, R, cr, rfl, hQ, hR, hb2⟩
    have PA2 := PA.via hb2
    have PB2 := PB.via hb2
    have PQ2 := PQ.via hb2
    have PR2 := PR.via hb2
    have HB2 := Lib.hid (HB1.out.trans (hb2.mono HB1.out.size))
    have HQ := Lib.hid hQ
    have HR := Lib.hid hR
    have LB2 := Lib.hid (LB1.out.via hb2)
    clear PA PB PQ PR LA1 LB1 HB1 a0 a1 b0 b1 hb2 hQ hR
    have ⟨a0, a1, _, _, _⟩ := PA2
    have ⟨b0, b1, _, _, _⟩ := PB2
    go_wp2_with fail
    refine (made_any _ _ _ _ _ (a / b) HQ.out).mono ?_
    rintro e w3 ⟨A3, n3, c3, rfl, hL3, hb3⟩
    rw [HLq.out] at hL3
    have PB3 := PB2.via hb3
    have PQ3 := PQ2.via hb3
    have PR3 := PR2.via hb3
    have HB3 := Lib.hid (HB2.out.trans (hb3.mono HB2.out.size))
    have HR3 := Lib.hid (HR.out.via hb3)
    have HL3 := Lib.hid hL3
    clear PA2 PB2 PQ2 PR2 HQ HR HB2 hb3 hL3 a0 a1 b0 b1
    have ⟨q0, q1, qf0, qf1, ql⟩ := PQ3
    have X4 := Lib.hid (PB3.far (h := w.heap.size + 1 + 1) (by omega) (.bool (mkN true (a / b))) (.slice A3 n3 c3))
    have PQ4 := PQ3.set (.bool (mkN true (a / b))) (.slice A3 n3 c3)
    have PR4 := PR3.far (h := w.heap.size + 1 + 1) (by omega) (.bool (mkN true (a / b))) (.slice A3 n3 c3)
    have HR4 := Lib.hid (HR3.out.setP PQ3 (.bool (mkN true (a / b))) (.slice A3 n3 c3))
    have HL4 := Lib.hid (HL3.out.setP PQ3 (.bool (mkN true (a / b))) (.slice A3 n3 c3))
    have PB4 := X4.out
    have ⟨b0, b1, _, _, _⟩ := PB4
    go_wp2_with fail
    refine (made_any _ _ _ _ _ (a % b) HR4.out).mono ?_
    rintro e w5 ⟨A5, n5, c5, rfl, hL5, hb5⟩
    rw [HLr.out] at hL5
    have PQ5 := PQ4.via hb5
    have PR5 := PR4.via hb5
    have HB5 := Lib.hid ((below_set2 HB3.out (by omega) (.bool (mkN true (a / b))) (.slice A3 n3 c3)).trans (hb5.mono (by rw [size_set2]; exact HB3.out.size)))
    have HL5 := Lib.hid (HL4.out.via hb5)
    have HM5 := Lib.hid hL5
    clear X4 HR3 HL3 HR4 HL4 PB3 PQ3 PR3 PQ4 PR4 PB4 hb5 hL5 q0 q1 qf0 qf1 b0 b1 HB3
    have ⟨r0, r1, rf0, rf1, rl⟩ := PR5
    have PQ6 := PQ5.far (h := w.heap.size + 1 + 1 + 1) (by omega) (.bool (mkN false (a % b))) (.slice A5 n5 c5)
    have PR6 := PR5.set (.bool (mkN false (a % b))) (.slice A5 n5 c5)
    have HL6 := Lib.hid (HL5.out.setP PR5 (.bool (mkN false (a % b))) (.slice A5 n5 c5))
    have HM6 := Lib.hid (HM5.out.setP PR5 (.bool (mkN false (a % b))) (.slice A5 n5 c5))
    have HB6 := Lib.hid (below_set2 HB5.out (by omega) (.bool (mkN false (a % b))) (.slice A5 n5 c5) (g := w.heap.size + 1 + 1 + 1))
    go_wp2_with fail
    generalize ((w5.setCell ⟨w.heap.size + 1 + 1 + 1, 0, none⟩ (.bool (mkN false (a % b)))).setCell ⟨w.heap.size + 1 + 1 + 1, 1, none⟩ (.slice A5 n5 c5)) = w6 at *
    clear PQ5 PR5 HL5 HM5 HB5 r0 r1 rf0 rf1 rl
    have ⟨q0, q1, qf0, qf1, ql⟩ := PQ6
    have ⟨r0, r1, rf0, rf1, rl⟩ := PR6
    go_region
    go_wp2
    refine post_ww Tryd.results8 rfl rfl rfl ((PQ6.set _ _).far (by omega) _ _).drew ((PR6.far (by omega) _ _).set _ _).drew ⟨A3, n3, c3, A5, n5, c5, rfl, ?_, ?_, ?_⟩
    · exact ((HL6.out.setP PQ6 _ _).setP (PR6.far (by omega) _ _) _ _).drew
    · exact ((HM6.out.setP PQ6 _ _).setP (PR6.far (by omega) _ _) _ _).drew
    · exact (below_set2 (below_set2 HB6.out (by omega) _ _) (by omega) _ _).drew
  · go_enter Tryd.func8, Tryd.ntmps8
    go_wp2_with fail
    refine (both_any _ _ _ _ _ _ _ _ _ _ _ 0 ((((HA.out.box _).box _).box _).box _) ((((HB.out.box _).box _).box _).box _) HV.out).mono ?_
    rintro e w1 ⟨rfl, hb1⟩
    have ⟨PA, PB, PQ, PR⟩ := boxes4 hb1
    have LA1 := Lib.hid (((((HA.out.box _).box _).box _).box _).via hb1)
    have LB1 := Lib.hid (((((HB.out.box _).box _).box _).box _).via hb1)
    have HB1 := Lib.hid (bbox (bbox (bbox (bbox hb1))))
    have ⟨a0, a1, _, _, _⟩ := PA
    have ⟨b0, b1, _, _, _⟩ := PB
    clear hb1
    go_wp2_with fail
    refine (divide_any w1 A B n m ca cb a b LA1.out LB1.out hb (by omega)).mono ?_
    rintro e w2 ⟨Q, cq, R, cr, rfl, hQ, hR, hb2⟩
    have PA2 := PA.via hb2
    have PB2 := PB.via hb2
    have PQ2 := PQ.via hb2
    have PR2 := PR.via hb2
    have HB2 := Lib.hid (HB1.out.trans (hb2.mono HB1.out.size))
    have HQ := Lib.hid hQ
    have HR := Lib.hid hR
    have LB2 := Lib.hid (LB1.out.via hb2)
    clear PA PB PQ PR LA1 LB1 HB1 a0 a1 b0 b1 hb2 hQ hR
    have ⟨a0, a1, _, _, _⟩ := PA2
    have ⟨b0, b1, _, _, _⟩ := PB2
    go_wp2_with fail
    refine (made_any _ _ _ _ _ (a / b) HQ.out).mono ?_
    rintro e w3 ⟨A3, n3, c3, rfl, hL3, hb3⟩
    rw [HLq.out] at hL3
    have PB3 := PB2.via hb3
    have PQ3 := PQ2.via hb3
    have PR3 := PR2.via hb3
    have HB3 := Lib.hid (HB2.out.trans (hb3.mono HB2.out.size))
    have HR3 := Lib.hid (HR.out.via hb3)
    have HL3 := Lib.hid hL3
    clear PA2 PB2 PQ2 PR2 HQ HR HB2 hb3 hL3 a0 a1 b0 b1
    have ⟨q0, q1, qf0, qf1, ql⟩ := PQ3
    have X4 := Lib.hid (PB3.far (h := w.heap.size + 1 + 1) (by omega) (.bool (mkN true (a / b))) (.slice A3 n3 c3))
    have PQ4 := PQ3.set (.bool (mkN true (a / b))) (.slice A3 n3 c3)
    have PR4 := PR3.far (h := w.heap.size + 1 + 1) (by omega) (.bool (mkN true (a / b))) (.slice A3 n3 c3)
    have HR4 := Lib.hid (HR3.out.setP PQ3 (.bool (mkN true (a / b))) (.slice A3 n3 c3))
    have HL4 := Lib.hid (HL3.out.setP PQ3 (.bool (mkN true (a / b))) (.slice A3 n3 c3))
    have PB4 := X4.out
    have ⟨b0, b1, _, _, _⟩ := PB4
    go_wp2_with fail
    refine (made_any _ _ _ _ _ (a % b) HR4.out).mono ?_
    rintro e w5 ⟨A5, n5, c5, rfl, hL5, hb5⟩
    rw [HLr.out] at hL5
    have PQ5 := PQ4.via hb5
    have PR5 := PR4.via hb5
    have HB5 := Lib.hid ((below_set2 HB3.out (by omega) (.bool (mkN true (a / b))) (.slice A3 n3 c3)).trans (hb5.mono (by rw [size_set2]; exact HB3.out.size)))
    have HL5 := Lib.hid (HL4.out.via hb5)
    have HM5 := Lib.hid hL5
    clear X4 HR3 HL3 HR4 HL4 PB3 PQ3 PR3 PQ4 PR4 PB4 hb5 hL5 q0 q1 qf0 qf1 b0 b1 HB3
    have ⟨r0, r1, rf0, rf1, rl⟩ := PR5
    have PQ6 := PQ5.far (h := w.heap.size + 1 + 1 + 1) (by omega) (.bool (mkN true (a % b))) (.slice A5 n5 c5)
    have PR6 := PR5.set (.bool (mkN true (a % b))) (.slice A5 n5 c5)
    have HL6 := Lib.hid (HL5.out.setP PR5 (.bool (mkN true (a % b))) (.slice A5 n5 c5))
    have HM6 := Lib.hid (HM5.out.setP PR5 (.bool (mkN true (a % b))) (.slice A5 n5 c5))
    have HB6 := Lib.hid (below_set2 HB5.out (by omega) (.bool (mkN true (a % b))) (.slice A5 n5 c5) (g := w.heap.size + 1 + 1 + 1))
    go_wp2_with fail
    generalize ((w5.setCell ⟨w.heap.size + 1 + 1 + 1, 0, none⟩ (.bool (mkN true (a % b)))).setCell ⟨w.heap.size + 1 + 1 + 1, 1, none⟩ (.slice A5 n5 c5)) = w6 at *
    clear PQ5 PR5 HL5 HM5 HB5 r0 r1 rf0 rf1 rl
    have ⟨q0, q1, qf0, qf1, ql⟩ := PQ6
    have ⟨r0, r1, rf0, rf1, rl⟩ := PR6
    go_region
    go_wp2
    refine post_ww Tryd.results8 rfl rfl rfl ((PQ6.set _ _).far (by omega) _ _).drew ((PR6.far (by omega) _ _).set _ _).drew ⟨A3, n3, c3, A5, n5, c5, rfl, ?_, ?_, ?_⟩
    · exact ((HL6.out.setP PQ6 _ _).setP (PR6.far (by omega) _ _) _ _).drew
    · exact ((HM6.out.setP PQ6 _ _).setP (PR6.far (by omega) _ _) _ _).drew
    · exact (below_set2 (below_set2 HB6.out (by omega) _ _) (by omega) _ _).drew
set_option maxRecDepth 100000 in
set_option maxHeartbeats 2000000 in
theorem divmod_down (w : World) (na nb : Bool) (A B : Option Addr) (n m ca cb a b : Nat) (hA : Lm w w.heap.size A n ca (digs a)) (hB : Lm w w.heap.size B m cb (digs b)) (hv : chkB na (digs a) nb (digs b) = 0) (hb : 0 < b) (hs : na = true ∧ nb = false ∨ na = false ∧ nb = true) (h0 : 0 < a % b) :
    Calls Tryd.prog 8 #[.agg #[.bool na, .slice A n ca], .agg #[.bool nb, .slice B m cb]] w (RWW w (mkN true (a / b + 1)) (digs (a / b + 1)) (mkN nb (b - a % b)) (digs (b - a % b)) 0) := by
  have h41 := (chk_ok.1 (chkB_ok.1 hv).1).1
  have h42 := (chk_ok.1 (chkB_ok.1 hv).2).1
  have hab : a / b + 1 ≤ a := by
    have h := Nat.div_add_mod a b
    have hb2 : 2 ≤ b := by have := Nat.mod_lt a hb; omega
    have h2 : 2 * (a / b) ≤ b * (a / b) := Nat.mul_le_mul_right _ hb2
    generalize a / b = z at *
    omega
  have hml := Nat.mod_lt a hb
  have hq0 : (digs (a / b)).length ≤ 4096 := Nat.le_trans (digs_mono (Nat.div_le_self a b)) h41
  have hr0 : (digs (a % b)).length ≤ m := Nat.le_trans (digs_mono (Nat.le_of_lt (Nat.mod_lt a hb))) (Nat.le_of_eq hB.len)
  have hq : (digs (a / b + 1)).length ≤ 4096 := Nat.le_trans (digs_mono hab) h41
  have hr : (digs (b - a % b)).length ≤ 4096 := Nat.le_trans (digs_mono (Nat.sub_le _ _)) h42
  have HLq : Hid (mkL (a / b + 1) = digs (a / b + 1)) := by show _ = _; unfold mkL; rw [if_pos hq]
  have HLr : Hid (mkL (b - a % b) = digs (b - a % b)) := by show _ = _; unfold mkL; rw [if_pos hr]
  rw [hA.len] at h41
  rw [hB.len] at h42
  have hm0 : 0 < m := by rw [← hB.len, digs_pos]; exact hb
  have hm1 : ((m : Int) == 0) = false := by simp; omega
  have hcB := hB.cap
  have hxB := hB.max
  have HA := Lib.hid hA
  have HB := Lib.hid hB
  have HV := Lib.hid hv
  have hrl : decide (0 < (digs (a % b)).length) = decide (0 < a % b) := decide_eq_decide.2 digs_pos
  have hrz : decide (0 < (digs (a % b)).length) = true := by rw [hrl]; simpa using h0
  clear hrl
  clear hv
  rcases hs with ⟨rfl, rfl⟩ | ⟨rfl, rfl⟩
  · go_enter Tryd.func8, Tryd.ntmps8
    go_wp2_with fail
    refine (both_any _ _ _ _ _ _ _ _ _ _ _ 0 ((((HA.out.box _).box _).box _).box _) ((((HB.out.box _).box _).box _).box _) HV.out).mono ?_
    rintro e w1 ⟨rfl, hb1⟩
    have ⟨PA, PB, PQ, PR⟩ := boxes4 hb1
    have LA1 := Lib.hid (((((HA.out.box _).box _).box _).box _).via hb1)
    have LB1 := Lib.hid (((((HB.out.box _).box _).box _).box _).via hb1)
    have HB1 := Lib.hid (bbox (bbox (bbox (bbox hb1))))
    have ⟨a0, a1, _, _, _⟩ := PA
    have ⟨b0, b1, _, _, _⟩ := PB
    clear hb1
    go_wp2_with fail
    refine (divide_any w1 A B n m ca cb a b LA1.out LB1.out hb (by omega)).mono ?_
    rintro e w2 ⟨Q, cq, R, cr, rfl, hQ, hR, hb2⟩
    have PA2 := PA.via hb2
    have PB2 := PB.via hb2
    have PQ2 := PQ.via hb2
    have PR2 := PR.via hb2
    have HB2 := Lib.hid (HB1.out.trans (hb2.mono HB1.out.size))
    have HQ := Lib.hid hQ
    have HR := Lib.hid hR
    have LB2 := Lib.hid (LB1.out.via hb2)
    clear PA PB PQ PR LA1 LB1 HB1 a0 a1 b0 b1 hb2 hQ hR
    have ⟨a0, a1, _, _, _⟩ := PA2
    have ⟨b0, b1, _, _, _⟩ := PB2
    go_wp2_with fail
    have HS : Hid (val (digs (a / b)) + val [1] = a / b + 1) := by show _ = _; rw [digs_val, val_one]
    have HD : Hid (val (digs (a % b)) ≤ val (digs b)) := by show _ ≤ _; rw [digs_val, digs_val]; exact Nat.le_of_lt (Nat.mod_lt a hb)
    have HE : Hid (val (digs b) - val (digs (a % b)) = b - a % b) := by show _ = _; rw [digs_val, digs_val]
    go_region_held3 (fun w' => w'.cell? ⟨w.heap.size + 1, 0, none⟩ = some (.bool false) ∧ w'.cell? ⟨w.heap.size + 1, 1, none⟩ = some (.slice B m cb))
      (first | exact ⟨b0, b1⟩ | exact ⟨PBs.c0, PBs.c1⟩ | exact ⟨PBt.c0, PBt.c1⟩ | go_keep)
      (first
       | (go_at_call 33; refine (sum_any _ _ _ _ _ _ _ (digs (a / b)) [1] (a / b + 1) (HQ.out.drew.box _) (Lm.one _ 1 _ rfl (by omega)) (by omega) (by omega) HS.out).mono ?_; rintro e ws ⟨As, cs, rfl, hLs, hbs⟩; have Bs := (Below.refl w2.heap.size w2).drew.trans (bbox hbs); have PBs := PB2.via Bs; have LBs := Lib.hid (LB2.out.via Bs); have HRs := Lib.hid (HR.out.via Bs))
       | (go_at_call 34; refine (difference_any _ B R m (digs (a % b)).length cb cr (digs b) (digs (a % b)) (b - a % b) LBs.out HRs.out hr0 (by omega) HD.out HE.out).mono ?_; rintro e wt ⟨At, ct, rfl, hLt, hbt⟩; have PBt := PBs.via hbt))
    have PQz := (PQ2.via Bs).via hbt
    have PAz := (PA2.via Bs).via hbt
    have PRz := (PR2.via Bs).via hbt
    have HQz := Lib.hid (hLs.via hbt)
    have HRz := Lib.hid hLt
    have HBz := Lib.hid (HB2.out.trans ((Bs.trans (hbt.mono Bs.size)).mono HB2.out.size))
    clear PA2 PB2 PQ2 PR2 HQ HR HB2 a0 a1 b0 b1 hbs hbt Bs hLs hLt LBs HRs LB2 HS HD HE
    have PB2 := PBt
    have PA2 := PAz
    have PQ2 := PQz
    have PR2 := PRz
    have HQ := HQz
    have HR := HRz
    have HB2 := HBz
    clear PAz PBt PQz PRz HQz HRz HBz PBs
    have ⟨b0, b1, _, _, _⟩ := PB2
    have ⟨a0, a1, _, _, _⟩ := PA2
    go_wp2_with fail
    refine (made_any _ _ _ _ _ (a / b + 1) HQ.out).mono ?_
    rintro e w3 ⟨A3, n3, c3, rfl, hL3, hb3⟩
    rw [HLq.out] at hL3
    have PB3 := PB2.via hb3
    have PQ3 := PQ2.via hb3
    have PR3 := PR2.via hb3
    have HB3 := Lib.hid (HB2.out.trans (hb3.mono HB2.out.size))
    have HR3 := Lib.hid (HR.out.via hb3)
    have HL3 := Lib.hid hL3
    clear PA2 PB2 PQ2 PR2 HQ HR HB2 hb3 hL3 a0 a1 b0 b1
    have ⟨q0, q1, qf0, qf1, ql⟩ := PQ3
    have X4 := Lib.hid (PB3.far (h := w.heap.size + 1 + 1) (by omega) (.bool (mkN true (a / b + 1))) (.slice A3 n3 c3))
    have PQ4 := PQ3.set (.bool (mkN true (a / b + 1))) (.slice A3 n3 c3)
    have PR4 := PR3.far (h := w.heap.size + 1 + 1) (by omega) (.bool (mkN true (a / b + 1))) (.slice A3 n3 c3)
    have HR4 := Lib.hid (HR3.out.setP PQ3 (.bool (mkN true (a / b + 1))) (.slice A3 n3 c3))
    have HL4 := Lib.hid (HL3.out.setP PQ3 (.bool (mkN true (a / b + 1))) (.slice A3 n3 c3))
    have PB4 := X4.out
    have ⟨b0, b1, _, _, _⟩ := PB4
    go_wp2_with fail
    refine (made_any _ _ _ _ _ (b - a % b) HR4.out).mono ?_
    rintro e w5 ⟨A5, n5, c5, rfl, hL5, hb5⟩
    rw [HLr.out] at hL5
    have PQ5 := PQ4.via hb5
    have PR5 := PR4.via hb5
    have HB5 := Lib.hid ((below_set2 HB3.out (by omega) (.bool (mkN true (a / b + 1))) (.slice A3 n3 c3)).trans (hb5.mono (by rw [size_set2]; exact HB3.out.size)))
    have HL5 := Lib.hid (HL4.out.via hb5)
    have HM5 := Lib.hid hL5
    clear X4 HR3 HL3 HR4 HL4 PB3 PQ3 PR3 PQ4 PR4 PB4 hb5 hL5 q0 q1 qf0 qf1 b0 b1 HB3
    have ⟨r0, r1, rf0, rf1, rl⟩ := PR5
    have PQ6 := PQ5.far (h := w.heap.size + 1 + 1 + 1) (by omega) (.bool (mkN false (b - a % b))) (.slice A5 n5 c5)
    have PR6 := PR5.set (.bool (mkN false (b - a % b))) (.slice A5 n5 c5)
    have HL6 := Lib.hid (HL5.out.setP PR5 (.bool (mkN false (b - a % b))) (.slice A5 n5 c5))
    have HM6 := Lib.hid (HM5.out.setP PR5 (.bool (mkN false (b - a % b))) (.slice A5 n5 c5))
    have HB6 := Lib.hid (below_set2 HB5.out (by omega) (.bool (mkN false (b - a % b))) (.slice A5 n5 c5) (g := w.heap.size + 1 + 1 + 1))
    go_wp2_with fail
    generalize ((w5.setCell ⟨w.heap.size + 1 + 1 + 1, 0, none⟩ (.bool (mkN false (b - a % b)))).setCell ⟨w.heap.size + 1 + 1 + 1, 1, none⟩ (.slice A5 n5 c5)) = w6 at *
    clear PQ5 PR5 HL5 HM5 HB5 r0 r1 rf0 rf1 rl
    have ⟨q0, q1, qf0, qf1, ql⟩ := PQ6
    have ⟨r0, r1, rf0, rf1, rl⟩ := PR6
    go_region
    go_wp2
    refine post_ww Tryd.results8 rfl rfl rfl ((PQ6.set _ _).far (by omega) _ _).drew ((PR6.far (by omega) _ _).set _ _).drew ⟨A3, n3, c3, A5, n5, c5, rfl, ?_, ?_, ?_⟩
    · exact ((HL6.out.setP PQ6 _ _).setP (PR6.far (by omega) _ _) _ _).drew
    · exact ((HM6.out.setP PQ6 _ _).setP (PR6.far (by omega) _ _) _ _).drew
    · exact (below_set2 (below_set2 HB6.out (by omega) _ _) (by omega) _ _).drew
  · go_enter Tryd.func8, Tryd.ntmps8
    go_wp2_with fail
    refine (both_any _ _ _ _ _ _ _ _ _ _ _ 0 ((((HA.out.box _).box _).box _).box _) ((((HB.out.box _).box _).box _).box _) HV.out).mono ?_
    rintro e w1 ⟨rfl, hb1⟩
    have ⟨PA, PB, PQ, PR⟩ := boxes4 hb1
    have LA1 := Lib.hid (((((HA.out.box _).box _).box _).box _).via hb1)
    have LB1 := Lib.hid (((((HB.out.box _).box _).box _).box _).via hb1)
    have HB1 := Lib.hid (bbox (bbox (bbox (bbox hb1))))
    have ⟨a0, a1, _, _, _⟩ := PA
    have ⟨b0, b1, _, _, _⟩ := PB
    clear hb1
    go_wp2_with fail
    refine (divide_any w1 A B n m ca cb a b LA1.out LB1.out hb (by omega)).mono ?_
    rintro e w2 ⟨Q, cq, R, cr, rfl, hQ, hR, hb2⟩
    have PA2 := PA.via hb2
    have PB2 := PB.via hb2
    have PQ2 := PQ.via hb2
    have PR2 := PR.via hb2
    have HB2 := Lib.hid (HB1.out.trans (hb2.mono HB1.out.size))
    have HQ := Lib.hid hQ
    have HR := Lib.hid hR
    have LB2 := Lib.hid (LB1.out.via hb2)
    clear PA PB PQ PR LA1 LB1 HB1 a0 a1 b0 b1 hb2 hQ hR
    have ⟨a0, a1, _, _, _⟩ := PA2
    have ⟨b0, b1, _, _, _⟩ := PB2
    go_wp2_with fail
    have HS : Hid (val (digs (a / b)) + val [1] = a / b + 1) := by show _ = _; rw [digs_val, val_one]
    have HD : Hid (val (digs (a % b)) ≤ val (digs b)) := by show _ ≤ _; rw [digs_val, digs_val]; exact Nat.le_of_lt (Nat.mod_lt a hb)
    have HE : Hid (val (digs b) - val (digs (a % b)) = b - a % b) := by show _ = _; rw [digs_val, digs_val]
    go_region_held3 (fun w' => w'.cell? ⟨w.heap.size + 1, 0, none⟩ = some (.bool true) ∧ w'.cell? ⟨w.heap.size + 1, 1, none⟩ = some (.slice B m cb))
      (first | exact ⟨b0, b1⟩ | exact ⟨PBs.c0, PBs.c1⟩ | exact ⟨PBt.c0, PBt.c1⟩ | go_keep)
      (first
       | (go_at_call 33; refine (sum_any _ _ _ _ _ _ _ (digs (a / b)) [1] (a / b + 1) (HQ.out.drew.box _) (Lm.one _ 1 _ rfl (by omega)) (by omega) (by omega) HS.out).mono ?_; rintro e ws ⟨As, cs, rfl, hLs, hbs⟩; have Bs := (Below.refl w2.heap.size w2).drew.trans (bbox hbs); have PBs := PB2.via Bs; have LBs := Lib.hid (LB2.out.via Bs); have HRs := Lib.hid (HR.out.via Bs))
       | (go_at_call 34; refine (difference_any _ B R m (digs (a % b)).length cb cr (digs b) (digs (a % b)) (b - a % b) LBs.out HRs.out hr0 (by omega) HD.out HE.out).mono ?_; rintro e wt ⟨At, ct, rfl, hLt, hbt⟩; have PBt := PBs.via hbt))
    have PQz := (PQ2.via Bs).via hbt
    have PAz := (PA2.via Bs).via hbt
    have PRz := (PR2.via Bs).via hbt
    have HQz := Lib.hid (hLs.via hbt)
    have HRz := Lib.hid hLt
    have HBz := Lib.hid (HB2.out.trans ((Bs.trans (hbt.mono Bs.size)).mono HB2.out.size))
    clear PA2 PB2 PQ2 PR2 HQ HR HB2 a0 a1 b0 b1 hbs hbt Bs hLs hLt LBs HRs LB2 HS HD HE
    have PB2 := PBt
    have PA2 := PAz
    have PQ2 := PQz
    have PR2 := PRz
    have HQ := HQz
    have HR := HRz
    have HB2 := HBz
    clear PAz PBt PQz PRz HQz HRz HBz PBs
    have ⟨b0, b1, _, _, _⟩ := PB2
    have ⟨a0, a1, _, _, _⟩ := PA2
    go_wp2_with fail
    refine (made_any _ _ _ _ _ (a / b + 1) HQ.out).mono ?_
    rintro e w3 ⟨A3, n3, c3, rfl, hL3, hb3⟩
    rw [HLq.out] at hL3
    have PB3 := PB2.via hb3
    have PQ3 := PQ2.via hb3
    have PR3 := PR2.via hb3
    have HB3 := Lib.hid (HB2.out.trans (hb3.mono HB2.out.size))
    have HR3 := Lib.hid (HR.out.via hb3)
    have HL3 := Lib.hid hL3
    clear PA2 PB2 PQ2 PR2 HQ HR HB2 hb3 hL3 a0 a1 b0 b1
    have ⟨q0, q1, qf0, qf1, ql⟩ := PQ3
    have X4 := Lib.hid (PB3.far (h := w.heap.size + 1 + 1) (by omega) (.bool (mkN true (a / b + 1))) (.slice A3 n3 c3))
    have PQ4 := PQ3.set (.bool (mkN true (a / b + 1))) (.slice A3 n3 c3)
    have PR4 := PR3.far (h := w.heap.size + 1 + 1) (by omega) (.bool (mkN true (a / b + 1))) (.slice A3 n3 c3)
    have HR4 := Lib.hid (HR3.out.setP PQ3 (.bool (mkN true (a / b + 1))) (.slice A3 n3 c3))
    have HL4 := Lib.hid (HL3.out.setP PQ3 (.bool (mkN true (a / b + 1))) (.slice A3 n3 c3))
    have PB4 := X4.out
    have ⟨b0, b1, _, _, _⟩ := PB4
    go_wp2_with fail
    refine (made_any _ _ _ _ _ (b - a % b) HR4.out).mono ?_
    rintro e w5 ⟨A5, n5, c5, rfl, hL5, hb5⟩
    rw [HLr.out] at hL5
    have PQ5 := PQ4.via hb5
    have PR5 := PR4.via hb5
    have HB5 := Lib.hid ((below_set2 HB3.out (by omega) (.bool (mkN true (a / b + 1))) (.slice A3 n3 c3)).trans (hb5.mono (by rw [size_set2]; exact HB3.out.size)))
    have HL5 := Lib.hid (HL4.out.via hb5)
    have HM5 := Lib.hid hL5
    clear X4 HR3 HL3 HR4 HL4 PB3 PQ3 PR3 PQ4 PR4 PB4 hb5 hL5 q0 q1 qf0 qf1 b0 b1 HB3
    have ⟨r0, r1, rf0, rf1, rl⟩ := PR5
    have PQ6 := PQ5.far (h := w.heap.size + 1 + 1 + 1) (by omega) (.bool (mkN true (b - a % b))) (.slice A5 n5 c5)
    have PR6 := PR5.set (.bool (mkN true (b - a % b))) (.slice A5 n5 c5)
    have HL6 := Lib.hid (HL5.out.setP PR5 (.bool (mkN true (b - a % b))) (.slice A5 n5 c5))
    have HM6 := Lib.hid (HM5.out.setP PR5 (.bool (mkN true (b - a % b))) (.slice A5 n5 c5))
    have HB6 := Lib.hid (below_set2 HB5.out (by omega) (.bool (mkN true (b - a % b))) (.slice A5 n5 c5) (g := w.heap.size + 1 + 1 + 1))
    go_wp2_with fail
    generalize ((w5.setCell ⟨w.heap.size + 1 + 1 + 1, 0, none⟩ (.bool (mkN true (b - a % b)))).setCell ⟨w.heap.size + 1 + 1 + 1, 1, none⟩ (.slice A5 n5 c5)) = w6 at *
    clear PQ5 PR5 HL5 HM5 HB5 r0 r1 rf0 rf1 rl
    have ⟨q0, q1, qf0, qf1, ql⟩ := PQ6
    have ⟨r0, r1, rf0, rf1, rl⟩ := PR6
    go_region
    go_wp2
    refine post_ww Tryd.results8 rfl rfl rfl ((PQ6.set _ _).far (by omega) _ _).drew ((PR6.far (by omega) _ _).set _ _).drew ⟨A3, n3, c3, A5, n5, c5, rfl, ?_, ?_, ?_⟩
    · exact ((HL6.out.setP PQ6 _ _).setP (PR6.far (by omega) _ _) _ _).drew
    · exact ((HM6.out.setP PQ6 _ _).setP (PR6.far (by omega) _ _) _ _).drew
    · exact (below_set2 (below_set2 HB6.out (by omega) _ _) (by omega) _ _).drew
end Go.Proofs.YtkcdijhfiahibaaDoor

/- bits.TrailingZeros32 and wide.zeros, over the library's table. -/
namespace Go.Proofs.YtkcdijhfiahibaaDoor
open Go.RowKit

/-- The table of package bits lies in its variable. -/
def TabD (w : World) : Prop := ∀ j, j < 32 → w.cell? ⟨0, j, none⟩ = some (.int .u8 (Lib.deBruijn32tab.getD j 0))
theorem TabD.below {w w' : World} {B : Nat} (h : TabD w) (hb : Below B w w') (hB : 0 < B) : TabD w' := fun j hj => (hb.cell (p := ⟨0, j, none⟩) hB).trans (h j hj)
theorem TabD.lt {w : World} (h : TabD w) : 0 < w.heap.size := by
  refine Nat.lt_of_not_le fun hle => ?_
  have h0 := h 0 (by omega)
  have hn : w.heap[0]? = none := Array.getElem?_eq_none hle
  simp [World.cell?, hn] at h0
theorem TabD.via {w w' : World} (h : TabD w) (hb : Below w.heap.size w w') : TabD w' := h.below hb h.lt
theorem TabD.box {w : World} (h : TabD w) (o : Obj) : TabD (w.alloc o) := h.via ((Below.refl _ _).alloc (Nat.le_refl _) o)

theorem pow_odd {v t m : Nat} (h : v = 2 ^ t * (2 * m + 1)) (k : Nat) : v % 2 ^ k = 0 ↔ k ≤ t := by
  subst h
  constructor
  · intro h0
    refine Nat.le_of_not_lt fun hk => ?_
    obtain ⟨d, rfl⟩ : ∃ d, k = t + (d + 1) := ⟨k - t - 1, by omega⟩
    have h1 := Nat.div_add_mod (2 ^ t * (2 * m + 1)) (2 ^ (t + (d + 1)))
    rw [h0, Nat.add_zero, Nat.pow_add, Nat.mul_assoc] at h1
    have h2 := Nat.eq_of_mul_eq_mul_left (Nat.pow_pos (by omega)) h1
    rw [Nat.pow_succ] at h2
    generalize 2 ^ t * (2 * m + 1) / (2 ^ t * (2 ^ d * 2)) = q at h2
    have h3 : 2 ^ d * 2 * q = 2 * (2 ^ d * q) := by rw [Nat.mul_comm (2 ^ d) 2, Nat.mul_assoc]
    omega
  · intro hk
    obtain ⟨d, rfl⟩ : ∃ d, t = k + d := ⟨t - k, by omega⟩
    rw [Nat.pow_add, Nat.mul_assoc]
    exact Nat.mul_mod_right _ _

set_option maxRecDepth 100000 in
set_option maxHeartbeats 1000000 in
theorem tz32_core (x k idx : Nat) (w : World) (hx0 : ((x : Int) == 0) = false)
    (key : bits BinOp.and IntKind.u32 (x : Int) (-(x : Int) % 4294967296) * 125613361 % 4294967296 / 134217728 = (idx : Int))
    (hi : idx < 32) (hk : k < 32) (hcell : w.cell? ⟨0, idx, none⟩ = some (.int .u8 k)) :
    Calls Tryd.prog 71 #[.int .u32 x] w fun e w' => e = .returned (.int .i64 k) ∧ w = w' := by
  go_enter Tryd.func71, Tryd.ntmps71
  go_wp2_with (simp only [key])
  go_ret
  exact ⟨rfl, rfl⟩
theorem tz32_any (x : Nat) (hx : x < 4294967296) (hx0 : x ≠ 0) (w : World) (hT : TabD w) :
    Calls Tryd.prog 71 #[.int .u32 x] w fun e w' => e = .returned (.int .i64 (Lib.ctz 32 x)) ∧ w = w' := by
  obtain ⟨hlow, hk⟩ := Lib.lowest_bit 32 x hx0 hx
  obtain ⟨hi, htab⟩ := Lib.deBruijn32_at _ hk
  have hcell := hT _ hi
  rw [htab] at hcell
  exact tz32_core x _ _ w (by simp; omega) (tz32_key x _ hx hx0 hlow) hi hk hcell

/-- How many digits 0 the number v ends with. -/
def Zs (v t : Nat) : Prop := ∀ k, v % 2 ^ k = 0 ↔ k ≤ t
theorem zs_of {xs : List Nat} (g : Good xs) {j : Nat} (hj : j < xs.length) (h0 : val (xs.take j) = 0) (hx : xs[j]?.getD 0 ≠ 0) : Zs (val xs) (32 * j + Lib.ctz 32 (xs[j]?.getD 0)) ∧ Lib.ctz 32 (xs[j]?.getD 0) < 32 := by
  have hg := g.get j
  obtain ⟨m, hm, hc⟩ := Lib.ctzFrom_spec 32 (xs[j]?.getD 0) (by omega) hg
  have hcz : Lib.ctz 32 (xs[j]?.getD 0) = Lib.ctzFrom 32 (xs[j]?.getD 0) := by unfold Lib.ctz; rw [if_neg hx]
  rw [hcz]
  refine ⟨fun k => ?_, hc⟩
  have h1 := val_split xs j (by omega)
  rw [h0, val_step, Nat.zero_add] at h1
  generalize val (xs.drop (j + 1)) = r at h1
  generalize Lib.ctzFrom 32 (xs[j]?.getD 0) = t at *
  rw [hm] at h1
  refine pow_odd (m := m + 2 ^ (31 - t) * r) ?_ k
  rw [h1, Nat.pow_add, Nat.pow_mul, show (2 : Nat) ^ 32 = 4294967296 from rfl, Nat.mul_assoc]
  congr 1
  have e : (4294967296 : Nat) = 2 ^ t * (2 * 2 ^ (31 - t)) := by
    rw [show 2 * 2 ^ (31 - t) = 2 ^ (32 - t) from by rw [show 32 - t = (31 - t) + 1 from by omega, Nat.pow_succ]; omega, ← Nat.pow_add, show t + (32 - t) = 32 from by omega]
  rw [e, Nat.mul_assoc, ← Nat.mul_add]
  congr 1
  grind

set_option maxRecDepth 100000 in
set_option maxHeartbeats 1000000 in
theorem zeros_any (w : World) (A : Option Addr) (n c : Nat) (xs : List Nat) (v : Nat) (hA : Lm w w.heap.size A n c xs) (hv : val xs = v) (hv0 : 0 < v) (hn : n ≤ 1000000) (hT : TabD w) :
    Calls Tryd.prog 46 #[.slice A n c] w fun e w' => ∃ t : Nat, Zs v t ∧ t ≤ 32 * n ∧ e = .returned (.int .i64 t) ∧ w = w' := by
  have HA := Lib.hid hA
  have HT := Lib.hid hT
  have HV := Lib.hid hv
  have hca := hA.cap
  have hxa := hA.max
  clear hA hT hv
  go_enter Tryd.func46, Tryd.ntmps46
  go_wp2
  go_loop [7] (fun k => ∃ j : Nat, j ≤ n ∧ k = .int .i64 j ∧ val (xs.take j) = 0) (fun k => n - (intOf k).toNat)
  case atStart => exact ⟨0, Nat.zero_le _, rfl, rfl⟩
  case round =>
    obtain ⟨j, hj, rfl, hz⟩ := hrel
    have HZ := Lib.hid hz
    clear hz
    by_cases hlt : j < n
    · obtain ⟨b, off, rfl, hb, hc⟩ := HA.out.cell hlt
      have hgx := HA.out.good.get j
      have HS : Hid (val (xs.take (j + 1)) = 4294967296 ^ j * xs[j]?.getD 0) := by show _ = _; rw [val_take_succ', HZ.out, Nat.zero_add]
      have HC : Hid (xs[j]?.getD 0 ≠ 0 → Zs (val xs) (32 * j + Lib.ctz 32 (xs[j]?.getD 0)) ∧ Lib.ctz 32 (xs[j]?.getD 0) < 32) := zs_of HA.out.good (by rw [HA.out.len]; exact hlt) HZ.out
      generalize xs[j]?.getD 0 = x at *
      by_cases hx : x = 0
      · subst hx
        go_wp2
        go_round
        case rel => exact ⟨j + 1, by omega, by go_num, by rw [HS.out, Nat.mul_zero]⟩
        case measure => simp [intOf]; omega
      · have hxb : ((x : Int) != 0) = true := by simp; omega
        have HC2 := Lib.hid (HC.out hx)
        have hct := HC2.out.2
        go_wp2_with fail
        refine (tz32_any x hgx hx w HT.out).mono ?_
        rintro e w1 ⟨rfl, rfl⟩
        go_wp2
        go_ret
        refine ⟨32 * j + Lib.ctz 32 x, by rw [← HV.out]; exact HC2.out.1, by omega, ret_int (by omega), rfl⟩
    · exfalso
      have h1 := HZ.out
      rw [List.take_of_length_le (by rw [HA.out.len]; omega), HV.out] at h1
      omega
end Go.Proofs.YtkcdijhfiahibaaDoor

/- wide.Shift. -/
namespace Go.Proofs.YtkcdijhfiahibaaDoor
open Go.RowKit

set_option maxRecDepth 100000 in
set_option maxHeartbeats 400000 in
theorem shift_bad (w : World) (neg : Bool) (A : Option Addr) (n c : Nat) (xs : List Nat) (k : Int) (h : Lm w w.heap.size A n c xs) (hc : chk neg xs = 8) :
    Calls Tryd.prog 19 #[.agg #[.bool neg, .slice A n c], .int .i64 k] w (RW w false [] 8) := by
  have HH := Lib.hid h
  have HC := Lib.hid hc
  clear hc
  go_enter Tryd.func19, Tryd.ntmps19
  go_wp2_with (go_at_call 28; refine (check_bad _ _ _ _ _ _ ((HH.out.box _).box _) HC.out).mono ?_; rintro e w1 ⟨rfl, hb1⟩; have ⟨hx0, hx1, hy0, hy1, hf0, hf1, hsz⟩ := box2 hb1)
  exact post_ws Tryd.results19 rfl rfl hy0 hy1 ⟨none, 0, 0, rfl, Lm.nil _ _, below_set2 (bbox (bbox hb1)) (by omega) _ _⟩
set_option maxRecDepth 100000 in
set_option maxHeartbeats 400000 in
theorem shift_arg (w : World) (neg : Bool) (A : Option Addr) (n c : Nat) (xs : List Nat) (k : Int) (h : Lm w w.heap.size A n c xs) (hc : chk neg xs = 0) (hk : k < -131072 ∨ 131072 < k) :
    Calls Tryd.prog 19 #[.agg #[.bool neg, .slice A n c], .int .i64 k] w (RW w false [] 2) := by
  have HH := Lib.hid h
  have HC := Lib.hid hc
  clear hc
  by_cases h1 : k < -131072
  · clear hk
    go_enter Tryd.func19, Tryd.ntmps19
    go_wp2_with (go_at_call 28; refine (check_ok _ _ _ _ _ _ ((HH.out.box _).box _) HC.out).mono ?_; rintro e w1 ⟨rfl, hb1⟩; have ⟨hx0, hx1, hy0, hy1, hf0, hf1, hsz⟩ := box2 hb1)
    exact post_ws Tryd.results19 rfl rfl hy0 hy1 ⟨none, 0, 0, rfl, Lm.nil _ _, below_set2 (bbox (bbox hb1)) (by omega) _ _⟩
  · have h2 : 131072 < k := by omega
    clear hk
    go_enter Tryd.func19, Tryd.ntmps19
    go_wp2_with (go_at_call 28; refine (check_ok _ _ _ _ _ _ ((HH.out.box _).box _) HC.out).mono ?_; rintro e w1 ⟨rfl, hb1⟩; have ⟨hx0, hx1, hy0, hy1, hf0, hf1, hsz⟩ := box2 hb1)
    exact post_ws Tryd.results19 rfl rfl hy0 hy1 ⟨none, 0, 0, rfl, Lm.nil _ _, below_set2 (bbox (bbox hb1)) (by omega) _ _⟩

set_option maxRecDepth 100000 in
set_option maxHeartbeats 1000000 in
theorem shift_up (w : World) (neg : Bool) (A : Option Addr) (n c v k : Nat) (h : Lm w w.heap.size A n c (digs v)) (hc : chk neg (digs v) = 0) (hk : k ≤ 131072) :
    Calls Tryd.prog 19 #[.agg #[.bool neg, .slice A n c], .int .i64 (k : Int)] w (RW w (mkN neg (v * 2 ^ k)) (mkL (v * 2 ^ k)) (mkE (v * 2 ^ k))) := by
  have hl := (chk_ok.1 hc).1
  rw [h.len] at hl
  have HH := Lib.hid h
  have HC := Lib.hid hc
  have HV := Lib.hid (digs_val v)
  clear hc
  go_enter Tryd.func19, Tryd.ntmps19
  go_wp2_with (go_at_call 28; refine (check_ok _ _ _ _ _ _ ((HH.out.box _).box _) HC.out).mono ?_; rintro e w1 ⟨rfl, hb1⟩; have ⟨hx0, hx1, hy0, hy1, hf0, hf1, hsz⟩ := box2 hb1)
  have HL := Lib.hid (((HH.out.box _).box _).via hb1)
  go_region_held3 (fun w' => w'.cell? ⟨w.heap.size, 0, none⟩ = some (.bool neg) ∧ w'.cell? ⟨w.heap.size, 1, none⟩ = some (.slice A n c))
    (first | exact ⟨hx0, hx1⟩ | exact hk2 | exact hk3 | go_keep)
    (first
     | (go_at_call 44; refine (left_any _ _ _ _ k (digs v) (v * 2 ^ k) (by first | exact HL.out | exact HL.out.drew) (by omega) (by omega) (by rw [HV.out])).mono ?_; rintro e w2 ⟨A2, c2, rfl, hL2, hb2⟩; have hg2 : w.heap.size + 1 < w2.heap.size := Nat.lt_of_lt_of_le hsz hb2.size; have hk2 := keep2 hb2 (Nat.lt_of_succ_lt hsz) ⟨hx0, hx1⟩; have hky2 := keep2 hb2 hsz ⟨hy0, hy1⟩; have hkf2 := keepF hb2 hsz ⟨hf0, hf1⟩)
     | (go_at_call 35; refine (made_any _ _ _ _ _ (v * 2 ^ k) hL2).mono ?_; rintro e w3 ⟨A3, n3, c3, rfl, hL3, hb3⟩; have hk3 := keep2 hb3 (Nat.lt_of_succ_lt hg2) hk2; have hky3 := keep2 hb3 hg2 hky2; have hkf3 := keepF hb3 hg2 hkf2))
  go_wp2
  exact post_ws Tryd.results19 rfl rfl hky3.1 hky3.2 ⟨A3, n3, c3, rfl, hL3.set2 hky3.1 hky3.2 _ _,
    below_set2 (((bbox (bbox hb1)).drew.trans (hb2.mono (show w.heap.size ≤ w1.heap.size from by omega))).trans (hb3.mono (by omega))) (by omega) _ _⟩
theorem boxes2 {w w1 : World} {t0 t1 : TypeId} {a0 a1 b0 b1 : Value} (hb : Below ((w.alloc (.cells #[a0, a1] t0)).alloc (.cells #[b0, b1] t1)).heap.size ((w.alloc (.cells #[a0, a1] t0)).alloc (.cells #[b0, b1] t1)) w1) :
    Pr w1 w.heap.size a0 a1 ∧ Pr w1 (w.heap.size + 1) b0 b1 :=
  ⟨((Pr.new w _ rfl a0 a1 t0).alloc _).via hb, (Pr.new _ _ (by simp) b0 b1 t1).via hb⟩

set_option maxRecDepth 100000 in
set_option maxHeartbeats 1000000 in
theorem shift_down_pos (w : World) (A : Option Addr) (n c v j : Nat) (z : Int) (h : Lm w w.heap.size A n c (digs v)) (hc : chk false (digs v) = 0) (hz : z = -(j : Int)) (hj0 : 0 < j) (hj : j ≤ 131072) :
    Calls Tryd.prog 19 #[.agg #[.bool false, .slice A n c], .int .i64 z] w (RW w (mkN false (v / 2 ^ j)) (mkL (v / 2 ^ j)) (mkE (v / 2 ^ j))) := by
  have hl := (chk_ok.1 hc).1
  rw [h.len] at hl
  have HH := Lib.hid h
  have HC := Lib.hid hc
  have HV := Lib.hid (digs_val v)
  have hcA := h.cap
  have hxA := h.max
  have hz1 : z < 0 := by omega
  have hz2 : -131072 ≤ z := by omega
  have HZ : Hid (-z = (j : Int)) := by show _ = _; omega
  clear hc h hz
  go_enter Tryd.func19, Tryd.ntmps19
  go_wp2_with fail
  refine (check_ok _ _ _ _ _ _ ((HH.out.box _).box _) HC.out).mono ?_
  rintro e w1 ⟨rfl, hb1⟩
  have ⟨P1, P2⟩ : Pr w1 w.heap.size (.bool false) (.slice A n c) ∧ Pr w1 (w.heap.size + 1) (.bool false) (.slice none 0 0) := boxes2 hb1
  have HL1 := Lib.hid (((HH.out.box _).box _).via hb1)
  have HB1 := Lib.hid (bbox (bbox hb1))
  clear hb1
  have ⟨a0, a1, _, _, _⟩ := P1
  go_wp2_with fail
  rw [HZ.out]
  refine (right_any w1 A n c j v (v / 2 ^ j) HL1.out (by omega) (by omega) rfl).mono ?_
  rintro e w2 ⟨A2, c2, rfl, hL2, hb2⟩
  have P1' := P1.via hb2
  have P2' := P2.via hb2
  have HB2 := Lib.hid (HB1.out.trans (hb2.mono HB1.out.size))
  have HL2 := Lib.hid hL2
  have hc2 := hL2.cap
  have hx2 := hL2.max
  have hl2 : (digs (v / 2 ^ j)).length ≤ 4096 := by
    have := digs_mono (Nat.div_le_self v (2 ^ j))
    rw [HH.out.len] at this
    omega
  clear hL2 hb2 a0 a1 P1 P2 HB1
  have ⟨a0, a1, _, _, _⟩ := P1'
  go_wp2_with fail
  refine (made_any _ _ _ _ _ (v / 2 ^ j) HL2.out).mono ?_
  rintro e w8 ⟨A3, n3, c3, rfl, hL3, hb3⟩
  have P8 := P2'.via hb3
  have HB8 := Lib.hid (HB2.out.trans (hb3.mono HB2.out.size))
  have HL8 := Lib.hid hL3
  clear hL3 hb3
  have ⟨k0, k1, f0, f1, kl⟩ := P8
  go_wp2
  exact post_ws Tryd.results19 rfl rfl k0 k1 ⟨A3, n3, c3, rfl, HL8.out.set2 k0 k1 _ _, below_set2 HB8.out (by omega) _ _⟩

set_option maxRecDepth 100000 in
set_option maxHeartbeats 1000000 in
theorem shift_down_even (w : World) (A : Option Addr) (n c v j : Nat) (z : Int) (h : Lm w w.heap.size A n c (digs v)) (hc : chk true (digs v) = 0) (hz : z = -(j : Int)) (hj0 : 0 < j) (hj : j ≤ 131072) (hT : TabD w) (h0 : v % 2 ^ j = 0) :
    Calls Tryd.prog 19 #[.agg #[.bool true, .slice A n c], .int .i64 z] w (RW w (mkN true (v / 2 ^ j)) (mkL (v / 2 ^ j)) (mkE (v / 2 ^ j))) := by
  have hl := (chk_ok.1 hc).1
  rw [h.len] at hl
  have hv0 : 0 < v := Nat.pos_of_ne_zero fun e => (chk_ok.1 hc).2.2 rfl (digs_nil.2 e)
  have HH := Lib.hid h
  have HC := Lib.hid hc
  have HV := Lib.hid (digs_val v)
  have hcA := h.cap
  have hxA := h.max
  have hz1 : z < 0 := by omega
  have hz2 : -131072 ≤ z := by omega
  have HZ : Hid (-z = (j : Int)) := by show _ = _; omega
  clear hc h hz
  go_enter Tryd.func19, Tryd.ntmps19
  go_wp2_with fail
  refine (check_ok _ _ _ _ _ _ ((HH.out.box _).box _) HC.out).mono ?_
  rintro e w1 ⟨rfl, hb1⟩
  have ⟨P1, P2⟩ : Pr w1 w.heap.size (.bool true) (.slice A n c) ∧ Pr w1 (w.heap.size + 1) (.bool false) (.slice none 0 0) := boxes2 hb1
  have HL1 := Lib.hid (((HH.out.box _).box _).via hb1)
  have HB1 := Lib.hid (bbox (bbox hb1))
  have HT1 := Lib.hid (((hT.box _).box _).via hb1)
  clear hT
  clear hb1
  have ⟨a0, a1, _, _, _⟩ := P1
  go_wp2_with fail
  rw [HZ.out]
  refine (right_any w1 A n c j v (v / 2 ^ j) HL1.out (by omega) (by omega) rfl).mono ?_
  rintro e w2 ⟨A2, c2, rfl, hL2, hb2⟩
  have P1' := P1.via hb2
  have P2' := P2.via hb2
  have HB2 := Lib.hid (HB1.out.trans (hb2.mono HB1.out.size))
  have HL2 := Lib.hid hL2
  have HT2 := Lib.hid (HT1.out.via hb2)
  have HL1b := Lib.hid (HL1.out.via hb2)
  have hc2 := hL2.cap
  have hx2 := hL2.max
  have hl2 : (digs (v / 2 ^ j)).length ≤ 4096 := by
    have := digs_mono (Nat.div_le_self v (2 ^ j))
    rw [HH.out.len] at this
    omega
  clear hL2 hb2 a0 a1 P1 P2 HB1
  have ⟨a0, a1, _, _, _⟩ := P1'
  go_wp2_with fail
  refine (zeros_any w2 A n c (digs v) v (by first | exact HL1b.out) HV.out hv0 (by omega) HT2.out).mono ?_
  rintro e w3 ⟨t, ht, ht9, rfl, rfl⟩
  have htz : -z ≤ (t : Int) := by have e1 := (ht j).1 h0; have e2 := HZ.out; omega
  go_wp2_with fail
  refine (made_any _ _ _ _ _ (v / 2 ^ j) HL2.out).mono ?_
  rintro e w8 ⟨A3, n3, c3, rfl, hL3, hb3⟩
  have P8 := P2'.via hb3
  have HB8 := Lib.hid (HB2.out.trans (hb3.mono HB2.out.size))
  have HL8 := Lib.hid hL3
  clear hL3 hb3
  have ⟨k0, k1, f0, f1, kl⟩ := P8
  go_wp2
  exact post_ws Tryd.results19 rfl rfl k0 k1 ⟨A3, n3, c3, rfl, HL8.out.set2 k0 k1 _ _, below_set2 HB8.out (by omega) _ _⟩

set_option maxRecDepth 100000 in
set_option maxHeartbeats 1000000 in
theorem shift_down_lost (w : World) (A : Option Addr) (n c v j : Nat) (z : Int) (h : Lm w w.heap.size A n c (digs v)) (hc : chk true (digs v) = 0) (hz : z = -(j : Int)) (hj0 : 0 < j) (hj : j ≤ 131072) (hT : TabD w) (h0 : v % 2 ^ j ≠ 0) :
    Calls Tryd.prog 19 #[.agg #[.bool true, .slice A n c], .int .i64 z] w (RW w (mkN true (v / 2 ^ j + 1)) (mkL (v / 2 ^ j + 1)) (mkE (v / 2 ^ j + 1))) := by
  have hl := (chk_ok.1 hc).1
  rw [h.len] at hl
  have hv0 : 0 < v := Nat.pos_of_ne_zero fun e => (chk_ok.1 hc).2.2 rfl (digs_nil.2 e)
  have HH := Lib.hid h
  have HC := Lib.hid hc
  have HV := Lib.hid (digs_val v)
  have hcA := h.cap
  have hxA := h.max
  have hz1 : z < 0 := by omega
  have hz2 : -131072 ≤ z := by omega
  have HZ : Hid (-z = (j : Int)) := by show _ = _; omega
  clear hc h hz
  go_enter Tryd.func19, Tryd.ntmps19
  go_wp2_with fail
  refine (check_ok _ _ _ _ _ _ ((HH.out.box _).box _) HC.out).mono ?_
  rintro e w1 ⟨rfl, hb1⟩
  have ⟨P1, P2⟩ : Pr w1 w.heap.size (.bool true) (.slice A n c) ∧ Pr w1 (w.heap.size + 1) (.bool false) (.slice none 0 0) := boxes2 hb1
  have HL1 := Lib.hid (((HH.out.box _).box _).via hb1)
  have HB1 := Lib.hid (bbox (bbox hb1))
  have HT1 := Lib.hid (((hT.box _).box _).via hb1)
  clear hT
  clear hb1
  have ⟨a0, a1, _, _, _⟩ := P1
  go_wp2_with fail
  rw [HZ.out]
  refine (right_any w1 A n c j v (v / 2 ^ j) HL1.out (by omega) (by omega) rfl).mono ?_
  rintro e w2 ⟨A2, c2, rfl, hL2, hb2⟩
  have P1' := P1.via hb2
  have P2' := P2.via hb2
  have HB2 := Lib.hid (HB1.out.trans (hb2.mono HB1.out.size))
  have HL2 := Lib.hid hL2
  have HT2 := Lib.hid (HT1.out.via hb2)
  have HL1b := Lib.hid (HL1.out.via hb2)
  have hc2 := hL2.cap
  have hx2 := hL2.max
  have hl2 : (digs (v / 2 ^ j)).length ≤ 4096 := by
    have := digs_mono (Nat.div_le_self v (2 ^ j))
    rw [HH.out.len] at this
    omega
  clear hL2 hb2 a0 a1 P1 P2 HB1
  have ⟨a0, a1, _, _, _⟩ := P1'
  go_wp2_with fail
  refine (zeros_any w2 A n c (digs v) v (by first | exact HL1b.out) HV.out hv0 (by omega) HT2.out).mono ?_
  rintro e w3 ⟨t, ht, ht9, rfl, rfl⟩
  have htz : (t : Int) < -z := by have e1 : ¬ j ≤ t := fun e => h0 ((ht j).2 e); have e2 := HZ.out; omega
  go_wp2_with fail
  refine (sum_any _ _ _ _ _ _ _ (digs (v / 2 ^ j)) [1] (v / 2 ^ j + 1) (HL2.out.box _) (Lm.one w2 1 1 rfl (by omega)) (by omega) (by omega) (by rw [digs_val, val_one])).mono ?_
  rintro e w4 ⟨A4, c4, rfl, hL4, hb4⟩
  have P2q := P2'.via (bbox hb4)
  have HB4 := Lib.hid (HB2.out.trans ((bbox hb4).mono HB2.out.size))
  have HL4 := Lib.hid hL4
  have hb4q := Lib.hid hb4
  clear hL4 hb4
  have P1q := P1'.via (bbox hb4q.out)
  clear P2' P1' a0 a1
  have ⟨a0, a1, _, _, _⟩ := P1q
  have P2' := P2q
  go_wp2_with fail
  refine (made_any _ _ _ _ _ (v / 2 ^ j + 1) HL4.out).mono ?_
  rintro e w8 ⟨A3, n3, c3, rfl, hL3, hb3⟩
  have P8 := P2'.via hb3
  have HB8 := Lib.hid (HB4.out.trans (hb3.mono HB4.out.size))
  have HL8 := Lib.hid hL3
  clear hL3 hb3
  have ⟨k0, k1, f0, f1, kl⟩ := P8
  go_wp2
  exact post_ws Tryd.results19 rfl rfl k0 k1 ⟨A3, n3, c3, rfl, HL8.out.set2 k0 k1 _ _, below_set2 HB8.out (by omega) _ _⟩
end Go.Proofs.YtkcdijhfiahibaaDoor

/- Lehmer steps (Collins condition), in whole numbers. -/
namespace Go.Proofs.YtkcdijhfiahibaaDoor
/-- The loop's state: the two numbers that are looked at (x, y), the factors of the last three numbers; a, b: the numbers themselves, of which X and Y are the highest digits. -/
structure Leh (X Y a b P s c x y A0 B0 A1 B1 A2 B2 : Int) : Prop where
  sq : s * s = 1
  hx : x = s * (A1 * X - B1 * Y)
  hy : y = -s * (A2 * X - B2 * Y)
  y0 : 0 ≤ y
  yx : y ≤ x
  xX : x ≤ X
  a0 : 0 ≤ A0
  b0 : 0 ≤ B0
  a1 : 0 ≤ A1
  b1 : 0 ≤ B1
  a2 : 0 ≤ A2
  b2 : 1 ≤ B2
  ab : A2 ≤ B2
  sm : A1 + A2 ≤ B1 + B2
  bb : B1 ≤ B2
  a1b : A1 ≤ B2
  det : B2 * x + B1 * y = X
  gcd : Int.gcd (s * (A1 * a - B1 * b)) (-s * (A2 * a - B2 * b)) = Int.gcd a b
  cm : -1 ≤ c
  sum : (c = -1 ∧ s * (A1 * a - B1 * b) = a ∧ -s * (A2 * a - B2 * b) = b) ∨ (0 ≤ c ∧ s * (A1 * a - B1 * b) + -s * (A2 * a - B2 * b) ≤ a)
  par : (s = 1 ∧ c % 2 = 1) ∨ (s = -1 ∧ c % 2 = 0)
  /-- what stands if the last step is taken -/
  tk : 0 ≤ c → 0 ≤ s * (A1 * a - B1 * b) ∧ s * (A1 * a - B1 * b) ≤ -s * (A0 * a - B0 * b) ∧ Int.gcd (-s * (A0 * a - B0 * b)) (s * (A1 * a - B1 * b)) = Int.gcd a b ∧
    A0 < 4294967296 ∧ B0 < 4294967296 ∧ A1 < 4294967296 ∧ B1 < 4294967296 ∧ (1 ≤ c → -s * (A0 * a - B0 * b) + s * (A1 * a - B1 * b) ≤ a)

theorem Leh.start {X Y a b P : Int} (h0 : 0 ≤ Y) (h1 : Y ≤ X) : Leh X Y a b P 1 (-1) X Y 0 0 1 0 0 1 := by
  refine ⟨by omega, by omega, by omega, h0, h1, by omega, by omega, by omega, by omega, by omega, by omega, by omega, by omega, by omega, by omega, by omega, by omega, ?_, by omega, .inl ⟨rfl, by omega, by omega⟩, .inl ⟨rfl, rfl⟩, fun h => absurd h (by omega)⟩
  rw [show (1 : Int) * (1 * a - 0 * b) = a from by omega, show (-1 : Int) * (0 * a - 1 * b) = b from by omega]

theorem gcd_step (u v q : Int) : Int.gcd v (u - q * v) = Int.gcd u v := by
  rw [Int.gcd_comm u v, Int.sub_eq_add_neg, ← Int.neg_mul]
  exact Int.gcd_add_mul_right_right v u (-q)

theorem leh_low {P m n a0 b0 t : Int} (s : Int) (hs : s * s = 1) (hm : 0 ≤ m) (hn : 0 ≤ n) (hmn : m ≤ n) (ha : 0 ≤ a0) (ha' : a0 ≤ P) (hb : 0 ≤ b0) (hb' : b0 ≤ P) (ht : n ≤ t) : 0 ≤ t * P + s * (m * a0 - n * b0) := by
  have hP : 0 ≤ P := by omega
  have e1 : m * a0 ≤ n * P := Int.le_trans (Int.mul_le_mul_of_nonneg_right hmn ha) (Int.mul_le_mul_of_nonneg_left ha' hn)
  have e2 : n * b0 ≤ n * P := Int.mul_le_mul_of_nonneg_left hb' hn
  have e3 : n * P ≤ t * P := Int.mul_le_mul_of_nonneg_right ht hP
  have e4 : 0 ≤ m * a0 := Int.mul_nonneg hm ha
  have e5 : 0 ≤ n * b0 := Int.mul_nonneg hn hb
  have e6 : s = 1 ∨ s = -1 := by
    have : (s - 1) * (s + 1) = 0 := by grind
    rcases Int.mul_eq_zero.1 this with h | h
    · left; omega
    · right; omega
  rcases e6 with rfl | rfl
  · omega
  · omega

theorem sq_lt {B x X : Int} (hB : 0 ≤ B) (hx : B ≤ x) (h : B * x ≤ X) (hX : X < 18446744073709551616) : B < 4294967296 := by
  refine Int.lt_of_not_ge fun h2 => ?_
  have e1 : (4294967296 : Int) * 4294967296 ≤ B * x := Int.mul_le_mul h2 (by omega) (by omega) hB
  omega

theorem Leh.step {X Y a b P s c x y A0 B0 A1 B1 A2 B2 ra rb q r : Int} (h : Leh X Y a b P s c x y A0 B0 A1 B1 A2 B2) (ha : a = X * P + ra) (hb : b = Y * P + rb) (ra0 : 0 ≤ ra) (raP : ra ≤ P) (rb0 : 0 ≤ rb) (rbP : rb ≤ P) (hX : X < 18446744073709551616)
    (hc1 : B2 ≤ y) (hc2 : B1 + B2 ≤ x - y) (hq : x = q * y + r) (hr0 : 0 ≤ r) (hr : r < y) :
    Leh X Y a b P (-s) (c + 1) y r A1 B1 A2 B2 (A1 + q * A2) (B1 + q * B2) ∧ 1 ≤ q ∧ B1 + q * B2 ≤ X ∧ A1 + q * A2 ≤ B1 + q * B2 ∧ q ≤ X ∧ q * y ≤ x ∧ q * A2 ≤ X ∧ q * B2 ≤ X := by
  have hy1 : 1 ≤ y := Int.le_trans h.b2 hc1
  have hq1 : 1 ≤ q := by
    refine Int.le_of_not_gt fun h2 => ?_
    have : q * y ≤ 0 := Int.mul_nonpos_of_nonpos_of_nonneg (by omega) (by omega)
    have := h.yx; have := h.b1; have := h.b2; omega
  have hqA : A2 ≤ q * A2 := by have := Int.mul_le_mul_of_nonneg_right hq1 h.a2; rwa [Int.one_mul] at this
  have hqB : B2 ≤ q * B2 := by have := Int.mul_le_mul_of_nonneg_right hq1 (show 0 ≤ B2 by have := h.b2; omega); rwa [Int.one_mul] at this
  have hqAB : (q - 1) * A2 ≤ (q - 1) * B2 := Int.mul_le_mul_of_nonneg_left h.ab (by omega)
  have hqAB' : q * A2 - A2 ≤ q * B2 - B2 := by rw [Int.sub_mul, Int.sub_mul] at hqAB; omega
  have hdet : (B1 + q * B2) * y + B2 * r = X := by
    have := h.det
    rw [hq] at this
    grind
  have hBr : 0 ≤ B2 * r := Int.mul_nonneg (by have := h.b2; omega) hr0
  have hB1q : B1 + q * B2 ≤ X := by
    have e1 : (B1 + q * B2) * 1 ≤ (B1 + q * B2) * y := Int.mul_le_mul_of_nonneg_left hy1 (by have := h.b1; have := h.b2; omega)
    omega
  have hqy : q * y ≤ x := by omega
  have hqX : q ≤ X := by
    have e1 : q * 1 ≤ q * y := Int.mul_le_mul_of_nonneg_left hy1 (by omega)
    have := h.xX
    omega
  have hv2 : 0 ≤ -s * (A2 * a - B2 * b) := by
    have e1 := leh_low (-s) (P := P) (m := A2) (n := B2) (a0 := ra) (b0 := rb) (t := y) (by have := h.sq; grind) h.a2 (by have := h.b2; omega) h.ab ra0 raP rb0 rbP hc1
    have e2 : -s * (A2 * a - B2 * b) = y * P + -s * (A2 * ra - B2 * rb) := by rw [h.hy, ha, hb]; grind
    rw [e2]; exact e1
  have hv12 : -s * (A2 * a - B2 * b) ≤ s * (A1 * a - B1 * b) := by
    have e1 := leh_low s (P := P) (m := A1 + A2) (n := B1 + B2) (a0 := ra) (b0 := rb) (t := x - y) h.sq (by have := h.a1; have := h.a2; omega) (by have := h.b1; have := h.b2; omega) h.sm ra0 raP rb0 rbP hc2
    have e2 : s * (A1 * a - B1 * b) - -s * (A2 * a - B2 * b) = (x - y) * P + s * ((A1 + A2) * ra - (B1 + B2) * rb) := by rw [h.hx, h.hy, ha, hb]; grind
    omega
  have hlin : - -s * ((A1 + q * A2) * a - (B1 + q * B2) * b) = s * (A1 * a - B1 * b) - q * (-s * (A2 * a - B2 * b)) := by grind
  have hqv : -s * (A2 * a - B2 * b) ≤ q * (-s * (A2 * a - B2 * b)) := by
    have := Int.mul_le_mul_of_nonneg_right hq1 hv2
    rwa [Int.one_mul] at this
  have hB2 : B2 < 4294967296 := by
    refine sq_lt (X := X) (x := x) (by have := h.b2; omega) (by have := h.yx; omega) ?_ hX
    have := h.det
    have e1 : 0 ≤ B1 * y := Int.mul_nonneg h.b1 h.y0
    omega
  have hsum : s * (A1 * a - B1 * b) + -s * (A2 * a - B2 * b) - q * (-s * (A2 * a - B2 * b)) ≤ a := by
    rcases h.sum with ⟨_, e1, e2⟩ | ⟨_, e1⟩ <;> omega
  refine ⟨⟨?_, ?_, ?_, hr0, by omega, by have := h.xX; have := h.yx; omega, h.a1, h.b1, h.a2, by have := h.b2; omega, ?_, by have := h.b1; have := h.b2; omega, ?_, ?_, ?_, ?_, ?_, ?_, by have := h.cm; omega, ?_, ?_, ?_⟩, hq1, hB1q, ?_, hqX, hqy, ?_, ?_⟩
  · have := h.sq; grind
  · have := h.hy; exact this
  · have e1 := h.hx
    have e2 := h.hy
    have : r = x - q * y := by omega
    rw [this, e1, e2]
    grind
  · have := h.a1; have := h.a2; omega
  · have := h.sm; omega
  · have := h.sm; have := h.ab; omega
  · have := h.b1; omega
  · have := h.ab; have := h.b1; omega
  · exact hdet
  · rw [hlin, gcd_step]; exact h.gcd
  · right
    refine ⟨by have := h.cm; omega, ?_⟩
    rw [hlin]
    omega
  · have := h.cm
    rcases h.par with ⟨e1, e2⟩ | ⟨e1, e2⟩
    · right; constructor <;> omega
    · left; constructor <;> omega
  · intro _
    rw [show - -s * (A1 * a - B1 * b) = s * (A1 * a - B1 * b) from by rw [Int.neg_neg]]
    have := h.a1b; have := h.bb; have := h.ab; have := h.cm
    refine ⟨hv2, hv12, h.gcd, by omega, by omega, by omega, hB2, fun h1 => ?_⟩
    rcases h.sum with ⟨e0, _, _⟩ | ⟨_, e1⟩
    · omega
    · omega
  · have := h.sm; have := h.ab; omega
  · have := h.ab; have := h.b1; have := h.a2; have := Int.mul_le_mul_of_nonneg_left h.ab (show 0 ≤ q by omega); omega
  · have := h.b1; omega
/-- The loop's state, in natural numbers. -/
def LehN (a b p : Nat) (s c : Int) (x y A0 B0 A1 B1 A2 B2 : Nat) : Prop := Leh ((a / p : Nat) : Int) ((b / p : Nat) : Int) (a : Int) (b : Int) (p : Int) s c (x : Int) (y : Int) (A0 : Int) (B0 : Int) (A1 : Int) (B1 : Int) (A2 : Int) (B2 : Int)
theorem LehN.start {a b p : Nat} (h : b ≤ a) : LehN a b p 1 (-1) (a / p) (b / p) 0 0 1 0 0 1 :=
  Leh.start (Int.natCast_nonneg _) (Int.ofNat_le.2 (Nat.div_le_div_right h))
theorem LehN.bd {a b p x y A0 B0 A1 B1 A2 B2 : Nat} {s c : Int} (h : LehN a b p s c x y A0 B0 A1 B1 A2 B2) (hX : a / p < 18446744073709551616) :
    x < 18446744073709551616 ∧ y ≤ x ∧ 1 ≤ B2 ∧ (1 ≤ y → B1 + B2 < 18446744073709551616) ∧ -1 ≤ c := by
  have h1 := h.xX
  have h2 := h.yx
  have h3 := h.b2
  refine ⟨by omega, by omega, by omega, fun hy => ?_, h.cm⟩
  have h4 := h.det
  rw [← Int.natCast_mul, ← Int.natCast_mul] at h4
  have h5 : B2 ≤ B2 * x := Nat.le_mul_of_pos_right _ (by omega)
  have h6 : B1 ≤ B1 * y := Nat.le_mul_of_pos_right _ (by omega)
  omega
theorem LehN.go {a b p x y A0 B0 A1 B1 A2 B2 : Nat} {s c : Int} (h : LehN a b p s c x y A0 B0 A1 B1 A2 B2) (hp : 0 < p) (hX : a / p < 18446744073709551616) (h1 : B2 ≤ y) (h2 : B1 + B2 ≤ x - y) :
    LehN a b p (-s) (c + 1) y (x % y) A1 B1 A2 B2 (A1 + x / y * A2) (B1 + x / y * B2) ∧ 1 ≤ x / y ∧ B1 + x / y * B2 < 18446744073709551616 ∧ A1 + x / y * A2 < 18446744073709551616 ∧ x / y * A2 < 18446744073709551616 ∧ x / y * B2 < 18446744073709551616 ∧
      x / y * y ≤ x ∧ x - x / y * y = x % y ∧ B2 < 4294967296 ∧ B2 ≤ x / y * B2 := by
  obtain ⟨b1, b2, b3, _, b5⟩ := h.bd hX
  have hy : 0 < y := by omega
  have hdm := Nat.div_add_mod x y
  have hml := Nat.mod_lt x hy
  have hdm' : x = x / y * y + x % y := by rw [Nat.mul_comm]; exact hdm.symm
  have e1 := Nat.div_add_mod a p
  have e2 := Nat.div_add_mod b p
  have e3 := Nat.mod_lt a hp
  have e4 := Nat.mod_lt b hp
  have key := Leh.step h (ra := ((a % p : Nat) : Int)) (rb := ((b % p : Nat) : Int)) (q := ((x / y : Nat) : Int)) (r := ((x % y : Nat) : Int))
    (by rw [← Int.natCast_mul, ← Int.natCast_add]; congr 1; rw [Nat.mul_comm]; exact e1.symm)
    (by rw [← Int.natCast_mul, ← Int.natCast_add]; congr 1; rw [Nat.mul_comm]; exact e2.symm)
    (by omega) (by omega) (by omega) (by omega) (by omega) (by omega) (by omega)
    (by rw [← Int.natCast_mul, ← Int.natCast_add]; congr 1)
    (by omega) (by omega)
  obtain ⟨k1, k2, k3, k4, k5, k6, k7, k8⟩ := key
  have hB : B2 < 4294967296 := by
    have := k1.tk (by omega)
    omega
  have hq : 1 ≤ x / y := by omega
  have hqB : B2 ≤ x / y * B2 := Nat.le_mul_of_pos_left _ (by omega)
  refine ⟨?_, hq, ?_, ?_, ?_, ?_, by omega, by omega, hB, hqB⟩
  · unfold LehN
    rw [Int.natCast_add, Int.natCast_mul, Int.natCast_add, Int.natCast_mul]
    exact k1
  · rw [← Int.natCast_mul, ← Int.natCast_add] at k3; omega
  · rw [← Int.natCast_mul, ← Int.natCast_add, ← Int.natCast_mul, ← Int.natCast_add] at k4
    rw [← Int.natCast_mul, ← Int.natCast_add] at k3
    omega
  · rw [← Int.natCast_mul] at k7; omega
  · rw [← Int.natCast_mul] at k8; omega
/-- What stands once steps are taken. -/
theorem leh_take {a b p x y A0 B0 A1 B1 A2 B2 : Nat} {s c : Int} (h : LehN a b p s c x y A0 B0 A1 B1 A2 B2) (hc : 0 < c) (hb : 0 < b) : ∃ u v : Nat, v ≤ u ∧ Nat.gcd u v = Nat.gcd a b ∧ u + v < a + b ∧ u ≤ a ∧
    A0 < 4294967296 ∧ B0 < 4294967296 ∧ A1 < 4294967296 ∧ B1 < 4294967296 ∧ (c % 2 = 0 → u + B0 * b = A0 * a ∧ v + A1 * a = B1 * b) ∧ (c % 2 = 1 → u + A0 * a = B0 * b ∧ v + B1 * b = A1 * a) := by
  obtain ⟨t1, t2, t3, t4, t5, t6, t7, t8⟩ := h.tk (by omega)
  have t9 := t8 (by omega)
  obtain ⟨u, hu⟩ := Int.eq_ofNat_of_zero_le (Int.le_trans t1 t2)
  obtain ⟨v, hv⟩ := Int.eq_ofNat_of_zero_le t1
  have hpar := h.par
  rw [hu, hv] at t3 t9 t2
  have t3' : Nat.gcd u v = Nat.gcd a b := t3
  refine ⟨u, v, by omega, t3', by omega, by omega, by omega, by omega, by omega, by omega, fun h0 => ?_, fun h0 => ?_⟩
  · rcases hpar with ⟨_, e⟩ | ⟨rfl, _⟩
    · omega
    · rw [← Int.natCast_mul, ← Int.natCast_mul] at hu hv
      omega
  · rcases hpar with ⟨rfl, _⟩ | ⟨_, e⟩
    · rw [← Int.natCast_mul, ← Int.natCast_mul] at hu hv
      omega
    · omega
end Go.Proofs.YtkcdijhfiahibaaDoor

/- Differences of two products by a limb, limb by limb (blend), in whole numbers. -/
namespace Go.Proofs.YtkcdijhfiahibaaDoor
/-- One limb of the difference p x - m y with c carried and t borrowed: the limb, what is carried, what is borrowed. -/
def blO (c t : Nat) : Nat := if t % 4294967296 ≤ c % 4294967296 then c % 4294967296 - t % 4294967296 else c % 4294967296 + 4294967296 - t % 4294967296
def blC (c : Nat) : Nat := c / 4294967296
def blT (c t : Nat) : Nat := t / 4294967296 + if t % 4294967296 ≤ c % 4294967296 then 0 else 1
theorem bl_eq (c t : Nat) : blO c t + 4294967296 * blC c + t = c + 4294967296 * blT c t := by
  unfold blO blC blT
  split <;> omega
theorem blO_lt (c t : Nat) : blO c t < 4294967296 := by unfold blO; split <;> omega
/-- The limbs, what is carried and what is borrowed behind k limbs. -/
def blK (p m : Nat) (xs ys : List Nat) : Nat → List Nat × Nat × Nat
  | 0 => ([], 0, 0)
  | k + 1 => ((blK p m xs ys k).1 ++ [blO ((blK p m xs ys k).2.1 + p * xs[k]?.getD 0) ((blK p m xs ys k).2.2 + m * ys[k]?.getD 0)], blC ((blK p m xs ys k).2.1 + p * xs[k]?.getD 0), blT ((blK p m xs ys k).2.1 + p * xs[k]?.getD 0) ((blK p m xs ys k).2.2 + m * ys[k]?.getD 0))
theorem blK_len (p m : Nat) (xs ys : List Nat) (k : Nat) : (blK p m xs ys k).1.length = k := by
  induction k with
  | zero => rfl
  | succ k ih => simp [blK, ih]
theorem blK_good (p m : Nat) (xs ys : List Nat) (k : Nat) : Good (blK p m xs ys k).1 := by
  induction k with
  | zero => exact Good.nil
  | succ k ih => exact ih.append (Good.nil.cons (blO_lt _ _))
theorem bl_mul {p x : Nat} (hp : p < 4294967296) (hx : x < 4294967296) : p * x ≤ 18446744065119617025 := by
  have := Nat.mul_le_mul (show p ≤ 4294967295 by omega) (show x ≤ 4294967295 by omega)
  omega
theorem blK_bd {p m : Nat} {xs ys : List Nat} (hp : p < 4294967296) (hm : m < 4294967296) (hx : Good xs) (hy : Good ys) (k : Nat) : (blK p m xs ys k).2.1 < 4294967296 ∧ (blK p m xs ys k).2.2 ≤ 4294967296 := by
  induction k with
  | zero => exact ⟨by show 0 < 4294967296; omega, by show 0 ≤ 4294967296; omega⟩
  | succ k ih =>
    have h1 := bl_mul hp (hx.get k)
    have h2 := bl_mul hm (hy.get k)
    obtain ⟨i1, i2⟩ := ih
    show blC _ < _ ∧ blT _ _ ≤ _
    generalize (blK p m xs ys k).2.1 = c at *
    generalize (blK p m xs ys k).2.2 = t at *
    generalize p * xs[k]?.getD 0 = u at *
    generalize m * ys[k]?.getD 0 = v at *
    unfold blC blT
    constructor
    · omega
    · split <;> omega
theorem blK_val (p m : Nat) (xs ys : List Nat) (k : Nat) : val (blK p m xs ys k).1 + 4294967296 ^ k * (blK p m xs ys k).2.1 + m * val (ys.take k) = p * val (xs.take k) + 4294967296 ^ k * (blK p m xs ys k).2.2 := by
  induction k with
  | zero => simp [blK, val_nil]
  | succ k ih =>
    have e1 : (blK p m xs ys (k + 1)).1 = (blK p m xs ys k).1 ++ [blO ((blK p m xs ys k).2.1 + p * xs[k]?.getD 0) ((blK p m xs ys k).2.2 + m * ys[k]?.getD 0)] := rfl
    have e2 : (blK p m xs ys (k + 1)).2.1 = blC ((blK p m xs ys k).2.1 + p * xs[k]?.getD 0) := rfl
    have e3 : (blK p m xs ys (k + 1)).2.2 = blT ((blK p m xs ys k).2.1 + p * xs[k]?.getD 0) ((blK p m xs ys k).2.2 + m * ys[k]?.getD 0) := rfl
    rw [e1, e2, e3, val_snoc, blK_len, val_take_succ', val_take_succ', pow_succ_]
    generalize (blK p m xs ys k).2.1 = c at *
    generalize (blK p m xs ys k).2.2 = t at *
    generalize xs[k]?.getD 0 = x at *
    generalize ys[k]?.getD 0 = y at *
    have h := bl_eq (c + p * x) (t + m * y)
    generalize blO (c + p * x) (t + m * y) = o at *
    generalize blC (c + p * x) = c' at *
    generalize blT (c + p * x) (t + m * y) = t' at *
    generalize val (blK p m xs ys k).1 = V at *
    generalize val (xs.take k) = X at *
    generalize val (ys.take k) = Y at *
    generalize 4294967296 ^ k = E at *
    have h2 : E * (o + 4294967296 * c' + (t + m * y)) = E * (c + p * x + 4294967296 * t') := by rw [h]
    grind
/-- Behind all limbs: the difference, if it is a number of as many limbs. -/
theorem bl_all {p m n D : Nat} {xs ys : List Nat} (hx : xs.length = n) (hy : ys.length = n) (hD : D < 4294967296 ^ n) (h : D + m * val ys = p * val xs) : val (blK p m xs ys n).1 = D := by
  have h1 := blK_val p m xs ys n
  rw [List.take_of_length_le (by omega), List.take_of_length_le (by omega)] at h1
  have h2 := val_lt (blK_good p m xs ys n)
  rw [blK_len] at h2
  generalize val (blK p m xs ys n).1 = V at *
  generalize (blK p m xs ys n).2.1 = c at *
  generalize (blK p m xs ys n).2.2 = t at *
  generalize 4294967296 ^ n = E at *
  have h3 : V + E * c = D + E * t := by omega
  rcases Nat.lt_trichotomy c t with h4 | h4 | h4
  · have h5 : E * (c + 1) ≤ E * t := Nat.mul_le_mul_left _ h4
    rw [Nat.mul_add] at h5
    omega
  · subst h4; omega
  · have h5 : E * (t + 1) ≤ E * c := Nat.mul_le_mul_left _ h4
    rw [Nat.mul_add] at h5
    omega
theorem bl_at {p m : Nat} {xs ys : List Nat} {j : Nat} : ((blK p m xs ys j).1 ++ xs.drop j)[j]?.getD 0 = xs[j]?.getD 0 := by
  rw [List.getElem?_append_right (by rw [blK_len]; exact Nat.le_refl _), blK_len, Nat.sub_self, List.getElem?_drop, Nat.add_zero]
theorem bl_len {p m : Nat} {xs ys : List Nat} {j n : Nat} (hx : xs.length = n) (hj : j ≤ n) : ((blK p m xs ys j).1 ++ xs.drop j).length = n := by
  rw [List.length_append, blK_len, List.length_drop]; omega
theorem bl_set {p m : Nat} {xs ys : List Nat} {j : Nat} (hj : j < xs.length) :
    ((blK p m xs ys j).1 ++ xs.drop j).set j (blO ((blK p m xs ys j).2.1 + p * xs[j]?.getD 0) ((blK p m xs ys j).2.2 + m * ys[j]?.getD 0)) = (blK p m xs ys (j + 1)).1 ++ xs.drop (j + 1) := by
  rw [List.set_append_right _ _ (by rw [blK_len]; exact Nat.le_refl _), blK_len, Nat.sub_self, drop_cons_ _ j hj, List.set_cons_zero]
  show _ = ((blK p m xs ys j).1 ++ [_]) ++ _
  rw [List.append_assoc]
  rfl
end Go.Proofs.YtkcdijhfiahibaaDoor

/- A block of the call's own that is known whole: any values; wide.blend's next. -/
namespace Go.Proofs.YtkcdijhfiahibaaDoor
open Go.RowKit

/-- Block g is just the values vs, none frozen. -/
def Kd (w : World) (g : Nat) (t : TypeId) (vs : Array Value) : Prop := w.heap[g]? = some (.cells vs t (0, 0))
section
variable {w w' : World} {g : Nat} {t : TypeId} {vs : Array Value}
theorem Kd.lt (h : Kd w g t vs) : g < w.heap.size := (Array.getElem?_eq_some_iff.1 h).1
theorem Kd.cell (h : Kd w g t vs) (i : Nat) : w.cell? ⟨g, i, none⟩ = vs[i]? := cell_of_row w g i _ _ (0, 0) h
theorem Kd.frozen (h : Kd w g t vs) (i : Nat) : w.frozen? ⟨g, i, none⟩ = false := by
  unfold Kd at h
  simp [World.frozen?, h]
theorem Kd.set_ (h : Kd w g t vs) (i : Nat) (v : Value) : Kd (w.setCell ⟨g, i, none⟩ v) g t (vs.setIfInBounds i v) := by
  unfold Kd at h ⊢
  simp [World.setCell, Array.getElem?_modify, h]
theorem Kd.far (h : Kd w g t vs) {k i : Nat} (hk : k ≠ g) (v : Value) : Kd (w.setCell ⟨k, i, none⟩ v) g t vs := (Below.heap_setCell _ _ _ g (fun e => hk e.symm)).trans h
theorem Kd.grown (h : Kd w g t vs) {row : Option Nat} (hb : w.grownBy w' row) (hg : some g ≠ row) : Kd w' g t vs := (hb.block g h.lt hg).trans h
theorem Kd.below (h : Kd w g t vs) {B : Nat} (hb : Below B w w') (hg : g < B) : Kd w' g t vs := (hb.block g hg).trans h
theorem Kd.new (w : World) (k : Nat) (hk : w.heap.size = k) (vs : Array Value) (t : TypeId) : Kd (w.alloc (.cells vs t)) k t vs := by
  subst hk
  exact heap_alloc_new w _
theorem Kd.alloc (h : Kd w g t vs) (o : Obj) : Kd (w.alloc o) g t vs := (heap_alloc_old w o h.lt).trans h
theorem Kd.drew (h : Kd w g t vs) : Kd w.drew g t vs := h
theorem Kd.drewN (h : Kd w g t vs) (k : Nat) : Kd (w.drewN k) g t vs := h
end
theorem grown_drew {w w' : World} {r : Option Nat} (h : w.grownBy w' r) : w.grownBy w'.drew r := ⟨h.os, h.tape, h.output, h.size, h.block⟩
theorem grown_drewN {w w' : World} {r : Option Nat} (h : w.grownBy w' r) (k : Nat) : w.grownBy (w'.drewN k) r := ⟨h.os, h.tape, h.output, h.size, h.block⟩
/-- The four cells of a blend. -/
def blV (p m c s : Nat) : Array Value := #[.int .u64 (p : Int), .int .u64 (m : Int), .int .u64 (c : Int), .int .u64 (s : Int)]

set_option maxRecDepth 100000 in
set_option maxHeartbeats 4000000 in
theorem next_any (w : World) (g : Nat) (t : TypeId) (p m c s x y : Nat) (hK : Kd w g t (blV p m c s)) (hp : p < 4294967296) (hm : m < 4294967296) (hc : c < 4294967296) (hs : s ≤ 4294967296) (hx : x < 4294967296) (hy : y < 4294967296) :
    Calls Tryd.prog 90 #[.pointer (some ⟨g, 0, none⟩), .int .u64 (x : Int), .int .u64 (y : Int)] w fun e w' =>
      e = .returned (.int .u32 (blO (c + p * x) (s + m * y) : Nat)) ∧ Kd w' g t (blV p m (blC (c + p * x)) (blT (c + p * x) (s + m * y))) ∧ w.grownBy w' (some g) := by
  have h1 := bl_mul hp hx
  have h2 := bl_mul hm hy
  have hpx : (p : Int) * (x : Int) = ((p * x : Nat) : Int) := by rw [Int.natCast_mul]
  have hmy : (m : Int) * (y : Int) = ((m * y : Nat) : Int) := by rw [Int.natCast_mul]
  have c0 := hK.cell 0
  have c1 := hK.cell 1
  have c2 := hK.cell 2
  have c3 := hK.cell 3
  have f2 := hK.frozen 2
  have f3 := hK.frozen 3
  simp only [blV, List.getElem?_toArray, List.getElem?_cons_zero, List.getElem?_cons_succ] at c0 c1 c2 c3
  have HK := Lib.hid hK
  clear hK
  go_enter Tryd.func90, Tryd.ntmps90
  generalize hu : p * x = u at *
  generalize hv : m * y = v at *
  clear hu hv
  go_wp2
  go_region
  all_goals
    (try rw [show IntKind.u64.wrap ((c : Int) + IntKind.u64.wrap (u : Int)) = ((c + u : Nat) : Int) from by rw [IntKind.wrap_u64, IntKind.wrap_u64]; omega])
    (try rw [show (c : Int) + (u : Int) = ((c + u : Nat) : Int) from by omega])
    have HK2 : Hid (Kd (w.setCell ⟨g, 2, none⟩ (.int .u64 ((c + u : Nat) : Int))).drew g t (blV p m (c + u) s)) := HK.out.set_ 2 _
    have HG2 : Hid (w.grownBy (w.setCell ⟨g, 2, none⟩ (.int .u64 ((c + u : Nat) : Int))).drew (some g)) := grown_drew (grownBy_setCellAt w g 2 _)
    clear c0 c1 c2 c3 f2 f3
    generalize (w.setCell ⟨g, 2, none⟩ (.int .u64 ((c + u : Nat) : Int))).drew = W1 at *
    have c0 := HK2.out.cell 0
    have c1 := HK2.out.cell 1
    have c2 := HK2.out.cell 2
    have c3 := HK2.out.cell 3
    have f2 := HK2.out.frozen 2
    have f3 := HK2.out.frozen 3
    simp only [blV, List.getElem?_toArray, List.getElem?_cons_zero, List.getElem?_cons_succ] at c0 c1 c2 c3
    generalize hC : c + u = C at *
    go_wp2
    go_region
    all_goals
      (try rw [show IntKind.u64.wrap ((s : Int) + IntKind.u64.wrap (v : Int)) = ((s + v : Nat) : Int) from by rw [IntKind.wrap_u64, IntKind.wrap_u64]; omega])
      (try rw [show (s : Int) + (v : Int) = ((s + v : Nat) : Int) from by omega])
      have HK3 : Hid (Kd (W1.setCell ⟨g, 3, none⟩ (.int .u64 ((s + v : Nat) : Int))).drew g t (blV p m C (s + v))) := HK2.out.set_ 3 _
      have HG3 : Hid (w.grownBy (W1.setCell ⟨g, 3, none⟩ (.int .u64 ((s + v : Nat) : Int))).drew (some g)) := grown_drew (grownBy_trans HG2.out (grownBy_setCellAt W1 g 3 _))
      clear c0 c1 c2 c3 f2 f3 HK2 HG2
      generalize (W1.setCell ⟨g, 3, none⟩ (.int .u64 ((s + v : Nat) : Int))).drew = W2 at *
      have c0 := HK3.out.cell 0
      have c1 := HK3.out.cell 1
      have c2 := HK3.out.cell 2
      have c3 := HK3.out.cell 3
      have f2 := HK3.out.frozen 2
      have f3 := HK3.out.frozen 3
      simp only [blV, List.getElem?_toArray, List.getElem?_cons_zero, List.getElem?_cons_succ] at c0 c1 c2 c3
      generalize hS : s + v = S at *
      go_wp2
      go_quiet (fail)
      go_wp2
      rw [hC, hS]
      go_ret
      have eO : IntKind.u64.wrap ((C : Int) % 4294967296 - (S : Int) % 4294967296) % 4294967296 = ((blO C S : Nat) : Int) := by rw [IntKind.wrap_u64]; unfold blO; split <;> omega
      have key : ∀ z : Int, z = ((blT C S : Nat) : Int) → Kd (((W2.drewN nq).setCell ⟨g, 2, none⟩ (.int .u64 ((C : Int) / 4294967296))).setCell ⟨g, 3, none⟩ (.int .u64 z)) g t (blV p m (blC C) (blT C S)) := by
        rintro _ rfl
        exact ((show Kd (W2.drewN nq) g t (blV p m C S) from HK3.out).set_ 2 (.int .u64 ((C : Int) / 4294967296))).set_ 3 _
      refine ⟨congrArg Ending.returned (congrArg (Value.int IntKind.u32) eO), key _ (by simp only [IntKind.wrap_u64]; unfold blT; split <;> omega), grownBy_trans (grownBy_trans (grown_drewN HG3.out nq) (grownBy_setCellAt _ g 2 _)) (grownBy_setCellAt _ g 3 _)⟩
end Go.Proofs.YtkcdijhfiahibaaDoor

/- wide.foresee: the steps of Euclid's rule that the highest digits determine. -/
namespace Go.Proofs.YtkcdijhfiahibaaDoor
open Go.RowKit

/-- The five cells of steps. -/
def stV (c : Int) (A0 B0 A1 B1 : Nat) : Array Value := #[.int .i64 c, .int .u64 (A0 : Int), .int .u64 (B0 : Int), .int .u64 (A1 : Int), .int .u64 (B1 : Int)]
def fcV (A B : Nat) : Array Value := #[.int .u64 (A : Int), .int .u64 (B : Int)]
/-- What foresee returns: steps that the highest digits allow. -/
def RF (w : World) (a b : Nat) (e : Ending) (w' : World) : Prop := ∃ (c : Int) (A0 B0 A1 B1 : Nat), e = .returned (.agg #[.int .i64 c, .int .u64 (A0 : Int), .int .u64 (B0 : Int), .int .u64 (A1 : Int), .int .u64 (B1 : Int)]) ∧ c ≤ 4294967296 ∧
  (∃ (p : Nat) (s : Int) (x y A2 B2 : Nat), LehN a b p s c x y A0 B0 A1 B1 A2 B2) ∧ Below w.heap.size w w'

/-- The world behind an exchange of factors. -/
def xch (W : World) (g h : Nat) (a b d e f k : Value) : World := ((((((W.setCell ⟨g, 1, none⟩ a).setCell ⟨g, 2, none⟩ b).setCell ⟨g, 3, none⟩ d).setCell ⟨g, 4, none⟩ e).setCell ⟨h, 0, none⟩ f).setCell ⟨h, 1, none⟩ k).drew
section
variable {W : World} {g h : Nat} {t t' : TypeId} {c a b d e f k a0 b0 d0 e0 f0 k0 : Value}
theorem xch_g (H : Kd W g t #[c, a0, b0, d0, e0]) (hne : h ≠ g) : Kd (xch W g h a b d e f k) g t #[c, a, b, d, e] := by
  have h1 : Kd (W.setCell ⟨g, 1, none⟩ a) g t #[c, a, b0, d0, e0] := H.set_ 1 a
  have h2 : Kd ((W.setCell ⟨g, 1, none⟩ a).setCell ⟨g, 2, none⟩ b) g t #[c, a, b, d0, e0] := h1.set_ 2 b
  have h3 : Kd (((W.setCell ⟨g, 1, none⟩ a).setCell ⟨g, 2, none⟩ b).setCell ⟨g, 3, none⟩ d) g t #[c, a, b, d, e0] := h2.set_ 3 d
  have h4 : Kd ((((W.setCell ⟨g, 1, none⟩ a).setCell ⟨g, 2, none⟩ b).setCell ⟨g, 3, none⟩ d).setCell ⟨g, 4, none⟩ e) g t #[c, a, b, d, e] := h3.set_ 4 e
  exact ((h4.far (i := 0) hne f).far (i := 1) hne k).drew
theorem xch_h (H : Kd W h t' #[f0, k0]) (hne : h ≠ g) : Kd (xch W g h a b d e f k) h t' #[f, k] := by
  have h1 := (((H.far (i := 1) (Ne.symm hne) a).far (i := 2) (Ne.symm hne) b).far (i := 3) (Ne.symm hne) d).far (i := 4) (Ne.symm hne) e
  have h2 : Kd (((((W.setCell ⟨g, 1, none⟩ a).setCell ⟨g, 2, none⟩ b).setCell ⟨g, 3, none⟩ d).setCell ⟨g, 4, none⟩ e).setCell ⟨h, 0, none⟩ f) h t' #[f, k0] := h1.set_ 0 f
  have h3 : Kd ((((((W.setCell ⟨g, 1, none⟩ a).setCell ⟨g, 2, none⟩ b).setCell ⟨g, 3, none⟩ d).setCell ⟨g, 4, none⟩ e).setCell ⟨h, 0, none⟩ f).setCell ⟨h, 1, none⟩ k) h t' #[f, k] := h2.set_ 1 k
  exact h3.drew
theorem xch_r {r : Nat} {vs : Array Value} (H : Kd W r t vs) (h1 : g ≠ r) (h2 : h ≠ r) : Kd (xch W g h a b d e f k) r t vs :=
  ((((((H.far (i := 1) h1 a).far (i := 2) h1 b).far (i := 3) h1 d).far (i := 4) h1 e).far (i := 0) h2 f).far (i := 1) h2 k).drew
theorem xch_b {B : Nat} {w : World} (H : Below B w W) (h1 : B ≤ g) (h2 : B ≤ h) : Below B w (xch W g h a b d e f k) :=
  ((((((H.setCell (p := ⟨g, 1, none⟩) h1 a).setCell (p := ⟨g, 2, none⟩) h1 b).setCell (p := ⟨g, 3, none⟩) h1 d).setCell (p := ⟨g, 4, none⟩) h1 e).setCell (p := ⟨h, 0, none⟩) h2 f).setCell (p := ⟨h, 1, none⟩) h2 k).drew
end

theorem res_s {fn : Func} {r : Nat} (hr : fn.results = #[.cell r 92]) {tmps : Array Value} {w : World} {g : Nat} {c a b d e : Value} (ht : tmps.getD r undef = .pointer (some ⟨g, 0, none⟩))
    (h0 : w.cell? ⟨g, 0, none⟩ = some c) (h1 : w.cell? ⟨g, 1, none⟩ = some a) (h2 : w.cell? ⟨g, 2, none⟩ = some b) (h3 : w.cell? ⟨g, 3, none⟩ = some d) (h4 : w.cell? ⟨g, 4, none⟩ = some e) :
    (results fn tmps).run Tryd.prog w = .ok (.agg #[c, a, b, d, e]) w := by
  rw [Array.getD_eq_getD_getElem?] at ht
  simp [results, hr, go_sem, ht, h0, h1, h2, h3, h4]
theorem st_sets {W : World} {g : Nat} {t : TypeId} {c a b d e c0 a0 b0 d0 e0 : Value} (H : Kd W g t #[c0, a0, b0, d0, e0]) :
    Kd (((((W.setCell ⟨g, 0, none⟩ c).setCell ⟨g, 1, none⟩ a).setCell ⟨g, 2, none⟩ b).setCell ⟨g, 3, none⟩ d).setCell ⟨g, 4, none⟩ e) g t #[c, a, b, d, e] := by
  have h0 : Kd (W.setCell ⟨g, 0, none⟩ c) g t #[c, a0, b0, d0, e0] := H.set_ 0 c
  have h1 : Kd ((W.setCell ⟨g, 0, none⟩ c).setCell ⟨g, 1, none⟩ a) g t #[c, a, b0, d0, e0] := h0.set_ 1 a
  have h2 : Kd (((W.setCell ⟨g, 0, none⟩ c).setCell ⟨g, 1, none⟩ a).setCell ⟨g, 2, none⟩ b) g t #[c, a, b, d0, e0] := h1.set_ 2 b
  have h3 : Kd ((((W.setCell ⟨g, 0, none⟩ c).setCell ⟨g, 1, none⟩ a).setCell ⟨g, 2, none⟩ b).setCell ⟨g, 3, none⟩ d) g t #[c, a, b, d, e0] := h2.set_ 3 d
  exact h3.set_ 4 e
theorem st_setb {W w : World} {B g : Nat} {c a b d e : Value} (H : Below B w W) (h : B ≤ g) :
    Below B w (((((W.setCell ⟨g, 0, none⟩ c).setCell ⟨g, 1, none⟩ a).setCell ⟨g, 2, none⟩ b).setCell ⟨g, 3, none⟩ d).setCell ⟨g, 4, none⟩ e) :=
  ((((H.setCell (p := ⟨g, 0, none⟩) h c).setCell (p := ⟨g, 1, none⟩) h a).setCell (p := ⟨g, 2, none⟩) h b).setCell (p := ⟨g, 3, none⟩) h d).setCell (p := ⟨g, 4, none⟩) h e

set_option maxRecDepth 100000 in
set_option maxHeartbeats 4000000 in
theorem foresee_any (w : World) (A B : Option Addr) (n m ca cb a b : Nat) (hA : Lm w w.heap.size A n ca (digs a)) (hB : Lm w w.heap.size B m cb (digs b)) (hle : b ≤ a) (hm : 3 ≤ m) (hn : n ≤ 1000000) :
    Calls Tryd.prog 74 #[.slice A n ca, .slice B m cb] w (RF w a b) := by
  have hcA := hA.cap
  have hxA := hA.max
  have hcB := hB.cap
  have hxB := hB.max
  have hlA := hA.len
  have hb64 : 4294967296 ^ 2 ≤ b := by
    have := val_ge (digs_norm b) 2 (by rw [hB.len]; omega)
    rwa [digs_val] at this
  have ha0 : 0 < a := by
    have : (4294967296 : Nat) ^ 2 = 18446744073709551616 := by decide
    omega
  obtain ⟨hL0, hL1, hL2⟩ := lenS_pos ha0
  have hL9 : lenS (digs a) ≤ 32 * n := by
    refine lenS_le.2 ?_
    have := digs_len.1 (Nat.le_of_eq hlA)
    rwa [Nat.pow_mul]
  have hL64 : 64 < lenS (digs a) := by
    refine Nat.lt_of_not_le fun h => ?_
    have h1 := lenS_le.1 h
    have : (2 : Nat) ^ 64 = 4294967296 ^ 2 := by decide
    omega
  obtain ⟨k, hk⟩ : ∃ k, k = lenS (digs a) - 64 := ⟨_, rfl⟩
  have hkL : lenS (digs a) = k + 64 := by omega
  have hX : a / 2 ^ k < 18446744073709551616 := by
    refine Nat.div_lt_of_lt_mul ?_
    rw [show (18446744073709551616 : Nat) = 2 ^ 64 from rfl, ← Nat.pow_add, ← hkL]
    exact hL2
  have hY : b / 2 ^ k ≤ a / 2 ^ k := Nat.div_le_div_right hle
  have hk9 : k ≤ 32000000 := by omega
  have HWx : Hid (win a k = a / 2 ^ k) := Nat.mod_eq_of_lt hX
  have HWy : Hid (win b k = b / 2 ^ k) := Nat.mod_eq_of_lt (by omega)
  have HS : Hid (LehN a b (2 ^ k) 1 (-1) (a / 2 ^ k) (b / 2 ^ k) 0 0 1 0 0 1) := LehN.start hle
  have HP : Hid (0 < 2 ^ k) := Nat.pow_pos (by omega)
  have HX := Lib.hid hX
  have HA := Lib.hid hA
  have HB := Lib.hid hB
  generalize hXX : a / 2 ^ k = X at hX hY HWx HS
  generalize hYY : b / 2 ^ k = Y at hY HWy HS
  clear hA hB hL0 hL1 hL2 hb64 ha0 hlA hk hXX hYY
  go_enter Tryd.func74, Tryd.ntmps74
  go_wp2_with fail
  refine (length_any _ _ _ _ _ (HA.out.box _) (by omega)).mono ?_
  rintro e w1 ⟨rfl, rfl⟩
  rw [hkL]
  go_wp2_with fail
  refine (window_any _ A n ca (digs a) a k (HA.out.box _) (digs_val _) (by omega) (by omega)).mono ?_
  rintro e w1 ⟨rfl, d1, rfl⟩
  rw [show (Int.toNat (k : Int)) = k from rfl, HWx.out]
  go_wp2_with fail
  refine (window_any _ B m cb (digs b) b k ((HB.out.box _).drewN d1) (digs_val _) (by omega) (by omega)).mono ?_
  rintro e w1 ⟨rfl, d2, rfl⟩
  rw [show (Int.toNat (k : Int)) = k from rfl, HWy.out]
  go_wp2
  go_loopw [6, 7] (fun xv yv wr => ∃ (s c : Int) (x y A0 B0 A1 B1 A2 B2 : Nat), xv = .int .u64 (x : Int) ∧ yv = .int .u64 (y : Int) ∧ LehN a b (2 ^ k) s c x y A0 B0 A1 B1 A2 B2 ∧
      c ≤ B2 ∧ (0 ≤ c → 1 ≤ B1) ∧ c ≤ 4294967296 ∧ Kd wr w.heap.size 92 (stV 0 0 0 0 0) ∧ Kd wr (w.heap.size + 1) 92 (stV c A0 B0 A1 B1) ∧ Kd wr (w.heap.size + 1 + 1) 90 (fcV A2 B2) ∧ Below w.heap.size w wr) (fun _ y _ => (intOf y).toNat)
  case atStart =>
    refine ⟨1, -1, X, Y, 0, 0, 1, 0, 0, 1, rfl, rfl, HS.out, by omega, by omega, by omega, (((Kd.new w _ rfl _ _).drewN _).alloc _).alloc _, (Kd.new _ _ (by simp) _ _).alloc _, Kd.new _ _ (by simp) _ _, ?_⟩
    exact ((bdrewN ((Below.refl _ _).alloc (Nat.le_refl _) _) _).alloc (by simp) _).alloc (by simp; omega) _
  case round =>
    obtain ⟨s, c, x, y, A0, B0, A1, B1, A2, B2, rfl, rfl, hI, hcB, hcz, hc9, hR, hS, hN, hb⟩ := hrel
    obtain ⟨l1, l2, l3, l4, l5⟩ := hI.bd HX.out
    have s0 := hS.cell 0
    have s1 := hS.cell 1
    have s2 := hS.cell 2
    have s3 := hS.cell 3
    have s4 := hS.cell 4
    have n0 := hN.cell 0
    have n1 := hN.cell 1
    simp only [stV, fcV, List.getElem?_toArray, List.getElem?_cons_zero, List.getElem?_cons_succ] at s0 s1 s2 s3 s4 n0 n1
    have f1 := hS.frozen 1
    have f2 := hS.frozen 2
    have f3 := hS.frozen 3
    have f4 := hS.frozen 4
    have f0 := hS.frozen 0
    have fn0 := hN.frozen 0
    have fn1 := hN.frozen 1
    have ltS := hS.lt
    have ltN := hN.lt
    have HI := Lib.hid hI
    have HR := Lib.hid hR
    have HSt := Lib.hid hS
    have HN := Lib.hid hN
    have HBl := Lib.hid hb
    have HCz := Lib.hid hcz
    clear hI hR hS hN hb hcz
    by_cases h1 : B2 ≤ y
    · by_cases h2 : B1 + B2 ≤ x - y
      · obtain ⟨g0, g1, g2, g3, g4, g5, g6, g7, g8, g9⟩ := HI.out.go HP.out HX.out h1 h2
        have HI2 := Lib.hid g0
        clear g0
        have i1 : (B2 : Int) ≤ (y : Int) := by omega
        have i2 : (B1 : Int) + (B2 : Int) ≤ (x : Int) - (y : Int) := by omega
        have hs9 := l4 (by omega)
        have hyi : ¬ ((y : Int) = 0) := by omega
        have q0 : (x : Int) / (y : Int) = ((x / y : Nat) : Int) := by rw [← Int.natCast_ediv]
        have q1 : (x : Int).tdiv (y : Int) = ((x / y : Nat) : Int) := by rw [Int.tdiv_eq_ediv_of_nonneg (by omega), ← Int.natCast_ediv]
        have hrl := Nat.mod_lt x (show 0 < y by omega)
        have hq9 : x / y < 18446744073709551616 := Nat.lt_of_le_of_lt (Nat.div_le_self _ _) l1
        generalize x / y = q at *
        generalize x % y = r at *
        clear h1 h2 l4
        go_wp2
        have HN3 : Hid (Kd (wr.alloc (.cells #[.int .u64 ((A1 : Int) + (q : Int) * (A2 : Int)), .int .u64 ((B1 : Int) + (q : Int) * (B2 : Int))] 90)) wr.heap.size 90 (fcV (A1 + q * A2) (B1 + q * B2))) := by
          have e := Kd.new wr _ rfl #[.int .u64 ((A1 : Int) + (q : Int) * (A2 : Int)), .int .u64 ((B1 : Int) + (q : Int) * (B2 : Int))] 90
          have e2 : fcV (A1 + q * A2) (B1 + q * B2) = #[.int .u64 ((A1 : Int) + (q : Int) * (A2 : Int)), .int .u64 ((B1 : Int) + (q : Int) * (B2 : Int))] := by unfold fcV; rw [Int.natCast_add, Int.natCast_add, Int.natCast_mul, Int.natCast_mul]
          rw [e2]; exact e
        have HR1 := Lib.hid (HR.out.alloc (.cells #[.int .u64 ((A1 : Int) + (q : Int) * (A2 : Int)), .int .u64 ((B1 : Int) + (q : Int) * (B2 : Int))] 90))
        have HS1 := Lib.hid (HSt.out.alloc (.cells #[.int .u64 ((A1 : Int) + (q : Int) * (A2 : Int)), .int .u64 ((B1 : Int) + (q : Int) * (B2 : Int))] 90))
        have HN1 := Lib.hid (HN.out.alloc (.cells #[.int .u64 ((A1 : Int) + (q : Int) * (A2 : Int)), .int .u64 ((B1 : Int) + (q : Int) * (B2 : Int))] 90))
        have HB1 := Lib.hid (HBl.out.alloc HBl.out.size (.cells #[.int .u64 ((A1 : Int) + (q : Int) * (A2 : Int)), .int .u64 ((B1 : Int) + (q : Int) * (B2 : Int))] 90))
        clear s0 s1 s2 s3 s4 n0 n1 f0 f1 f2 f3 f4 fn0 fn1
        generalize wr.alloc (.cells #[.int .u64 ((A1 : Int) + (q : Int) * (A2 : Int)), .int .u64 ((B1 : Int) + (q : Int) * (B2 : Int))] 90) = W1 at *
        have s0 := HS1.out.cell 0
        have s1 := HS1.out.cell 1
        have s2 := HS1.out.cell 2
        have s3 := HS1.out.cell 3
        have s4 := HS1.out.cell 4
        have n0 := HN1.out.cell 0
        have n1 := HN1.out.cell 1
        have m0 := HN3.out.cell 0
        have m1 := HN3.out.cell 1
        simp only [stV, fcV, List.getElem?_toArray, List.getElem?_cons_zero, List.getElem?_cons_succ] at s0 s1 s2 s3 s4 n0 n1 m0 m1
        have f0 := HS1.out.frozen 0
        have f1 := HS1.out.frozen 1
        have f2 := HS1.out.frozen 2
        have f3 := HS1.out.frozen 3
        have f4 := HS1.out.frozen 4
        have fn0 := HN1.out.frozen 0
        have fn1 := HN1.out.frozen 1
        have HBB : Hid (B1 + B2 ≤ B1 + q * B2) := Nat.add_le_add_left g9 B1
        generalize A1 + q * A2 = A3 at *
        generalize B1 + q * B2 = B3 at *
        have ne1 : ¬ (w.heap.size + 1 = wr.heap.size) := by omega
        have ne2 : ¬ (w.heap.size + 1 + 1 = wr.heap.size) := by omega
        generalize wr.heap.size = gN at *
        clear q0 q1
        go_region
        rw [show ((((((W1.setCell ⟨w.heap.size + 1, 1, none⟩ (.int .u64 (A1 : Int))).setCell ⟨w.heap.size + 1, 2, none⟩ (.int .u64 (B1 : Int))).setCell ⟨w.heap.size + 1, 3, none⟩ (.int .u64 (A2 : Int))).setCell ⟨w.heap.size + 1, 4, none⟩ (.int .u64 (B2 : Int))).setCell ⟨w.heap.size + 1 + 1, 0, none⟩ (.int .u64 (A3 : Int))).setCell ⟨w.heap.size + 1 + 1, 1, none⟩ (.int .u64 (B3 : Int))).drew = (xch W1 (w.heap.size + 1) (w.heap.size + 1 + 1) (.int .u64 (A1 : Int)) (.int .u64 (B1 : Int)) (.int .u64 (A2 : Int)) (.int .u64 (B2 : Int)) (.int .u64 (A3 : Int)) (.int .u64 (B3 : Int))) from rfl]
        have HS2 : Hid (Kd (xch W1 (w.heap.size + 1) (w.heap.size + 1 + 1) (.int .u64 (A1 : Int)) (.int .u64 (B1 : Int)) (.int .u64 (A2 : Int)) (.int .u64 (B2 : Int)) (.int .u64 (A3 : Int)) (.int .u64 (B3 : Int))) (w.heap.size + 1) 92 (stV c A1 B1 A2 B2)) := xch_g HS1.out (by omega)
        have HN2 : Hid (Kd (xch W1 (w.heap.size + 1) (w.heap.size + 1 + 1) (.int .u64 (A1 : Int)) (.int .u64 (B1 : Int)) (.int .u64 (A2 : Int)) (.int .u64 (B2 : Int)) (.int .u64 (A3 : Int)) (.int .u64 (B3 : Int))) (w.heap.size + 1 + 1) 90 (fcV A3 B3)) := xch_h HN1.out (by omega)
        have HR2 : Hid (Kd (xch W1 (w.heap.size + 1) (w.heap.size + 1 + 1) (.int .u64 (A1 : Int)) (.int .u64 (B1 : Int)) (.int .u64 (A2 : Int)) (.int .u64 (B2 : Int)) (.int .u64 (A3 : Int)) (.int .u64 (B3 : Int))) w.heap.size 92 (stV 0 0 0 0 0)) := xch_r HR1.out (by omega) (by omega)
        have HB2 : Hid (Below w.heap.size w (xch W1 (w.heap.size + 1) (w.heap.size + 1 + 1) (.int .u64 (A1 : Int)) (.int .u64 (B1 : Int)) (.int .u64 (A2 : Int)) (.int .u64 (B2 : Int)) (.int .u64 (A3 : Int)) (.int .u64 (B3 : Int)))) := xch_b HB1.out (by omega) (by omega)
        clear s0 s1 s2 s3 s4 n0 n1 f0 f1 f2 f3 f4 fn0 fn1 m0 m1 HS1 HN1 HR1 HB1
        generalize (xch W1 (w.heap.size + 1) (w.heap.size + 1 + 1) (.int .u64 (A1 : Int)) (.int .u64 (B1 : Int)) (.int .u64 (A2 : Int)) (.int .u64 (B2 : Int)) (.int .u64 (A3 : Int)) (.int .u64 (B3 : Int))) = W2 at *
        have s0 := HS2.out.cell 0
        simp only [stV, List.getElem?_toArray, List.getElem?_cons_zero] at s0
        have f0 := HS2.out.frozen 0
        go_wp2
        go_roundw
        case rel =>
          have HCz' := HCz.out
          refine ⟨-s, c + 1, y, r, A1, B1, A2, B2, A3, B3, by go_num, by go_num, HI2.out, ?_, by omega, by omega, HR2.out.far (show w.heap.size + 1 ≠ w.heap.size by omega) _, HS2.out.set_ 0 _, HN2.out.far (show w.heap.size + 1 ≠ w.heap.size + 1 + 1 by omega) _, HB2.out.setCell (p := ⟨w.heap.size + 1, 0, none⟩) (show w.heap.size ≤ w.heap.size + 1 by omega) _⟩
          by_cases hz : 0 ≤ c
          · have := HCz' hz; have := HBB.out; omega
          · omega
        case measure => simp [intOf]; omega
      · have i1 : (B2 : Int) ≤ (y : Int) := by omega
        have hs9 := l4 (by omega)
        have i2 : decide ((B1 : Int) + (B2 : Int) ≤ (x : Int) - (y : Int)) = false := by simp; omega
        have hs9i : (B1 : Int) + (B2 : Int) < 18446744073709551616 := by omega
        have i3 : (0 : Int) ≤ (x : Int) - (y : Int) := by omega
        clear l4
        have r0 := HR.out.cell 0
        have r1 := HR.out.cell 1
        have r2 := HR.out.cell 2
        have r3 := HR.out.cell 3
        have r4 := HR.out.cell 4
        simp only [stV, List.getElem?_toArray, List.getElem?_cons_zero, List.getElem?_cons_succ] at r0 r1 r2 r3 r4
        have k0 := HR.out.frozen 0
        have k1 := HR.out.frozen 1
        have k2 := HR.out.frozen 2
        have k3 := HR.out.frozen 3
        have k4 := HR.out.frozen 4
        go_wp2
        all_goals first
          | omega
          | (have e := st_sets (c := .int .i64 c) (a := .int .u64 (A0 : Int)) (b := .int .u64 (B0 : Int)) (d := .int .u64 (A1 : Int)) (e := .int .u64 (B1 : Int)) HR.out
             exact bodyPost_ret (res_s Tryd.results74 rfl (e.cell 0) (e.cell 1) (e.cell 2) (e.cell 3) (e.cell 4)) rfl ⟨c, A0, B0, A1, B1, rfl, hc9, ⟨_, _, _, _, _, _, HI.out⟩, st_setb HBl.out (Nat.le_refl _)⟩)
    · have i1 : decide ((B2 : Int) ≤ (y : Int)) = false := by simp; omega
      clear l4
      have r0 := HR.out.cell 0
      have r1 := HR.out.cell 1
      have r2 := HR.out.cell 2
      have r3 := HR.out.cell 3
      have r4 := HR.out.cell 4
      simp only [stV, List.getElem?_toArray, List.getElem?_cons_zero, List.getElem?_cons_succ] at r0 r1 r2 r3 r4
      have k0 := HR.out.frozen 0
      have k1 := HR.out.frozen 1
      have k2 := HR.out.frozen 2
      have k3 := HR.out.frozen 3
      have k4 := HR.out.frozen 4
      go_wp2
      all_goals first
        | omega
        | (have e := st_sets (c := .int .i64 c) (a := .int .u64 (A0 : Int)) (b := .int .u64 (B0 : Int)) (d := .int .u64 (A1 : Int)) (e := .int .u64 (B1 : Int)) HR.out
           exact bodyPost_ret (res_s Tryd.results74 rfl (e.cell 0) (e.cell 1) (e.cell 2) (e.cell 3) (e.cell 4)) rfl ⟨c, A0, B0, A1, B1, rfl, hc9, ⟨_, _, _, _, _, _, HI.out⟩, st_setb HBl.out (Nat.le_refl _)⟩)
end Go.Proofs.YtkcdijhfiahibaaDoor

