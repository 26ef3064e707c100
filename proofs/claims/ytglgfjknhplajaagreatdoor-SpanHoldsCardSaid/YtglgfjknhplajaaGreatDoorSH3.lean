/- Lemmas, part 3. -/
import Derived.Laws.CopyOwn
import Derived.Deep.RegionWith
import Derived.IntWalk
import Derived.Test.YtglgfjknhplajaaGreatDoorSH2
/- wide.divideLong. -/
namespace Go.Proofs.YtglgfjknhplajaaGreatDoor
open Go.RowKit

set_option maxRecDepth 100000 in
set_option maxHeartbeats 1000000 in
theorem lz32_any (w : World) (x : Nat) (h : x < 4294967296) :
    Calls Tryz.prog 119 #[.int .u32 (x : Int)] w fun e w' => e = .returned (.int .i64 ((32 - Lib.bitLen x : Nat) : Int)) ∧ w = w' := by
  have hb := bitLen32 x h
  go_enter Tryz.func119, Tryz.ntmps119
  go_wp2_with (go_at_call 133; refine (len32_any _ _ (by omega) (by omega)).mono ?_; rintro e w' ⟨rfl, rfl⟩)
  go_ret
  exact ⟨ret_int (by omega), rfl⟩

theorem Lm.addr {w : World} {B n c : Nat} {A : Option Addr} {xs : List Nat} (h : Lm w B A n c xs) (hn : 0 < n) : ∃ ad, A = some ad := by
  obtain ⟨b, off, e, _⟩ := h.at_ hn
  exact ⟨_, e⟩
/-- With the highest binary digit in its place. -/
theorem up_facts {b m : Nat} (hl : (digs b).length = m) (hm : 0 < m) : b * 2 ^ (32 - Lib.bitLen ((digs b)[m - 1]?.getD 0)) < 4294967296 ^ m ∧ 2147483648 * 4294967296 ^ (m - 1) ≤ b * 2 ^ (32 - Lib.bitLen ((digs b)[m - 1]?.getD 0)) ∧ (digs (b * 2 ^ (32 - Lib.bitLen ((digs b)[m - 1]?.getD 0)))).length = m ∧ 1 ≤ Lib.bitLen ((digs b)[m - 1]?.getD 0) := by
  have hb : 0 < b := digs_pos.1 (by omega)
  obtain ⟨h1, h2, h3⟩ := lenS_pos hb
  have e : lenS (digs b) = 32 * (m - 1) + Lib.bitLen ((digs b)[m - 1]?.getD 0) := by unfold lenS; rw [if_neg (by omega), hl]
  have hb32 := bitLen32 _ ((digs_good b).get (m - 1))
  obtain ⟨hx, _, _⟩ := bitLen_bounds (x := (digs b)[m - 1]?.getD 0) (by have := top_pos hb; rwa [hl] at this) ((digs_good b).get (m - 1))
  have p1 : b * 2 ^ (32 - Lib.bitLen ((digs b)[m - 1]?.getD 0)) < 4294967296 ^ m := by
    have h4 := (Nat.mul_lt_mul_right (a := 2 ^ (32 - Lib.bitLen ((digs b)[m - 1]?.getD 0))) (Nat.pow_pos (by omega))).2 h3
    rw [← Nat.pow_add] at h4
    rw [show (4294967296 : Nat) = 2 ^ 32 from rfl, ← Nat.pow_mul]
    have e5 : lenS (digs b) + (32 - Lib.bitLen ((digs b)[m - 1]?.getD 0)) = 32 * m := by omega
    rwa [e5] at h4
  have p2 : 2147483648 * 4294967296 ^ (m - 1) ≤ b * 2 ^ (32 - Lib.bitLen ((digs b)[m - 1]?.getD 0)) := by
    have h4 := Nat.mul_le_mul_right (2 ^ (32 - Lib.bitLen ((digs b)[m - 1]?.getD 0))) h2
    rw [← Nat.pow_add] at h4
    rw [show (4294967296 : Nat) = 2 ^ 32 from rfl, ← Nat.pow_mul, show (2147483648 : Nat) = 2 ^ 31 from rfl, ← Nat.pow_add]
    have e5 : lenS (digs b) - 1 + (32 - Lib.bitLen ((digs b)[m - 1]?.getD 0)) = 31 + 32 * (m - 1) := by omega
    rwa [e5] at h4
  refine ⟨p1, p2, ?_, hx⟩
  generalize b * 2 ^ (32 - Lib.bitLen ((digs b)[m - 1]?.getD 0)) = v at p1 p2
  refine Nat.le_antisymm (digs_len.2 p1) ?_
  rcases Nat.lt_or_ge (digs v).length m with h | h
  · have h5 := digs_len.1 (show (digs v).length ≤ m - 1 by omega)
    have hp := pow_pos_ (m - 1)
    omega
  · exact h

/-- copy(to, from): to a block of the call's own that is known whole, and is not shorter. -/
theorem wpList_copy_u32 {w : World} {ops : Array Oper} {rest : List Oper} {o : Oper} {a : Act} {Q : Exit → Act → World → Prop} (hgd : o.guard = none) (d s : Operand)
    (ho : o.op = .call { callee := .builtin .copy, args := #[d, s], argTypes := #[27, 27] }) (g k c : Nat) (cs : List Nat) (hL : Ld w g cs) (hk : cs.length = k) (hd : a.eval d = .slice (some ⟨g, 0, none⟩) k c)
    (B : Nat) (ad : Addr) (m c' : Nat) (xs : List Nat) (hs : a.eval s = .slice (some ad) m c') (hX : Lm w B (some ad) m c' xs) (hm : m ≤ k)
    (h : ∀ w', Ld w' g (xs ++ cs.drop m) → Below g w w' → wpList Tryz.prog ops Q rest (a.put o.dst (goInt m)) w') : wpList Tryz.prog ops Q (o :: rest) a w := by
  obtain ⟨i0, hi0, hz0, hz1, hz2⟩ := info_parts u32_info
  have hl := hX.len
  have e : (xs.map u32c).length = m := by rw [List.length_map, hl]
  refine wpList_copy_own hgd d s 27 27 ho 76 slice_u32 (by rw [hi0]; show some i0.size = some 1; rw [hz1]) g 0 k c ad m c' hd hs _ 76 hL (xs.map u32c) (by rw [e]; exact (Nat.min_eq_left hm).symm) hX.cells (by simp; omega) (u32c_one xs) ?_
  rw [e]
  refine h _ ?_ (below_setRow (Below.refl _ _) (Nat.le_refl _) _)
  have hr := setRow_heap w g _ ((cs.map u32c).toArray.toList.take 0 ++ (xs.map u32c ++ (cs.map u32c).toArray.toList.drop (0 + m))).toArray 76 _ hL
  unfold Ld
  rw [hr]
  simp [List.map_drop]

theorem Good.set {qs : List Nat} (g : Good qs) {q : Nat} (hq : q < 4294967296) (k : Nat) : Good (qs.set k q) := fun x hx => by
  rcases List.mem_or_eq_of_mem_set hx with h | h
  · exact g x h
  · rw [h]; exact hq
theorem val_set_drop {qs : List Nat} {k : Nat} (q : Nat) (hk : k < qs.length) : val ((qs.set k q).drop k) = q + 4294967296 * val (qs.drop (k + 1)) := by
  rw [val_step, List.drop_set_of_lt (Nat.lt_succ_self k), List.getElem?_set_self hk]
  rfl
theorem spl_drop_take {rs S : List Nat} {k : Nat} (t : Nat) (h : k + S.length < rs.length) : ((spl rs k (S ++ [t])).drop k).take S.length = S := by
  have hl : (rs.take k).length = k := by rw [List.length_take]; omega
  unfold spl
  rw [List.drop_append_of_le_length (by omega), List.drop_of_length_le (by omega), List.nil_append, List.append_assoc, List.take_left]
theorem spl_at_last {rs S : List Nat} {k : Nat} (t : Nat) (h : k + S.length < rs.length) : (spl rs k (S ++ [t]))[k + S.length]?.getD 0 = t := by
  have hl : (rs.take k).length = k := by rw [List.length_take]; omega
  unfold spl
  rw [List.getElem?_append_right (by omega), hl, Nat.add_sub_cancel_left, List.append_assoc, List.getElem?_append_right (Nat.le_refl _), Nat.sub_self]
  rfl
theorem spl_set_last {rs S : List Nat} {k : Nat} (t u : Nat) (h : k + S.length < rs.length) : (spl rs k (S ++ [t])).set (k + S.length) u = spl rs k (S ++ [u]) := by
  have hl : (rs.take k).length = k := by rw [List.length_take]; omega
  have e := set_mid (rs.take k) S ([t] ++ rs.drop (k + (S ++ [t]).length)) u (by simp)
  unfold spl
  rw [hl] at e
  rw [List.append_assoc, e]
  simp
theorem spl_spl {rs S M : List Nat} {k : Nat} (t : Nat) (h : k + S.length < rs.length) (hM : M.length = S.length) : spl (spl rs k (S ++ [t])) k M = spl rs k (M ++ [t]) := by
  have hl : (rs.take k).length = k := by rw [List.length_take]; omega
  have e1 : (spl rs k (S ++ [t])).take k = rs.take k := by
    unfold spl
    rw [List.take_append_of_le_length (by omega), List.take_of_length_le (by omega)]
  have e2 : (spl rs k (S ++ [t])).drop (k + M.length) = [t] ++ rs.drop (k + (S ++ [t]).length) := by
    unfold spl
    rw [hM, List.append_assoc, ← List.append_assoc, List.drop_append, List.drop_of_length_le (by rw [List.length_append, hl]; exact Nat.le_refl _), List.nil_append, List.length_append, hl, Nat.sub_self, List.drop_zero]
  show (spl rs k (S ++ [t])).take k ++ (M ++ (spl rs k (S ++ [t])).drop (k + M.length)) = rs.take k ++ ((M ++ [t]) ++ rs.drop (k + (M ++ [t]).length))
  rw [e1, e2, List.append_assoc M, List.length_append, List.length_append, hM]

set_option maxRecDepth 100000 in
set_option maxHeartbeats 1000000 in
theorem divideLong_ow (w : World) (A B : Option Addr) (n m ca cb a b : Nat) (hA : Lm w w.heap.size A n ca (digs a)) (hB : Lm w w.heap.size B m cb (digs b)) (hm2 : 2 ≤ m) (hle : b ≤ a) (hn9 : n ≤ 1000000) :
    Calls Tryz.prog 98 #[.slice A n ca, .slice B m cb] w fun e w' => ∃ Q cq R cr, e = .returned (.tuple #[.slice Q (digs (a / b)).length cq, .slice R (digs (a % b)).length cr]) ∧
      Lm w' w'.heap.size Q (digs (a / b)).length cq (digs (a / b)) ∧ Ow w' w.heap.size (.slice R (digs (a % b)).length cr) (digs (a % b)) ∧ Below w.heap.size w w' := by
  have hcA := hA.cap
  have hxA := hA.max
  have hcB := hB.cap
  have hxB := hB.max
  have hlA := hA.len
  have hlB := hB.len
  have hmn : m ≤ n := by rw [← hlA, ← hlB]; exact digs_mono hle
  have gt := hB.good.get (m - 1)
  obtain ⟨bb, bo, e, hbb, cb1⟩ := hB.cell (k := m - 1) (by omega)
  have hf := up_facts hlB (by omega)
  obtain ⟨up, hup⟩ : ∃ up, up = 32 - Lib.bitLen ((digs b)[m - 1]?.getD 0) := ⟨_, rfl⟩
  have hup9 : up ≤ 31 := by omega
  rw [← hup] at hf
  obtain ⟨V, hV⟩ : ∃ V, V = b * 2 ^ up := ⟨_, rfl⟩
  obtain ⟨U, hU⟩ : ∃ U, U = a * 2 ^ up := ⟨_, rfl⟩
  rw [← hV] at hf
  have HUP := Lib.hid hup
  have HUB : Hid (U < 2147483648 * 4294967296 ^ n) := by
    show _ < _
    have h1 := digs_len.1 (Nat.le_of_eq hlA)
    rw [hU, Nat.mul_comm]
    exact Nat.mul_lt_mul_of_le_of_lt (Nat.pow_le_pow_right (by omega) hup9) h1 (by decide)
  have HDiv : Hid (U / V = a / b ∧ U % V = a % b * 2 ^ up) := by
    show _ ∧ _
    rw [hU, hV]
    exact ⟨Nat.mul_div_mul_right _ _ (Nat.pow_pos (by omega)), Nat.mul_mod_mul_right _ _ _⟩
  have HV : Hid (val (digs b) * 2 ^ up = V) := by show _ = _; rw [digs_val, hV]
  have HU : Hid (val (digs a) * 2 ^ up = U) := by show _ = _; rw [digs_val, hU]
  have HF := Lib.hid hf
  have HLA := Lib.hid hlA
  have HUl : Hid ((digs U).length ≤ n + 1) := by
    show _ ≤ _
    have h1 := digs_len.1 (Nat.le_of_eq hlA)
    refine digs_len.2 ?_
    rw [hU, Nat.pow_succ]
    exact Nat.mul_lt_mul_of_lt_of_le h1 (Nat.pow_le_pow_right (by omega) (show up ≤ 32 by omega)) (by decide)
  have hap : 0 < a := by
    have := digs_pos (n := b)
    omega
  have HUp : Hid (0 < (digs U).length) := by
    show 0 < _
    rw [digs_pos, hU]
    exact Nat.mul_pos hap (Nat.pow_pos (by omega))
  clear hup hV hU hf
  have hmk := fun w => run_make_u32 ((n : Int) + 1) ((n : Int) + 1) (n + 1) (by omega) (by omega) (by omega) w
  have hmk2 := fun w => run_make_u32 ((n : Int) + 1 - (m : Int)) ((n : Int) + 1 - (m : Int)) (n + 1 - m) (by omega) (by omega) (by omega) w
  have i1 : ((m : Int) - 1).toNat = m - 1 := by omega
  have HA := Lib.hid hA
  have HB := Lib.hid hB
  clear hA hB hlA hlB
  subst e
  go_enter Tryz.func98, Tryz.ntmps98
  go_wp2_with (first
    | (go_at_call 119; refine (lz32_any _ _ gt).mono ?_; rintro e w1 ⟨rfl, rfl⟩; rw [← HUP.out])
    | (go_at_call 101; refine (left_any _ A _ _ _ _ U ((HA.out.via hb1).box _) (by omega) (by omega) HU.out).mono ?_; rintro e w2 ⟨B2, c2, rfl, hL2, hb2⟩; obtain ⟨a2, rfl⟩ := hL2.addr HUp.out; have hD2 := (Ld.new w1 (n + 1)).below hb2 (by simp))
    | (with_reducible refine wpList_copy_u32 rfl _ _ rfl w1.heap.size (n + 1) (n + 1) (zer (n + 1)) hD2 (zer_len _) rfl _ _ _ _ (digs U) rfl hL2 HUl.out ?_; intro w3 hD3 hb3)
    | (go_at_call 101; refine (left_any _ _ _ _ _ _ V HB.out (by omega) (by omega) HV.out).mono ?_; rintro e w1 ⟨B1, c1, rfl, hL1, hb1⟩; rw [HF.out.2.2.1] at hL1 ⊢))
  have hg1 : w1.heap.size < w3.heap.size := hD3.lt
  have hB1 : Below w1.heap.size w1 w3 := (((Below.refl _ _).alloc (Nat.le_refl _) _).trans (hb2.mono (by simp))).trans hb3
  have HB0 := Lib.hid hb1
  have HL1 := Lib.hid hL1
  have HB1 := Lib.hid hB1
  have HD3 := Lib.hid hD3
  clear hD2 hL2 hb2 hb3 hL1 hb1 hB1 hD3 hmk hmk2
  go_loopw [9] (fun i wr => ∃ (k : Nat) (rs qs : List Nat), k ≤ n + 1 - m ∧ i = .int .i64 ((k : Int) - 1) ∧ Ld wr w1.heap.size rs ∧ Good rs ∧ rs.length = n + 1 ∧ Ld wr w3.heap.size qs ∧ Good qs ∧ qs.length = n + 1 - m ∧
      val (rs.drop k) < V ∧ val rs + 4294967296 ^ k * (V * val (qs.drop k)) = U ∧ Below w1.heap.size w1 wr) (fun i _ => (intOf i + 1).toNat)
  case atStart =>
    have hrl : (digs U ++ (zer (n + 1)).drop (digs U).length).length = n + 1 := by have := HUl.out; simp [zer]; omega
    have hrv : val (digs U ++ (zer (n + 1)).drop (digs U).length) = U := by
      rw [val_append, digs_val, val_zero (xs := (zer (n + 1)).drop (digs U).length) (fun x hx => (List.mem_replicate.1 (List.mem_of_mem_drop hx)).2)]
      rfl
    have hgr : Good (digs U ++ (zer (n + 1)).drop (digs U).length) := (digs_good U).append ((zer_good _).drop _)
    refine ⟨n + 1 - m, _, zer (n + 1 - m), Nat.le_refl _, rfl, HD3.out.below ((Below.refl _ _).alloc (Nat.le_refl _) _) hg1, hgr, hrl, Ld.new _ _, zer_good _, zer_len _, ?_, ?_, HB1.out.alloc (Nat.le_of_lt hg1) _⟩
    · rw [val_drop _ hgr, hrv]
      refine Nat.div_lt_of_lt_mul (Nat.lt_of_lt_of_le HUB.out ?_)
      have h5 := Nat.mul_le_mul_left (4294967296 ^ (n + 1 - m)) HF.out.2.1
      rw [Nat.mul_left_comm, ← Nat.pow_add, show n + 1 - m + (m - 1) = n by omega] at h5
      exact h5
    · rw [hrv, List.drop_of_length_le (by rw [zer_len]; exact Nat.le_refl _)]
      simp [val_nil]
  case round =>
    obtain ⟨k, rs, qs, hk, rfl, hR, hGR, hlR, hQ, hGQ, hlQ, hI1, hI2, hb⟩ := hrel
    have HR := Lib.hid hR
    have HQ := Lib.hid hQ
    have HI1 := Lib.hid hI1
    have HI2 := Lib.hid hI2
    have HBl := Lib.hid hb
    have HGR := Lib.hid hGR
    have HGQ := Lib.hid hGQ
    clear hR hQ hI1 hI2 hb hGR hGQ
    rcases k with _ | k
    · have hQe : Hid (val qs = a / b) := by
        show _ = _
        have h1 := HI1.out
        have h2 := HI2.out
        simp only [List.drop_zero, Nat.pow_zero, Nat.one_mul] at h1 h2
        rw [← HDiv.out.1, ← h2, Nat.add_mul_div_left _ _ (by omega), Nat.div_eq_of_lt h1, Nat.zero_add]
      have hRe : Hid (val rs = a % b * 2 ^ up) := by
        show _ = _
        have h1 := HI1.out
        have h2 := HI2.out
        simp only [List.drop_zero, Nat.pow_zero, Nat.one_mul] at h1 h2
        rw [← HDiv.out.2, ← h2, Nat.add_mul_mod_self_left, Nat.mod_eq_of_lt h1]
      have HLq : Hid (Lm wr wr.heap.size (some ⟨w3.heap.size, 0, none⟩) (n + 1 - m) (n + 1 - m) qs) := by
        have e := HQ.out.lm HGQ.out (off := 0) (n := n + 1 - m) (c := n + 1 - m) (by omega) (Nat.le_refl _) (by omega)
        rwa [List.drop_zero, List.take_of_length_le (by omega)] at e
      have HLr : Hid (Lm wr wr.heap.size (some ⟨w1.heap.size, 0, none⟩) (n + 1) (n + 1) rs) := by
        have e := HR.out.lm HGR.out (off := 0) (n := n + 1) (c := n + 1) (by omega) (Nat.le_refl _) (by omega)
        rwa [List.drop_zero, List.take_of_length_le (by omega)] at e
      have hll : (digs (a % b * 2 ^ up)).length ≤ n + 1 := by
        have e := HLr.out.trim' hRe.out
        have e2 := val_lt HLr.out.good
        rw [hRe.out, HLr.out.len] at e2
        exact digs_len.2 e2
      go_wp2_with fail
      refine (trim_any _ _ _ _ _ _ (a / b) HLq.out hQe.out).mono ?_
      rintro e w8 ⟨rfl, rfl⟩
      go_wp2_with fail
      refine (trim_any _ _ _ _ _ _ (a % b * 2 ^ up) HLr.out hRe.out).mono ?_
      rintro e w8 ⟨rfl, rfl⟩
      go_wp2_with fail
      refine (right_ow wr _ _ _ up (a % b * 2 ^ up) (a % b) (HLr.out.trim' hRe.out) (by omega) (by omega) (Nat.mul_div_cancel _ (Nat.pow_pos (by omega)))).mono ?_
      rintro e w9 ⟨A9, c9, rfl, hL9, hb9⟩
      go_wp2
      go_ret2
      exact ⟨_, _, _, _, rfl, (HLq.out.trim' hQe.out).via hb9, hL9.mono (Nat.le_trans HB0.out.size HBl.out.size), HB0.out.trans ((HBl.out.trans (hb9.mono HBl.out.size)).mono HB0.out.size)⟩
    · have hkm : k + m < rs.length := by omega
      have HP := Lib.hid (part_facts HGR.out HF.out.2.2.1 hm2 hkm HI1.out)
      have hne : ¬ (n + 1 = k) := by omega
      have HLb := Lib.hid ((HL1.out.below HBl.out))
      go_wp2_with fail
      rw [show k + m + 1 - k = m + 1 by omega]
      refine (guess_any wr w1.heap.size k (m + 1) (n + 1 - k) m c1 B1 rs (digs V) HR.out HGR.out (HLb.out.mono HBl.out.size) hm2 (by omega) (by omega) hkm HP.out.2.2.2.2.1 HP.out.2.1).mono ?_
      rintro e w4 ⟨rfl, d4, rfl⟩
      obtain ⟨D, hD⟩ : ∃ D, D = gs ((digs V)[m - 1]?.getD 0) ((digs V)[m - 2]?.getD 0) (rs[k + m]?.getD 0) (rs[k + (m - 1)]?.getD 0) (rs[k + (m - 2)]?.getD 0) := ⟨_, rfl⟩
      have hD9 : D ≤ 4294967295 := by rw [hD]; exact gs_le _ _ _ _ _
      have HP2 := HP.out.2.2.2.2.2
      rw [← hD] at HP2 ⊢
      have HPq := Lib.hid HP2
      clear hD HP2
      go_wp2_with fail
      refine (subProduct_any (wr.drewN d4) w1.heap.size k (m + 1) (n + 1 - k) m c1 B1 rs (digs V) D HR.out HGR.out (HLb.out.keep (fun _ _ _ => rfl)) (by omega) (by omega) (by omega) (by omega) (by omega) (by omega)).mono ?_
      rintro e w5 ⟨rfl, hL5, hg5⟩
      have hSl := sbK_len (rs.drop k) (digs V) D m
      have hSg := sbK_good (rs.drop k) (digs V) D m
      have hbr := sbK_carry (HGR.out.drop k) (digs_good V) (show D < 4294967296 by omega) m
      have hSv := sbK_val (xs := digs V) (HGR.out.drop k) D m
      obtain ⟨S, hS⟩ : ∃ S, S = (sbK (rs.drop k) (digs V) D m).1 := ⟨_, rfl⟩
      obtain ⟨br, hbe⟩ : ∃ br, br = (sbK (rs.drop k) (digs V) D m).2 := ⟨_, rfl⟩
      rw [← hS] at hSl hSg hSv hL5
      rw [← hbe] at hbr hSv ⊢
      rw [List.take_of_length_le (Nat.le_of_eq HF.out.2.2.1), digs_val] at hSv
      have HSv := Lib.hid hSv
      have HSg := Lib.hid hSg
      have HSl := Lib.hid hSl
      clear hS hbe hSv hSg
      have hsl : (spl rs k S).length = n + 1 := by rw [spl_len (by omega), hlR]
      have hct := hL5.cell (i := k + m) (by omega)
      rw [spl_after (by omega) (by omega)] at hct
      have hfr := hL5.frozen (k + m)
      have hgt := HGR.out.get (k + m)
      have hQ5 : Ld w5 w3.heap.size qs := (show Ld (wr.drewN d4) w3.heap.size qs from HQ.out).grown hg5 (fun e => by injection e with e; omega)
      have hcq := hQ5.cell (i := k) (by omega)
      have hfq := hQ5.frozen k
      have hgh : ¬ (w1.heap.size = w3.heap.size) := by omega
      have hhg : ¬ (w3.heap.size = w1.heap.size) := by omega
      have HL5 := Lib.hid hL5
      have HG5 := Lib.hid hg5
      have HQ5 := Lib.hid hQ5
      clear hL5 hg5 hQ5
      have hV0 : 0 < V := by have := digs_pos (n := V); rw [HF.out.2.2.1] at this; omega
      have HSP : Hid (val S < 4294967296 ^ m) := by have e := val_lt HSg.out; rwa [HSl.out] at e
      have HFin : Hid (∀ (wz : World) (P : List Nat) (q : Nat), P.length = m → Good P → val P = val (rs.drop k) % V → val (rs.drop k) / V = q → q < 4294967296 → Ld wz w1.heap.size (spl rs k (P ++ [0])) → Ld wz w3.heap.size (qs.set k q) → Below w1.heap.size w1 wz →
          ∃ (k' : Nat) (rs' qs' : List Nat), k' ≤ n + 1 - m ∧ Value.int .i64 ((k : Int) - 1) = .int .i64 ((k' : Int) - 1) ∧ Ld wz w1.heap.size rs' ∧ Good rs' ∧ rs'.length = n + 1 ∧ Ld wz w3.heap.size qs' ∧ Good qs' ∧ qs'.length = n + 1 - m ∧
            val (rs'.drop k') < V ∧ val rs' + 4294967296 ^ k' * (V * val (qs'.drop k')) = U ∧ Below w1.heap.size w1 wz) := by
        intro wz P q hPl hPg hPv hq hq9 hLz hQz hBz
        obtain ⟨p1, p2⟩ := part_done hPl hkm HP.out.2.2.2.1 hPv
        refine ⟨k, _, _, by omega, rfl, hLz, spl_good HGR.out (hPg.append (Good.nil.cons (by omega))), by rw [spl_len (by rw [List.length_append, hPl]; show k + (m + 1) ≤ _; omega), hlR], hQz, HGQ.out.set hq9 k, by rw [List.length_set]; exact hlQ, ?_, ?_, hBz⟩
        · rw [p1]; exact Nat.mod_lt _ hV0
        · exact inv_step (by omega) rfl HI2.out p2 (by rw [hq]; exact val_set_drop q (by omega))
      by_cases hov : rs[k + m]?.getD 0 < br
      · have hovi : ((rs[k + m]?.getD 0 : Nat) : Int) < (br : Int) := by omega
        go_wp2_with fail
        obtain ⟨t, ht⟩ : ∃ t : Nat, (((rs[k + m]?.getD 0 : Nat) : Int) - (br : Int)) % 4294967296 = (t : Int) := ⟨((((rs[k + m]?.getD 0 : Nat) : Int) - (br : Int)) % 4294967296).toNat, by omega⟩
        have htl : t < 4294967296 := by omega
        have HT := Lib.hid ht
        rw [ht]
        clear ht
        have hL6 := HL5.out.set_ (k + m) t
        have hset := spl_set (cs := rs) (off := k) (ts := S) t (by omega)
        rw [HSl.out] at hset
        rw [hset] at hL6
        have hQ6 := HQ5.out.grown (grownBy_setCellAt w5 w1.heap.size (k + m) (.int .u32 (t : Int))) (fun e => by injection e with e; omega)
        have hg6 := grownBy_trans HG5.out (grownBy_setCellAt w5 w1.heap.size (k + m) (.int .u32 (t : Int)))
        generalize w5.setCell ⟨w1.heap.size, k + m, none⟩ (.int .u32 (t : Int)) = w6 at hL6 hQ6 hg6 ⊢
        have hl6 : (spl rs k (S ++ [t])).length = n + 1 := by rw [spl_len (by rw [List.length_append, HSl.out]; show k + (m + 1) ≤ _; omega), hlR]
        have hg6' : Good (spl rs k (S ++ [t])) := spl_good HGR.out (HSg.out.append (Good.nil.cons htl))
        have hc6 := hL6.cell (i := k + m) (by omega)
        have hat := spl_at_last (rs := rs) (k := k) (S := S) t (by omega)
        rw [HSl.out] at hat
        rw [hat] at hc6
        have hf6 := hL6.frozen (k + m)
        have hcq6 := hQ6.cell (i := k) (by omega)
        have hfq6 := hQ6.frozen k
        have HL6 := Lib.hid hL6
        have HQ6 := Lib.hid hQ6
        have HG6 := Lib.hid hg6
        have HGd6 := Lib.hid hg6'
        have HX6 : Hid (Lm w6 w1.heap.size B1 m c1 (digs V)) := (HLb.out.keep (w' := wr.drewN d4) (fun _ _ _ => rfl)).grownLt hg6 HBl.out.size
        have hml := mulK_len ((spl rs k (S ++ [t])).drop k) (digs V) 1 m
        have hcy := mulK_carry (HGd6.out.drop k) (digs_good V) (show 1 < 4294967296 by omega) m
        have HMv := Lib.hid (mulK_val ((spl rs k (S ++ [t])).drop k) (digs V) 1 m)
        have HMg := Lib.hid (mulK_good ((spl rs k (S ++ [t])).drop k) (digs V) 1 m)
        have hMv2 : val (mulK ((spl rs k (S ++ [t])).drop k) (digs V) 1 m).1 + 4294967296 ^ m * (mulK ((spl rs k (S ++ [t])).drop k) (digs V) 1 m).2 = V + val S := by
          have e := HMv.out
          have e2 := spl_drop_take (rs := rs) (k := k) (S := S) t (by omega)
          rw [HSl.out] at e2
          rw [e2, List.take_of_length_le (Nat.le_of_eq HF.out.2.2.1), digs_val, Nat.mul_one] at e
          exact e
        have hMP : val (mulK ((spl rs k (S ++ [t])).drop k) (digs V) 1 m).1 < 4294967296 ^ m := by have e := val_lt HMg.out; rwa [hml] at e
        have HOv := Lib.hid (step_over HP.out.2.2.1 HP.out.1 HSv.out HSP.out hMv2 hMP HPq.out.2 hV0 hov)
        have hD1 : 1 ≤ D := HOv.out.2.1
        have HB6 : Hid (Below w1.heap.size w1 w6) := (bdrewN HBl.out d4).grown HG6.out HBl.out.size (fun b e => by injection e with e; omega)
        clear hMv2 hMP
        have HSS := Lib.hid (spl_spl (rs := rs) (S := S) (M := (mulK ((spl rs k (S ++ [t])).drop k) (digs V) 1 m).1) (k := k) t (by omega) (by omega))
        have HAt7 := Lib.hid (spl_at_last (rs := rs) (k := k) (S := (mulK ((spl rs k (S ++ [t])).drop k) (digs V) 1 m).1) t (by omega))
        have hl7 : (spl rs k ((mulK ((spl rs k (S ++ [t])).drop k) (digs V) 1 m).1 ++ [t])).length = n + 1 := by rw [spl_len (by rw [List.length_append, hml]; show k + (m + 1) ≤ _; omega), hlR]
        clear hct hfr hcq hfq hL6 hQ6 hg6 hg6' hset hat
        go_region_with (go_at_call 122; refine (addProduct_any w6.drew w1.heap.size k (m + 1) (n + 1 - k) m c1 B1 (spl rs k (S ++ [t])) (digs V) 1 HL6.out HGd6.out (HX6.out.keep (fun _ _ _ => rfl)) (by omega) (by omega) (by omega) (by omega) (by omega) (by omega)).mono ?_; rintro e w7 ⟨rfl, hL7, hg7⟩; rw [HSS.out] at hL7; have hc7 := hL7.cell (i := k + m) (by omega); have hat7 := HAt7.out; rw [hml] at hat7; rw [hat7] at hc7; have hf7 := hL7.frozen (k + m))
        all_goals
          have hQ7 := (show Ld w6.drew w3.heap.size qs from HQ6.out).grown hg7 (fun e => by injection e with e; omega)
          have hcq7 := hQ7.cell (i := k) (by omega)
          have hfq7 := hQ7.frozen k
          have HL7 := Lib.hid hL7
          have HQ7 := Lib.hid hQ7
          have HG7 := Lib.hid hg7
          clear hL7 hQ7 hg7
          go_wp2
          go_roundw
          case rel =>
            have h0 := HOv.out.2.2.2
            have hT := HT.out
            have e1 : (((t : Nat) : Int) + (((mulK ((spl rs k (S ++ [t])).drop k) (digs V) 1 m).2 : Nat) : Int)) % 4294967296 = ((0 : Nat) : Int) := by omega
            have e2 : ((D : Int) - 1) % 4294967296 = ((D - 1 : Nat) : Int) := by omega
            rw [e1, e2]
            refine HFin.out _ _ (D - 1) hml HMg.out HOv.out.2.2.1 HOv.out.1 (by omega) ?_ ?_ ?_
            · have e3 := HL7.out.set_ (k + m) 0
              have e4 := spl_set_last (rs := rs) (S := (mulK ((spl rs k (S ++ [t])).drop k) (digs V) 1 m).1) (k := k) t 0 (by omega)
              rw [hml] at e4
              rw [e4] at e3
              exact e3.grown (grownBy_setCellAt _ _ _ _) (fun e => by injection e with e; omega)
            · exact (HQ7.out.grown (grownBy_setCellAt _ w1.heap.size (k + m) (.int .u32 ((0 : Nat) : Int))) (fun e => by injection e with e; omega)).set_ k (D - 1)
            · have hs6 := HB6.out.size
              exact ((HB6.out.drew.grown HG7.out hs6 (fun b e => by injection e with e; omega)).setCell (p := ⟨w1.heap.size, k + m, none⟩) (Nat.le_refl _) _).setCell (p := ⟨w3.heap.size, k, none⟩) (by show w1.heap.size ≤ w3.heap.size; omega) _
          case measure => simp [intOf]
      · have hovd : decide (((rs[k + m]?.getD 0 : Nat) : Int) < (br : Int)) = false := by simp; omega
        have HRt := Lib.hid (step_right HP.out.2.2.1 HP.out.1 HSv.out HPq.out.1 hV0 (by omega))
        have hheq : rs[k + m]?.getD 0 = br := HRt.out.2.2
        have HB5 : Hid (Below w1.heap.size w1 w5) := (bdrewN HBl.out d4).grown HG5.out HBl.out.size (fun b e => by injection e with e; omega)
        go_wp2
        go_roundw
        case rel =>
          refine HFin.out _ _ D HSl.out HSg.out HRt.out.2.1 HRt.out.1 (by omega) ?_ ?_ ?_
          · have e3 := HL5.out.set_ (k + m) 0
            have e4 := spl_set (cs := rs) (off := k) (ts := S) 0 (by omega)
            rw [HSl.out] at e4
            rw [e4] at e3
            exact e3.grown (grownBy_setCellAt _ _ _ _) (fun e => by injection e with e; omega)
          · exact (HQ5.out.grown (grownBy_setCellAt _ w1.heap.size (k + m) (.int .u32 ((0 : Nat) : Int))) (fun e => by injection e with e; omega)).set_ k D
          · exact (HB5.out.setCell (p := ⟨w1.heap.size, k + m, none⟩) (Nat.le_refl _) _).setCell (p := ⟨w3.heap.size, k, none⟩) (by show w1.heap.size ≤ w3.heap.size; omega) _
        case measure => simp [intOf]
end Go.Proofs.YtglgfjknhplajaaGreatDoor

/- wide.divide. -/
namespace Go.Proofs.YtglgfjknhplajaaGreatDoor
open Go.RowKit

set_option maxRecDepth 100000 in
set_option maxHeartbeats 1000000 in
theorem clone_own (w : World) (A : Option Addr) (n c : Nat) (xs : List Nat) (h : Lm w w.heap.size A n c xs) (hn0 : 0 < n) (hn : n ≤ 1000000000) :
    Calls Tryz.prog 95 #[.slice A n c] w fun e w' => ∃ g c', e = .returned (.slice (some ⟨g, 0, none⟩) n c') ∧ n ≤ c' ∧ c' ≤ 9223372036854775807 ∧ w.heap.size ≤ g ∧ Ob w' g xs ∧ Below w.heap.size w w' := by
  obtain ⟨i0, hi0, hz0, hz1, hz2⟩ := info_parts u32_info
  have hr := h.max
  have hl := h.len
  have HH := Lib.hid h
  have hnil := fun (w : World) (a : Option Addr) (n c n' c' : Nat) => Lib.run_eql_slice_nil (P := Tryz.prog) w 27 76 a n c n' c' slice_u32
  obtain ⟨ad, rfl⟩ := h.addr hn0
  go_enter Tryz.func95, Tryz.ntmps95
  go_wp2_with (at_builtin; refine wpList_append_lm _ rfl _ _ _ rfl w.heap.size _ i0 slice_u32 hi0 hz0 hz1 hz2 _ 0 [] rfl (World.ownsRow_made _ _ _ (Nat.le_refl _) (by simp [maxLen]) rfl) _ _ _ _ xs rfl (HH.out.box _) (by simp only [maxLen]; omega) (by omega) (by simp) ?_; intro v1 w1 hown1 hg1)
  go_ret
  rw [Nat.zero_add, List.nil_append] at hown1
  have hO : Ow w1 w.heap.size v1 xs := by unfold Ow; rw [hl]; exact hown1
  obtain ⟨A', c', rfl, hL⟩ := hO.lm HH.out.good
  obtain ⟨g, rfl, _, hgB, hOb⟩ := hO.ob (by omega)
  have hcp := hL.cap
  have hmx := hL.max
  rw [hl] at hcp hL ⊢
  refine ⟨g, c', rfl, hcp, hmx, hgB, hOb, ((Below.refl _ _).alloc (Nat.le_refl _) _).grown hg1 (by simp) (fun k hk => ?_)⟩
  have e : w.heap.size = k := Option.some.inj hk
  omega

set_option maxRecDepth 100000 in
set_option maxHeartbeats 1000000 in
theorem clone_ow (w : World) (A : Option Addr) (n c : Nat) (xs : List Nat) (h : Lm w w.heap.size A n c xs) (hn0 : 0 < n) (hn : n ≤ 1000000000) :
    Calls Tryz.prog 95 #[.slice A n c] w fun e w' => ∃ A' c', e = .returned (.slice A' n c') ∧ Ow w' w.heap.size (.slice A' n c') xs ∧ Below w.heap.size w w' := by
  obtain ⟨i0, hi0, hz0, hz1, hz2⟩ := info_parts u32_info
  have hr := h.max
  have hl := h.len
  have HH := Lib.hid h
  have hnil := fun (w : World) (a : Option Addr) (n c n' c' : Nat) => Lib.run_eql_slice_nil (P := Tryz.prog) w 27 76 a n c n' c' slice_u32
  obtain ⟨ad, rfl⟩ := h.addr hn0
  go_enter Tryz.func95, Tryz.ntmps95
  go_wp2_with (at_builtin; refine wpList_append_lm _ rfl _ _ _ rfl w.heap.size _ i0 slice_u32 hi0 hz0 hz1 hz2 _ 0 [] rfl (World.ownsRow_made _ _ _ (Nat.le_refl _) (by simp [maxLen]) rfl) _ _ _ _ xs rfl (HH.out.box _) (by simp only [maxLen]; omega) (by omega) (by simp) ?_; intro v1 w1 hown1 hg1)
  go_ret
  rw [Nat.zero_add, List.nil_append] at hown1
  have hO : Ow w1 w.heap.size v1 xs := by unfold Ow; rw [hl]; exact hown1
  obtain ⟨A', c', rfl, hL⟩ := hO.lm HH.out.good
  rw [hl] at hO ⊢
  refine ⟨A', c', rfl, hO, ((Below.refl _ _).alloc (Nat.le_refl _) _).grown hg1 (by simp) (fun k hk => ?_)⟩
  have e : w.heap.size = k := Option.some.inj hk
  omega

theorem Lm.one (w : World) (x : Nat) (X : Int) (hX : X = (x : Int)) (hx : x < 4294967296) :
    Lm (w.alloc (.cells #[.int .u32 X] 76)) (w.alloc (.cells #[.int .u32 X] 76)).heap.size (some ⟨w.heap.size, 0, none⟩) 1 1 [x] := by
  subst hX
  exact ⟨rfl, Good.nil.cons hx, Nat.le_refl _, by omega, fun h => (by cases h), fun _ => ⟨_, 0, rfl, by simp, fun j hj => by
    match j, hj with
    | 0, _ => go_simp⟩⟩
theorem val_one (x : Nat) : val [x] = x := by simp [val_cons, val_nil]

/-- A quotient and a remainder, which is the call's own. -/
def RDo (w : World) (q r : Nat) (e : Ending) (w' : World) : Prop := ∃ Q cq R cr, e = .returned (.tuple #[.slice Q (digs q).length cq, .slice R (digs r).length cr]) ∧
  Lm w' w'.heap.size Q (digs q).length cq (digs q) ∧ Ow w' w.heap.size (.slice R (digs r).length cr) (digs r) ∧ Below w.heap.size w w'
/-- A call returns a quotient and a remainder, as limbs. -/
def RD (w : World) (q r : Nat) (e : Ending) (w' : World) : Prop := ∃ Q cq R cr, e = .returned (.tuple #[.slice Q (digs q).length cq, .slice R (digs r).length cr]) ∧
  Lm w' w'.heap.size Q (digs q).length cq (digs q) ∧ Lm w' w'.heap.size R (digs r).length cr (digs r) ∧ Below w.heap.size w w'

set_option maxRecDepth 100000 in
set_option maxHeartbeats 1000000 in
theorem divide_less (w : World) (A B : Option Addr) (n m ca cb a b : Nat) (hA : Lm w w.heap.size A n ca (digs a)) (hB : Lm w w.heap.size B m cb (digs b)) (hlt : a < b) (hn9 : n ≤ 1000000) :
    Calls Tryz.prog 73 #[.slice A n ca, .slice B m cb] w (RD w (a / b) (a % b)) := by
  have HC : Hid (cmpL (digs a) (digs b) = -1) := by show _ = _; rw [cmpL_norm (digs_good _) (digs_good _) (digs_norm _) (digs_norm _), digs_val, digs_val]; exact cmpN_lt hlt
  have HA := Lib.hid hA
  have HB := Lib.hid hB
  rw [Nat.div_eq_of_lt hlt, Nat.mod_eq_of_lt hlt]
  have HN := Lib.hid hA.len
  clear hA hB hlt
  go_enter Tryz.func73, Tryz.ntmps73
  go_wp2_with fail
  refine (compare_any _ _ _ _ _ _ (digs a) (digs b) _ HA.out HB.out).mono ?_
  rintro e w1 ⟨he, hb1⟩
  rw [HC.out] at he
  subst he
  go_wp2_with fail
  refine (clone_any _ _ _ _ (digs a) (HA.out.via hb1) (by omega)).mono ?_
  rintro e w2 ⟨A2, c2, rfl, hL2, hb2⟩
  go_wp2
  go_ret2
  refine ⟨none, 0, A2, c2, by rw [HN.out]; rfl, Lm.nil _ _, by rw [HN.out]; exact hL2, hb1.trans (hb2.mono hb1.size)⟩

set_option maxRecDepth 100000 in
set_option maxHeartbeats 1000000 in
theorem divide_one (w : World) (A B : Option Addr) (n ca cb a b : Nat) (hA : Lm w w.heap.size A n ca (digs a)) (hB : Lm w w.heap.size B 1 cb (digs b)) (hle : b ≤ a) (hn9 : n ≤ 1000000) :
    Calls Tryz.prog 73 #[.slice A n ca, .slice B 1 cb] w (RD w (a / b) (a % b)) := by
  obtain ⟨z, hz, HC⟩ : ∃ z : Int, decide (z < 0) = false ∧ Hid (cmpL (digs a) (digs b) = z) := ⟨_, by rw [cmpL_norm (digs_good _) (digs_good _) (digs_norm _) (digs_norm _), digs_val, digs_val]; unfold cmpN; rw [if_neg (by omega)]; split <;> decide, rfl⟩
  have hb0 : 0 < b := by rw [← digs_pos, hB.len]; omega
  have hn0 : 0 < n := by rw [← hA.len, digs_pos]; omega
  have hbe : (digs b)[0]?.getD 0 = b := by
    have h1 := val_take_succ' (digs b) 0
    rw [List.take_of_length_le (by rw [hB.len]; omega), digs_val] at h1
    simpa [val_nil] using h1.symm
  have hb9 := hB.good.get 0
  obtain ⟨bb, bo, rfl, hbb, cb1⟩ := hB.cell (k := 0) (by omega)
  rw [hbe] at cb1 hb9
  have hcB := hB.cap
  have hxB := hB.max
  have HA := Lib.hid hA
  have HB := Lib.hid hB
  have HN := Lib.hid hA.len
  have HQ := Lib.hid (dvL_quot hb0 (digs a))
  have HG := Lib.hid (dvL_good hb0 (digs_good a))
  have HDl := Lib.hid (dvL_len b (digs a))
  have HVa := Lib.hid (digs_val a)
  have HRm : Hid ((dvL b (digs a)).2 < 4294967296) := Nat.lt_trans (dvL_lt hb0 _) hb9
  clear hA hB hle hbe
  go_enter Tryz.func73, Tryz.ntmps73
  go_wp2_with fail
  refine (compare_any _ _ _ _ _ _ (digs a) (digs b) _ HA.out HB.out).mono ?_
  rintro e w1 ⟨he, hb1⟩
  rw [HC.out] at he
  subst he
  go_wp2_with fail
  refine (clone_own _ _ _ _ (digs a) (HA.out.via hb1) hn0 (by omega)).mono ?_
  rintro e w2 ⟨g, c2, rfl, hc2, hx2, hg2, hO2, hb2⟩
  have hB2 := hb1.trans (hb2.mono hb1.size)
  have cb2 : w2.cell? ⟨bb, bo, none⟩ = some (.int .u32 (b : Int)) := (hB2.cell (p := ⟨bb, bo + 0, none⟩) hbb).trans cb1
  go_wp2_with fail
  refine (divideLimb_any w2 g n c2 b (digs a) hO2 (digs_good a) HN.out hc2 (by omega) hb0 hb9).mono ?_
  rintro e w3 ⟨rfl, hO3, hg3⟩
  have hs1 := hb1.size
  have HB3 : Hid (Below w.heap.size w w3) := hB2.grown hg3 (hB2.size) (fun k e => by injection e with e; omega)
  have HL3 : Hid (Lm w3 w3.heap.size (some ⟨g, 0, none⟩) n c2 (dvL b (digs a)).1) := by
    have e := hO3.lm HG.out (off := 0) (n := n) (c := c2) (by rw [HDl.out, HN.out]; omega) hc2 hx2
    rwa [List.drop_zero, List.take_of_length_le (by rw [HDl.out, HN.out]; exact Nat.le_refl _)] at e
  have HVq : Hid (val (dvL b (digs a)).1 = a / b) := by show _ = _; rw [HQ.out.1, HVa.out]
  have HVr : Hid (val [(dvL b (digs a)).2] = a % b) := by show _ = _; rw [val_one, HQ.out.2, HVa.out]
  clear hO3 hg3 hO2 hb2 hB2
  go_wp2_with fail
  refine (trim_any _ _ _ _ _ _ (a / b) HL3.out HVq.out).mono ?_
  rintro e w4 ⟨rfl, rfl⟩
  go_wp2_with fail
  refine (trim_any _ _ _ _ _ _ (a % b) (Lm.one w3 (dvL b (digs a)).2 _ rfl HRm.out) HVr.out).mono ?_
  rintro e w4 ⟨rfl, rfl⟩
  go_wp2
  go_ret2
  exact ⟨_, _, _, _, rfl, (HL3.out.trim' HVq.out).box _, (Lm.one w3 (dvL b (digs a)).2 _ rfl HRm.out).trim' HVr.out, HB3.out.alloc HB3.out.size _⟩

set_option maxRecDepth 100000 in
set_option maxHeartbeats 1000000 in
theorem divide_ow (w : World) (A B : Option Addr) (n m ca cb a b : Nat) (hA : Lm w w.heap.size A n ca (digs a)) (hB : Lm w w.heap.size B m cb (digs b)) (hle : b ≤ a) (hm : 2 ≤ m) (hn9 : n ≤ 1000000) :
    Calls Tryz.prog 73 #[.slice A n ca, .slice B m cb] w (RDo w (a / b) (a % b)) := by
  obtain ⟨z, hz, HC⟩ : ∃ z : Int, decide (z < 0) = false ∧ Hid (cmpL (digs a) (digs b) = z) := ⟨_, by rw [cmpL_norm (digs_good _) (digs_good _) (digs_norm _) (digs_norm _), digs_val, digs_val]; unfold cmpN; rw [if_neg (by omega)]; split <;> decide, rfl⟩
  have HA := Lib.hid hA
  have HB := Lib.hid hB
  have hm1 : ((m : Int) == 1) = false := by simp; omega
  have hcB := hB.cap
  have hxB := hB.max
  clear hA hB
  go_enter Tryz.func73, Tryz.ntmps73
  go_wp2_with fail
  refine (compare_any _ _ _ _ _ _ (digs a) (digs b) _ HA.out HB.out).mono ?_
  rintro e w1 ⟨he, hb1⟩
  rw [HC.out] at he
  subst he
  go_wp2_with fail
  refine (divideLong_ow w1 A B n m ca cb a b (HA.out.via hb1) (HB.out.via hb1) hm hle hn9).mono ?_
  rintro e w2 ⟨Q, cq, R, cr, rfl, hQ, hR, hb2⟩
  go_wp2
  go_ret2
  exact ⟨Q, cq, R, cr, rfl, hQ, hR.mono hb1.size, hb1.trans (hb2.mono hb1.size)⟩

theorem divide_long (w : World) (A B : Option Addr) (n m ca cb a b : Nat) (hA : Lm w w.heap.size A n ca (digs a)) (hB : Lm w w.heap.size B m cb (digs b)) (hle : b ≤ a) (hm : 2 ≤ m) (hn9 : n ≤ 1000000) :
    Calls Tryz.prog 73 #[.slice A n ca, .slice B m cb] w (RD w (a / b) (a % b)) :=
  (divide_ow w A B n m ca cb a b hA hB hle hm hn9).mono fun _ _ ⟨Q, cq, R, cr, e, hQ, hR, hb⟩ => ⟨Q, cq, R, cr, e, hQ, hR.toLm (digs_good _), hb⟩

theorem divide_any (w : World) (A B : Option Addr) (n m ca cb a b : Nat) (hA : Lm w w.heap.size A n ca (digs a)) (hB : Lm w w.heap.size B m cb (digs b)) (hb : 0 < b) (hn9 : n ≤ 1000000) :
    Calls Tryz.prog 73 #[.slice A n ca, .slice B m cb] w (RD w (a / b) (a % b)) := by
  rcases Nat.lt_or_ge a b with h | h
  · exact divide_less w A B n m ca cb a b hA hB h hn9
  · have hm : 0 < m := by rw [← hB.len, digs_pos]; exact hb
    rcases Nat.lt_or_ge m 2 with h1 | h1
    · obtain rfl : m = 1 := by omega
      exact divide_one w A B n ca cb a b hA hB h hn9
    · exact divide_long w A B n m ca cb a b hA hB h h1 hn9
end Go.Proofs.YtglgfjknhplajaaGreatDoor

/- wide.DivMod. -/
namespace Go.Proofs.YtglgfjknhplajaaGreatDoor
open Go.RowKit

/-- A call returns two numbers and an error. -/
def RWW (w : World) (n1 : Bool) (l1 : List Nat) (n2 : Bool) (l2 : List Nat) (err : Int) (e : Ending) (w' : World) : Prop :=
  ∃ A n c A' n' c', e = .returned (.tuple #[.agg #[.bool n1, .slice A n c], .agg #[.bool n2, .slice A' n' c'], .int .i64 err]) ∧ Lm w' w'.heap.size A n c l1 ∧ Lm w' w'.heap.size A' n' c' l2 ∧ Below w.heap.size w w'

set_option maxRecDepth 100000 in
set_option maxHeartbeats 1000000 in
theorem divmod_bad (w : World) (na nb : Bool) (A B : Option Addr) (n m ca cb : Nat) (xs ys : List Nat) (hA : Lm w w.heap.size A n ca xs) (hB : Lm w w.heap.size B m cb ys) (hv : chkB na xs nb ys = 8) :
    Calls Tryz.prog 46 #[.agg #[.bool na, .slice A n ca], .agg #[.bool nb, .slice B m cb]] w (RWW w false [] false [] 8) := by
  have HA := Lib.hid hA
  have HB := Lib.hid hB
  have HV := Lib.hid hv
  clear hv
  go_enter Tryz.func46, Tryz.ntmps46
  go_wp2_with fail
  refine (both_any _ _ _ _ _ _ _ _ _ _ _ 8 ((((HA.out.box _).box _).box _).box _) ((((HB.out.box _).box _).box _).box _) HV.out).mono ?_
  rintro e w1 ⟨rfl, hb1⟩
  have ⟨_, _, PQ, PR⟩ := boxes4 hb1
  have ⟨q0, q1, qf0, qf1, ql⟩ := PQ
  have ⟨r0, r1, rf0, rf1, rl⟩ := PR
  have HB1 := Lib.hid (bbox (bbox (bbox (bbox hb1))))
  clear hb1
  go_wp2
  refine post_ww Tryz.results46 rfl rfl rfl ((PQ.set (.bool false) (.slice none 0 0)).far (by omega) _ _) ((PR.far (by omega) _ _).set _ _) ⟨none, 0, 0, none, 0, 0, rfl, Lm.nil _ _, Lm.nil _ _, below_set2 (below_set2 HB1.out (by omega) _ _) (by omega) _ _⟩

set_option maxRecDepth 100000 in
set_option maxHeartbeats 1000000 in
theorem divmod_zero (w : World) (na nb : Bool) (A B : Option Addr) (n ca cb : Nat) (xs : List Nat) (hA : Lm w w.heap.size A n ca xs) (hB : Lm w w.heap.size B 0 cb []) (hv : chkB na xs nb [] = 0) :
    Calls Tryz.prog 46 #[.agg #[.bool na, .slice A n ca], .agg #[.bool nb, .slice B 0 cb]] w (RWW w false [] false [] 18) := by
  have HA := Lib.hid hA
  have HB := Lib.hid hB
  have HV := Lib.hid hv
  clear hv
  go_enter Tryz.func46, Tryz.ntmps46
  go_wp2_with fail
  refine (both_any _ _ _ _ _ _ _ _ _ _ _ 0 ((((HA.out.box _).box _).box _).box _) ((((HB.out.box _).box _).box _).box _) HV.out).mono ?_
  rintro e w1 ⟨rfl, hb1⟩
  have ⟨_, PB, PQ, PR⟩ := boxes4 hb1
  obtain ⟨b0, b1, bf0, bf1, bl⟩ := PB
  have ⟨q0, q1, qf0, qf1, ql⟩ := PQ
  have ⟨r0, r1, rf0, rf1, rl⟩ := PR
  have HB1 := Lib.hid (bbox (bbox (bbox (bbox hb1))))
  clear hb1
  go_wp2
  refine post_ww Tryz.results46 rfl rfl rfl ((Pr.set ⟨q0, q1, qf0, qf1, ql⟩ (.bool false) (.slice none 0 0)).far (by omega) _ _) ((Pr.far ⟨r0, r1, rf0, rf1, rl⟩ (by omega) _ _).set _ _) ⟨none, 0, 0, none, 0, 0, rfl, Lm.nil _ _, Lm.nil _ _, below_set2 (below_set2 HB1.out (by omega) _ _) (by omega) _ _⟩

/-! ### DivMod where the remainder is 0 or the signs agree, and where not -/
set_option maxRecDepth 100000 in
set_option maxHeartbeats 2000000 in
theorem divmod_same (w : World) (na nb : Bool) (A B : Option Addr) (n m ca cb a b : Nat) (hA : Lm w w.heap.size A n ca (digs a)) (hB : Lm w w.heap.size B m cb (digs b)) (hv : chkB na (digs a) nb (digs b) = 0) (hb : 0 < b) (hs : na = nb) :
    Calls Tryz.prog 46 #[.agg #[.bool na, .slice A n ca], .agg #[.bool nb, .slice B m cb]] w (RWW w (mkN false (a / b)) (digs (a / b)) (mkN nb (a % b)) (digs (a % b)) 0) := by
  have h41 := (chk_ok.1 (chkB_ok.1 hv).1).1
  have h42 := (chk_ok.1 (chkB_ok.1 hv).2).1
  have hq : (digs (a / b)).length ≤ 4096 := Nat.le_trans (digs_mono (Nat.div_le_self a b)) h41
  have hr : (digs (a % b)).length ≤ 4096 := Nat.le_trans (digs_mono (Nat.le_of_lt (Nat.mod_lt a hb))) h42
  have HLq : Hid (mkL (a / b) = digs (a / b)) := by show _ = _; unfold mkL; rw [if_pos hq]
  have HLr : Hid (mkL (a % b) = digs (a % b)) := by show _ = _; unfold mkL; rw [if_pos hr]
  rw [hA.len] at h41
  rw [hB.len] at h42
  have hm0 : 0 < m := by rw [← hB.len, digs_pos]; exact hb
  have hm1 : ((m : Int) == 0) = false := by simp; omega
  have hcB := hB.cap
  have hxB := hB.max
  have HA := Lib.hid hA
  have HB := Lib.hid hB
  have HV := Lib.hid hv
  have hrl : decide (0 < (digs (a % b)).length) = decide (0 < a % b) := decide_eq_decide.2 digs_pos
  clear hrl
  clear hv
  subst hs
  cases na
  · go_enter Tryz.func46, Tryz.ntmps46
    go_wp2_with fail
    refine (both_any _ _ _ _ _ _ _ _ _ _ _ 0 ((((HA.out.box _).box _).box _).box _) ((((HB.out.box _).box _).box _).box _) HV.out).mono ?_
    rintro e w1 ⟨rfl, hb1⟩
    have ⟨PA, PB, PQ, PR⟩ := boxes4 hb1
    have LA1 := Lib.hid (((((HA.out.box _).box _).box _).box _).via hb1)
    have LB1 := Lib.hid (((((HB.out.box _).box _).box _).box _).via hb1)
    have HB1 := Lib.hid (bbox (bbox (bbox (bbox hb1))))
    have ⟨a0, a1, _, _, _⟩ := PA
    have ⟨b0, b1, _, _, _⟩ := PB
    clear hb1
    go_wp2_with fail
    refine (divide_any w1 A B n m ca cb a b LA1.out LB1.out hb (by omega)).mono ?_
    rintro e w2 ⟨Q, cq, R, cr, rfl, hQ, hR, hb2⟩
    have PA2 := PA.via hb2
    have PB2 := PB.via hb2
    have PQ2 := PQ.via hb2
    have PR2 := PR.via hb2
    have HB2 := Lib.hid (HB1.out.trans (hb2.mono HB1.out.size))
    have HQ := Lib.hid hQ
    have HR := Lib.hid hR
    have LB2 := Lib.hid (LB1.out.via hb2)
    clear PA PB PQ PR LA1 LB1 HB1 a0 a1 b0 b1 hb2 hQ hR
    have ⟨a0, a1, _, _, _⟩ := PA2
    have ⟨b0, b1, _, _, _⟩ := PB2
    go_wp2_with fail
    refine (made_any _ _ _ _ _ (a / b) HQ.out).mono ?_
    rintro e w3 ⟨A3, n3, c3, rfl, hL3, hb3⟩
    rw [HLq.out] at hL3
    have PB3 := PB2.via hb3
    have PQ3 := PQ2.via hb3
    have PR3 := PR2.via hb3
    have HB3 := Lib.hid (HB2.out.trans (hb3.mono HB2.out.size))
    have HR3 := Lib.hid (HR.out.via hb3)
    have HL3 := Lib.hid hL3
    clear PA2 PB2 PQ2 PR2 HQ HR HB2 hb3 hL3 a0 a1 b0 b1
    have ⟨q0, q1, qf0, qf1, ql⟩ := PQ3
    have X4 := Lib.hid (PB3.far (h := w.heap.size + 1 + 1) (by omega) (.bool (mkN false (a / b))) (.slice A3 n3 c3))
    have PQ4 := PQ3.set (.bool (mkN false (a / b))) (.slice A3 n3 c3)
    have PR4 := PR3.far (h := w.heap.size + 1 + 1) (by omega) (.bool (mkN false (a / b))) (.slice A3 n3 c3)
    have HR4 := Lib.hid (HR3.out.setP PQ3 (.bool (mkN false (a / b))) (.slice A3 n3 c3))
    have HL4 := Lib.hid (HL3.out.setP PQ3 (.bool (mkN false (a / b))) (.slice A3 n3 c3))
    have PB4 := X4.out
    have ⟨b0, b1, _, _, _⟩ := PB4
    go_wp2_with fail
    refine (made_any _ _ _ _ _ (a % b) HR4.out).mono ?_
    rintro e w5 ⟨A5, n5, c5, rfl, hL5, hb5⟩
    rw [HLr.out] at hL5
    have PQ5 := PQ4.via hb5
    have PR5 := PR4.via hb5
    have HB5 := Lib.hid ((below_set2 HB3.out (by omega) (.bool (mkN false (a / b))) (.slice A3 n3 c3)).trans (hb5.mono (by rw [size_set2]; exact HB3.out.size)))
    have HL5 := Lib.hid (HL4.out.via hb5)
    have HM5 := Lib.hid hL5
    clear X4 HR3 HL3 HR4 HL4 PB3 PQ3 PR3 PQ4 PR4 PB4 hb5 hL5 q0 q1 qf0 qf1 b0 b1 HB3
    have ⟨r0, r1, rf0, rf1, rl⟩ := PR5
    have PQ6 := PQ5.far (h := w.heap.size + 1 + 1 + 1) (by omega) (.bool (mkN false (a % b))) (.slice A5 n5 c5)
    have PR6 := PR5.set (.bool (mkN false (a % b))) (.slice A5 n5 c5)
    have HL6 := Lib.hid (HL5.out.setP PR5 (.bool (mkN false (a % b))) (.slice A5 n5 c5))
    have HM6 := Lib.hid (HM5.out.setP PR5 (.bool (mkN false (a % b))) (.slice A5 n5 c5))
    have HB6 := Lib.hid (below_set2 HB5.out (by omega) (.bool (mkN false (a % b))) (.slice A5 n5 c5) (g := w.heap.size + 1 + 1 + 1))
    go_wp2_with fail
    generalize ((w5.setCell ⟨w.heap.size + 1 + 1 + 1, 0, none⟩ (.bool (mkN false (a % b)))).setCell ⟨w.heap.size + 1 + 1 + 1, 1, none⟩ (.slice A5 n5 c5)) = w6 at *
    clear PQ5 PR5 HL5 HM5 HB5 r0 r1 rf0 rf1 rl
    have ⟨q0, q1, qf0, qf1, ql⟩ := PQ6
    have ⟨r0, r1, rf0, rf1, rl⟩ := PR6
    go_region
    go_wp2
    refine post_ww Tryz.results46 rfl rfl rfl ((PQ6.set _ _).far (by omega) _ _).drew ((PR6.far (by omega) _ _).set _ _).drew ⟨A3, n3, c3, A5, n5, c5, rfl, ?_, ?_, ?_⟩
    · exact ((HL6.out.setP PQ6 _ _).setP (PR6.far (by omega) _ _) _ _).drew
    · exact ((HM6.out.setP PQ6 _ _).setP (PR6.far (by omega) _ _) _ _).drew
    · exact (below_set2 (below_set2 HB6.out (by omega) _ _) (by omega) _ _).drew
  · go_enter Tryz.func46, Tryz.ntmps46
    go_wp2_with fail
    refine (both_any _ _ _ _ _ _ _ _ _ _ _ 0 ((((HA.out.box _).box _).box _).box _) ((((HB.out.box _).box _).box _).box _) HV.out).mono ?_
    rintro e w1 ⟨rfl, hb1⟩
    have ⟨PA, PB, PQ, PR⟩ := boxes4 hb1
    have LA1 := Lib.hid (((((HA.out.box _).box _).box _).box _).via hb1)
    have LB1 := Lib.hid (((((HB.out.box _).box _).box _).box _).via hb1)
    have HB1 := Lib.hid (bbox (bbox (bbox (bbox hb1))))
    have ⟨a0, a1, _, _, _⟩ := PA
    have ⟨b0, b1, _, _, _⟩ := PB
    clear hb1
    go_wp2_with fail
    refine (divide_any w1 A B n m ca cb a b LA1.out LB1.out hb (by omega)).mono ?_
    rintro e w2 ⟨Q, cq, R, cr, rfl, hQ, hR, hb2⟩
    have PA2 := PA.via hb2
    have PB2 := PB.via hb2
    have PQ2 := PQ.via hb2
    have PR2 := PR.via hb2
    have HB2 := Lib.hid (HB1.out.trans (hb2.mono HB1.out.size))
    have HQ := Lib.hid hQ
    have HR := Lib.hid hR
    have LB2 := Lib.hid (LB1.out.via hb2)
    clear PA PB PQ PR LA1 LB1 HB1 a0 a1 b0 b1 hb2 hQ hR
    have ⟨a0, a1, _, _, _⟩ := PA2
    have ⟨b0, b1, _, _, _⟩ := PB2
    go_wp2_with fail
    refine (made_any _ _ _ _ _ (a / b) HQ.out).mono ?_
    rintro e w3 ⟨A3, n3, c3, rfl, hL3, hb3⟩
    rw [HLq.out] at hL3
    have PB3 := PB2.via hb3
    have PQ3 := PQ2.via hb3
    have PR3 := PR2.via hb3
    have HB3 := Lib.hid (HB2.out.trans (hb3.mono HB2.out.size))
    have HR3 := Lib.hid (HR.out.via hb3)
    have HL3 := Lib.hid hL3
    clear PA2 PB2 PQ2 PR2 HQ HR HB2 hb3 hL3 a0 a1 b0 b1
    have ⟨q0, q1, qf0, qf1, ql⟩ := PQ3
    have X4 := Lib.hid (PB3.far (h := w.heap.size + 1 + 1) (by omega) (.bool (mkN false (a / b))) (.slice A3 n3 c3))
    have PQ4 := PQ3.set (.bool (mkN false (a / b))) (.slice A3 n3 c3)
    have PR4 := PR3.far (h := w.heap.size + 1 + 1) (by omega) (.bool (mkN false (a / b))) (.slice A3 n3 c3)
    have HR4 := Lib.hid (HR3.out.setP PQ3 (.bool (mkN false (a / b))) (.slice A3 n3 c3))
    have HL4 := Lib.hid (HL3.out.setP PQ3 (.bool (mkN false (a / b))) (.slice A3 n3 c3))
    have PB4 := X4.out
    have ⟨b0, b1, _, _, _⟩ := PB4
    go_wp2_with fail
    refine (made_any _ _ _ _ _ (a % b) HR4.out).mono ?_
    rintro e w5 ⟨A5, n5, c5, rfl, hL5, hb5⟩
    rw [HLr.out] at hL5
    have PQ5 := PQ4.via hb5
    have PR5 := PR4.via hb5
    have HB5 := Lib.hid ((below_set2 HB3.out (by omega) (.bool (mkN false (a / b))) (.slice A3 n3 c3)).trans (hb5.mono (by rw [size_set2]; exact HB3.out.size)))
    have HL5 := Lib.hid (HL4.out.via hb5)
    have HM5 := Lib.hid hL5
    clear X4 HR3 HL3 HR4 HL4 PB3 PQ3 PR3 PQ4 PR4 PB4 hb5 hL5 q0 q1 qf0 qf1 b0 b1 HB3
    have ⟨r0, r1, rf0, rf1, rl⟩ := PR5
    have PQ6 := PQ5.far (h := w.heap.size + 1 + 1 + 1) (by omega) (.bool (mkN true (a % b))) (.slice A5 n5 c5)
    have PR6 := PR5.set (.bool (mkN true (a % b))) (.slice A5 n5 c5)
    have HL6 := Lib.hid (HL5.out.setP PR5 (.bool (mkN true (a % b))) (.slice A5 n5 c5))
    have HM6 := Lib.hid (HM5.out.setP PR5 (.bool (mkN true (a % b))) (.slice A5 n5 c5))
    have HB6 := Lib.hid (below_set2 HB5.out (by omega) (.bool (mkN true (a % b))) (.slice A5 n5 c5) (g := w.heap.size + 1 + 1 + 1))
    go_wp2_with fail
    generalize ((w5.setCell ⟨w.heap.size + 1 + 1 + 1, 0, none⟩ (.bool (mkN true (a % b)))).setCell ⟨w.heap.size + 1 + 1 + 1, 1, none⟩ (.slice A5 n5 c5)) = w6 at *
    clear PQ5 PR5 HL5 HM5 HB5 r0 r1 rf0 rf1 rl
    have ⟨q0, q1, qf0, qf1, ql⟩ := PQ6
    have ⟨r0, r1, rf0, rf1, rl⟩ := PR6
    go_region
    go_wp2
    refine post_ww Tryz.results46 rfl rfl rfl ((PQ6.set _ _).far (by omega) _ _).drew ((PR6.far (by omega) _ _).set _ _).drew ⟨A3, n3, c3, A5, n5, c5, rfl, ?_, ?_, ?_⟩
    · exact ((HL6.out.setP PQ6 _ _).setP (PR6.far (by omega) _ _) _ _).drew
    · exact ((HM6.out.setP PQ6 _ _).setP (PR6.far (by omega) _ _) _ _).drew
    · exact (below_set2 (below_set2 HB6.out (by omega) _ _) (by omega) _ _).drew
set_option maxRecDepth 100000 in
set_option maxHeartbeats 2000000 in
theorem divmod_exact (w : World) (na nb : Bool) (A B : Option Addr) (n m ca cb a b : Nat) (hA : Lm w w.heap.size A n ca (digs a)) (hB : Lm w w.heap.size B m cb (digs b)) (hv : chkB na (digs a) nb (digs b) = 0) (hb : 0 < b) (hs : na = true ∧ nb = false ∨ na = false ∧ nb = true) (h0 : a % b = 0) :
    Calls Tryz.prog 46 #[.agg #[.bool na, .slice A n ca], .agg #[.bool nb, .slice B m cb]] w (RWW w (mkN true (a / b)) (digs (a / b)) (mkN nb (a % b)) (digs (a % b)) 0) := by
  have h41 := (chk_ok.1 (chkB_ok.1 hv).1).1
  have h42 := (chk_ok.1 (chkB_ok.1 hv).2).1
  have hq : (digs (a / b)).length ≤ 4096 := Nat.le_trans (digs_mono (Nat.div_le_self a b)) h41
  have hr : (digs (a % b)).length ≤ 4096 := Nat.le_trans (digs_mono (Nat.le_of_lt (Nat.mod_lt a hb))) h42
  have HLq : Hid (mkL (a / b) = digs (a / b)) := by show _ = _; unfold mkL; rw [if_pos hq]
  have HLr : Hid (mkL (a % b) = digs (a % b)) := by show _ = _; unfold mkL; rw [if_pos hr]
  rw [hA.len] at h41
  rw [hB.len] at h42
  have hm0 : 0 < m := by rw [← hB.len, digs_pos]; exact hb
  have hm1 : ((m : Int) == 0) = false := by simp; omega
  have hcB := hB.cap
  have hxB := hB.max
  have HA := Lib.hid hA
  have HB := Lib.hid hB
  have HV := Lib.hid hv
  have hrl : decide (0 < (digs (a % b)).length) = decide (0 < a % b) := decide_eq_decide.2 digs_pos
  have hrz : decide (0 < (digs (a % b)).length) = false := by rw [hrl]; simp; omega
  have H0 := Lib.hid h0
  clear hrl h0
  clear hv
  rcases hs with ⟨rfl, rfl⟩ | ⟨rfl, rfl⟩
  · go_enter Tryz.func46, Tryz.ntmps46
    go_wp2_with fail
    refine (both_any _ _ _ _ _ _ _ _ _ _ _ 0 ((((HA.out.box _).box _).box _).box _) ((((HB.out.box _).box _).box _).box _) HV.out).mono ?_
    rintro e w1 ⟨rfl, hb1⟩
    have ⟨PA, PB, PQ, PR⟩ := boxes4 hb1
    have LA1 := Lib.hid (((((HA.out.box _).box _).box _).box _).via hb1)
    have LB1 := Lib.hid (((((HB.out.box _).box _).box _).box _).via hb1)
    have HB1 := Lib.hid (bbox (bbox (bbox (bbox hb1))))
    have ⟨a0, a1, _, _, _⟩ := PA
    have ⟨b0, b1, _, _, _⟩ := PB
    clear hb1
    go_wp2_with fail
    refine (divide_any w1 A B n m ca cb a b LA1.out LB1.out hb (by omega)).mono ?_
    rintro e w2 ⟨Q, cq, R, cr, rfl, hQ, hR, hb2⟩
    have PA2 := PA.via hb2
    have PB2 := PB.via hb2
    have PQ2 := PQ.via hb2
    have PR2 := PR.via hb2
    have HB2 := Lib.hid (HB1.out.trans (hb2.mono HB1.out.size))
    have HQ := Lib.hid hQ
    have HR := Lib.hid hR
    have LB2 := Lib.hid (LB1.out.via hb2)
    clear PA PB PQ PR LA1 LB1 HB1 a0 a1 b0 b1 hb2 hQ hR
    have ⟨a0, a1, _, _, _⟩ := PA2
    have ⟨b0, b1, _, _, _⟩ := PB2
    go_wp2_with fail
    refine (made_any _ _ _ _ _ (a / b) HQ.out).mono ?_
    rintro e w3 ⟨A3, n3, c3, rfl, hL3, hb3⟩
    rw [HLq.out] at hL3
    have PB3 := PB2.via hb3
    have PQ3 := PQ2.via hb3
    have PR3 := PR2.via hb3
    have HB3 := Lib.hid (HB2.out.trans (hb3.mono HB2.out.size))
    have HR3 := Lib.hid (HR.out.via hb3)
    have HL3 := Lib.hid hL3
    clear PA2 PB2 PQ2 PR2 HQ HR HB2 hb3 hL3 a0 a1 b0 b1
    have ⟨q0, q1, qf0, qf1, ql⟩ := PQ3
    have X4 := Lib.hid (PB3.far (h := w.heap.size + 1 + 1) (by omega) (.bool (mkN true (a / b))) (.slice A3 n3 c3))
    have PQ4 := PQ3.set (.bool (mkN true (a / b))) (.slice A3 n3 c3)
    have PR4 := PR3.far (h := w.heap.size + 1 + 1) (by omega) (.bool (mkN true (a / b))) (.slice A3 n3 c3)
    have HR4 := Lib.hid (HR3.out.setP PQ3 (.bool (mkN true (a / b))) (.slice A3 n3 c3))
    have HL4 := Lib.hid (HL3.out.setP PQ3 (.bool (mkN true (a / b))) (.slice A3 n3 c3))
    have PB4 := X4.out
    have ⟨b0, b1, _, _, _⟩ := PB4
    go_wp2_with fail
    refine (made_any _ _ _ _ _ (a % b) HR4.out).mono ?_
    rintro e w5 ⟨A5, n5, c5, rfl, hL5, hb5⟩
    rw [HLr.out] at hL5
    have PQ5 := PQ4.via hb5
    have PR5 := PR4.via hb5
    have HB5 := Lib.hid ((below_set2 HB3.out (by omega) (.bool (mkN true (a / b))) (.slice A3 n3 c3)).trans (hb5.mono (by rw [size_set2]; exact HB3.out.size)))
    have HL5 := Lib.hid (HL4.out.via hb5)
    have HM5 := Lib.hid hL5
    clear X4 HR3 HL3 HR4 HL4 PB3 PQ3 PR3 PQ4 PR4 PB4 hb5 hL5 q0 q1 qf0 qf1 b0 b1 HB3
    have ⟨r0, r1, rf0, rf1, rl⟩ := PR5
    have PQ6 := PQ5.far (h := w.heap.size + 1 + 1 + 1) (by omega) (.bool (mkN false (a % b))) (.slice A5 n5 c5)
    have PR6 := PR5.set (.bool (mkN false (a % b))) (.slice A5 n5 c5)
    have HL6 := Lib.hid (HL5.out.setP PR5 (.bool (mkN false (a % b))) (.slice A5 n5 c5))
    have HM6 := Lib.hid (HM5.out.setP PR5 (.bool (mkN false (a % b))) (.slice A5 n5 c5))
    have HB6 := Lib.hid (below_set2 HB5.out (by omega) (.bool (mkN false (a % b))) (.slice A5 n5 c5) (g := w.heap.size + 1 + 1 + 1))
    go_wp2_with fail
    generalize ((w5.setCell ⟨w.heap.size + 1 + 1 + 1, 0, none⟩ (.bool (mkN false (a % b)))).setCell ⟨w.heap.size + 1 + 1 + 1, 1, none⟩ (.slice A5 n5 c5)) = w6 at *
    clear PQ5 PR5 HL5 HM5 HB5 r0 r1 rf0 rf1 rl
    have ⟨q0, q1, qf0, qf1, ql⟩ := PQ6
    have ⟨r0, r1, rf0, rf1, rl⟩ := PR6
    go_region
    go_wp2
    refine post_ww Tryz.results46 rfl rfl rfl ((PQ6.set _ _).far (by omega) _ _).drew ((PR6.far (by omega) _ _).set _ _).drew ⟨A3, n3, c3, A5, n5, c5, rfl, ?_, ?_, ?_⟩
    · exact ((HL6.out.setP PQ6 _ _).setP (PR6.far (by omega) _ _) _ _).drew
    · exact ((HM6.out.setP PQ6 _ _).setP (PR6.far (by omega) _ _) _ _).drew
    · exact (below_set2 (below_set2 HB6.out (by omega) _ _) (by omega) _ _).drew
  · go_enter Tryz.func46, Tryz.ntmps46
    go_wp2_with fail
    refine (both_any _ _ _ _ _ _ _ _ _ _ _ 0 ((((HA.out.box _).box _).box _).box _) ((((HB.out.box _).box _).box _).box _) HV.out).mono ?_
    rintro e w1 ⟨rfl, hb1⟩
    have ⟨PA, PB, PQ, PR⟩ := boxes4 hb1
    have LA1 := Lib.hid (((((HA.out.box _).box _).box _).box _).via hb1)
    have LB1 := Lib.hid (((((HB.out.box _).box _).box _).box _).via hb1)
    have HB1 := Lib.hid (bbox (bbox (bbox (bbox hb1))))
    have ⟨a0, a1, _, _, _⟩ := PA
    have ⟨b0, b1, _, _, _⟩ := PB
    clear hb1
    go_wp2_with fail
    refine (divide_any w1 A B n m ca cb a b LA1.out LB1.out hb (by omega)).mono ?_
    rintro e w2 ⟨Q, cq, R, cr, rfl, hQ, hR, hb2⟩
    have PA2 := PA.via hb2
    have PB2 := PB.via hb2
    have PQ2 := PQ.via hb2
    have PR2 := PR.via hb2
    have HB2 := Lib.hid (HB1.out.trans (hb2.mono HB1.out.size))
    have HQ := Lib.hid hQ
    have HR := Lib.hid hR
    have LB2 := Lib.hid (LB1.out.via hb2)
    clear PA PB PQ PR LA1 LB1 HB1 a0 a1 b0 b1 hb2 hQ hR
    have ⟨a0, a1, _, _, _⟩ := PA2
    have ⟨b0, b1, _, _, _⟩ := PB2
    go_wp2_with fail
    refine (made_any _ _ _ _ _ (a / b) HQ.out).mono ?_
    rintro e w3 ⟨A3, n3, c3, rfl, hL3, hb3⟩
    rw [HLq.out] at hL3
    have PB3 := PB2.via hb3
    have PQ3 := PQ2.via hb3
    have PR3 := PR2.via hb3
    have HB3 := Lib.hid (HB2.out.trans (hb3.mono HB2.out.size))
    have HR3 := Lib.hid (HR.out.via hb3)
    have HL3 := Lib.hid hL3
    clear PA2 PB2 PQ2 PR2 HQ HR HB2 hb3 hL3 a0 a1 b0 b1
    have ⟨q0, q1, qf0, qf1, ql⟩ := PQ3
    have X4 := Lib.hid (PB3.far (h := w.heap.size + 1 + 1) (by omega) (.bool (mkN true (a / b))) (.slice A3 n3 c3))
    have PQ4 := PQ3.set (.bool (mkN true (a / b))) (.slice A3 n3 c3)
    have PR4 := PR3.far (h := w.heap.size + 1 + 1) (by omega) (.bool (mkN true (a / b))) (.slice A3 n3 c3)
    have HR4 := Lib.hid (HR3.out.setP PQ3 (.bool (mkN true (a / b))) (.slice A3 n3 c3))
    have HL4 := Lib.hid (HL3.out.setP PQ3 (.bool (mkN true (a / b))) (.slice A3 n3 c3))
    have PB4 := X4.out
    have ⟨b0, b1, _, _, _⟩ := PB4
    go_wp2_with fail
    refine (made_any _ _ _ _ _ (a % b) HR4.out).mono ?_
    rintro e w5 ⟨A5, n5, c5, rfl, hL5, hb5⟩
    rw [HLr.out] at hL5
    have PQ5 := PQ4.via hb5
    have PR5 := PR4.via hb5
    have HB5 := Lib.hid ((below_set2 HB3.out (by omega) (.bool (mkN true (a / b))) (.slice A3 n3 c3)).trans (hb5.mono (by rw [size_set2]; exact HB3.out.size)))
    have HL5 := Lib.hid (HL4.out.via hb5)
    have HM5 := Lib.hid hL5
    clear X4 HR3 HL3 HR4 HL4 PB3 PQ3 PR3 PQ4 PR4 PB4 hb5 hL5 q0 q1 qf0 qf1 b0 b1 HB3
    have ⟨r0, r1, rf0, rf1, rl⟩ := PR5
    have PQ6 := PQ5.far (h := w.heap.size + 1 + 1 + 1) (by omega) (.bool (mkN true (a % b))) (.slice A5 n5 c5)
    have PR6 := PR5.set (.bool (mkN true (a % b))) (.slice A5 n5 c5)
    have HL6 := Lib.hid (HL5.out.setP PR5 (.bool (mkN true (a % b))) (.slice A5 n5 c5))
    have HM6 := Lib.hid (HM5.out.setP PR5 (.bool (mkN true (a % b))) (.slice A5 n5 c5))
    have HB6 := Lib.hid (below_set2 HB5.out (by omega) (.bool (mkN true (a % b))) (.slice A5 n5 c5) (g := w.heap.size + 1 + 1 + 1))
    go_wp2_with fail
    generalize ((w5.setCell ⟨w.heap.size + 1 + 1 + 1, 0, none⟩ (.bool (mkN true (a % b)))).setCell ⟨w.heap.size + 1 + 1 + 1, 1, none⟩ (.slice A5 n5 c5)) = w6 at *
    clear PQ5 PR5 HL5 HM5 HB5 r0 r1 rf0 rf1 rl
    have ⟨q0, q1, qf0, qf1, ql⟩ := PQ6
    have ⟨r0, r1, rf0, rf1, rl⟩ := PR6
    go_region
    go_wp2
    refine post_ww Tryz.results46 rfl rfl rfl ((PQ6.set _ _).far (by omega) _ _).drew ((PR6.far (by omega) _ _).set _ _).drew ⟨A3, n3, c3, A5, n5, c5, rfl, ?_, ?_, ?_⟩
    · exact ((HL6.out.setP PQ6 _ _).setP (PR6.far (by omega) _ _) _ _).drew
    · exact ((HM6.out.setP PQ6 _ _).setP (PR6.far (by omega) _ _) _ _).drew
    · exact (below_set2 (below_set2 HB6.out (by omega) _ _) (by omega) _ _).drew
set_option maxRecDepth 100000 in
set_option maxHeartbeats 2000000 in
theorem divmod_down (w : World) (na nb : Bool) (A B : Option Addr) (n m ca cb a b : Nat) (hA : Lm w w.heap.size A n ca (digs a)) (hB : Lm w w.heap.size B m cb (digs b)) (hv : chkB na (digs a) nb (digs b) = 0) (hb : 0 < b) (hs : na = true ∧ nb = false ∨ na = false ∧ nb = true) (h0 : 0 < a % b) :
    Calls Tryz.prog 46 #[.agg #[.bool na, .slice A n ca], .agg #[.bool nb, .slice B m cb]] w (RWW w (mkN true (a / b + 1)) (digs (a / b + 1)) (mkN nb (b - a % b)) (digs (b - a % b)) 0) := by
  have h41 := (chk_ok.1 (chkB_ok.1 hv).1).1
  have h42 := (chk_ok.1 (chkB_ok.1 hv).2).1
  have hab : a / b + 1 ≤ a := by
    have h := Nat.div_add_mod a b
    have hb2 : 2 ≤ b := by have := Nat.mod_lt a hb; omega
    have h2 : 2 * (a / b) ≤ b * (a / b) := Nat.mul_le_mul_right _ hb2
    generalize a / b = z at *
    omega
  have hml := Nat.mod_lt a hb
  have hq0 : (digs (a / b)).length ≤ 4096 := Nat.le_trans (digs_mono (Nat.div_le_self a b)) h41
  have hr0 : (digs (a % b)).length ≤ m := Nat.le_trans (digs_mono (Nat.le_of_lt (Nat.mod_lt a hb))) (Nat.le_of_eq hB.len)
  have hq : (digs (a / b + 1)).length ≤ 4096 := Nat.le_trans (digs_mono hab) h41
  have hr : (digs (b - a % b)).length ≤ 4096 := Nat.le_trans (digs_mono (Nat.sub_le _ _)) h42
  have HLq : Hid (mkL (a / b + 1) = digs (a / b + 1)) := by show _ = _; unfold mkL; rw [if_pos hq]
  have HLr : Hid (mkL (b - a % b) = digs (b - a % b)) := by show _ = _; unfold mkL; rw [if_pos hr]
  rw [hA.len] at h41
  rw [hB.len] at h42
  have hm0 : 0 < m := by rw [← hB.len, digs_pos]; exact hb
  have hm1 : ((m : Int) == 0) = false := by simp; omega
  have hcB := hB.cap
  have hxB := hB.max
  have HA := Lib.hid hA
  have HB := Lib.hid hB
  have HV := Lib.hid hv
  have hrl : decide (0 < (digs (a % b)).length) = decide (0 < a % b) := decide_eq_decide.2 digs_pos
  have hrz : decide (0 < (digs (a % b)).length) = true := by rw [hrl]; simpa using h0
  clear hrl
  clear hv
  rcases hs with ⟨rfl, rfl⟩ | ⟨rfl, rfl⟩
  · go_enter Tryz.func46, Tryz.ntmps46
    go_wp2_with fail
    refine (both_any _ _ _ _ _ _ _ _ _ _ _ 0 ((((HA.out.box _).box _).box _).box _) ((((HB.out.box _).box _).box _).box _) HV.out).mono ?_
    rintro e w1 ⟨rfl, hb1⟩
    have ⟨PA, PB, PQ, PR⟩ := boxes4 hb1
    have LA1 := Lib.hid (((((HA.out.box _).box _).box _).box _).via hb1)
    have LB1 := Lib.hid (((((HB.out.box _).box _).box _).box _).via hb1)
    have HB1 := Lib.hid (bbox (bbox (bbox (bbox hb1))))
    have ⟨a0, a1, _, _, _⟩ := PA
    have ⟨b0, b1, _, _, _⟩ := PB
    clear hb1
    go_wp2_with fail
    refine (divide_any w1 A B n m ca cb a b LA1.out LB1.out hb (by omega)).mono ?_
    rintro e w2 ⟨Q, cq, R, cr, rfl, hQ, hR, hb2⟩
    have PA2 := PA.via hb2
    have PB2 := PB.via hb2
    have PQ2 := PQ.via hb2
    have PR2 := PR.via hb2
    have HB2 := Lib.hid (HB1.out.trans (hb2.mono HB1.out.size))
    have HQ := Lib.hid hQ
    have HR := Lib.hid hR
    have LB2 := Lib.hid (LB1.out.via hb2)
    clear PA PB PQ PR LA1 LB1 HB1 a0 a1 b0 b1 hb2 hQ hR
    have ⟨a0, a1, _, _, _⟩ := PA2
    have ⟨b0, b1, _, _, _⟩ := PB2
    go_wp2_with fail
    have HS : Hid (val (digs (a / b)) + val [1] = a / b + 1) := by show _ = _; rw [digs_val, val_one]
    have HD : Hid (val (digs (a % b)) ≤ val (digs b)) := by show _ ≤ _; rw [digs_val, digs_val]; exact Nat.le_of_lt (Nat.mod_lt a hb)
    have HE : Hid (val (digs b) - val (digs (a % b)) = b - a % b) := by show _ = _; rw [digs_val, digs_val]
    go_region_held3 (fun w' => w'.cell? ⟨w.heap.size + 1, 0, none⟩ = some (.bool false) ∧ w'.cell? ⟨w.heap.size + 1, 1, none⟩ = some (.slice B m cb))
      (first | exact ⟨b0, b1⟩ | exact ⟨PBs.c0, PBs.c1⟩ | exact ⟨PBt.c0, PBt.c1⟩ | go_keep)
      (first
       | (go_at_call 74; refine (sum_any _ _ _ _ _ _ _ (digs (a / b)) [1] (a / b + 1) (HQ.out.drew.box _) (Lm.one _ 1 _ rfl (by omega)) (by omega) (by omega) HS.out).mono ?_; rintro e ws ⟨As, cs, rfl, hLs, hbs⟩; have Bs := (Below.refl w2.heap.size w2).drew.trans (bbox hbs); have PBs := PB2.via Bs; have LBs := Lib.hid (LB2.out.via Bs); have HRs := Lib.hid (HR.out.via Bs))
       | (go_at_call 75; refine (difference_any _ B R m (digs (a % b)).length cb cr (digs b) (digs (a % b)) (b - a % b) LBs.out HRs.out hr0 (by omega) HD.out HE.out).mono ?_; rintro e wt ⟨At, ct, rfl, hLt, hbt⟩; have PBt := PBs.via hbt))
    have PQz := (PQ2.via Bs).via hbt
    have PAz := (PA2.via Bs).via hbt
    have PRz := (PR2.via Bs).via hbt
    have HQz := Lib.hid (hLs.via hbt)
    have HRz := Lib.hid hLt
    have HBz := Lib.hid (HB2.out.trans ((Bs.trans (hbt.mono Bs.size)).mono HB2.out.size))
    clear PA2 PB2 PQ2 PR2 HQ HR HB2 a0 a1 b0 b1 hbs hbt Bs hLs hLt LBs HRs LB2 HS HD HE
    have PB2 := PBt
    have PA2 := PAz
    have PQ2 := PQz
    have PR2 := PRz
    have HQ := HQz
    have HR := HRz
    have HB2 := HBz
    clear PAz PBt PQz PRz HQz HRz HBz PBs
    have ⟨b0, b1, _, _, _⟩ := PB2
    have ⟨a0, a1, _, _, _⟩ := PA2
    go_wp2_with fail
    refine (made_any _ _ _ _ _ (a / b + 1) HQ.out).mono ?_
    rintro e w3 ⟨A3, n3, c3, rfl, hL3, hb3⟩
    rw [HLq.out] at hL3
    have PB3 := PB2.via hb3
    have PQ3 := PQ2.via hb3
    have PR3 := PR2.via hb3
    have HB3 := Lib.hid (HB2.out.trans (hb3.mono HB2.out.size))
    have HR3 := Lib.hid (HR.out.via hb3)
    have HL3 := Lib.hid hL3
    clear PA2 PB2 PQ2 PR2 HQ HR HB2 hb3 hL3 a0 a1 b0 b1
    have ⟨q0, q1, qf0, qf1, ql⟩ := PQ3
    have X4 := Lib.hid (PB3.far (h := w.heap.size + 1 + 1) (by omega) (.bool (mkN true (a / b + 1))) (.slice A3 n3 c3))
    have PQ4 := PQ3.set (.bool (mkN true (a / b + 1))) (.slice A3 n3 c3)
    have PR4 := PR3.far (h := w.heap.size + 1 + 1) (by omega) (.bool (mkN true (a / b + 1))) (.slice A3 n3 c3)
    have HR4 := Lib.hid (HR3.out.setP PQ3 (.bool (mkN true (a / b + 1))) (.slice A3 n3 c3))
    have HL4 := Lib.hid (HL3.out.setP PQ3 (.bool (mkN true (a / b + 1))) (.slice A3 n3 c3))
    have PB4 := X4.out
    have ⟨b0, b1, _, _, _⟩ := PB4
    go_wp2_with fail
    refine (made_any _ _ _ _ _ (b - a % b) HR4.out).mono ?_
    rintro e w5 ⟨A5, n5, c5, rfl, hL5, hb5⟩
    rw [HLr.out] at hL5
    have PQ5 := PQ4.via hb5
    have PR5 := PR4.via hb5
    have HB5 := Lib.hid ((below_set2 HB3.out (by omega) (.bool (mkN true (a / b + 1))) (.slice A3 n3 c3)).trans (hb5.mono (by rw [size_set2]; exact HB3.out.size)))
    have HL5 := Lib.hid (HL4.out.via hb5)
    have HM5 := Lib.hid hL5
    clear X4 HR3 HL3 HR4 HL4 PB3 PQ3 PR3 PQ4 PR4 PB4 hb5 hL5 q0 q1 qf0 qf1 b0 b1 HB3
    have ⟨r0, r1, rf0, rf1, rl⟩ := PR5
    have PQ6 := PQ5.far (h := w.heap.size + 1 + 1 + 1) (by omega) (.bool (mkN false (b - a % b))) (.slice A5 n5 c5)
    have PR6 := PR5.set (.bool (mkN false (b - a % b))) (.slice A5 n5 c5)
    have HL6 := Lib.hid (HL5.out.setP PR5 (.bool (mkN false (b - a % b))) (.slice A5 n5 c5))
    have HM6 := Lib.hid (HM5.out.setP PR5 (.bool (mkN false (b - a % b))) (.slice A5 n5 c5))
    have HB6 := Lib.hid (below_set2 HB5.out (by omega) (.bool (mkN false (b - a % b))) (.slice A5 n5 c5) (g := w.heap.size + 1 + 1 + 1))
    go_wp2_with fail
    generalize ((w5.setCell ⟨w.heap.size + 1 + 1 + 1, 0, none⟩ (.bool (mkN false (b - a % b)))).setCell ⟨w.heap.size + 1 + 1 + 1, 1, none⟩ (.slice A5 n5 c5)) = w6 at *
    clear PQ5 PR5 HL5 HM5 HB5 r0 r1 rf0 rf1 rl
    have ⟨q0, q1, qf0, qf1, ql⟩ := PQ6
    have ⟨r0, r1, rf0, rf1, rl⟩ := PR6
    go_region
    go_wp2
    refine post_ww Tryz.results46 rfl rfl rfl ((PQ6.set _ _).far (by omega) _ _).drew ((PR6.far (by omega) _ _).set _ _).drew ⟨A3, n3, c3, A5, n5, c5, rfl, ?_, ?_, ?_⟩
    · exact ((HL6.out.setP PQ6 _ _).setP (PR6.far (by omega) _ _) _ _).drew
    · exact ((HM6.out.setP PQ6 _ _).setP (PR6.far (by omega) _ _) _ _).drew
    · exact (below_set2 (below_set2 HB6.out (by omega) _ _) (by omega) _ _).drew
  · go_enter Tryz.func46, Tryz.ntmps46
    go_wp2_with fail
    refine (both_any _ _ _ _ _ _ _ _ _ _ _ 0 ((((HA.out.box _).box _).box _).box _) ((((HB.out.box _).box _).box _).box _) HV.out).mono ?_
    rintro e w1 ⟨rfl, hb1⟩
    have ⟨PA, PB, PQ, PR⟩ := boxes4 hb1
    have LA1 := Lib.hid (((((HA.out.box _).box _).box _).box _).via hb1)
    have LB1 := Lib.hid (((((HB.out.box _).box _).box _).box _).via hb1)
    have HB1 := Lib.hid (bbox (bbox (bbox (bbox hb1))))
    have ⟨a0, a1, _, _, _⟩ := PA
    have ⟨b0, b1, _, _, _⟩ := PB
    clear hb1
    go_wp2_with fail
    refine (divide_any w1 A B n m ca cb a b LA1.out LB1.out hb (by omega)).mono ?_
    rintro e w2 ⟨Q, cq, R, cr, rfl, hQ, hR, hb2⟩
    have PA2 := PA.via hb2
    have PB2 := PB.via hb2
    have PQ2 := PQ.via hb2
    have PR2 := PR.via hb2
    have HB2 := Lib.hid (HB1.out.trans (hb2.mono HB1.out.size))
    have HQ := Lib.hid hQ
    have HR := Lib.hid hR
    have LB2 := Lib.hid (LB1.out.via hb2)
    clear PA PB PQ PR LA1 LB1 HB1 a0 a1 b0 b1 hb2 hQ hR
    have ⟨a0, a1, _, _, _⟩ := PA2
    have ⟨b0, b1, _, _, _⟩ := PB2
    go_wp2_with fail
    have HS : Hid (val (digs (a / b)) + val [1] = a / b + 1) := by show _ = _; rw [digs_val, val_one]
    have HD : Hid (val (digs (a % b)) ≤ val (digs b)) := by show _ ≤ _; rw [digs_val, digs_val]; exact Nat.le_of_lt (Nat.mod_lt a hb)
    have HE : Hid (val (digs b) - val (digs (a % b)) = b - a % b) := by show _ = _; rw [digs_val, digs_val]
    go_region_held3 (fun w' => w'.cell? ⟨w.heap.size + 1, 0, none⟩ = some (.bool true) ∧ w'.cell? ⟨w.heap.size + 1, 1, none⟩ = some (.slice B m cb))
      (first | exact ⟨b0, b1⟩ | exact ⟨PBs.c0, PBs.c1⟩ | exact ⟨PBt.c0, PBt.c1⟩ | go_keep)
      (first
       | (go_at_call 74; refine (sum_any _ _ _ _ _ _ _ (digs (a / b)) [1] (a / b + 1) (HQ.out.drew.box _) (Lm.one _ 1 _ rfl (by omega)) (by omega) (by omega) HS.out).mono ?_; rintro e ws ⟨As, cs, rfl, hLs, hbs⟩; have Bs := (Below.refl w2.heap.size w2).drew.trans (bbox hbs); have PBs := PB2.via Bs; have LBs := Lib.hid (LB2.out.via Bs); have HRs := Lib.hid (HR.out.via Bs))
       | (go_at_call 75; refine (difference_any _ B R m (digs (a % b)).length cb cr (digs b) (digs (a % b)) (b - a % b) LBs.out HRs.out hr0 (by omega) HD.out HE.out).mono ?_; rintro e wt ⟨At, ct, rfl, hLt, hbt⟩; have PBt := PBs.via hbt))
    have PQz := (PQ2.via Bs).via hbt
    have PAz := (PA2.via Bs).via hbt
    have PRz := (PR2.via Bs).via hbt
    have HQz := Lib.hid (hLs.via hbt)
    have HRz := Lib.hid hLt
    have HBz := Lib.hid (HB2.out.trans ((Bs.trans (hbt.mono Bs.size)).mono HB2.out.size))
    clear PA2 PB2 PQ2 PR2 HQ HR HB2 a0 a1 b0 b1 hbs hbt Bs hLs hLt LBs HRs LB2 HS HD HE
    have PB2 := PBt
    have PA2 := PAz
    have PQ2 := PQz
    have PR2 := PRz
    have HQ := HQz
    have HR := HRz
    have HB2 := HBz
    clear PAz PBt PQz PRz HQz HRz HBz PBs
    have ⟨b0, b1, _, _, _⟩ := PB2
    have ⟨a0, a1, _, _, _⟩ := PA2
    go_wp2_with fail
    refine (made_any _ _ _ _ _ (a / b + 1) HQ.out).mono ?_
    rintro e w3 ⟨A3, n3, c3, rfl, hL3, hb3⟩
    rw [HLq.out] at hL3
    have PB3 := PB2.via hb3
    have PQ3 := PQ2.via hb3
    have PR3 := PR2.via hb3
    have HB3 := Lib.hid (HB2.out.trans (hb3.mono HB2.out.size))
    have HR3 := Lib.hid (HR.out.via hb3)
    have HL3 := Lib.hid hL3
    clear PA2 PB2 PQ2 PR2 HQ HR HB2 hb3 hL3 a0 a1 b0 b1
    have ⟨q0, q1, qf0, qf1, ql⟩ := PQ3
    have X4 := Lib.hid (PB3.far (h := w.heap.size + 1 + 1) (by omega) (.bool (mkN true (a / b + 1))) (.slice A3 n3 c3))
    have PQ4 := PQ3.set (.bool (mkN true (a / b + 1))) (.slice A3 n3 c3)
    have PR4 := PR3.far (h := w.heap.size + 1 + 1) (by omega) (.bool (mkN true (a / b + 1))) (.slice A3 n3 c3)
    have HR4 := Lib.hid (HR3.out.setP PQ3 (.bool (mkN true (a / b + 1))) (.slice A3 n3 c3))
    have HL4 := Lib.hid (HL3.out.setP PQ3 (.bool (mkN true (a / b + 1))) (.slice A3 n3 c3))
    have PB4 := X4.out
    have ⟨b0, b1, _, _, _⟩ := PB4
    go_wp2_with fail
    refine (made_any _ _ _ _ _ (b - a % b) HR4.out).mono ?_
    rintro e w5 ⟨A5, n5, c5, rfl, hL5, hb5⟩
    rw [HLr.out] at hL5
    have PQ5 := PQ4.via hb5
    have PR5 := PR4.via hb5
    have HB5 := Lib.hid ((below_set2 HB3.out (by omega) (.bool (mkN true (a / b + 1))) (.slice A3 n3 c3)).trans (hb5.mono (by rw [size_set2]; exact HB3.out.size)))
    have HL5 := Lib.hid (HL4.out.via hb5)
    have HM5 := Lib.hid hL5
    clear X4 HR3 HL3 HR4 HL4 PB3 PQ3 PR3 PQ4 PR4 PB4 hb5 hL5 q0 q1 qf0 qf1 b0 b1 HB3
    have ⟨r0, r1, rf0, rf1, rl⟩ := PR5
    have PQ6 := PQ5.far (h := w.heap.size + 1 + 1 + 1) (by omega) (.bool (mkN true (b - a % b))) (.slice A5 n5 c5)
    have PR6 := PR5.set (.bool (mkN true (b - a % b))) (.slice A5 n5 c5)
    have HL6 := Lib.hid (HL5.out.setP PR5 (.bool (mkN true (b - a % b))) (.slice A5 n5 c5))
    have HM6 := Lib.hid (HM5.out.setP PR5 (.bool (mkN true (b - a % b))) (.slice A5 n5 c5))
    have HB6 := Lib.hid (below_set2 HB5.out (by omega) (.bool (mkN true (b - a % b))) (.slice A5 n5 c5) (g := w.heap.size + 1 + 1 + 1))
    go_wp2_with fail
    generalize ((w5.setCell ⟨w.heap.size + 1 + 1 + 1, 0, none⟩ (.bool (mkN true (b - a % b)))).setCell ⟨w.heap.size + 1 + 1 + 1, 1, none⟩ (.slice A5 n5 c5)) = w6 at *
    clear PQ5 PR5 HL5 HM5 HB5 r0 r1 rf0 rf1 rl
    have ⟨q0, q1, qf0, qf1, ql⟩ := PQ6
    have ⟨r0, r1, rf0, rf1, rl⟩ := PR6
    go_region
    go_wp2
    refine post_ww Tryz.results46 rfl rfl rfl ((PQ6.set _ _).far (by omega) _ _).drew ((PR6.far (by omega) _ _).set _ _).drew ⟨A3, n3, c3, A5, n5, c5, rfl, ?_, ?_, ?_⟩
    · exact ((HL6.out.setP PQ6 _ _).setP (PR6.far (by omega) _ _) _ _).drew
    · exact ((HM6.out.setP PQ6 _ _).setP (PR6.far (by omega) _ _) _ _).drew
    · exact (below_set2 (below_set2 HB6.out (by omega) _ _) (by omega) _ _).drew
end Go.Proofs.YtglgfjknhplajaaGreatDoor

/-
  Contracts of the reference's small functions: Check, trim, made, From, Great.
-/
namespace Go.Proofs.YtglgfjknhplajaaGreatDoor
open Go.RowKit

set_option maxRecDepth 100000 in
set_option maxHeartbeats 400000 in
theorem rcheck_any (w : World) (neg : Bool) (A : Option Addr) (n c : Nat) (xs : List Nat) (h : Lm w w.heap.size A n c xs) :
    Calls Tryz.prog 82 #[.agg #[.bool neg, .slice A n c]] w fun e w' => e = .returned (.int .i64 (chk neg xs)) ∧ Below w.heap.size w w' := by
  have hr := h.max
  have hcn := h.cap
  have hl := h.len
  by_cases h1 : 4096 < n
  · have HC : Hid (chk neg xs = 8) := by unfold chk; rw [if_pos (by omega)]; exact (rfl : (8 : Int) = 8)
    go_enter Tryz.func82, Tryz.ntmps82
    go_wp2
    go_ret
    exact ⟨ret_int HC.out.symm, by go_grown⟩
  · rcases n with _ | n
    · have hx : xs = [] := List.eq_nil_of_length_eq_zero hl
      have HC : Hid (chk neg xs = if neg = true then 8 else 0) := by show _ = _; unfold chk; simp [hx]
      clear hx
      cases neg
      · go_enter Tryz.func82, Tryz.ntmps82
        go_wp2
        go_ret
        exact ⟨ret_int HC.out.symm, by go_grown⟩
      · go_enter Tryz.func82, Tryz.ntmps82
        go_wp2
        go_ret
        exact ⟨ret_int HC.out.symm, by go_grown⟩
    · obtain ⟨b, off, rfl, hb, hck⟩ := h.cell (k := n) (by omega)
      have hlast := last_get (xs := xs) (by omega)
      rw [hl] at hlast
      have hne : xs ≠ [] := by rintro rfl; simp at hl
      have HC : Hid (chk neg xs = if xs[n]?.getD 0 = 0 then 8 else 0) := by
        unfold chk
        rw [if_neg (by omega), if_neg (fun e => hne e.1)]
        simp only [hlast]
        exact (rfl : _ = _)
      clear hlast hne hl
      by_cases hz : xs[n]?.getD 0 = 0
      · have HZ := Lib.hid hz
        have hz' : (((xs[n]?.getD 0 : Nat) : Int) == 0) = true := by simp [hz]
        clear hz
        go_enter Tryz.func82, Tryz.ntmps82
        go_wp2
        go_ret
        exact ⟨ret_int (by rw [HC.out, if_pos HZ.out]), by go_grown⟩
      · have HZ := Lib.hid hz
        have hz' : (((xs[n]?.getD 0 : Nat) : Int) == 0) = false := by simp [hz]
        clear hz
        go_enter Tryz.func82, Tryz.ntmps82
        go_wp2
        go_ret
        exact ⟨ret_int (by rw [HC.out, if_neg HZ.out]), by go_grown⟩

theorem rcheck_ok (w : World) (neg : Bool) (A : Option Addr) (n c : Nat) (xs : List Nat) (h : Lm w w.heap.size A n c xs) (hc : chk neg xs = 0) :
    Calls Tryz.prog 82 #[.agg #[.bool neg, .slice A n c]] w fun e w' => e = .returned (.int .i64 0) ∧ Below w.heap.size w w' :=
  (rcheck_any w neg A n c xs h).mono fun _ _ ⟨he, hb⟩ => ⟨by rw [he, hc], hb⟩
theorem rcheck_bad (w : World) (neg : Bool) (A : Option Addr) (n c : Nat) (xs : List Nat) (h : Lm w w.heap.size A n c xs) (hc : chk neg xs = 8) :
    Calls Tryz.prog 82 #[.agg #[.bool neg, .slice A n c]] w fun e w' => e = .returned (.int .i64 8) ∧ Below w.heap.size w w' :=
  (rcheck_any w neg A n c xs h).mono fun _ _ ⟨he, hb⟩ => ⟨by rw [he, hc], hb⟩


set_option maxRecDepth 100000 in
set_option maxHeartbeats 400000 in
theorem rtrim_any (w : World) (A : Option Addr) (n c : Nat) (xs : List Nat) (v : Nat) (h : Lm w w.heap.size A n c xs) (hv : val xs = v) (hn : n ≤ 1000000000) :
    Calls Tryz.prog 84 #[.slice A n c] w fun e w' => ∃ A' c', e = .returned (.slice A' (digs v).length c') ∧ Lm w' w'.heap.size A' (digs v).length c' (digs v) ∧ Below w.heap.size w w' := by
  subst hv
  obtain ⟨i0, hi0, hz0, hz1, hz2⟩ := info_parts u32_info
  have hr := h.max
  have hcn := h.cap
  have HH := Lib.hid h
  have HD := Lib.hid (tr_len h.good h.len)
  have HT' := Lib.hid (tr_digs h.good h.len)
  go_enter Tryz.func84, Tryz.ntmps84
  go_wp2
  go_loop [3] (fun v => ∃ k : Nat, k ≤ n ∧ v = .int .i64 k ∧ tr xs k = tr xs n) (fun v => (intOf v).toNat)
  case atStart => exact ⟨n, Nat.le_refl _, rfl, rfl⟩
  case round =>
    obtain ⟨k, hk, rfl, ht⟩ := hrel
    have HT := Lib.hid ht
    clear ht
    have HS := Lib.hid ((HH.out.box (.cells #[] 76)).take hk)
    rcases k with _ | k
    · go_wp2_with (at_builtin; refine wpList_append_lm _ rfl _ _ _ rfl w.heap.size _ i0 slice_u32 hi0 hz0 hz1 hz2 _ 0 [] rfl (World.ownsRow_made _ _ _ (Nat.le_refl _) (by simp [maxLen]) rfl) _ _ _ _ (xs.take 0) rfl HS.out (by simp only [maxLen]; omega) (by omega) (by simp) ?_; intro v1 w1 hown1 hg1)
      go_ret
      rw [Nat.zero_add, List.nil_append] at hown1
      obtain ⟨A', c', rfl, hL⟩ := Lm.own hown1 (h.good.take _)
      have e1 : (digs (val xs)).length = 0 := by rw [← HD.out, ← HT.out]; rfl
      have e2 : digs (val xs) = [] := List.eq_nil_of_length_eq_zero e1
      rw [e2]
      refine ⟨A', c', rfl, hL, ((Below.refl _ _).alloc (Nat.le_refl _) _).grown hg1 (by simp) (fun k hk => ?_)⟩
      have e : w.heap.size = k := Option.some.inj hk
      omega
    · obtain ⟨b, off, rfl, hb, hck⟩ := h.cell (k := k) (by omega)
      by_cases hz : xs[k]?.getD 0 = 0
      · have HZ := Lib.hid hz
        have hz' : (((xs[k]?.getD 0 : Nat) : Int) == 0) = true := by simp [hz]
        clear hz
        go_wp2
        go_round
        case rel => exact ⟨k, by omega, rfl, by rw [← HT.out, tr, if_pos HZ.out]⟩
        case measure => simp [intOf]
      · have HZ := Lib.hid hz
        have hz' : (((xs[k]?.getD 0 : Nat) : Int) == 0) = false := by simp [hz]
        clear hz
        go_wp2_with (at_builtin; refine wpList_append_lm _ rfl _ _ _ rfl w.heap.size _ i0 slice_u32 hi0 hz0 hz1 hz2 _ 0 [] rfl (World.ownsRow_made _ _ _ (Nat.le_refl _) (by simp [maxLen]) rfl) _ _ _ _ (xs.take (k + 1)) rfl HS.out (by simp only [maxLen]; omega) (by omega) (by simp) ?_; intro v1 w1 hown1 hg1)
        go_ret
        rw [Nat.zero_add, List.nil_append] at hown1
        obtain ⟨A', c', rfl, hL⟩ := Lm.own hown1 (h.good.take _)
        have e1 : tr xs n = k + 1 := by rw [← HT.out, tr, if_neg HZ.out]
        have e2 : xs.take (k + 1) = digs (val xs) := by rw [← e1]; exact HT'.out
        have e3 : (digs (val xs)).length = k + 1 := by rw [← HD.out, e1]
        rw [e3, ← e2]
        refine ⟨A', c', rfl, hL, ((Below.refl _ _).alloc (Nat.le_refl _) _).grown hg1 (by simp) (fun k hk => ?_)⟩
        have e : w.heap.size = k := Option.some.inj hk
        omega

end Go.Proofs.YtglgfjknhplajaaGreatDoor

/-
  The contract of the reference's compare.
-/
namespace Go.Proofs.YtglgfjknhplajaaGreatDoor
open Go.RowKit

set_option maxRecDepth 100000 in
set_option maxHeartbeats 400000 in
theorem rcompare_len (A B : Option Addr) (n m ca cb : Nat) (xs ys : List Nat) (w : World) (hA : Lm w w.heap.size A n ca xs) (hB : Lm w w.heap.size B m cb ys) (hne : n ≠ m) :
    Calls Tryz.prog 67 #[.slice A n ca, .slice B m cb] w fun e w' => e = .returned (.int .i64 (cmpL xs ys)) ∧ ∃ d, w' = w.drewN d := by
  have h1 := hA.cap
  have h2 := hA.max
  have h3 := hB.cap
  have h4 := hB.max
  have HC : Hid (cmpL xs ys = cmpZ n m) := by
    show _ = _
    unfold cmpL cmpZ
    rw [hA.len, hB.len]
    rcases Nat.lt_or_ge n m with h | h
    · rw [if_pos h, if_pos (by omega)]
    · rw [if_neg (by omega), if_pos (by omega), if_neg (by omega), if_neg (by omega)]
  have hb : (((n : Int) == (m : Int))) = false := by simp; omega
  have hb2 : (((n : Int) != (m : Int))) = true := by simp; omega
  rcases Nat.lt_or_ge n m with h | h
  · have HE : Hid (cmpZ n m = -1) := by show _ = _; unfold cmpZ; rw [if_pos (by omega)]
    clear hne
    go_enter Tryz.func67, Tryz.ntmps67
    go_wp2
    go_ret
    exact ⟨ret_int (by rw [HC.out, HE.out]), 0, rfl⟩
  · have HE : Hid (cmpZ n m = 1) := by show _ = _; unfold cmpZ; rw [if_neg (by omega), if_neg (by omega)]
    have h' : m < n := by omega
    clear hne h
    go_enter Tryz.func67, Tryz.ntmps67
    go_wp2
    go_ret
    exact ⟨ret_int (by rw [HC.out, HE.out]), 0, rfl⟩

set_option maxRecDepth 100000 in
set_option maxHeartbeats 800000 in
theorem rcompare_eq (A B : Option Addr) (n ca cb : Nat) (xs ys : List Nat) (w : World) (hA : Lm w w.heap.size A n ca xs) (hB : Lm w w.heap.size B n cb ys) :
    Calls Tryz.prog 67 #[.slice A n ca, .slice B n cb] w fun e w' => e = .returned (.int .i64 (cmpL xs ys)) ∧ ∃ d, w' = w.drewN d := by
  have h1 := hA.cap
  have h2 := hA.max
  have h3 := hB.cap
  have h4 := hB.max
  go_enter Tryz.func67, Tryz.ntmps67
  go_wp2
  go_loopw [5] (fun i wr => ∃ m d : Nat, m ≤ n ∧ i = .int .i64 ((m : Int) - 1) ∧ xs.drop m = ys.drop m ∧ wr = w.drewN d) (fun i _ => (intOf i + 1).toNat)
  case atStart => exact ⟨n, 0, Nat.le_refl _, rfl, by rw [List.drop_of_length_le (by rw [hA.len]; exact Nat.le_refl _), List.drop_of_length_le (by rw [hB.len]; exact Nat.le_refl _)], rfl⟩
  case round =>
    obtain ⟨m, d, hm, rfl, hd, rfl⟩ := hrel
    have HD := Lib.hid hd
    clear hd
    rcases m with _ | m
    · go_wp2
      go_ret
      exact ⟨ret_int (cmpL_of_drop HD.out).symm, d, rfl⟩
    · obtain ⟨b, off, rfl, hb, hc⟩ := hA.cell (k := m) (by omega)
      obtain ⟨b', off', rfl, hb', hc'⟩ := hB.cell (k := m) (by omega)
      have hmm : (((m + 1 : Nat) : Int) - 1) = (m : Int) := by omega
      rw [hmm]
      have hm0 : (0 : Int) ≤ (m : Int) := Int.natCast_nonneg _
      have hm1 : (m : Int) < (n : Int) := by omega
      rcases Nat.lt_trichotomy (xs[m]?.getD 0) (ys[m]?.getD 0) with h | h | h
      · have HE : Hid (cmpL xs ys = -1) := by show _ = _; rw [cmpL_at hA.good hB.good hA.len hB.len (by omega) HD.out (by omega), cmpN_lt h]
        go_wp2
        go_quiet (fail)
        go_wp2
        go_ret
        exact ⟨ret_int HE.out.symm, _, World.drewN_drewN _ _ _⟩
      · have HE := Lib.hid h
        have hlt : decide (xs[m]?.getD 0 < ys[m]?.getD 0) = false := by simp; omega
        have hgt : decide (ys[m]?.getD 0 < xs[m]?.getD 0) = false := by simp; omega
        clear h
        go_wp2
        go_quiet (fail)
        go_wp2
        go_quiet (fail)
        go_wp2
        go_roundw
        case rel => exact ⟨m, _, by omega, rfl, drop_step hA.len hB.len (by omega) HD.out HE.out, rfl⟩
        case measure => simp [intOf]
      · have HE : Hid (cmpL xs ys = 1) := by show _ = _; rw [cmpL_at hA.good hB.good hA.len hB.len (by omega) HD.out (by omega), cmpN_gt h]
        have hlt : decide (xs[m]?.getD 0 < ys[m]?.getD 0) = false := by simp; omega
        go_wp2
        go_quiet (fail)
        go_wp2
        go_quiet (fail)
        go_wp2
        go_ret
        exact ⟨ret_int HE.out.symm, _, by rw [World.drewN_drewN, World.drewN_drewN]⟩

theorem rcompare_any (A B : Option Addr) (n m ca cb : Nat) (xs ys : List Nat) (w : World) (hA : Lm w w.heap.size A n ca xs) (hB : Lm w w.heap.size B m cb ys) :
    Calls Tryz.prog 67 #[.slice A n ca, .slice B m cb] w fun e w' => e = .returned (.int .i64 (cmpL xs ys)) ∧ ∃ d, w' = w.drewN d := by
  by_cases h : n = m
  · subst h
    exact rcompare_eq A B n ca cb xs ys w hA hB
  · exact rcompare_len A B n m ca cb xs ys w hA hB h

end Go.Proofs.YtglgfjknhplajaaGreatDoor

/-
  Contracts of the reference's made, Neg, Abs.
-/
namespace Go.Proofs.YtglgfjknhplajaaGreatDoor
open Go.RowKit

set_option maxRecDepth 100000 in
set_option maxHeartbeats 400000 in
theorem rmade_any (w : World) (neg : Bool) (A : Option Addr) (n c : Nat) (xs : List Nat) (v : Nat) (h : Lm w w.heap.size A n c xs) (hv : val xs = v) (hn : n ≤ 1000000000) :
    Calls Tryz.prog 54 #[.bool neg, .slice A n c] w (RW w (mkN neg v) (mkL v) (mkE v)) := by
  have HH := Lib.hid h
  have HV := Lib.hid hv
  clear hv
  by_cases h1 : 4096 < (digs v).length
  · have HN : Hid (mkN neg v = false) := by show _ = _; unfold mkN; rw [decide_eq_false (by omega)]; rfl
    have HL : Hid (mkL v = []) := by show _ = _; unfold mkL; rw [if_neg (by omega)]
    have HE : Hid (mkE v = 16) := by show _ = _; unfold mkE; rw [if_neg (by omega)]
    go_enter Tryz.func54, Tryz.ntmps54
    go_wp2_with (go_at_call 84; refine (rtrim_any _ _ _ _ xs v (HH.out.box _) HV.out hn).mono ?_; rintro e w1 ⟨A1, c1, rfl, hL1, hb1⟩; have ⟨hy0, hy1, hf0, hf1, hsz⟩ := box1 hb1; have hcap1 := hL1.cap; have hmax1 := hL1.max)
    rw [HN.out, HL.out, HE.out]
    exact post_ws Tryz.results54 rfl rfl hy0 hy1 ⟨none, 0, 0, rfl, Lm.nil _ _, below_set2 (bbox hb1) (by omega) _ _⟩
  · have HL : Hid (mkL v = digs v) := by show _ = _; unfold mkL; rw [if_pos (by omega)]
    have HE : Hid (mkE v = 0) := by show _ = _; unfold mkE; rw [if_pos (by omega)]
    have HN : Hid (mkN neg v = (neg && decide (0 < (digs v).length))) := by
      show _ = _
      unfold mkN
      rw [decide_eq_true (by omega), Bool.true_and]
      congr 1
      have hp := digs_pos (n := v)
      by_cases h0 : v = 0
      · rw [decide_eq_false (by omega), decide_eq_false (by omega)]
      · rw [decide_eq_true h0, decide_eq_true (by omega)]
    cases neg
    all_goals
      go_enter Tryz.func54, Tryz.ntmps54
      go_wp2_with (go_at_call 84; refine (rtrim_any _ _ _ _ xs v (HH.out.box _) HV.out hn).mono ?_; rintro e w1 ⟨A1, c1, rfl, hL1, hb1⟩; have ⟨hy0, hy1, hf0, hf1, hsz⟩ := box1 hb1; have hcap1 := hL1.cap; have hmax1 := hL1.max)
      rw [HN.out, HL.out, HE.out]
      refine post_ws Tryz.results54 rfl rfl hy0 hy1 ⟨A1, _, c1, rfl, hL1.set2 hy0 hy1 _ _, below_set2 (bbox hb1) (by omega) _ _⟩

set_option maxRecDepth 100000 in
set_option maxHeartbeats 400000 in
theorem rneg_bad (w : World) (neg : Bool) (A : Option Addr) (n c : Nat) (xs : List Nat) (h : Lm w w.heap.size A n c xs) (hc : chk neg xs = 8) :
    Calls Tryz.prog 52 #[.agg #[.bool neg, .slice A n c]] w (RW w false [] 8) := by
  have HH := Lib.hid h
  have HC := Lib.hid hc
  clear hc
  go_enter Tryz.func52, Tryz.ntmps52
  go_wp2_with fail
  refine (rcheck_bad _ _ _ _ _ _ ((HH.out.box _).box _) HC.out).mono ?_
  rintro e w1 ⟨rfl, hb1⟩
  have ⟨hx0, hx1, hy0, hy1, hf0, hf1, hsz⟩ := box2 hb1
  go_wp2_with fail
  refine (rcheck_bad _ _ _ _ _ _ (((HH.out.box _).box _).via hb1) HC.out).mono ?_
  rintro e w2 ⟨rfl, hb2⟩
  have hky2 := keep2 hb2 hsz ⟨hy0, hy1⟩
  have ⟨hkf0, hkf1⟩ := keepF hb2 hsz ⟨hf0, hf1⟩
  go_wp2
  exact post_ws Tryz.results52 rfl rfl hky2.1 hky2.2 ⟨none, 0, 0, rfl, Lm.nil _ _, below_set2 ((bbox (bbox hb1)).trans (hb2.mono (by omega))) (by omega) _ _⟩

set_option maxRecDepth 100000 in
set_option maxHeartbeats 400000 in
theorem rneg_ok (w : World) (neg : Bool) (A : Option Addr) (n c v : Nat) (h : Lm w w.heap.size A n c (digs v)) (hc : chk neg (digs v) = 0) :
    Calls Tryz.prog 52 #[.agg #[.bool neg, .slice A n c]] w (RW w (mkN (!neg) v) (mkL v) (mkE v)) := by
  have hl := (chk_ok.1 hc).1
  rw [h.len] at hl
  have HH := Lib.hid h
  have HC := Lib.hid hc
  have HV := Lib.hid (digs_val v)
  clear hc
  go_enter Tryz.func52, Tryz.ntmps52
  go_wp2_with (first
    | (go_at_call 82; refine (rcheck_ok _ _ _ _ _ _ ((HH.out.box _).box _) HC.out).mono ?_; rintro e w1 ⟨rfl, hb1⟩; have ⟨hx0, hx1, hy0, hy1, hf0, hf1, hsz⟩ := box2 hb1; have HL := Lib.hid (((HH.out.box _).box _).via hb1))
    | (go_at_call 54; refine (rmade_any _ _ _ _ _ _ v HL.out HV.out (by omega)).mono ?_; rintro e w3 ⟨A3, n3, c3, rfl, hL3, hb3⟩; have hky3 := keep2 hb3 hsz ⟨hy0, hy1⟩; have ⟨hkf30, hkf31⟩ := keepF hb3 hsz ⟨hf0, hf1⟩))
  exact post_ws Tryz.results52 rfl rfl hky3.1 hky3.2 ⟨A3, n3, c3, rfl, hL3.set2 hky3.1 hky3.2 _ _, below_set2 ((bbox (bbox hb1)).trans (hb3.mono (by omega))) (by omega) _ _⟩

end Go.Proofs.YtglgfjknhplajaaGreatDoor

/-
  Contracts of the reference's both, Same, Compared.
-/
namespace Go.Proofs.YtglgfjknhplajaaGreatDoor
open Go.RowKit

set_option maxRecDepth 100000 in
set_option maxHeartbeats 400000 in
theorem rboth_any (w : World) (na nb : Bool) (A B : Option Addr) (n m ca cb : Nat) (xs ys : List Nat) (hA : Lm w w.heap.size A n ca xs) (hB : Lm w w.heap.size B m cb ys) (v : Int) (hv : chkB na xs nb ys = v) :
    Calls Tryz.prog 65 #[.agg #[.bool na, .slice A n ca], .agg #[.bool nb, .slice B m cb]] w fun e w' => e = .returned (.int .i64 v) ∧ Below w.heap.size w w' := by
  have HA := Lib.hid hA
  have HB := Lib.hid hB
  have HV := Lib.hid hv
  clear hv
  rcases chk_cases na xs with hc | hc
  · have HC := Lib.hid hc
    have HE : Hid (chkB na xs nb ys = chk nb ys) := by show _ = _; unfold chkB; rw [if_pos hc]
    clear hc
    go_enter Tryz.func65, Tryz.ntmps65
    go_wp2_with fail
    refine (rcheck_ok _ _ _ _ _ _ ((HA.out.box _).box _) HC.out).mono ?_
    rintro e w1 ⟨rfl, hb1⟩
    have ⟨hx0, hx1, hy0, hy1, hf0, hf1, hsz⟩ := box2 hb1
    go_wp2_with fail
    refine (rcheck_any _ _ _ _ _ _ (((HB.out.box _).box _).via hb1)).mono ?_
    rintro e w2 ⟨rfl, hb2⟩
    go_wp2
    go_ret
    exact ⟨ret_int (by rw [← HV.out, HE.out]), (bbox (bbox hb1)).trans (hb2.mono (by omega))⟩
  · have HC := Lib.hid hc
    have HE : Hid (chkB na xs nb ys = 8) := by show _ = _; unfold chkB; rw [if_neg (by omega), hc]
    clear hc
    go_enter Tryz.func65, Tryz.ntmps65
    go_wp2_with fail
    refine (rcheck_bad _ _ _ _ _ _ ((HA.out.box _).box _) HC.out).mono ?_
    rintro e w1 ⟨rfl, hb1⟩
    have ⟨hx0, hx1, hy0, hy1, hf0, hf1, hsz⟩ := box2 hb1
    go_wp2_with fail
    refine (rcheck_bad _ _ _ _ _ _ (((HA.out.box _).box _).via hb1) HC.out).mono ?_
    rintro e w2 ⟨rfl, hb2⟩
    go_wp2
    go_ret
    exact ⟨ret_int (by rw [← HV.out, HE.out]), (bbox (bbox hb1)).trans (hb2.mono (by omega))⟩

def sameB (na : Bool) (xs : List Nat) (nb : Bool) (ys : List Nat) : Bool := na == nb && cmpL xs ys == 0
theorem sameB_self (na : Bool) (xs : List Nat) : sameB na xs na xs = true := by
  unfold sameB
  rw [cmpL_of_drop rfl]
  cases na <;> rfl
set_option maxRecDepth 100000 in
set_option maxHeartbeats 400000 in
theorem rsame_any (w : World) (na nb : Bool) (A B : Option Addr) (n m ca cb : Nat) (xs ys : List Nat) (hA : Lm w w.heap.size A n ca xs) (hB : Lm w w.heap.size B m cb ys) :
    Calls Tryz.prog 91 #[.agg #[.bool na, .slice A n ca], .agg #[.bool nb, .slice B m cb]] w fun e w' => e = .returned (.bool (sameB na xs nb ys)) ∧ Below w.heap.size w w' := by
  have HA := Lib.hid hA
  have HB := Lib.hid hB
  by_cases hne : na = nb
  · have HS : Hid (sameB na xs nb ys = (cmpL xs ys == 0)) := by show _ = _; unfold sameB; subst hne; cases na <;> rfl
    have hbe : (na == nb) = true := by simpa using hne
    clear hne
    go_enter Tryz.func91, Tryz.ntmps91
    go_wp2_with (go_at_call 67; refine (rcompare_any _ _ _ _ _ _ xs ys _ ((HA.out.box _).box _) ((HB.out.box _).box _)).mono ?_; rintro e w1 ⟨rfl, d, rfl⟩)
    go_ret
    refine ⟨by rw [HS.out]; rfl, bdrewN (((Below.refl _ _).alloc (Nat.le_refl _) _).alloc (by simp) _) _⟩
  · have HS : Hid (sameB na xs nb ys = false) := by show _ = _; unfold sameB; cases na <;> cases nb <;> first | rfl | exact absurd rfl hne
    have hbe : (na == nb) = false := by simpa using hne
    clear hne
    go_enter Tryz.func91, Tryz.ntmps91
    go_wp2
    go_ret
    refine ⟨by rw [HS.out]; rfl, ((Below.refl _ _).alloc (Nat.le_refl _) _).alloc (by simp) _⟩

theorem cmpN_neg (a b : Nat) : cmpN b a = -1 * cmpN a b := by
  rcases Nat.lt_trichotomy a b with h | h | h
  · rw [cmpN_lt h, cmpN_gt h]; rfl
  · subst h; rw [cmpN_self]; rfl
  · rw [cmpN_lt h, cmpN_gt h]; rfl
set_option maxRecDepth 100000 in
set_option maxHeartbeats 400000 in
theorem rcompared_any (w : World) (na nb : Bool) (A B : Option Addr) (n m ca cb a b : Nat) (hA : Lm w w.heap.size A n ca (digs a)) (hB : Lm w w.heap.size B m cb (digs b)) (hva : na = true → a ≠ 0) (hvb : nb = true → b ≠ 0) :
    Calls Tryz.prog 44 #[.agg #[.bool na, .slice A n ca], .agg #[.bool nb, .slice B m cb]] w fun e w' => e = .returned (.int .i64 (cmpZ (toI na a) (toI nb b))) ∧ Below w.heap.size w w' := by
  have HA := Lib.hid hA
  have HB := Lib.hid hB
  have HC := Lib.hid (cmp_toI hva hvb)
  have HN : Hid (cmpL (digs a) (digs b) = cmpN a b) := by show _ = _; rw [cmpL_norm (digs_good _) (digs_good _) (digs_norm _) (digs_norm _), digs_val, digs_val]
  have HM : Hid (cmpL (digs b) (digs a) = -1 * cmpN a b) := by show _ = _; rw [cmpL_norm (digs_good _) (digs_good _) (digs_norm _) (digs_norm _), digs_val, digs_val, cmpN_neg]
  clear hva hvb
  have hbl := ((Below.refl w.heap.size w).alloc (Nat.le_refl _) (.cells #[.bool na, .slice A n ca] 29)).alloc (by simp) (.cells #[.bool nb, .slice B m cb] 29)
  have HBL := Lib.hid hbl
  clear hbl
  cases na <;> cases nb
  · have HE : Hid (cmpZ (toI false a) (toI false b) = cmpL (digs a) (digs b)) := by show _ = _; rw [HC.out, HN.out, if_pos rfl]; exact Int.one_mul _
    clear HC HN HM
    go_enter Tryz.func44, Tryz.ntmps44
    go_wp2_with (go_at_call 67; refine (rcompare_any _ _ _ _ _ _ (digs a) (digs b) _ ((HA.out.box _).box _) ((HB.out.box _).box _)).mono ?_; rintro e w1 ⟨rfl, d, rfl⟩)
    go_ret
    exact ⟨ret_int HE.out.symm, bdrewN HBL.out _⟩
  · have HE : Hid (cmpZ (toI false a) (toI true b) = 1) := by show _ = _; rw [HC.out, if_neg (by decide)]; rfl
    clear HC HN HM
    go_enter Tryz.func44, Tryz.ntmps44
    go_wp2
    go_ret
    exact ⟨ret_int HE.out.symm, HBL.out⟩
  · have HE : Hid (cmpZ (toI true a) (toI false b) = -1) := by show _ = _; rw [HC.out, if_neg (by decide)]; rfl
    clear HC HN HM
    go_enter Tryz.func44, Tryz.ntmps44
    go_wp2
    go_ret
    exact ⟨ret_int HE.out.symm, HBL.out⟩
  · have HE : Hid (cmpZ (toI true a) (toI true b) = cmpL (digs b) (digs a)) := by show _ = _; rw [HC.out, HM.out, if_pos rfl]; rfl
    clear HC HN HM
    go_enter Tryz.func44, Tryz.ntmps44
    go_wp2_with (go_at_call 67; refine (rcompare_any _ _ _ _ _ _ (digs b) (digs a) _ ((HB.out.box _).box _) ((HA.out.box _).box _)).mono ?_; rintro e w1 ⟨rfl, d, rfl⟩)
    go_ret
    exact ⟨ret_int HE.out.symm, bdrewN HBL.out _⟩

end Go.Proofs.YtglgfjknhplajaaGreatDoor

/-
  Contracts of the reference's Cmp, Sign, Bits.
-/
namespace Go.Proofs.YtglgfjknhplajaaGreatDoor
open Go.RowKit

theorem chkB_zero (neg : Bool) (xs : List Nat) : chkB neg xs false [] = chk neg xs := by
  unfold chkB
  split
  · next h => rw [h]; rfl
  · rfl
theorem cmp_zero {neg : Bool} {v : Nat} (h : neg = true → v ≠ 0) : cmpZ (toI neg v) (toI false 0) = signZ neg v := by
  unfold signZ toI cmpZ sideZ
  cases neg
  · by_cases h0 : v = 0
    · subst h0; rfl
    · rw [if_neg h0]
      show (if (v : Int) < 0 then -1 else if (v : Int) = 0 then 0 else 1) = (1 : Int)
      rw [if_neg (by omega), if_neg (by omega)]
  · have h0 := h rfl
    rw [if_neg h0]
    show (if -(v : Int) < 0 then -1 else if -(v : Int) = 0 then 0 else 1) = (-1 : Int)
    rw [if_pos (by omega)]
end Go.Proofs.YtglgfjknhplajaaGreatDoor

/-
  Contracts of the reference's Int.
-/
namespace Go.Proofs.YtglgfjknhplajaaGreatDoor
open Go.RowKit

end Go.Proofs.YtglgfjknhplajaaGreatDoor

/-
  Contracts of the reference's Great, From.
-/
namespace Go.Proofs.YtglgfjknhplajaaGreatDoor
open Go.RowKit

/-- Numbers above the statements' size, unless they have too many limbs. -/
def greatB (n : Nat) : Bool := (decide (300 < n) && decide (n ≤ 4096)) || decide (4106 < n)
set_option maxRecDepth 100000 in
set_option maxHeartbeats 400000 in
theorem rfrom_any (w : World) (m : Int) (h1 : -9223372036854775808 ≤ m) (h2 : m ≤ 9223372036854775807) :
    Calls Tryz.prog 25 #[.int .i64 m] w fun e w' => ∃ A n c, e = .returned (.agg #[.bool (decide (m < 0)), .slice A n c]) ∧ Lm w' w'.heap.size A n c (digs m.natAbs) ∧ Below w.heap.size w w' := by
  obtain ⟨v, hv⟩ : ∃ v, v = m.natAbs := ⟨_, rfl⟩
  have hv2 : v < 18446744073709551616 := by omega
  have HV := Lib.hid hv
  have hd : (digs v).length ≤ 4096 := by
    have h3 : (digs v).length ≤ 2 := digs_len.2 (by omega)
    omega
  have HN : Hid (mkN (decide (m < 0)) v = decide (m < 0)) := by
    show _ = _
    unfold mkN
    rw [decide_eq_true hd, Bool.true_and]
    by_cases hm : m < 0
    · rw [decide_eq_true hm, decide_eq_true (show v ≠ 0 by omega)]; rfl
    · rw [decide_eq_false hm]; rfl
  have HL : Hid (mkL v = digs v) := by show _ = _; unfold mkL; rw [if_pos hd]
  clear hd
  by_cases hm : m < 0
  · have HM : Hid (decide (m < 0) = true) := by show _ = _; simpa using hm
    have HW : Hid (IntKind.u64.wrap (-IntKind.u64.wrap m) = (v : Int)) := by show _ = _; rw [IntKind.wrap_u64, IntKind.wrap_u64]; omega
    clear hv
    go_enter Tryz.func25, Tryz.ntmps25
    go_wp2_with fail
    rw [HW.out]
    refine (rmade_any _ _ _ _ _ _ v ((Lm.two _ (w.heap.size + 1) _ (v % 4294967296) (v / 4294967296 % 4294967296) _ _ (by simp) (by omega) (by omega) (by omega) (by omega)).mono (by simp)) (val2 v hv2) (by omega)).mono ?_
    rintro e w1 ⟨A1, n1, c1, rfl, hL1, hb1⟩
    have ⟨hy0, hy1, hf0, hf1, hsz⟩ := box1 (bbox hb1)
    go_wp2
    have ⟨r0, r1⟩ := set2 (.bool (mkN true v)) (.slice A1 n1 c1) hy0 hy1
    have ⟨q0, q1⟩ := alloc2 (.cells #[.bool (mkN true v), .slice A1 n1 c1] 29) (by simp [World.size_setCell]; omega) r0 r1
    refine post_w1 Tryz.results25 rfl rfl q0 q1 ⟨A1, n1, c1, ?_, ?_, ?_⟩
    · have e := HN.out
      rw [HM.out] at e ⊢
      rw [e]
    · have e := (hL1.set2 hy0 hy1 (.bool (mkN true v)) (.slice A1 n1 c1)).box (.cells #[.bool (mkN true v), .slice A1 n1 c1] 29)
      rw [HL.out] at e
      rw [← HV.out]
      exact e
    · exact (below_set2 (bbox (bbox hb1)) (Nat.le_refl _) _ _).alloc (by simp [World.size_setCell]; omega) _
  · have HM : Hid (decide (m < 0) = false) := by show _ = _; simpa using hm
    have HW : Hid (m = (v : Int)) := by show _ = _; omega
    clear hv
    go_enter Tryz.func25, Tryz.ntmps25
    go_wp2_with fail
    have hm' := HW.out
    refine (rmade_any _ _ _ _ _ _ v ((Lm.two _ (w.heap.size + 1) _ (v % 4294967296) (v / 4294967296 % 4294967296) _ _ (by simp) (by omega) (by omega) (by omega) (by omega)).mono (by simp)) (val2 v hv2) (by omega)).mono ?_
    clear hm'
    rintro e w1 ⟨A1, n1, c1, rfl, hL1, hb1⟩
    have ⟨hy0, hy1, hf0, hf1, hsz⟩ := box1 (bbox hb1)
    go_wp2
    have ⟨r0, r1⟩ := set2 (.bool (mkN false v)) (.slice A1 n1 c1) hy0 hy1
    have ⟨q0, q1⟩ := alloc2 (.cells #[.bool (mkN false v), .slice A1 n1 c1] 29) (by simp [World.size_setCell]; omega) r0 r1
    refine post_w1 Tryz.results25 rfl rfl q0 q1 ⟨A1, n1, c1, ?_, ?_, ?_⟩
    · have e := HN.out
      rw [HM.out] at e ⊢
      rw [e]
    · have e := (hL1.set2 hy0 hy1 (.bool (mkN false v)) (.slice A1 n1 c1)).box (.cells #[.bool (mkN false v), .slice A1 n1 c1] 29)
      rw [HL.out] at e
      rw [← HV.out]
      exact e
    · exact (below_set2 (bbox (bbox hb1)) (Nat.le_refl _) _ _).alloc (by simp [World.size_setCell]; omega) _

end Go.Proofs.YtglgfjknhplajaaGreatDoor

/- The reference's plus and minus. -/
namespace Go.Proofs.YtglgfjknhplajaaGreatDoor
open Go.RowKit

/-- A call returns limbs, just N of them, that stand for v. -/
def RL (w : World) (N v : Nat) (e : Ending) (w' : World) : Prop := ∃ A c ts, e = .returned (.slice A N c) ∧ Lm w' w'.heap.size A N c ts ∧ val ts = v ∧ Below w.heap.size w w'
theorem getD_over {xs : List Nat} {k : Nat} (h : xs.length ≤ k) : xs[k]?.getD 0 = 0 := by rw [List.getElem?_eq_none h]; rfl

set_option maxRecDepth 100000 in
set_option maxHeartbeats 1000000 in
theorem rplus_any (w : World) (A B : Option Addr) (n m ca cb N : Nat) (xs ys : List Nat) (v : Nat) (hA : Lm w w.heap.size A n ca xs) (hB : Lm w w.heap.size B m cb ys) (hN : N = max n m) (hn : N ≤ 100000000) (hv : val xs + val ys = v) :
    Calls Tryz.prog 110 #[.slice A n ca, .slice B m cb] w (RL w (N + 1) v) := by
  have h1 := hA.cap
  have h2 := hA.max
  have h3 := hB.cap
  have h4 := hB.max
  have hN1 : n ≤ N := by omega
  have hN2 : m ≤ N := by omega
  have HN := Lib.hid hN
  have HA := Lib.hid hA
  have HB := Lib.hid hB
  have HV := Lib.hid hv
  clear hA hB hv hN
  go_enter Tryz.func110, Tryz.ntmps110
  go_wp2
  go_loopw [5, 6, 7] (fun u cy i wr => ∃ k : Nat, k ≤ N ∧ i = .int .i64 k ∧ cy = .int .u64 ((addK xs ys k).2 : Nat) ∧ Ow wr w.heap.size u (addK xs ys k).1 ∧ Below w.heap.size w wr) (fun _ _ i _ => N - (intOf i).toNat)
  case atStart => exact ⟨0, Nat.zero_le _, rfl, rfl, Ow.nil _ _, Below.refl _ _⟩
  case round =>
    obtain ⟨k, hk, rfl, rfl, hO, hb⟩ := hrel
    have hcy := addK_carry HA.out.good HB.out.good k
    have HLn := Lib.hid (addK_len xs ys k)
    have hgx := HA.out.good.get k
    have hgy := HB.out.good.get k
    have HS : Hid (addK xs ys (k + 1) = ((addK xs ys k).1 ++ [((addK xs ys k).2 + (xs[k]?.getD 0 + ys[k]?.getD 0)) % 4294967296], ((addK xs ys k).2 + (xs[k]?.getD 0 + ys[k]?.getD 0)) / 4294967296)) := (rfl : _ = _)
    have HO := Lib.hid hO
    have HBl := Lib.hid hb
    clear hO hb
    by_cases hlt : k < N
    · have HR : Hid (∀ (u' : Value) (w1 : World) (E : Int), E = (((addK xs ys k).2 + (xs[k]?.getD 0 + ys[k]?.getD 0) : Nat) : Int) → Ow w1 w.heap.size u' ((addK xs ys k).1 ++ [((addK xs ys k).2 + (xs[k]?.getD 0 + ys[k]?.getD 0)) % 4294967296]) → Below w.heap.size w w1 →
          ∃ k' : Nat, k' ≤ N ∧ Value.int .i64 ((k : Int) + 1) = .int .i64 k' ∧ Value.int .u64 (E / 4294967296) = .int .u64 ((addK xs ys k').2 : Nat) ∧ Ow w1 w.heap.size u' (addK xs ys k').1 ∧ Below w.heap.size w w1) := by
        intro u' w1 E hE h5 h6
        refine ⟨k + 1, by omega, by go_num, ?_, ?_, h6⟩
        · rw [HS.out, hE]
          exact congrArg (Value.int IntKind.u64) (Int.natCast_ediv _ _).symm
        · rw [HS.out]; exact h5
      by_cases ha : k < n
      · obtain ⟨b, bo, rfl, hbb, hcx⟩ := (HA.out.below HBl.out).cell ha
        by_cases hm : k < m
        · obtain ⟨b', bo', rfl, hbb', hcy'⟩ := (HB.out.below HBl.out).cell hm
          go_wp2_with (at_builtin; refine wpList_append_u32 _ rfl _ _ rfl w.heap.size _ _ rfl HO.out _ (((addK xs ys k).2 + (xs[k]?.getD 0 + ys[k]?.getD 0)) % 4294967296) 1 (by omega) (by have := HLn.out; omega) HBl.out.size rfl ?_; intro u' w1 hO1 hg1)
          go_roundw
          case rel => exact HR.out _ _ _ (by omega) hO1 (HO.out.below HBl.out HBl.out.size hg1)
          case measure => simp [intOf]; omega
        · have HZ := Lib.hid (getD_over (xs := ys) (k := k) (by rw [HB.out.len]; omega))
          go_wp2_with (at_builtin; refine wpList_append_u32 _ rfl _ _ rfl w.heap.size _ _ rfl HO.out _ (((addK xs ys k).2 + (xs[k]?.getD 0 + ys[k]?.getD 0)) % 4294967296) 1 (by have := HZ.out; omega) (by have := HLn.out; omega) HBl.out.size rfl ?_; intro u' w1 hO1 hg1)
          go_roundw
          case rel => exact HR.out _ _ _ (by have := HZ.out; omega) hO1 (HO.out.below HBl.out HBl.out.size hg1)
          case measure => simp [intOf]; omega
      · have hm : k < m := by have := HN.out; omega
        obtain ⟨b', bo', rfl, hbb', hcy'⟩ := (HB.out.below HBl.out).cell hm
        have HZ := Lib.hid (getD_over (xs := xs) (k := k) (by rw [HA.out.len]; omega))
        go_wp2_with (at_builtin; refine wpList_append_u32 _ rfl _ _ rfl w.heap.size _ _ rfl HO.out _ (((addK xs ys k).2 + (xs[k]?.getD 0 + ys[k]?.getD 0)) % 4294967296) 1 (by have := HZ.out; omega) (by have := HLn.out; omega) HBl.out.size rfl ?_; intro u' w1 hO1 hg1)
        go_roundw
        case rel => exact HR.out _ _ _ (by have := HZ.out; omega) hO1 (HO.out.below HBl.out HBl.out.size hg1)
        case measure => simp [intOf]; omega
    · obtain rfl : k = N := by omega
      have ha : ¬ k < n := by omega
      have hm : ¬ k < m := by omega
      have HVs : Hid (val ((addK xs ys k).1 ++ [(addK xs ys k).2]) = v) := by
        show _ = _
        rw [val_snoc, addK_len, addK_val, List.take_of_length_le (by rw [HA.out.len]; omega), List.take_of_length_le (by rw [HB.out.len]; omega), HV.out]
      have HG : Hid (Good ((addK xs ys k).1 ++ [(addK xs ys k).2])) := (addK_good _ _ _).append (Good.nil.cons (by omega))
      go_wp2_with (at_builtin; refine wpList_append_u32 _ rfl _ _ rfl w.heap.size _ _ rfl HO.out _ ((addK xs ys k).2) 1 (by omega) (by have := HLn.out; omega) HBl.out.size rfl ?_; intro u' w1 hO1 hg1)
      go_ret
      obtain ⟨A1, c1, rfl, hL1⟩ := hO1.lm HG.out
      have hlen : ((addK xs ys k).1 ++ [(addK xs ys k).2]).length = k + 1 := by rw [List.length_append, HLn.out]; rfl
      rw [hlen] at hL1 ⊢
      exact ⟨A1, c1, _, rfl, hL1, HVs.out, HO.out.below HBl.out HBl.out.size hg1⟩


set_option maxRecDepth 100000 in
set_option maxHeartbeats 1000000 in
theorem rminus_any (w : World) (A B : Option Addr) (n m ca cb : Nat) (xs ys : List Nat) (v : Nat) (hA : Lm w w.heap.size A n ca xs) (hB : Lm w w.heap.size B m cb ys) (hge : m ≤ n) (hn : n ≤ 100000000) (hle : val ys ≤ val xs) (hv : val xs - val ys = v) :
    Calls Tryz.prog 111 #[.slice A n ca, .slice B m cb] w fun e w' => ∃ A' c', e = .returned (.slice A' (digs v).length c') ∧ Lm w' w'.heap.size A' (digs v).length c' (digs v) ∧ Below w.heap.size w w' := by
  have h1 := hA.cap
  have h2 := hA.max
  have h3 := hB.cap
  have h4 := hB.max
  have HA := Lib.hid hA
  have HB := Lib.hid hB
  have HV := Lib.hid hv
  have HLe := Lib.hid hle
  clear hA hB hv hle
  go_enter Tryz.func111, Tryz.ntmps111
  go_wp2
  go_loopw [5, 6, 7] (fun u cy i wr => ∃ k : Nat, k ≤ n ∧ i = .int .i64 k ∧ cy = .int .i64 ((subK xs ys k).2 : Nat) ∧ Ow wr w.heap.size u (subK xs ys k).1 ∧ Below w.heap.size w wr) (fun _ _ i _ => n - (intOf i).toNat)
  case atStart => exact ⟨0, Nat.zero_le _, rfl, rfl, Ow.nil _ _, Below.refl _ _⟩
  case round =>
    obtain ⟨k, hk, rfl, rfl, hO, hb⟩ := hrel
    have hcy := subK_carry xs ys k
    have HLn := Lib.hid (subK_len xs ys k)
    have hgx := HA.out.good.get k
    have hgy := HB.out.good.get k
    have HS : Hid (subK xs ys (k + 1) = ((subK xs ys k).1 ++ [(xs[k]?.getD 0 + 8589934592 - ys[k]?.getD 0 - (subK xs ys k).2) % 4294967296], if xs[k]?.getD 0 < ys[k]?.getD 0 + (subK xs ys k).2 then 1 else 0)) := (rfl : _ = _)
    have HO := Lib.hid hO
    have HBl := Lib.hid hb
    clear hO hb
    by_cases hlt : k < n
    · have HR : Hid (∀ (u' : Value) (w1 : World) (E : Int), E = ((if xs[k]?.getD 0 < ys[k]?.getD 0 + (subK xs ys k).2 then 1 else 0 : Nat) : Int) → Ow w1 w.heap.size u' ((subK xs ys k).1 ++ [(xs[k]?.getD 0 + 8589934592 - ys[k]?.getD 0 - (subK xs ys k).2) % 4294967296]) → Below w.heap.size w w1 →
          ∃ k' : Nat, k' ≤ n ∧ Value.int .i64 ((k : Int) + 1) = .int .i64 k' ∧ Value.int .i64 E = .int .i64 ((subK xs ys k').2 : Nat) ∧ Ow w1 w.heap.size u' (subK xs ys k').1 ∧ Below w.heap.size w w1) := by
        intro u' w1 E hE h5 h6
        refine ⟨k + 1, by omega, by go_num, ?_, ?_, h6⟩
        · rw [HS.out, hE]
        · rw [HS.out]; exact h5
      obtain ⟨b, bo, rfl, hbb, hcx⟩ := (HA.out.below HBl.out).cell hlt
      by_cases hm : k < m
      · obtain ⟨b', bo', rfl, hbb', hcy'⟩ := (HB.out.below HBl.out).cell hm
        by_cases hng : xs[k]?.getD 0 < ys[k]?.getD 0 + (subK xs ys k).2
        · have HNg := Lib.hid hng
          have hngi : ((xs[k]?.getD 0 : Nat) : Int) - (((subK xs ys k).2 : Nat) : Int) - ((ys[k]?.getD 0 : Nat) : Int) < 0 := by omega
          go_wp2_with (at_builtin; refine wpList_append_u32 _ rfl _ _ rfl w.heap.size _ _ rfl HO.out _ ((xs[k]?.getD 0 + 8589934592 - ys[k]?.getD 0 - (subK xs ys k).2) % 4294967296) 1 (by omega) (by have := HLn.out; omega) HBl.out.size rfl ?_; intro u' w1 hO1 hg1)
          go_roundw
          case rel => exact HR.out _ _ _ (by rw [if_pos HNg.out]; rfl) hO1 (HO.out.below HBl.out HBl.out.size hg1)
          case measure => simp [intOf]; omega
        · have HNg := Lib.hid hng
          have hngi : 0 ≤ ((xs[k]?.getD 0 : Nat) : Int) - (((subK xs ys k).2 : Nat) : Int) - ((ys[k]?.getD 0 : Nat) : Int) := by omega
          have hngd : decide (((xs[k]?.getD 0 : Nat) : Int) - (((subK xs ys k).2 : Nat) : Int) - ((ys[k]?.getD 0 : Nat) : Int) < 0) = false := by simp; omega
          go_wp2_with (at_builtin; refine wpList_append_u32 _ rfl _ _ rfl w.heap.size _ _ rfl HO.out _ ((xs[k]?.getD 0 + 8589934592 - ys[k]?.getD 0 - (subK xs ys k).2) % 4294967296) 1 (by omega) (by have := HLn.out; omega) HBl.out.size rfl ?_; intro u' w1 hO1 hg1)
          go_roundw
          case rel => exact HR.out _ _ _ (by rw [if_neg HNg.out]; rfl) hO1 (HO.out.below HBl.out HBl.out.size hg1)
          case measure => simp [intOf]; omega
      · have HZ := Lib.hid (getD_over (xs := ys) (k := k) (by rw [HB.out.len]; omega))
        by_cases hng : xs[k]?.getD 0 < ys[k]?.getD 0 + (subK xs ys k).2
        · have HNg := Lib.hid hng
          have hngi : ((xs[k]?.getD 0 : Nat) : Int) - (((subK xs ys k).2 : Nat) : Int) < 0 := by have := HZ.out; omega
          go_wp2_with (at_builtin; refine wpList_append_u32 _ rfl _ _ rfl w.heap.size _ _ rfl HO.out _ ((xs[k]?.getD 0 + 8589934592 - ys[k]?.getD 0 - (subK xs ys k).2) % 4294967296) 1 (by have := HZ.out; omega) (by have := HLn.out; omega) HBl.out.size rfl ?_; intro u' w1 hO1 hg1)
          go_roundw
          case rel => exact HR.out _ _ _ (by rw [if_pos HNg.out]; rfl) hO1 (HO.out.below HBl.out HBl.out.size hg1)
          case measure => simp [intOf]; omega
        · have HNg := Lib.hid hng
          have hngi : 0 ≤ ((xs[k]?.getD 0 : Nat) : Int) - (((subK xs ys k).2 : Nat) : Int) := by have := HZ.out; omega
          have hngd : decide (((xs[k]?.getD 0 : Nat) : Int) - (((subK xs ys k).2 : Nat) : Int) < 0) = false := by have := HZ.out; simp; omega
          go_wp2_with (at_builtin; refine wpList_append_u32 _ rfl _ _ rfl w.heap.size _ _ rfl HO.out _ ((xs[k]?.getD 0 + 8589934592 - ys[k]?.getD 0 - (subK xs ys k).2) % 4294967296) 1 (by have := HZ.out; omega) (by have := HLn.out; omega) HBl.out.size rfl ?_; intro u' w1 hO1 hg1)
          go_roundw
          case rel => exact HR.out _ _ _ (by rw [if_neg HNg.out]; rfl) hO1 (HO.out.below HBl.out HBl.out.size hg1)
          case measure => simp [intOf]; omega
    · obtain rfl : k = n := by omega
      have hvl : Hid (val (subK xs ys k).1 = v) := by
        have e := subK_val HA.out.good HB.out.good k
        have hc1 := subK_carry xs ys k
        have hlt2 := val_lt (subK_good xs ys k)
        rw [subK_len] at hlt2
        rw [List.take_of_length_le (by rw [HB.out.len]; exact hge), List.take_of_length_le (by rw [HA.out.len]; exact Nat.le_refl _)] at e
        have hv := HV.out
        have hle := HLe.out
        show _ = _
        rcases Nat.eq_zero_or_pos (subK xs ys k).2 with h0 | h0
        · rw [h0, Nat.mul_zero] at e
          omega
        · have h2 : (subK xs ys k).2 = 1 := by omega
          rw [h2, Nat.mul_one] at e
          omega
      obtain ⟨A1, c1, rfl, hL1⟩ := HO.out.lm (subK_good xs ys k)
      rw [HLn.out] at hL1 ⊢
      have HL1 := Lib.hid hL1
      clear hL1
      go_wp2_with fail
      refine (rtrim_any _ _ _ _ _ v HL1.out hvl.out (by omega)).mono ?_
      rintro e w2 ⟨A2, c2, rfl, hL2, hb2⟩
      go_wp2
      go_ret
      exact ⟨A2, c2, rfl, hL2, HBl.out.trans (hb2.mono HBl.out.size)⟩

end Go.Proofs.YtglgfjknhplajaaGreatDoor

/- The reference's sum. -/
namespace Go.Proofs.YtglgfjknhplajaaGreatDoor
open Go.RowKit

/-- Three boxes of two cells. -/
theorem boxes3 (w : World) (t0 t1 t2 : TypeId) (a0 a1 b0 b1 q0 q1 : Value) :
    Pr (((w.alloc (.cells #[a0, a1] t0)).alloc (.cells #[b0, b1] t1)).alloc (.cells #[q0, q1] t2)) w.heap.size a0 a1 ∧ Pr (((w.alloc (.cells #[a0, a1] t0)).alloc (.cells #[b0, b1] t1)).alloc (.cells #[q0, q1] t2)) (w.heap.size + 1) b0 b1 ∧ Pr (((w.alloc (.cells #[a0, a1] t0)).alloc (.cells #[b0, b1] t1)).alloc (.cells #[q0, q1] t2)) (w.heap.size + 1 + 1) q0 q1 :=
  ⟨((Pr.new w w.heap.size rfl a0 a1 t0).alloc _).alloc _, (Pr.new (w.alloc (.cells #[a0, a1] t0)) (w.heap.size + 1) (by simp) b0 b1 t1).alloc _, Pr.new ((w.alloc (.cells #[a0, a1] t0)).alloc (.cells #[b0, b1] t1)) (w.heap.size + 1 + 1) (by simp) q0 q1 t2⟩
theorem below3 (w : World) (o1 o2 o3 : Obj) : Below w.heap.size w (((w.alloc o1).alloc o2).alloc o3) := (((Below.refl _ _).alloc (Nat.le_refl _) _).alloc (by simp) _).alloc (by simp; omega) _

set_option maxRecDepth 100000 in
set_option maxHeartbeats 1000000 in
theorem rsum_same (w : World) (na nb : Bool) (A B : Option Addr) (n m ca cb a b : Nat) (hA : Lm w w.heap.size A n ca (digs a)) (hB : Lm w w.heap.size B m cb (digs b)) (hn : n ≤ 10000000) (hm : m ≤ 10000000) (hs : na = nb) :
    Calls Tryz.prog 83 #[.agg #[.bool na, .slice A n ca], .agg #[.bool nb, .slice B m cb]] w (RW w (mkN na (a + b)) (mkL (a + b)) (mkE (a + b))) := by
  have HA := Lib.hid hA
  have HB := Lib.hid hB
  have HP : Hid (val (digs a) + val (digs b) = a + b) := by show _ = _; rw [digs_val, digs_val]
  subst hs
  clear hA hB
  cases na
  · go_enter Tryz.func83, Tryz.ntmps83
    go_wp2_with fail
    have ⟨PA, PB, PR⟩ := boxes3 w 29 29 29 (.bool false) (.slice A n ca) (.bool false) (.slice B m cb) (.bool false) (.slice none 0 0)
    have HB0 := Lib.hid (below3 w (.cells #[.bool false, .slice A n ca] 29) (.cells #[.bool false, .slice B m cb] 29) (.cells #[.bool false, .slice none 0 0] 29))
    have LA := Lib.hid (((HA.out.box (.cells #[.bool false, .slice A n ca] 29)).box (.cells #[.bool false, .slice B m cb] 29)).box (.cells #[.bool false, .slice none 0 0] 29))
    have LB := Lib.hid (((HB.out.box (.cells #[.bool false, .slice A n ca] 29)).box (.cells #[.bool false, .slice B m cb] 29)).box (.cells #[.bool false, .slice none 0 0] 29))
    generalize ((w.alloc (.cells #[.bool false, .slice A n ca] 29)).alloc (.cells #[.bool false, .slice B m cb] 29)).alloc (.cells #[.bool false, .slice none 0 0] 29) = w1 at *
    have ⟨a0, a1, _, _, _⟩ := PA
    have ⟨b0, b1, _, _, _⟩ := PB
    have ⟨r0, r1, rf0, rf1, rl⟩ := PR
    go_region_held3 (fun w' => (w'.cell? ⟨w.heap.size, 0, none⟩ = some (.bool false) ∧ w'.cell? ⟨w.heap.size, 1, none⟩ = some (.slice A n ca)) ∧ (w'.cell? ⟨w.heap.size + 1, 0, none⟩ = some (.bool false) ∧ w'.cell? ⟨w.heap.size + 1, 1, none⟩ = some (.slice B m cb)))
      (first | exact ⟨⟨a0, a1⟩, ⟨b0, b1⟩⟩ | exact ⟨⟨PAs.c0, PAs.c1⟩, ⟨PBs.c0, PBs.c1⟩⟩ | exact ⟨⟨PAt.c0, PAt.c1⟩, ⟨PBt.c0, PBt.c1⟩⟩ | exact ⟨⟨PAu.c0, PAu.c1⟩, ⟨PBu.c0, PBu.c1⟩⟩ | go_keep)
      (first
       | (go_at_call 110; refine (rplus_any _ _ _ _ _ _ _ (max n m) (digs a) (digs b) (a + b) LA.out.drew LB.out.drew rfl (by omega) HP.out).mono ?_; rintro e ws ⟨As, cs, ts, rfl, hLs, hvs, hbs⟩; have HVS := Lib.hid hvs; clear hvs; have Bs := (Below.refl w1.heap.size w1).drew.trans hbs; have PAs := PA.via Bs; have PBs := PB.via Bs; have PRs := PR.via Bs)
       | (go_at_call 54; refine (rmade_any _ _ _ _ _ ts (a + b) hLs HVS.out (by omega)).mono ?_; rintro e wt ⟨At, nt, ct, rfl, hLt, hbt⟩; have PAt := PAs.via hbt; have PBt := PBs.via hbt; have PRt := PRs.via hbt; have HBt : Hid (Below w.heap.size w wt) := HB0.out.trans ((Bs.trans (hbt.mono Bs.size)).mono HB0.out.size); have ⟨r0t, r1t, rf0t, rf1t, rlt⟩ := PRt; have PAu := PAt.far (h := w.heap.size + 1 + 1) (by omega) (.bool (mkN false (a + b))) (.slice At nt ct); have PBu := PBt.far (h := w.heap.size + 1 + 1) (by omega) (.bool (mkN false (a + b))) (.slice At nt ct)))
    go_wp2
    exact post_ws Tryz.results83 rfl rfl PRt.c0 PRt.c1 ⟨At, nt, ct, rfl, hLt.setP PRt _ _, below_set2 HBt.out (by omega) _ _⟩
  · go_enter Tryz.func83, Tryz.ntmps83
    go_wp2_with fail
    have ⟨PA, PB, PR⟩ := boxes3 w 29 29 29 (.bool true) (.slice A n ca) (.bool true) (.slice B m cb) (.bool false) (.slice none 0 0)
    have HB0 := Lib.hid (below3 w (.cells #[.bool true, .slice A n ca] 29) (.cells #[.bool true, .slice B m cb] 29) (.cells #[.bool false, .slice none 0 0] 29))
    have LA := Lib.hid (((HA.out.box (.cells #[.bool true, .slice A n ca] 29)).box (.cells #[.bool true, .slice B m cb] 29)).box (.cells #[.bool false, .slice none 0 0] 29))
    have LB := Lib.hid (((HB.out.box (.cells #[.bool true, .slice A n ca] 29)).box (.cells #[.bool true, .slice B m cb] 29)).box (.cells #[.bool false, .slice none 0 0] 29))
    generalize ((w.alloc (.cells #[.bool true, .slice A n ca] 29)).alloc (.cells #[.bool true, .slice B m cb] 29)).alloc (.cells #[.bool false, .slice none 0 0] 29) = w1 at *
    have ⟨a0, a1, _, _, _⟩ := PA
    have ⟨b0, b1, _, _, _⟩ := PB
    have ⟨r0, r1, rf0, rf1, rl⟩ := PR
    go_region_held3 (fun w' => (w'.cell? ⟨w.heap.size, 0, none⟩ = some (.bool true) ∧ w'.cell? ⟨w.heap.size, 1, none⟩ = some (.slice A n ca)) ∧ (w'.cell? ⟨w.heap.size + 1, 0, none⟩ = some (.bool true) ∧ w'.cell? ⟨w.heap.size + 1, 1, none⟩ = some (.slice B m cb)))
      (first | exact ⟨⟨a0, a1⟩, ⟨b0, b1⟩⟩ | exact ⟨⟨PAs.c0, PAs.c1⟩, ⟨PBs.c0, PBs.c1⟩⟩ | exact ⟨⟨PAt.c0, PAt.c1⟩, ⟨PBt.c0, PBt.c1⟩⟩ | exact ⟨⟨PAu.c0, PAu.c1⟩, ⟨PBu.c0, PBu.c1⟩⟩ | go_keep)
      (first
       | (go_at_call 110; refine (rplus_any _ _ _ _ _ _ _ (max n m) (digs a) (digs b) (a + b) LA.out.drew LB.out.drew rfl (by omega) HP.out).mono ?_; rintro e ws ⟨As, cs, ts, rfl, hLs, hvs, hbs⟩; have HVS := Lib.hid hvs; clear hvs; have Bs := (Below.refl w1.heap.size w1).drew.trans hbs; have PAs := PA.via Bs; have PBs := PB.via Bs; have PRs := PR.via Bs)
       | (go_at_call 54; refine (rmade_any _ _ _ _ _ ts (a + b) hLs HVS.out (by omega)).mono ?_; rintro e wt ⟨At, nt, ct, rfl, hLt, hbt⟩; have PAt := PAs.via hbt; have PBt := PBs.via hbt; have PRt := PRs.via hbt; have HBt : Hid (Below w.heap.size w wt) := HB0.out.trans ((Bs.trans (hbt.mono Bs.size)).mono HB0.out.size); have ⟨r0t, r1t, rf0t, rf1t, rlt⟩ := PRt; have PAu := PAt.far (h := w.heap.size + 1 + 1) (by omega) (.bool (mkN true (a + b))) (.slice At nt ct); have PBu := PBt.far (h := w.heap.size + 1 + 1) (by omega) (.bool (mkN true (a + b))) (.slice At nt ct)))
    go_wp2
    exact post_ws Tryz.results83 rfl rfl PRt.c0 PRt.c1 ⟨At, nt, ct, rfl, hLt.setP PRt _ _, below_set2 HBt.out (by omega) _ _⟩
set_option maxRecDepth 100000 in
set_option maxHeartbeats 1000000 in
theorem rsum_more (w : World) (na nb : Bool) (A B : Option Addr) (n m ca cb a b : Nat) (hA : Lm w w.heap.size A n ca (digs a)) (hB : Lm w w.heap.size B m cb (digs b)) (hn : n ≤ 10000000) (_ : m ≤ 10000000) (hs : na = true ∧ nb = false ∨ na = false ∧ nb = true) (hle : b ≤ a) :
    Calls Tryz.prog 83 #[.agg #[.bool na, .slice A n ca], .agg #[.bool nb, .slice B m cb]] w (RW w (mkN na (a - b)) (mkL (a - b)) (mkE (a - b))) := by
  have HA := Lib.hid hA
  have HB := Lib.hid hB
  obtain ⟨z, hz, HC⟩ : ∃ z : Int, 0 ≤ z ∧ Hid (cmpL (digs a) (digs b) = z) := ⟨_, by rw [cmpL_norm (digs_good _) (digs_good _) (digs_norm _) (digs_norm _), digs_val, digs_val]; unfold cmpN; rw [if_neg (by omega)]; split <;> decide, rfl⟩
  have HP : Hid (val (digs a) - val (digs b) = a - b) := by show _ = _; rw [digs_val, digs_val]
  have HLe : Hid (val (digs b) ≤ val (digs a)) := by show _ ≤ _; rw [digs_val, digs_val]; exact hle
  have hml : m ≤ n := by rw [← hA.len, ← hB.len]; exact digs_mono hle
  have hsz : (digs (a - b)).length ≤ n := by rw [← hA.len]; exact digs_mono (Nat.sub_le _ _)
  clear hA hB
  rcases hs with ⟨rfl, rfl⟩ | ⟨rfl, rfl⟩
  · go_enter Tryz.func83, Tryz.ntmps83
    go_wp2_with fail
    have ⟨PA, PB, PR⟩ := boxes3 w 29 29 29 (.bool true) (.slice A n ca) (.bool false) (.slice B m cb) (.bool false) (.slice none 0 0)
    have HB0 := Lib.hid (below3 w (.cells #[.bool true, .slice A n ca] 29) (.cells #[.bool false, .slice B m cb] 29) (.cells #[.bool false, .slice none 0 0] 29))
    have LA := Lib.hid (((HA.out.box (.cells #[.bool true, .slice A n ca] 29)).box (.cells #[.bool false, .slice B m cb] 29)).box (.cells #[.bool false, .slice none 0 0] 29))
    have LB := Lib.hid (((HB.out.box (.cells #[.bool true, .slice A n ca] 29)).box (.cells #[.bool false, .slice B m cb] 29)).box (.cells #[.bool false, .slice none 0 0] 29))
    generalize ((w.alloc (.cells #[.bool true, .slice A n ca] 29)).alloc (.cells #[.bool false, .slice B m cb] 29)).alloc (.cells #[.bool false, .slice none 0 0] 29) = w1 at *
    have ⟨a0, a1, _, _, _⟩ := PA
    have ⟨b0, b1, _, _, _⟩ := PB
    have ⟨r0, r1, rf0, rf1, rl⟩ := PR
    refine (rcompare_any A B n m ca cb (digs a) (digs b) w1 LA.out LB.out).mono ?_
    rintro e w2 ⟨he, d, rfl⟩
    rw [HC.out] at he
    subst he
    have PA2 := PA.drewN d
    have PB2 := PB.drewN d
    have PR2 := PR.drewN d
    have HB2 : Hid (Below w.heap.size w (w1.drewN d)) := bdrewN HB0.out d
    have LA2 := Lib.hid (LA.out.drewN d)
    have LB2 := Lib.hid (LB.out.drewN d)
    clear PA PB PR HB0 LA LB a0 a1 b0 b1 r0 r1 rf0 rf1 rl
    generalize w1.drewN d = w3 at *
    have PA := PA2
    have PB := PB2
    have PR := PR2
    have HB0 := HB2
    have LA := LA2
    have LB := LB2
    clear PA2 PB2 PR2 HB2 LA2 LB2
    have ⟨a0, a1, _, _, _⟩ := PA
    have ⟨b0, b1, _, _, _⟩ := PB
    have ⟨r0, r1, rf0, rf1, rl⟩ := PR
    go_wp2_with fail
    go_region_held3 (fun w' => (w'.cell? ⟨w.heap.size, 0, none⟩ = some (.bool true) ∧ w'.cell? ⟨w.heap.size, 1, none⟩ = some (.slice A n ca)) ∧ (w'.cell? ⟨w.heap.size + 1, 0, none⟩ = some (.bool false) ∧ w'.cell? ⟨w.heap.size + 1, 1, none⟩ = some (.slice B m cb)))
      (first | exact ⟨⟨a0, a1⟩, ⟨b0, b1⟩⟩ | exact ⟨⟨PAs.c0, PAs.c1⟩, ⟨PBs.c0, PBs.c1⟩⟩ | exact ⟨⟨PAt.c0, PAt.c1⟩, ⟨PBt.c0, PBt.c1⟩⟩ | exact ⟨⟨PAu.c0, PAu.c1⟩, ⟨PBu.c0, PBu.c1⟩⟩ | go_keep)
      (first
       | (go_at_call 111; refine (rminus_any _ _ _ _ _ _ _ (digs a) (digs b) (a - b) LA.out.drew LB.out.drew hml (by omega) HLe.out HP.out).mono ?_; rintro e ws ⟨As, cs, rfl, hLs, hbs⟩; have Bs := (Below.refl w3.heap.size w3).drew.trans hbs; have PAs := PA.via Bs; have PBs := PB.via Bs; have PRs := PR.via Bs)
       | (go_at_call 54; refine (rmade_any _ _ _ _ _ (digs (a - b)) (a - b) hLs (digs_val _) (by omega)).mono ?_; rintro e wt ⟨At, nt, ct, rfl, hLt, hbt⟩; have PAt := PAs.via hbt; have PBt := PBs.via hbt; have PRt := PRs.via hbt; have HBt : Hid (Below w.heap.size w wt) := HB0.out.trans ((Bs.trans (hbt.mono Bs.size)).mono HB0.out.size); have ⟨r0t, r1t, rf0t, rf1t, rlt⟩ := PRt; have PAu := PAt.far (h := w.heap.size + 1 + 1) (by omega) (.bool (mkN true (a - b))) (.slice At nt ct); have PBu := PBt.far (h := w.heap.size + 1 + 1) (by omega) (.bool (mkN true (a - b))) (.slice At nt ct)))
    go_wp2
    exact post_ws Tryz.results83 rfl rfl PRt.c0 PRt.c1 ⟨At, nt, ct, rfl, hLt.setP PRt _ _, below_set2 HBt.out (by omega) _ _⟩
  · go_enter Tryz.func83, Tryz.ntmps83
    go_wp2_with fail
    have ⟨PA, PB, PR⟩ := boxes3 w 29 29 29 (.bool false) (.slice A n ca) (.bool true) (.slice B m cb) (.bool false) (.slice none 0 0)
    have HB0 := Lib.hid (below3 w (.cells #[.bool false, .slice A n ca] 29) (.cells #[.bool true, .slice B m cb] 29) (.cells #[.bool false, .slice none 0 0] 29))
    have LA := Lib.hid (((HA.out.box (.cells #[.bool false, .slice A n ca] 29)).box (.cells #[.bool true, .slice B m cb] 29)).box (.cells #[.bool false, .slice none 0 0] 29))
    have LB := Lib.hid (((HB.out.box (.cells #[.bool false, .slice A n ca] 29)).box (.cells #[.bool true, .slice B m cb] 29)).box (.cells #[.bool false, .slice none 0 0] 29))
    generalize ((w.alloc (.cells #[.bool false, .slice A n ca] 29)).alloc (.cells #[.bool true, .slice B m cb] 29)).alloc (.cells #[.bool false, .slice none 0 0] 29) = w1 at *
    have ⟨a0, a1, _, _, _⟩ := PA
    have ⟨b0, b1, _, _, _⟩ := PB
    have ⟨r0, r1, rf0, rf1, rl⟩ := PR
    refine (rcompare_any A B n m ca cb (digs a) (digs b) w1 LA.out LB.out).mono ?_
    rintro e w2 ⟨he, d, rfl⟩
    rw [HC.out] at he
    subst he
    have PA2 := PA.drewN d
    have PB2 := PB.drewN d
    have PR2 := PR.drewN d
    have HB2 : Hid (Below w.heap.size w (w1.drewN d)) := bdrewN HB0.out d
    have LA2 := Lib.hid (LA.out.drewN d)
    have LB2 := Lib.hid (LB.out.drewN d)
    clear PA PB PR HB0 LA LB a0 a1 b0 b1 r0 r1 rf0 rf1 rl
    generalize w1.drewN d = w3 at *
    have PA := PA2
    have PB := PB2
    have PR := PR2
    have HB0 := HB2
    have LA := LA2
    have LB := LB2
    clear PA2 PB2 PR2 HB2 LA2 LB2
    have ⟨a0, a1, _, _, _⟩ := PA
    have ⟨b0, b1, _, _, _⟩ := PB
    have ⟨r0, r1, rf0, rf1, rl⟩ := PR
    go_wp2_with fail
    go_region_held3 (fun w' => (w'.cell? ⟨w.heap.size, 0, none⟩ = some (.bool false) ∧ w'.cell? ⟨w.heap.size, 1, none⟩ = some (.slice A n ca)) ∧ (w'.cell? ⟨w.heap.size + 1, 0, none⟩ = some (.bool true) ∧ w'.cell? ⟨w.heap.size + 1, 1, none⟩ = some (.slice B m cb)))
      (first | exact ⟨⟨a0, a1⟩, ⟨b0, b1⟩⟩ | exact ⟨⟨PAs.c0, PAs.c1⟩, ⟨PBs.c0, PBs.c1⟩⟩ | exact ⟨⟨PAt.c0, PAt.c1⟩, ⟨PBt.c0, PBt.c1⟩⟩ | exact ⟨⟨PAu.c0, PAu.c1⟩, ⟨PBu.c0, PBu.c1⟩⟩ | go_keep)
      (first
       | (go_at_call 111; refine (rminus_any _ _ _ _ _ _ _ (digs a) (digs b) (a - b) LA.out.drew LB.out.drew hml (by omega) HLe.out HP.out).mono ?_; rintro e ws ⟨As, cs, rfl, hLs, hbs⟩; have Bs := (Below.refl w3.heap.size w3).drew.trans hbs; have PAs := PA.via Bs; have PBs := PB.via Bs; have PRs := PR.via Bs)
       | (go_at_call 54; refine (rmade_any _ _ _ _ _ (digs (a - b)) (a - b) hLs (digs_val _) (by omega)).mono ?_; rintro e wt ⟨At, nt, ct, rfl, hLt, hbt⟩; have PAt := PAs.via hbt; have PBt := PBs.via hbt; have PRt := PRs.via hbt; have HBt : Hid (Below w.heap.size w wt) := HB0.out.trans ((Bs.trans (hbt.mono Bs.size)).mono HB0.out.size); have ⟨r0t, r1t, rf0t, rf1t, rlt⟩ := PRt; have PAu := PAt.far (h := w.heap.size + 1 + 1) (by omega) (.bool (mkN false (a - b))) (.slice At nt ct); have PBu := PBt.far (h := w.heap.size + 1 + 1) (by omega) (.bool (mkN false (a - b))) (.slice At nt ct)))
    go_wp2
    exact post_ws Tryz.results83 rfl rfl PRt.c0 PRt.c1 ⟨At, nt, ct, rfl, hLt.setP PRt _ _, below_set2 HBt.out (by omega) _ _⟩
set_option maxRecDepth 100000 in
set_option maxHeartbeats 1000000 in
theorem rsum_less (w : World) (na nb : Bool) (A B : Option Addr) (n m ca cb a b : Nat) (hA : Lm w w.heap.size A n ca (digs a)) (hB : Lm w w.heap.size B m cb (digs b)) (_ : n ≤ 10000000) (hm : m ≤ 10000000) (hs : na = true ∧ nb = false ∨ na = false ∧ nb = true) (hlt : a < b) :
    Calls Tryz.prog 83 #[.agg #[.bool na, .slice A n ca], .agg #[.bool nb, .slice B m cb]] w (RW w (mkN nb (b - a)) (mkL (b - a)) (mkE (b - a))) := by
  have HA := Lib.hid hA
  have HB := Lib.hid hB
  have HC : Hid (cmpL (digs a) (digs b) = -1) := by show _ = _; rw [cmpL_norm (digs_good _) (digs_good _) (digs_norm _) (digs_norm _), digs_val, digs_val]; exact cmpN_lt hlt
  have HP : Hid (val (digs b) - val (digs a) = b - a) := by show _ = _; rw [digs_val, digs_val]
  have HLe : Hid (val (digs a) ≤ val (digs b)) := by show _ ≤ _; rw [digs_val, digs_val]; exact Nat.le_of_lt hlt
  have hml : n ≤ m := by rw [← hA.len, ← hB.len]; exact digs_mono (Nat.le_of_lt hlt)
  have hsz : (digs (b - a)).length ≤ m := by rw [← hB.len]; exact digs_mono (Nat.sub_le _ _)
  clear hA hB
  rcases hs with ⟨rfl, rfl⟩ | ⟨rfl, rfl⟩
  · go_enter Tryz.func83, Tryz.ntmps83
    go_wp2_with fail
    have ⟨PA, PB, PR⟩ := boxes3 w 29 29 29 (.bool true) (.slice A n ca) (.bool false) (.slice B m cb) (.bool false) (.slice none 0 0)
    have HB0 := Lib.hid (below3 w (.cells #[.bool true, .slice A n ca] 29) (.cells #[.bool false, .slice B m cb] 29) (.cells #[.bool false, .slice none 0 0] 29))
    have LA := Lib.hid (((HA.out.box (.cells #[.bool true, .slice A n ca] 29)).box (.cells #[.bool false, .slice B m cb] 29)).box (.cells #[.bool false, .slice none 0 0] 29))
    have LB := Lib.hid (((HB.out.box (.cells #[.bool true, .slice A n ca] 29)).box (.cells #[.bool false, .slice B m cb] 29)).box (.cells #[.bool false, .slice none 0 0] 29))
    generalize ((w.alloc (.cells #[.bool true, .slice A n ca] 29)).alloc (.cells #[.bool false, .slice B m cb] 29)).alloc (.cells #[.bool false, .slice none 0 0] 29) = w1 at *
    have ⟨a0, a1, _, _, _⟩ := PA
    have ⟨b0, b1, _, _, _⟩ := PB
    have ⟨r0, r1, rf0, rf1, rl⟩ := PR
    refine (rcompare_any A B n m ca cb (digs a) (digs b) w1 LA.out LB.out).mono ?_
    rintro e w2 ⟨he, d, rfl⟩
    rw [HC.out] at he
    subst he
    have PA2 := PA.drewN d
    have PB2 := PB.drewN d
    have PR2 := PR.drewN d
    have HB2 : Hid (Below w.heap.size w (w1.drewN d)) := bdrewN HB0.out d
    have LA2 := Lib.hid (LA.out.drewN d)
    have LB2 := Lib.hid (LB.out.drewN d)
    clear PA PB PR HB0 LA LB a0 a1 b0 b1 r0 r1 rf0 rf1 rl
    generalize w1.drewN d = w3 at *
    have PA := PA2
    have PB := PB2
    have PR := PR2
    have HB0 := HB2
    have LA := LA2
    have LB := LB2
    clear PA2 PB2 PR2 HB2 LA2 LB2
    have ⟨a0, a1, _, _, _⟩ := PA
    have ⟨b0, b1, _, _, _⟩ := PB
    have ⟨r0, r1, rf0, rf1, rl⟩ := PR
    go_wp2_with fail
    go_region_held3 (fun w' => (w'.cell? ⟨w.heap.size, 0, none⟩ = some (.bool true) ∧ w'.cell? ⟨w.heap.size, 1, none⟩ = some (.slice A n ca)) ∧ (w'.cell? ⟨w.heap.size + 1, 0, none⟩ = some (.bool false) ∧ w'.cell? ⟨w.heap.size + 1, 1, none⟩ = some (.slice B m cb)))
      (first | exact ⟨⟨a0, a1⟩, ⟨b0, b1⟩⟩ | exact ⟨⟨PAs.c0, PAs.c1⟩, ⟨PBs.c0, PBs.c1⟩⟩ | exact ⟨⟨PAt.c0, PAt.c1⟩, ⟨PBt.c0, PBt.c1⟩⟩ | exact ⟨⟨PAu.c0, PAu.c1⟩, ⟨PBu.c0, PBu.c1⟩⟩ | go_keep)
      (first
       | (go_at_call 111; refine (rminus_any _ _ _ _ _ _ _ (digs b) (digs a) (b - a) LB.out.drew LA.out.drew hml (by omega) HLe.out HP.out).mono ?_; rintro e ws ⟨As, cs, rfl, hLs, hbs⟩; have Bs := (Below.refl w3.heap.size w3).drew.trans hbs; have PAs := PA.via Bs; have PBs := PB.via Bs; have PRs := PR.via Bs)
       | (go_at_call 54; refine (rmade_any _ _ _ _ _ (digs (b - a)) (b - a) hLs (digs_val _) (by omega)).mono ?_; rintro e wt ⟨At, nt, ct, rfl, hLt, hbt⟩; have PAt := PAs.via hbt; have PBt := PBs.via hbt; have PRt := PRs.via hbt; have HBt : Hid (Below w.heap.size w wt) := HB0.out.trans ((Bs.trans (hbt.mono Bs.size)).mono HB0.out.size); have ⟨r0t, r1t, rf0t, rf1t, rlt⟩ := PRt; have PAu := PAt.far (h := w.heap.size + 1 + 1) (by omega) (.bool (mkN false (b - a))) (.slice At nt ct); have PBu := PBt.far (h := w.heap.size + 1 + 1) (by omega) (.bool (mkN false (b - a))) (.slice At nt ct)))
    go_wp2
    exact post_ws Tryz.results83 rfl rfl PRt.c0 PRt.c1 ⟨At, nt, ct, rfl, hLt.setP PRt _ _, below_set2 HBt.out (by omega) _ _⟩
  · go_enter Tryz.func83, Tryz.ntmps83
    go_wp2_with fail
    have ⟨PA, PB, PR⟩ := boxes3 w 29 29 29 (.bool false) (.slice A n ca) (.bool true) (.slice B m cb) (.bool false) (.slice none 0 0)
    have HB0 := Lib.hid (below3 w (.cells #[.bool false, .slice A n ca] 29) (.cells #[.bool true, .slice B m cb] 29) (.cells #[.bool false, .slice none 0 0] 29))
    have LA := Lib.hid (((HA.out.box (.cells #[.bool false, .slice A n ca] 29)).box (.cells #[.bool true, .slice B m cb] 29)).box (.cells #[.bool false, .slice none 0 0] 29))
    have LB := Lib.hid (((HB.out.box (.cells #[.bool false, .slice A n ca] 29)).box (.cells #[.bool true, .slice B m cb] 29)).box (.cells #[.bool false, .slice none 0 0] 29))
    generalize ((w.alloc (.cells #[.bool false, .slice A n ca] 29)).alloc (.cells #[.bool true, .slice B m cb] 29)).alloc (.cells #[.bool false, .slice none 0 0] 29) = w1 at *
    have ⟨a0, a1, _, _, _⟩ := PA
    have ⟨b0, b1, _, _, _⟩ := PB
    have ⟨r0, r1, rf0, rf1, rl⟩ := PR
    refine (rcompare_any A B n m ca cb (digs a) (digs b) w1 LA.out LB.out).mono ?_
    rintro e w2 ⟨he, d, rfl⟩
    rw [HC.out] at he
    subst he
    have PA2 := PA.drewN d
    have PB2 := PB.drewN d
    have PR2 := PR.drewN d
    have HB2 : Hid (Below w.heap.size w (w1.drewN d)) := bdrewN HB0.out d
    have LA2 := Lib.hid (LA.out.drewN d)
    have LB2 := Lib.hid (LB.out.drewN d)
    clear PA PB PR HB0 LA LB a0 a1 b0 b1 r0 r1 rf0 rf1 rl
    generalize w1.drewN d = w3 at *
    have PA := PA2
    have PB := PB2
    have PR := PR2
    have HB0 := HB2
    have LA := LA2
    have LB := LB2
    clear PA2 PB2 PR2 HB2 LA2 LB2
    have ⟨a0, a1, _, _, _⟩ := PA
    have ⟨b0, b1, _, _, _⟩ := PB
    have ⟨r0, r1, rf0, rf1, rl⟩ := PR
    go_wp2_with fail
    go_region_held3 (fun w' => (w'.cell? ⟨w.heap.size, 0, none⟩ = some (.bool false) ∧ w'.cell? ⟨w.heap.size, 1, none⟩ = some (.slice A n ca)) ∧ (w'.cell? ⟨w.heap.size + 1, 0, none⟩ = some (.bool true) ∧ w'.cell? ⟨w.heap.size + 1, 1, none⟩ = some (.slice B m cb)))
      (first | exact ⟨⟨a0, a1⟩, ⟨b0, b1⟩⟩ | exact ⟨⟨PAs.c0, PAs.c1⟩, ⟨PBs.c0, PBs.c1⟩⟩ | exact ⟨⟨PAt.c0, PAt.c1⟩, ⟨PBt.c0, PBt.c1⟩⟩ | exact ⟨⟨PAu.c0, PAu.c1⟩, ⟨PBu.c0, PBu.c1⟩⟩ | go_keep)
      (first
       | (go_at_call 111; refine (rminus_any _ _ _ _ _ _ _ (digs b) (digs a) (b - a) LB.out.drew LA.out.drew hml (by omega) HLe.out HP.out).mono ?_; rintro e ws ⟨As, cs, rfl, hLs, hbs⟩; have Bs := (Below.refl w3.heap.size w3).drew.trans hbs; have PAs := PA.via Bs; have PBs := PB.via Bs; have PRs := PR.via Bs)
       | (go_at_call 54; refine (rmade_any _ _ _ _ _ (digs (b - a)) (b - a) hLs (digs_val _) (by omega)).mono ?_; rintro e wt ⟨At, nt, ct, rfl, hLt, hbt⟩; have PAt := PAs.via hbt; have PBt := PBs.via hbt; have PRt := PRs.via hbt; have HBt : Hid (Below w.heap.size w wt) := HB0.out.trans ((Bs.trans (hbt.mono Bs.size)).mono HB0.out.size); have ⟨r0t, r1t, rf0t, rf1t, rlt⟩ := PRt; have PAu := PAt.far (h := w.heap.size + 1 + 1) (by omega) (.bool (mkN true (b - a))) (.slice At nt ct); have PBu := PBt.far (h := w.heap.size + 1 + 1) (by omega) (.bool (mkN true (b - a))) (.slice At nt ct)))
    go_wp2
    exact post_ws Tryz.results83 rfl rfl PRt.c0 PRt.c1 ⟨At, nt, ct, rfl, hLt.setP PRt _ _, below_set2 HBt.out (by omega) _ _⟩
theorem rsum_any (w : World) (na nb : Bool) (A B : Option Addr) (n m ca cb a b : Nat) (hA : Lm w w.heap.size A n ca (digs a)) (hB : Lm w w.heap.size B m cb (digs b)) (hn : n ≤ 10000000) (hm : m ≤ 10000000) :
    Calls Tryz.prog 83 #[.agg #[.bool na, .slice A n ca], .agg #[.bool nb, .slice B m cb]] w (RZ w (toI na a + toI nb b)) := by
  by_cases hs : na = nb
  · rw [← rz_of w na (a + b) (toI_same hs a b)]
    exact rsum_same w na nb A B n m ca cb a b hA hB hn hm hs
  · have h2 : na = true ∧ nb = false ∨ na = false ∧ nb = true := by cases na <;> cases nb <;> simp at hs ⊢
    rcases Nat.lt_or_ge a b with h | h
    · have e := toI_less hs h
      have hnn : (!na) = nb := by cases na <;> cases nb <;> simp at hs ⊢
      rw [hnn] at e
      rw [← rz_of w nb (b - a) e]
      exact rsum_less w na nb A B n m ca cb a b hA hB hn hm h2 h
    · rw [← rz_of w na (a - b) (toI_more hs h)]
      exact rsum_more w na nb A B n m ca cb a b hA hB hn hm h2 h
end Go.Proofs.YtglgfjknhplajaaGreatDoor

/- The reference's Add and Sub. -/
namespace Go.Proofs.YtglgfjknhplajaaGreatDoor
open Go.RowKit

set_option maxRecDepth 100000 in
set_option maxHeartbeats 1000000 in
theorem radd_bad (w : World) (na nb : Bool) (A B : Option Addr) (n m ca cb : Nat) (xs ys : List Nat) (hA : Lm w w.heap.size A n ca xs) (hB : Lm w w.heap.size B m cb ys) (hv : chkB na xs nb ys = 8) :
    Calls Tryz.prog 55 #[.agg #[.bool na, .slice A n ca], .agg #[.bool nb, .slice B m cb]] w (RW w false [] 8) := by
  have HA := Lib.hid hA
  have HB := Lib.hid hB
  have HV := Lib.hid hv
  clear hv
  go_enter Tryz.func55, Tryz.ntmps55
  go_wp2_with fail
  refine (rboth_any _ _ _ _ _ _ _ _ _ _ _ (((HA.out.box _).box _).box _) (((HB.out.box _).box _).box _) 8 HV.out).mono ?_
  rintro e w1 ⟨rfl, hb1⟩
  have ⟨hx0, hx1, hy0, hy1, hz0, hz1, hf0, hf1, hsz⟩ := box3 hb1
  go_wp2_with fail
  refine (rboth_any _ _ _ _ _ _ _ _ _ _ _ ((((HA.out.box _).box _).box _).via hb1) ((((HB.out.box _).box _).box _).via hb1) 8 HV.out).mono ?_
  rintro e w2 ⟨rfl, hb2⟩
  have hky2 := keep2 hb2 hsz ⟨hz0, hz1⟩
  have ⟨hkf0, hkf1⟩ := keepF hb2 hsz ⟨hf0, hf1⟩
  go_wp2
  exact post_ws Tryz.results55 rfl rfl hky2.1 hky2.2 ⟨none, 0, 0, rfl, Lm.nil _ _, below_set2 ((bbox (bbox (bbox hb1))).trans (hb2.mono (by omega))) (by omega) _ _⟩

set_option maxRecDepth 100000 in
set_option maxHeartbeats 1000000 in
theorem radd_ok (w : World) (na nb : Bool) (A B : Option Addr) (n m ca cb a b : Nat) (hA : Lm w w.heap.size A n ca (digs a)) (hB : Lm w w.heap.size B m cb (digs b)) (hv : chkB na (digs a) nb (digs b) = 0) :
    Calls Tryz.prog 55 #[.agg #[.bool na, .slice A n ca], .agg #[.bool nb, .slice B m cb]] w (RZ w (toI na a + toI nb b)) := by
  have h41 := (chk_ok.1 (chkB_ok.1 hv).1).1
  have h42 := (chk_ok.1 (chkB_ok.1 hv).2).1
  rw [hA.len] at h41
  rw [hB.len] at h42
  have HA := Lib.hid hA
  have HB := Lib.hid hB
  have HV := Lib.hid hv
  clear hv
  go_enter Tryz.func55, Tryz.ntmps55
  go_wp2_with fail
  refine (rboth_any _ _ _ _ _ _ _ _ _ _ _ (((HA.out.box _).box _).box _) (((HB.out.box _).box _).box _) 0 HV.out).mono ?_
  rintro e w1 ⟨rfl, hb1⟩
  have ⟨hx0, hx1, hy0, hy1, hz0, hz1, hf0, hf1, hsz⟩ := box3 hb1
  go_wp2_with fail
  refine (rsum_any _ _ _ _ _ _ _ _ _ a b ((((HA.out.box _).box _).box _).via hb1) ((((HB.out.box _).box _).box _).via hb1) (by omega) (by omega)).mono ?_
  rintro e w2 ⟨A2, n2, c2, rfl, hL2, hb2⟩
  have hky2 := keep2 hb2 hsz ⟨hz0, hz1⟩
  have ⟨hkf0, hkf1⟩ := keepF hb2 hsz ⟨hf0, hf1⟩
  go_wp2
  exact post_ws Tryz.results55 rfl rfl hky2.1 hky2.2 ⟨A2, n2, c2, rfl, hL2.set2 hky2.1 hky2.2 _ _, below_set2 ((bbox (bbox (bbox hb1))).trans (hb2.mono (by omega))) (by omega) _ _⟩

set_option maxRecDepth 100000 in
set_option maxHeartbeats 1000000 in
theorem rsub_bad (w : World) (na nb : Bool) (A B : Option Addr) (n m ca cb : Nat) (xs ys : List Nat) (hA : Lm w w.heap.size A n ca xs) (hB : Lm w w.heap.size B m cb ys) (hv : chkB na xs nb ys = 8) :
    Calls Tryz.prog 56 #[.agg #[.bool na, .slice A n ca], .agg #[.bool nb, .slice B m cb]] w (RW w false [] 8) := by
  have HA := Lib.hid hA
  have HB := Lib.hid hB
  have HV := Lib.hid hv
  clear hv
  go_enter Tryz.func56, Tryz.ntmps56
  go_wp2_with fail
  refine (rboth_any _ _ _ _ _ _ _ _ _ _ _ (((HA.out.box _).box _).box _) (((HB.out.box _).box _).box _) 8 HV.out).mono ?_
  rintro e w1 ⟨rfl, hb1⟩
  have ⟨hx0, hx1, hy0, hy1, hz0, hz1, hf0, hf1, hsz⟩ := box3 hb1
  go_wp2_with fail
  refine (rboth_any _ _ _ _ _ _ _ _ _ _ _ ((((HA.out.box _).box _).box _).via hb1) ((((HB.out.box _).box _).box _).via hb1) 8 HV.out).mono ?_
  rintro e w2 ⟨rfl, hb2⟩
  have hky2 := keep2 hb2 hsz ⟨hz0, hz1⟩
  have ⟨hkf0, hkf1⟩ := keepF hb2 hsz ⟨hf0, hf1⟩
  go_wp2
  exact post_ws Tryz.results56 rfl rfl hky2.1 hky2.2 ⟨none, 0, 0, rfl, Lm.nil _ _, below_set2 ((bbox (bbox (bbox hb1))).trans (hb2.mono (by omega))) (by omega) _ _⟩

set_option maxRecDepth 100000 in
set_option maxHeartbeats 1000000 in
theorem rsub_way (w : World) (na nb s : Bool) (A B : Option Addr) (n m ca cb a b : Nat) (hA : Lm w w.heap.size A n ca (digs a)) (hB : Lm w w.heap.size B m cb (digs b)) (hv : chkB na (digs a) nb (digs b) = 0) (hs : nb = true ∧ s = false ∨ nb = false ∧ m = 0 ∧ s = false ∨ nb = false ∧ 0 < m ∧ s = true) :
    Calls Tryz.prog 56 #[.agg #[.bool na, .slice A n ca], .agg #[.bool nb, .slice B m cb]] w (RZ w (toI na a + toI s b)) := by
  have h41 := (chk_ok.1 (chkB_ok.1 hv).1).1
  have h42 := (chk_ok.1 (chkB_ok.1 hv).2).1
  rw [hA.len] at h41
  rw [hB.len] at h42
  have HA := Lib.hid hA
  have HB := Lib.hid hB
  have HV := Lib.hid hv
  have hcB := hB.cap
  have hxB := hB.max
  clear hv hA hB
  rcases hs with ⟨rfl, rfl⟩ | ⟨rfl, rfl, rfl⟩ | ⟨rfl, hm0, rfl⟩
  all_goals
    go_enter Tryz.func56, Tryz.ntmps56
    go_wp2_with fail
    refine (rboth_any _ _ _ _ _ _ _ _ _ _ _ (((HA.out.box _).box _).box _) (((HB.out.box _).box _).box _) 0 HV.out).mono ?_
    rintro e w1 ⟨rfl, hb1⟩
    have ⟨hx0, hx1, hy0, hy1, hz0, hz1, hf0, hf1, hsz⟩ := box3 hb1
    go_wp2_with fail
    refine (rsum_any _ _ _ _ _ _ _ _ _ a b ((((HA.out.box _).box _).box _).via hb1) ((((HB.out.box _).box _).box _).via hb1) (by omega) (by omega)).mono ?_
    rintro e w2 ⟨A2, n2, c2, rfl, hL2, hb2⟩
    have hky2 := keep2 hb2 hsz ⟨hz0, hz1⟩
    have ⟨hkf0, hkf1⟩ := keepF hb2 hsz ⟨hf0, hf1⟩
    go_wp2
    exact post_ws Tryz.results56 rfl rfl hky2.1 hky2.2 ⟨A2, n2, c2, rfl, hL2.set2 hky2.1 hky2.2 _ _, below_set2 ((bbox (bbox (bbox hb1))).trans (hb2.mono (by omega))) (by omega) _ _⟩

theorem rsub_ok (w : World) (na nb : Bool) (A B : Option Addr) (n m ca cb a b : Nat) (hA : Lm w w.heap.size A n ca (digs a)) (hB : Lm w w.heap.size B m cb (digs b)) (hv : chkB na (digs a) nb (digs b) = 0) :
    Calls Tryz.prog 56 #[.agg #[.bool na, .slice A n ca], .agg #[.bool nb, .slice B m cb]] w (RZ w (toI na a - toI nb b)) := by
  obtain ⟨s, hs, he⟩ : ∃ s, (nb = true ∧ s = false ∨ nb = false ∧ m = 0 ∧ s = false ∨ nb = false ∧ 0 < m ∧ s = true) ∧ toI na a - toI nb b = toI na a + toI s b := by
    cases nb
    · rcases Nat.eq_zero_or_pos m with h | h
      · have hb : b = 0 := digs_nil.1 (List.eq_nil_of_length_eq_zero (by rw [hB.len]; exact h))
        exact ⟨false, .inr (.inl ⟨rfl, h, rfl⟩), by subst hb; simp [toI]⟩
      · exact ⟨true, .inr (.inr ⟨rfl, h, rfl⟩), by simp [toI]; omega⟩
    · exact ⟨false, .inl ⟨rfl, rfl⟩, by simp [toI]⟩
  rw [he]
  exact rsub_way w na nb s A B n m ca cb a b hA hB hv hs
end Go.Proofs.YtglgfjknhplajaaGreatDoor

/- The reference's times. -/
namespace Go.Proofs.YtglgfjknhplajaaGreatDoor
open Go.RowKit

theorem grownBy_drewN {w w' : World} {row : Option Nat} (h : w.grownBy w' row) (d : Nat) : w.grownBy (w'.drewN d) row := ⟨h.os, h.tape, h.output, h.size, h.block⟩
theorem Ld.drewN {w : World} {g : Nat} {cs : List Nat} (h : Ld w g cs) (d : Nat) : Ld (w.drewN d) g cs := h

set_option maxRecDepth 100000 in
set_option maxHeartbeats 1000000 in
theorem rtimes_any (w : World) (A B : Option Addr) (n m ca cb : Nat) (xs ys : List Nat) (v : Nat) (hA : Lm w w.heap.size A n ca xs) (hB : Lm w w.heap.size B m cb ys) (hn : n ≤ 100000000) (hm : m ≤ 100000000) (hv : val ys * val xs = v) :
    Calls Tryz.prog 66 #[.slice A n ca, .slice B m cb] w (RL w (n + m) v) := by
  have h1 := hA.cap
  have h2 := hA.max
  have h3 := hB.cap
  have h4 := hB.max
  have HA := Lib.hid hA
  have HB := Lib.hid hB
  have hA0 := hA.good
  have hB0 := hB.good
  have HV := Lib.hid hv
  clear hA hB hv
  have hmk := fun w => run_make_u32 ((n : Int) + (m : Int)) ((n : Int) + (m : Int)) (n + m) (by omega) (by omega) (by omega) w
  go_enter Tryz.func66, Tryz.ntmps66
  go_wp2
  clear hmk
  go_loopw [6] (fun i wr => ∃ (k : Nat) (ps : List Nat), k ≤ n ∧ i = .int .i64 k ∧ Ld wr w.heap.size ps ∧ Good ps ∧ ps.length = m + n ∧ val (ps.take (m + k)) = val ys * val (xs.take k) ∧ (∀ j, m + k ≤ j → ps[j]?.getD 0 = 0) ∧ Below w.heap.size w wr) (fun i _ => n - (intOf i).toNat)
  case atStart => exact ⟨0, zer (n + m), Nat.zero_le _, rfl, Ld.new _ _, zer_good _, by rw [zer_len, Nat.add_comm], by rw [zer_val]; simp [val_nil], fun j _ => zer_get _ _, (Below.refl _ _).alloc (Nat.le_refl _) _⟩
  case round =>
    obtain ⟨k, ps, hk, rfl, hL, hG, hlen, hval, hz, hb⟩ := hrel
    have HL := Lib.hid hL
    have HG := Lib.hid hG
    have HLen := Lib.hid hlen
    have HVal := Lib.hid hval
    have HZ := Lib.hid hz
    have HBl := Lib.hid hb
    clear hL hG hlen hval hz hb
    by_cases hlt : k < n
    · obtain ⟨b, bo, rfl, hbb, hcx⟩ := HA.out.cell hlt
      have hxg := hA0.get k
      have HS := Lib.hid (prod_step HB.out.len HLen.out hlt HVal.out)
      have hgs := HL.out.lt
      have HX := Lib.hid (HA.out.below HBl.out)
      have HY := Lib.hid (HB.out.below HBl.out)
      go_wp2
      go_loopw [7, 8] (fun cy i wz => ∃ k2 : Nat, k2 ≤ m ∧ i = .int .i64 k2 ∧ cy = .int .u64 ((mulK (ps.drop k) ys (xs[k]?.getD 0) k2).2 : Nat) ∧ Ld wz w.heap.size (spl ps k (mulK (ps.drop k) ys (xs[k]?.getD 0) k2).1) ∧ wr.grownBy wz (some w.heap.size)) (fun _ i _ => m - (intOf i).toNat)
      case atStart => exact ⟨0, Nat.zero_le _, rfl, rfl, by show Ld wr w.heap.size (spl ps k []); rw [spl_nil]; exact HL.out, World.grownBy.refl wr _⟩
      case round =>
        obtain ⟨k2, hk2, rfl, rfl, hLk, hgk⟩ := hrel
        by_cases hlt2 : k2 < m
        · have hlen := mulK_len (ps.drop k) ys (xs[k]?.getD 0) k2
          have hcx2 := ((HX.out.grownLt hgk (Nat.le_of_lt hgs)).cell hlt)
          obtain ⟨b1, bo1, e1, _, hcx⟩ := hcx2
          cases e1
          obtain ⟨b2, bo2, rfl, hb2, hcy⟩ := (HY.out.grownLt hgk (Nat.le_of_lt hgs)).cell hlt2
          have hct := hLk.cell (i := k + k2) (by rw [spl_len (by rw [hlen, HLen.out]; omega), HLen.out]; omega)
          have hat := spl_at (cs := ps) (off := k) (ts := (mulK (ps.drop k) ys (xs[k]?.getD 0) k2).1) (by rw [hlen, HLen.out]; omega)
          rw [hlen] at hat
          rw [hat] at hct
          have hfr := hLk.frozen (k + k2)
          have hcar := mulK_carry (HG.out.drop k) hB0 hxg k2
          have hyg := hB0.get k2
          have hpg := HG.out.get (k + k2)
          have hmul := mul_bd hyg hxg
          obtain ⟨S, hS⟩ : ∃ S : Nat, S = (mulK (ps.drop k) ys (xs[k]?.getD 0) k2).2 + (ys[k2]?.getD 0 * xs[k]?.getD 0 + ps[k + k2]?.getD 0) := ⟨_, rfl⟩
          have HE : Hid (IntKind.u64.wrap ((((mulK (ps.drop k) ys (xs[k]?.getD 0) k2).2 : Nat) : Int) + IntKind.u64.wrap (IntKind.u64.wrap (((xs[k]?.getD 0 : Nat) : Int) * ((ys[k2]?.getD 0 : Nat) : Int)) + ((ps[k + k2]?.getD 0 : Nat) : Int))) = (S : Int)) := by
            show _ = _
            rw [← Int.natCast_mul, Nat.mul_comm, hS, IntKind.wrap_u64, IntKind.wrap_u64, IntKind.wrap_u64]
            omega
          have HS2 : Hid ((mulK (ps.drop k) ys (xs[k]?.getD 0) (k2 + 1)) = ((mulK (ps.drop k) ys (xs[k]?.getD 0) k2).1 ++ [((mulK (ps.drop k) ys (xs[k]?.getD 0) k2).2 + (ys[k2]?.getD 0 * xs[k]?.getD 0 + ps[k + k2]?.getD 0)) % 4294967296], ((mulK (ps.drop k) ys (xs[k]?.getD 0) k2).2 + (ys[k2]?.getD 0 * xs[k]?.getD 0 + ps[k + k2]?.getD 0)) / 4294967296)) := by
            show _ = _
            rw [← List.getElem?_drop]; rfl
          rw [← hS] at HS2
          have HSb : Hid (S < 18446744073709551616) := by show _ < _; omega
          have HK := Lib.hid hLk
          have HSet := Lib.hid (spl_set (cs := ps) (off := k) (ts := (mulK (ps.drop k) ys (xs[k]?.getD 0) k2).1) (S % 4294967296) (by rw [hlen, HLen.out]; omega))
          have HLn := Lib.hid hlen
          clear hLk hat hlen hS
          have hs1 : IntKind.i64.wrap ((k : Int) + (k2 : Int)) = (k : Int) + (k2 : Int) := IntWalk.i64_in _ (by omega)
          have hs2 : (0 : Int) ≤ (k : Int) + (k2 : Int) := by omega
          have hs3 : ((k : Int) + (k2 : Int)).toNat = k + k2 := by omega
          have hs4 : (k : Int) + (k2 : Int) < ((n + m : Nat) : Int) := by omega
          go_wp2
          go_quiet (fail)
          clear hs1
          go_wp2
          rw [HE.out]
          go_roundw
          case rel =>
            refine ⟨k2 + 1, by omega, by go_num, ?_, ?_, ?_⟩
            · rw [HS2.out]
              exact congrArg (Value.int IntKind.u64) (Int.natCast_ediv _ _).symm
            · have e := (HK.out.drewN nq).set_ (k + k2) (S % 4294967296)
              have e2 := HSet.out
              rw [HLn.out] at e2
              rw [e2] at e
              rw [HS2.out]
              simp only [Int.natCast_emod] at e
              exact e
            · exact grownBy_trans (grownBy_drewN hgk nq) (grownBy_setCellAt _ _ _ _)
          case measure => simp [intOf]; omega
        · obtain rfl : k2 = m := by omega
          have hml := mulK_len (ps.drop k) ys (xs[k]?.getD 0) k2
          have hcar := mulK_carry (HG.out.drop k) hB0 hxg k2
          have hsl : (spl ps k (mulK (ps.drop k) ys (xs[k]?.getD 0) k2).1).length = k2 + n := by rw [spl_len (by rw [hml, HLen.out]; omega), HLen.out]
          have hct := hLk.cell (i := k + k2) (by rw [hsl]; omega)
          have hfr := hLk.frozen (k + k2)
          have HL1 := Lib.hid hLk
          have HG1 := Lib.hid hgk
          have HML := Lib.hid hml
          clear hLk hgk hml hsl
          go_wp2
          go_roundw
          case rel =>
            have e2 := HL1.out.set_ (k + k2) (mulK (ps.drop k) ys (xs[k]?.getD 0) k2).2
            have e3 := spl_set (cs := ps) (off := k) (ts := (mulK (ps.drop k) ys (xs[k]?.getD 0) k2).1) (mulK (ps.drop k) ys (xs[k]?.getD 0) k2).2 (by rw [HML.out, HLen.out]; omega)
            rw [HML.out] at e3
            rw [e3] at e2
            have hl2 : k + ((mulK (ps.drop k) ys (xs[k]?.getD 0) k2).1 ++ [(mulK (ps.drop k) ys (xs[k]?.getD 0) k2).2]).length ≤ ps.length := by
              rw [List.length_append, HML.out, HLen.out]
              show k + (k2 + 1) ≤ k2 + n
              omega
            refine ⟨k + 1, _, by omega, by go_num, e2, ?_, ?_, HS.out, fun j hj => ?_, ?_⟩
            · exact spl_good HG.out ((mulK_good _ _ _ _).append (Good.nil.cons (mulK_carry (HG.out.drop _) hB0 hxg k2)))
            · rw [spl_len hl2, HLen.out]
            · rw [spl_after hl2 (by rw [List.length_append, HML.out]; show k + (k2 + 1) ≤ j; omega)]
              exact HZ.out j (by omega)
            · exact (HBl.out.grown HG1.out (by have := HBl.out.size; omega) (fun b e => by injection e with e; omega)).setCell (p := ⟨w.heap.size, k + k2, none⟩) (Nat.le_refl _) _
          case measure => simp [intOf]; omega
    · obtain rfl : k = n := by omega
      have hvs : Hid (val ps = v) := by
        have e := HVal.out
        rw [List.take_of_length_le (by rw [HLen.out]; exact Nat.le_refl _), List.take_of_length_le (by rw [HA.out.len]; exact Nat.le_refl _), HV.out] at e
        exact e
      have hlm : Hid (Lm wr wr.heap.size (some ⟨w.heap.size, 0, none⟩) (k + m) (k + m) ps) := by
        have e := HL.out.lm HG.out (off := 0) (n := k + m) (c := k + m) (by rw [HLen.out]; omega) (Nat.le_refl _) (by omega)
        rw [List.drop_zero, List.take_of_length_le (by rw [HLen.out]; omega)] at e
        exact e
      go_wp2
      go_ret
      exact ⟨_, _, ps, rfl, hlm.out, hvs.out, HBl.out⟩
end Go.Proofs.YtglgfjknhplajaaGreatDoor

