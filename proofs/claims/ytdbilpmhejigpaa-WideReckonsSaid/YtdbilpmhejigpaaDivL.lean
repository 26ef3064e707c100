/- wide.divideLong. -/
import Derived.Test.YtdbilpmhejigpaaDivM
import Derived.Laws.CopyOwn
import Derived.Deep.RegionWith
namespace Go.Proofs.Ytdbilpmhejigpaa
open Go.RowKit

set_option maxRecDepth 100000 in
set_option maxHeartbeats 1000000 in
theorem lz32_any (w : World) (x : Nat) (h : x < 4294967296) :
    Calls Try.prog 69 #[.int .u32 (x : Int)] w fun e w' => e = .returned (.int .i64 ((32 - Lib.bitLen x : Nat) : Int)) ∧ w = w' := by
  have hb := bitLen32 x h
  go_enter Try.func69, Try.ntmps69
  go_wp2_with (go_at_call 68; refine (len32_any _ _ (by omega) (by omega)).mono ?_; rintro e w' ⟨rfl, rfl⟩)
  go_ret
  exact ⟨ret_int (by omega), rfl⟩

theorem Lm.addr {w : World} {B n c : Nat} {A : Option Addr} {xs : List Nat} (h : Lm w B A n c xs) (hn : 0 < n) : ∃ ad, A = some ad := by
  obtain ⟨b, off, e, _⟩ := h.at_ hn
  exact ⟨_, e⟩
/-- With the highest binary digit in its place. -/
theorem up_facts {b m : Nat} (hl : (digs b).length = m) (hm : 0 < m) : b * 2 ^ (32 - Lib.bitLen ((digs b)[m - 1]?.getD 0)) < 4294967296 ^ m ∧ 2147483648 * 4294967296 ^ (m - 1) ≤ b * 2 ^ (32 - Lib.bitLen ((digs b)[m - 1]?.getD 0)) ∧ (digs (b * 2 ^ (32 - Lib.bitLen ((digs b)[m - 1]?.getD 0)))).length = m ∧ 1 ≤ Lib.bitLen ((digs b)[m - 1]?.getD 0) := by
  have hb : 0 < b := digs_pos.1 (by omega)
  obtain ⟨h1, h2, h3⟩ := lenS_pos hb
  have e : lenS (digs b) = 32 * (m - 1) + Lib.bitLen ((digs b)[m - 1]?.getD 0) := by unfold lenS; rw [if_neg (by omega), hl]
  have hb32 := bitLen32 _ ((digs_good b).get (m - 1))
  obtain ⟨hx, _, _⟩ := bitLen_bounds (x := (digs b)[m - 1]?.getD 0) (by have := top_pos hb; rwa [hl] at this) ((digs_good b).get (m - 1))
  have p1 : b * 2 ^ (32 - Lib.bitLen ((digs b)[m - 1]?.getD 0)) < 4294967296 ^ m := by
    have h4 := (Nat.mul_lt_mul_right (a := 2 ^ (32 - Lib.bitLen ((digs b)[m - 1]?.getD 0))) (Nat.pow_pos (by omega))).2 h3
    rw [← Nat.pow_add] at h4
    rw [show (4294967296 : Nat) = 2 ^ 32 from rfl, ← Nat.pow_mul]
    have e5 : lenS (digs b) + (32 - Lib.bitLen ((digs b)[m - 1]?.getD 0)) = 32 * m := by omega
    rwa [e5] at h4
  have p2 : 2147483648 * 4294967296 ^ (m - 1) ≤ b * 2 ^ (32 - Lib.bitLen ((digs b)[m - 1]?.getD 0)) := by
    have h4 := Nat.mul_le_mul_right (2 ^ (32 - Lib.bitLen ((digs b)[m - 1]?.getD 0))) h2
    rw [← Nat.pow_add] at h4
    rw [show (4294967296 : Nat) = 2 ^ 32 from rfl, ← Nat.pow_mul, show (2147483648 : Nat) = 2 ^ 31 from rfl, ← Nat.pow_add]
    have e5 : lenS (digs b) - 1 + (32 - Lib.bitLen ((digs b)[m - 1]?.getD 0)) = 31 + 32 * (m - 1) := by omega
    rwa [e5] at h4
  refine ⟨p1, p2, ?_, hx⟩
  generalize b * 2 ^ (32 - Lib.bitLen ((digs b)[m - 1]?.getD 0)) = v at p1 p2
  refine Nat.le_antisymm (digs_len.2 p1) ?_
  rcases Nat.lt_or_ge (digs v).length m with h | h
  · have h5 := digs_len.1 (show (digs v).length ≤ m - 1 by omega)
    have hp := pow_pos_ (m - 1)
    omega
  · exact h

/-- copy(to, from): to a block of the call's own that is known whole, and is not shorter. -/
theorem wpList_copy_u32 {w : World} {ops : Array Oper} {rest : List Oper} {o : Oper} {a : Act} {Q : Exit → Act → World → Prop} (hgd : o.guard = none) (d s : Operand)
    (ho : o.op = .call { callee := .builtin .copy, args := #[d, s], argTypes := #[22, 22] }) (g k c : Nat) (cs : List Nat) (hL : Ld w g cs) (hk : cs.length = k) (hd : a.eval d = .slice (some ⟨g, 0, none⟩) k c)
    (B : Nat) (ad : Addr) (m c' : Nat) (xs : List Nat) (hs : a.eval s = .slice (some ad) m c') (hX : Lm w B (some ad) m c' xs) (hm : m ≤ k)
    (h : ∀ w', Ld w' g (xs ++ cs.drop m) → Below g w w' → wpList Try.prog ops Q rest (a.put o.dst (goInt m)) w') : wpList Try.prog ops Q (o :: rest) a w := by
  obtain ⟨i0, hi0, hz0, hz1, hz2⟩ := info_parts u32_info
  have hl := hX.len
  have e : (xs.map u32c).length = m := by rw [List.length_map, hl]
  refine wpList_copy_own hgd d s 22 22 ho 63 slice_u32 (by rw [hi0]; show some i0.size = some 1; rw [hz1]) g 0 k c ad m c' hd hs _ 63 hL (xs.map u32c) (by rw [e]; exact (Nat.min_eq_left hm).symm) hX.cells (by simp; omega) (u32c_one xs) ?_
  rw [e]
  refine h _ ?_ (below_setRow (Below.refl _ _) (Nat.le_refl _) _)
  have hr := setRow_heap w g _ ((cs.map u32c).toArray.toList.take 0 ++ (xs.map u32c ++ (cs.map u32c).toArray.toList.drop (0 + m))).toArray 63 _ hL
  unfold Ld
  rw [hr]
  simp [List.map_drop]

theorem Good.set {qs : List Nat} (g : Good qs) {q : Nat} (hq : q < 4294967296) (k : Nat) : Good (qs.set k q) := fun x hx => by
  rcases List.mem_or_eq_of_mem_set hx with h | h
  · exact g x h
  · rw [h]; exact hq
theorem val_set_drop {qs : List Nat} {k : Nat} (q : Nat) (hk : k < qs.length) : val ((qs.set k q).drop k) = q + 4294967296 * val (qs.drop (k + 1)) := by
  rw [val_step, List.drop_set_of_lt (Nat.lt_succ_self k), List.getElem?_set_self hk]
  rfl
theorem spl_drop_take {rs S : List Nat} {k : Nat} (t : Nat) (h : k + S.length < rs.length) : ((spl rs k (S ++ [t])).drop k).take S.length = S := by
  have hl : (rs.take k).length = k := by rw [List.length_take]; omega
  unfold spl
  rw [List.drop_append_of_le_length (by omega), List.drop_of_length_le (by omega), List.nil_append, List.append_assoc, List.take_left]
theorem spl_at_last {rs S : List Nat} {k : Nat} (t : Nat) (h : k + S.length < rs.length) : (spl rs k (S ++ [t]))[k + S.length]?.getD 0 = t := by
  have hl : (rs.take k).length = k := by rw [List.length_take]; omega
  unfold spl
  rw [List.getElem?_append_right (by omega), hl, Nat.add_sub_cancel_left, List.append_assoc, List.getElem?_append_right (Nat.le_refl _), Nat.sub_self]
  rfl
theorem spl_set_last {rs S : List Nat} {k : Nat} (t u : Nat) (h : k + S.length < rs.length) : (spl rs k (S ++ [t])).set (k + S.length) u = spl rs k (S ++ [u]) := by
  have hl : (rs.take k).length = k := by rw [List.length_take]; omega
  have e := set_mid (rs.take k) S ([t] ++ rs.drop (k + (S ++ [t]).length)) u (by simp)
  unfold spl
  rw [hl] at e
  rw [List.append_assoc, e]
  simp
theorem spl_spl {rs S M : List Nat} {k : Nat} (t : Nat) (h : k + S.length < rs.length) (hM : M.length = S.length) : spl (spl rs k (S ++ [t])) k M = spl rs k (M ++ [t]) := by
  have hl : (rs.take k).length = k := by rw [List.length_take]; omega
  have e1 : (spl rs k (S ++ [t])).take k = rs.take k := by
    unfold spl
    rw [List.take_append_of_le_length (by omega), List.take_of_length_le (by omega)]
  have e2 : (spl rs k (S ++ [t])).drop (k + M.length) = [t] ++ rs.drop (k + (S ++ [t]).length) := by
    unfold spl
    rw [hM, List.append_assoc, ← List.append_assoc, List.drop_append, List.drop_of_length_le (by rw [List.length_append, hl]; exact Nat.le_refl _), List.nil_append, List.length_append, hl, Nat.sub_self, List.drop_zero]
  show (spl rs k (S ++ [t])).take k ++ (M ++ (spl rs k (S ++ [t])).drop (k + M.length)) = rs.take k ++ ((M ++ [t]) ++ rs.drop (k + (M ++ [t]).length))
  rw [e1, e2, List.append_assoc M, List.length_append, List.length_append, hM]

set_option maxRecDepth 100000 in
set_option maxHeartbeats 1000000 in
theorem divideLong_any (w : World) (A B : Option Addr) (n m ca cb a b : Nat) (hA : Lm w w.heap.size A n ca (digs a)) (hB : Lm w w.heap.size B m cb (digs b)) (hm2 : 2 ≤ m) (hle : b ≤ a) (hn9 : n ≤ 1000000) :
    Calls Try.prog 59 #[.slice A n ca, .slice B m cb] w fun e w' => ∃ Q cq R cr, e = .returned (.tuple #[.slice Q (digs (a / b)).length cq, .slice R (digs (a % b)).length cr]) ∧
      Lm w' w'.heap.size Q (digs (a / b)).length cq (digs (a / b)) ∧ Lm w' w'.heap.size R (digs (a % b)).length cr (digs (a % b)) ∧ Below w.heap.size w w' := by
  have hcA := hA.cap
  have hxA := hA.max
  have hcB := hB.cap
  have hxB := hB.max
  have hlA := hA.len
  have hlB := hB.len
  have hmn : m ≤ n := by rw [← hlA, ← hlB]; exact digs_mono hle
  have gt := hB.good.get (m - 1)
  obtain ⟨bb, bo, e, hbb, cb1⟩ := hB.cell (k := m - 1) (by omega)
  have hf := up_facts hlB (by omega)
  obtain ⟨up, hup⟩ : ∃ up, up = 32 - Lib.bitLen ((digs b)[m - 1]?.getD 0) := ⟨_, rfl⟩
  have hup9 : up ≤ 31 := by omega
  rw [← hup] at hf
  obtain ⟨V, hV⟩ : ∃ V, V = b * 2 ^ up := ⟨_, rfl⟩
  obtain ⟨U, hU⟩ : ∃ U, U = a * 2 ^ up := ⟨_, rfl⟩
  rw [← hV] at hf
  have HUP := Lib.hid hup
  have HUB : Hid (U < 2147483648 * 4294967296 ^ n) := by
    show _ < _
    have h1 := digs_len.1 (Nat.le_of_eq hlA)
    rw [hU, Nat.mul_comm]
    exact Nat.mul_lt_mul_of_le_of_lt (Nat.pow_le_pow_right (by omega) hup9) h1 (by decide)
  have HDiv : Hid (U / V = a / b ∧ U % V = a % b * 2 ^ up) := by
    show _ ∧ _
    rw [hU, hV]
    exact ⟨Nat.mul_div_mul_right _ _ (Nat.pow_pos (by omega)), Nat.mul_mod_mul_right _ _ _⟩
  have HV : Hid (val (digs b) * 2 ^ up = V) := by show _ = _; rw [digs_val, hV]
  have HU : Hid (val (digs a) * 2 ^ up = U) := by show _ = _; rw [digs_val, hU]
  have HF := Lib.hid hf
  have HLA := Lib.hid hlA
  have HUl : Hid ((digs U).length ≤ n + 1) := by
    show _ ≤ _
    have h1 := digs_len.1 (Nat.le_of_eq hlA)
    refine digs_len.2 ?_
    rw [hU, Nat.pow_succ]
    exact Nat.mul_lt_mul_of_lt_of_le h1 (Nat.pow_le_pow_right (by omega) (show up ≤ 32 by omega)) (by decide)
  have hap : 0 < a := by
    have := digs_pos (n := b)
    omega
  have HUp : Hid (0 < (digs U).length) := by
    show 0 < _
    rw [digs_pos, hU]
    exact Nat.mul_pos hap (Nat.pow_pos (by omega))
  clear hup hV hU hf
  have hmk := fun w => run_make_u32 ((n : Int) + 1) ((n : Int) + 1) (n + 1) (by omega) (by omega) (by omega) w
  have hmk2 := fun w => run_make_u32 ((n : Int) + 1 - (m : Int)) ((n : Int) + 1 - (m : Int)) (n + 1 - m) (by omega) (by omega) (by omega) w
  have i1 : ((m : Int) - 1).toNat = m - 1 := by omega
  have HA := Lib.hid hA
  have HB := Lib.hid hB
  clear hA hB hlA hlB
  subst e
  go_enter Try.func59, Try.ntmps59
  go_wp2_with (first
    | (go_at_call 69; refine (lz32_any _ _ gt).mono ?_; rintro e w1 ⟨rfl, rfl⟩; rw [← HUP.out])
    | (go_at_call 70; refine (left_any _ A _ _ _ _ U ((HA.out.via hb1).box _) (by omega) (by omega) HU.out).mono ?_; rintro e w2 ⟨B2, c2, rfl, hL2, hb2⟩; obtain ⟨a2, rfl⟩ := hL2.addr HUp.out; have hD2 := (Ld.new w1 (n + 1)).below hb2 (by simp))
    | (with_reducible refine wpList_copy_u32 rfl _ _ rfl w1.heap.size (n + 1) (n + 1) (zer (n + 1)) hD2 (zer_len _) rfl _ _ _ _ (digs U) rfl hL2 HUl.out ?_; intro w3 hD3 hb3)
    | (go_at_call 70; refine (left_any _ _ _ _ _ _ V HB.out (by omega) (by omega) HV.out).mono ?_; rintro e w1 ⟨B1, c1, rfl, hL1, hb1⟩; rw [HF.out.2.2.1] at hL1 ⊢))
  have hg1 : w1.heap.size < w3.heap.size := hD3.lt
  have hB1 : Below w1.heap.size w1 w3 := (((Below.refl _ _).alloc (Nat.le_refl _) _).trans (hb2.mono (by simp))).trans hb3
  have HB0 := Lib.hid hb1
  have HL1 := Lib.hid hL1
  have HB1 := Lib.hid hB1
  have HD3 := Lib.hid hD3
  clear hD2 hL2 hb2 hb3 hL1 hb1 hB1 hD3 hmk hmk2
  go_loopw [9] (fun i wr => ∃ (k : Nat) (rs qs : List Nat), k ≤ n + 1 - m ∧ i = .int .i64 ((k : Int) - 1) ∧ Ld wr w1.heap.size rs ∧ Good rs ∧ rs.length = n + 1 ∧ Ld wr w3.heap.size qs ∧ Good qs ∧ qs.length = n + 1 - m ∧
      val (rs.drop k) < V ∧ val rs + 4294967296 ^ k * (V * val (qs.drop k)) = U ∧ Below w1.heap.size w1 wr) (fun i _ => (intOf i + 1).toNat)
  case atStart =>
    have hrl : (digs U ++ (zer (n + 1)).drop (digs U).length).length = n + 1 := by have := HUl.out; simp [zer]; omega
    have hrv : val (digs U ++ (zer (n + 1)).drop (digs U).length) = U := by
      rw [val_append, digs_val, val_zero (xs := (zer (n + 1)).drop (digs U).length) (fun x hx => (List.mem_replicate.1 (List.mem_of_mem_drop hx)).2)]
      rfl
    have hgr : Good (digs U ++ (zer (n + 1)).drop (digs U).length) := (digs_good U).append ((zer_good _).drop _)
    refine ⟨n + 1 - m, _, zer (n + 1 - m), Nat.le_refl _, rfl, HD3.out.below ((Below.refl _ _).alloc (Nat.le_refl _) _) hg1, hgr, hrl, Ld.new _ _, zer_good _, zer_len _, ?_, ?_, HB1.out.alloc (Nat.le_of_lt hg1) _⟩
    · rw [val_drop _ hgr, hrv]
      refine Nat.div_lt_of_lt_mul (Nat.lt_of_lt_of_le HUB.out ?_)
      have h5 := Nat.mul_le_mul_left (4294967296 ^ (n + 1 - m)) HF.out.2.1
      rw [Nat.mul_left_comm, ← Nat.pow_add, show n + 1 - m + (m - 1) = n by omega] at h5
      exact h5
    · rw [hrv, List.drop_of_length_le (by rw [zer_len]; exact Nat.le_refl _)]
      simp [val_nil]
  case round =>
    obtain ⟨k, rs, qs, hk, rfl, hR, hGR, hlR, hQ, hGQ, hlQ, hI1, hI2, hb⟩ := hrel
    have HR := Lib.hid hR
    have HQ := Lib.hid hQ
    have HI1 := Lib.hid hI1
    have HI2 := Lib.hid hI2
    have HBl := Lib.hid hb
    have HGR := Lib.hid hGR
    have HGQ := Lib.hid hGQ
    clear hR hQ hI1 hI2 hb hGR hGQ
    rcases k with _ | k
    · have hQe : Hid (val qs = a / b) := by
        show _ = _
        have h1 := HI1.out
        have h2 := HI2.out
        simp only [List.drop_zero, Nat.pow_zero, Nat.one_mul] at h1 h2
        rw [← HDiv.out.1, ← h2, Nat.add_mul_div_left _ _ (by omega), Nat.div_eq_of_lt h1, Nat.zero_add]
      have hRe : Hid (val rs = a % b * 2 ^ up) := by
        show _ = _
        have h1 := HI1.out
        have h2 := HI2.out
        simp only [List.drop_zero, Nat.pow_zero, Nat.one_mul] at h1 h2
        rw [← HDiv.out.2, ← h2, Nat.add_mul_mod_self_left, Nat.mod_eq_of_lt h1]
      have HLq : Hid (Lm wr wr.heap.size (some ⟨w3.heap.size, 0, none⟩) (n + 1 - m) (n + 1 - m) qs) := by
        have e := HQ.out.lm HGQ.out (off := 0) (n := n + 1 - m) (c := n + 1 - m) (by omega) (Nat.le_refl _) (by omega)
        rwa [List.drop_zero, List.take_of_length_le (by omega)] at e
      have HLr : Hid (Lm wr wr.heap.size (some ⟨w1.heap.size, 0, none⟩) (n + 1) (n + 1) rs) := by
        have e := HR.out.lm HGR.out (off := 0) (n := n + 1) (c := n + 1) (by omega) (Nat.le_refl _) (by omega)
        rwa [List.drop_zero, List.take_of_length_le (by omega)] at e
      have hll : (digs (a % b * 2 ^ up)).length ≤ n + 1 := by
        have e := HLr.out.trim' hRe.out
        have e2 := val_lt HLr.out.good
        rw [hRe.out, HLr.out.len] at e2
        exact digs_len.2 e2
      go_wp2_with fail
      refine (trim_any _ _ _ _ _ _ (a / b) HLq.out hQe.out).mono ?_
      rintro e w8 ⟨rfl, rfl⟩
      go_wp2_with fail
      refine (trim_any _ _ _ _ _ _ (a % b * 2 ^ up) HLr.out hRe.out).mono ?_
      rintro e w8 ⟨rfl, rfl⟩
      go_wp2_with fail
      refine (right_any wr _ _ _ up (a % b * 2 ^ up) (a % b) (HLr.out.trim' hRe.out) (by omega) (by omega) (Nat.mul_div_cancel _ (Nat.pow_pos (by omega)))).mono ?_
      rintro e w9 ⟨A9, c9, rfl, hL9, hb9⟩
      go_wp2
      go_ret2
      exact ⟨_, _, _, _, rfl, (HLq.out.trim' hQe.out).via hb9, hL9, HB0.out.trans ((HBl.out.trans (hb9.mono HBl.out.size)).mono HB0.out.size)⟩
    · have hkm : k + m < rs.length := by omega
      have HP := Lib.hid (part_facts HGR.out HF.out.2.2.1 hm2 hkm HI1.out)
      have hne : ¬ (n + 1 = k) := by omega
      have HLb := Lib.hid ((HL1.out.below HBl.out))
      go_wp2_with fail
      rw [show k + m + 1 - k = m + 1 by omega]
      refine (guess_any wr w1.heap.size k (m + 1) (n + 1 - k) m c1 B1 rs (digs V) HR.out HGR.out (HLb.out.mono HBl.out.size) hm2 (by omega) (by omega) hkm HP.out.2.2.2.2.1 HP.out.2.1).mono ?_
      rintro e w4 ⟨rfl, d4, rfl⟩
      obtain ⟨D, hD⟩ : ∃ D, D = gs ((digs V)[m - 1]?.getD 0) ((digs V)[m - 2]?.getD 0) (rs[k + m]?.getD 0) (rs[k + (m - 1)]?.getD 0) (rs[k + (m - 2)]?.getD 0) := ⟨_, rfl⟩
      have hD9 : D ≤ 4294967295 := by rw [hD]; exact gs_le _ _ _ _ _
      have HP2 := HP.out.2.2.2.2.2
      rw [← hD] at HP2 ⊢
      have HPq := Lib.hid HP2
      clear hD HP2
      go_wp2_with fail
      refine (subProduct_any (wr.drewN d4) w1.heap.size k (m + 1) (n + 1 - k) m c1 B1 rs (digs V) D HR.out HGR.out (HLb.out.keep (fun _ _ _ => rfl)) (by omega) (by omega) (by omega) (by omega) (by omega) (by omega)).mono ?_
      rintro e w5 ⟨rfl, hL5, hg5⟩
      have hSl := sbK_len (rs.drop k) (digs V) D m
      have hSg := sbK_good (rs.drop k) (digs V) D m
      have hbr := sbK_carry (HGR.out.drop k) (digs_good V) (show D < 4294967296 by omega) m
      have hSv := sbK_val (xs := digs V) (HGR.out.drop k) D m
      obtain ⟨S, hS⟩ : ∃ S, S = (sbK (rs.drop k) (digs V) D m).1 := ⟨_, rfl⟩
      obtain ⟨br, hbe⟩ : ∃ br, br = (sbK (rs.drop k) (digs V) D m).2 := ⟨_, rfl⟩
      rw [← hS] at hSl hSg hSv hL5
      rw [← hbe] at hbr hSv ⊢
      rw [List.take_of_length_le (Nat.le_of_eq HF.out.2.2.1), digs_val] at hSv
      have HSv := Lib.hid hSv
      have HSg := Lib.hid hSg
      have HSl := Lib.hid hSl
      clear hS hbe hSv hSg
      have hsl : (spl rs k S).length = n + 1 := by rw [spl_len (by omega), hlR]
      have hct := hL5.cell (i := k + m) (by omega)
      rw [spl_after (by omega) (by omega)] at hct
      have hfr := hL5.frozen (k + m)
      have hgt := HGR.out.get (k + m)
      have hQ5 : Ld w5 w3.heap.size qs := (show Ld (wr.drewN d4) w3.heap.size qs from HQ.out).grown hg5 (fun e => by injection e with e; omega)
      have hcq := hQ5.cell (i := k) (by omega)
      have hfq := hQ5.frozen k
      have hgh : ¬ (w1.heap.size = w3.heap.size) := by omega
      have hhg : ¬ (w3.heap.size = w1.heap.size) := by omega
      have HL5 := Lib.hid hL5
      have HG5 := Lib.hid hg5
      have HQ5 := Lib.hid hQ5
      clear hL5 hg5 hQ5
      have hV0 : 0 < V := by have := digs_pos (n := V); rw [HF.out.2.2.1] at this; omega
      have HSP : Hid (val S < 4294967296 ^ m) := by have e := val_lt HSg.out; rwa [HSl.out] at e
      have HFin : Hid (∀ (wz : World) (P : List Nat) (q : Nat), P.length = m → Good P → val P = val (rs.drop k) % V → val (rs.drop k) / V = q → q < 4294967296 → Ld wz w1.heap.size (spl rs k (P ++ [0])) → Ld wz w3.heap.size (qs.set k q) → Below w1.heap.size w1 wz →
          ∃ (k' : Nat) (rs' qs' : List Nat), k' ≤ n + 1 - m ∧ Value.int .i64 ((k : Int) - 1) = .int .i64 ((k' : Int) - 1) ∧ Ld wz w1.heap.size rs' ∧ Good rs' ∧ rs'.length = n + 1 ∧ Ld wz w3.heap.size qs' ∧ Good qs' ∧ qs'.length = n + 1 - m ∧
            val (rs'.drop k') < V ∧ val rs' + 4294967296 ^ k' * (V * val (qs'.drop k')) = U ∧ Below w1.heap.size w1 wz) := by
        intro wz P q hPl hPg hPv hq hq9 hLz hQz hBz
        obtain ⟨p1, p2⟩ := part_done hPl hkm HP.out.2.2.2.1 hPv
        refine ⟨k, _, _, by omega, rfl, hLz, spl_good HGR.out (hPg.append (Good.nil.cons (by omega))), by rw [spl_len (by rw [List.length_append, hPl]; show k + (m + 1) ≤ _; omega), hlR], hQz, HGQ.out.set hq9 k, by rw [List.length_set]; exact hlQ, ?_, ?_, hBz⟩
        · rw [p1]; exact Nat.mod_lt _ hV0
        · exact inv_step (by omega) rfl HI2.out p2 (by rw [hq]; exact val_set_drop q (by omega))
      by_cases hov : rs[k + m]?.getD 0 < br
      · have hovi : ((rs[k + m]?.getD 0 : Nat) : Int) < (br : Int) := by omega
        go_wp2_with fail
        obtain ⟨t, ht⟩ : ∃ t : Nat, (((rs[k + m]?.getD 0 : Nat) : Int) - (br : Int)) % 4294967296 = (t : Int) := ⟨((((rs[k + m]?.getD 0 : Nat) : Int) - (br : Int)) % 4294967296).toNat, by omega⟩
        have htl : t < 4294967296 := by omega
        have HT := Lib.hid ht
        rw [ht]
        clear ht
        have hL6 := HL5.out.set_ (k + m) t
        have hset := spl_set (cs := rs) (off := k) (ts := S) t (by omega)
        rw [HSl.out] at hset
        rw [hset] at hL6
        have hQ6 := HQ5.out.grown (grownBy_setCellAt w5 w1.heap.size (k + m) (.int .u32 (t : Int))) (fun e => by injection e with e; omega)
        have hg6 := grownBy_trans HG5.out (grownBy_setCellAt w5 w1.heap.size (k + m) (.int .u32 (t : Int)))
        generalize w5.setCell ⟨w1.heap.size, k + m, none⟩ (.int .u32 (t : Int)) = w6 at hL6 hQ6 hg6 ⊢
        have hl6 : (spl rs k (S ++ [t])).length = n + 1 := by rw [spl_len (by rw [List.length_append, HSl.out]; show k + (m + 1) ≤ _; omega), hlR]
        have hg6' : Good (spl rs k (S ++ [t])) := spl_good HGR.out (HSg.out.append (Good.nil.cons htl))
        have hc6 := hL6.cell (i := k + m) (by omega)
        have hat := spl_at_last (rs := rs) (k := k) (S := S) t (by omega)
        rw [HSl.out] at hat
        rw [hat] at hc6
        have hf6 := hL6.frozen (k + m)
        have hcq6 := hQ6.cell (i := k) (by omega)
        have hfq6 := hQ6.frozen k
        have HL6 := Lib.hid hL6
        have HQ6 := Lib.hid hQ6
        have HG6 := Lib.hid hg6
        have HGd6 := Lib.hid hg6'
        have HX6 : Hid (Lm w6 w1.heap.size B1 m c1 (digs V)) := (HLb.out.keep (w' := wr.drewN d4) (fun _ _ _ => rfl)).grownLt hg6 HBl.out.size
        have hml := mulK_len ((spl rs k (S ++ [t])).drop k) (digs V) 1 m
        have hcy := mulK_carry (HGd6.out.drop k) (digs_good V) (show 1 < 4294967296 by omega) m
        have HMv := Lib.hid (mulK_val ((spl rs k (S ++ [t])).drop k) (digs V) 1 m)
        have HMg := Lib.hid (mulK_good ((spl rs k (S ++ [t])).drop k) (digs V) 1 m)
        have hMv2 : val (mulK ((spl rs k (S ++ [t])).drop k) (digs V) 1 m).1 + 4294967296 ^ m * (mulK ((spl rs k (S ++ [t])).drop k) (digs V) 1 m).2 = V + val S := by
          have e := HMv.out
          have e2 := spl_drop_take (rs := rs) (k := k) (S := S) t (by omega)
          rw [HSl.out] at e2
          rw [e2, List.take_of_length_le (Nat.le_of_eq HF.out.2.2.1), digs_val, Nat.mul_one] at e
          exact e
        have hMP : val (mulK ((spl rs k (S ++ [t])).drop k) (digs V) 1 m).1 < 4294967296 ^ m := by have e := val_lt HMg.out; rwa [hml] at e
        have HOv := Lib.hid (step_over HP.out.2.2.1 HP.out.1 HSv.out HSP.out hMv2 hMP HPq.out.2 hV0 hov)
        have hD1 : 1 ≤ D := HOv.out.2.1
        have HB6 : Hid (Below w1.heap.size w1 w6) := (bdrewN HBl.out d4).grown HG6.out HBl.out.size (fun b e => by injection e with e; omega)
        clear hMv2 hMP
        have HSS := Lib.hid (spl_spl (rs := rs) (S := S) (M := (mulK ((spl rs k (S ++ [t])).drop k) (digs V) 1 m).1) (k := k) t (by omega) (by omega))
        have HAt7 := Lib.hid (spl_at_last (rs := rs) (k := k) (S := (mulK ((spl rs k (S ++ [t])).drop k) (digs V) 1 m).1) t (by omega))
        have hl7 : (spl rs k ((mulK ((spl rs k (S ++ [t])).drop k) (digs V) 1 m).1 ++ [t])).length = n + 1 := by rw [spl_len (by rw [List.length_append, hml]; show k + (m + 1) ≤ _; omega), hlR]
        clear hct hfr hcq hfq hL6 hQ6 hg6 hg6' hset hat
        go_region_with (go_at_call 56; refine (addProduct_any w6.drew w1.heap.size k (m + 1) (n + 1 - k) m c1 B1 (spl rs k (S ++ [t])) (digs V) 1 HL6.out HGd6.out (HX6.out.keep (fun _ _ _ => rfl)) (by omega) (by omega) (by omega) (by omega) (by omega) (by omega)).mono ?_; rintro e w7 ⟨rfl, hL7, hg7⟩; rw [HSS.out] at hL7; have hc7 := hL7.cell (i := k + m) (by omega); have hat7 := HAt7.out; rw [hml] at hat7; rw [hat7] at hc7; have hf7 := hL7.frozen (k + m))
        all_goals
          have hQ7 := (show Ld w6.drew w3.heap.size qs from HQ6.out).grown hg7 (fun e => by injection e with e; omega)
          have hcq7 := hQ7.cell (i := k) (by omega)
          have hfq7 := hQ7.frozen k
          have HL7 := Lib.hid hL7
          have HQ7 := Lib.hid hQ7
          have HG7 := Lib.hid hg7
          clear hL7 hQ7 hg7
          go_wp2
          go_roundw
          case rel =>
            have h0 := HOv.out.2.2.2
            have hT := HT.out
            have e1 : (((t : Nat) : Int) + (((mulK ((spl rs k (S ++ [t])).drop k) (digs V) 1 m).2 : Nat) : Int)) % 4294967296 = ((0 : Nat) : Int) := by omega
            have e2 : ((D : Int) - 1) % 4294967296 = ((D - 1 : Nat) : Int) := by omega
            rw [e1, e2]
            refine HFin.out _ _ (D - 1) hml HMg.out HOv.out.2.2.1 HOv.out.1 (by omega) ?_ ?_ ?_
            · have e3 := HL7.out.set_ (k + m) 0
              have e4 := spl_set_last (rs := rs) (S := (mulK ((spl rs k (S ++ [t])).drop k) (digs V) 1 m).1) (k := k) t 0 (by omega)
              rw [hml] at e4
              rw [e4] at e3
              exact e3.grown (grownBy_setCellAt _ _ _ _) (fun e => by injection e with e; omega)
            · exact (HQ7.out.grown (grownBy_setCellAt _ w1.heap.size (k + m) (.int .u32 ((0 : Nat) : Int))) (fun e => by injection e with e; omega)).set_ k (D - 1)
            · have hs6 := HB6.out.size
              exact ((HB6.out.drew.grown HG7.out hs6 (fun b e => by injection e with e; omega)).setCell (p := ⟨w1.heap.size, k + m, none⟩) (Nat.le_refl _) _).setCell (p := ⟨w3.heap.size, k, none⟩) (by show w1.heap.size ≤ w3.heap.size; omega) _
          case measure => simp [intOf]
      · have hovd : decide (((rs[k + m]?.getD 0 : Nat) : Int) < (br : Int)) = false := by simp; omega
        have HRt := Lib.hid (step_right HP.out.2.2.1 HP.out.1 HSv.out HPq.out.1 hV0 (by omega))
        have hheq : rs[k + m]?.getD 0 = br := HRt.out.2.2
        have HB5 : Hid (Below w1.heap.size w1 w5) := (bdrewN HBl.out d4).grown HG5.out HBl.out.size (fun b e => by injection e with e; omega)
        go_wp2
        go_roundw
        case rel =>
          refine HFin.out _ _ D HSl.out HSg.out HRt.out.2.1 HRt.out.1 (by omega) ?_ ?_ ?_
          · have e3 := HL5.out.set_ (k + m) 0
            have e4 := spl_set (cs := rs) (off := k) (ts := S) 0 (by omega)
            rw [HSl.out] at e4
            rw [e4] at e3
            exact e3.grown (grownBy_setCellAt _ _ _ _) (fun e => by injection e with e; omega)
          · exact (HQ5.out.grown (grownBy_setCellAt _ w1.heap.size (k + m) (.int .u32 ((0 : Nat) : Int))) (fun e => by injection e with e; omega)).set_ k D
          · exact (HB5.out.setCell (p := ⟨w1.heap.size, k + m, none⟩) (Nat.le_refl _) _).setCell (p := ⟨w3.heap.size, k, none⟩) (by show w1.heap.size ≤ w3.heap.size; omega) _
        case measure => simp [intOf]
end Go.Proofs.Ytdbilpmhejigpaa
