/- The reference's over: long division. -/
import Derived.Test.YtdbilpmhejigpaaR15
import Derived.Deep.DeepCutAuto
import Derived.Deep.CutBlock
namespace Go.Proofs.Ytdbilpmhejigpaa
open Go.RowKit

theorem rleft_any (w : World) (A : Option Addr) (n c s : Nat) (xs : List Nat) (v : Nat) (hA : Lm w w.heap.size A n c xs) (hn : n ≤ 100000000) (hs32 : s < 32) (hv : val xs * 2 ^ s = v) :
    Calls Try.prog 62 #[.slice A n c, .int .u64 (s : Int)] w (RL w (n + 1) v) :=
  (rleft_own w A n c s xs v hA hn hs32 hv).mono fun e w' ⟨A, c, ts, he, hO, hG, hl, hv, hb⟩ => by
    obtain ⟨A', c', e3, hL⟩ := hO.lm hG
    rw [hl] at e3 hL
    cases e3
    exact ⟨A, c, ts, he, hL, hv, hb⟩

set_option maxRecDepth 100000 in
set_option maxHeartbeats 4000000 in
theorem rover_long (w : World) (A B : Option Addr) (n m ca cb a b : Nat) (hA : Lm w w.heap.size A n ca (digs a)) (hB : Lm w w.heap.size B m cb (digs b)) (hle : b ≤ a) (hm2 : 2 ≤ m) (hn9 : n ≤ 1000000) :
    Calls Try.prog 45 #[.slice A n ca, .slice B m cb] w (RD w (a / b) (a % b)) := by
  obtain ⟨z, hz, HC⟩ : ∃ z : Int, decide (z < 0) = false ∧ Hid (cmpL (digs a) (digs b) = z) := ⟨_, by rw [cmpL_norm (digs_good _) (digs_good _) (digs_norm _) (digs_norm _), digs_val, digs_val]; unfold cmpN; rw [if_neg (by omega)]; split <;> decide, rfl⟩
  have hcA := hA.cap
  have hxA := hA.max
  have hcB := hB.cap
  have hxB := hB.max
  have hlA := hA.len
  have hlB := hB.len
  have hmn : m ≤ n := by rw [← hlA, ← hlB]; exact digs_mono hle
  have hm1 : ((m : Int) == 1) = false := by simp; omega
  have hbp : 0 < b := digs_pos.1 (by omega)
  have gt := hB.good.get (m - 1)
  have htp := top_pos hbp
  rw [hlB] at htp
  obtain ⟨bb, bo, e, hbb, cb1⟩ := hB.cell (k := m - 1) (by omega)
  subst e
  have hf := up_facts hlB (by omega)
  have HF := Lib.hid hf
  have HLA := Lib.hid hlA
  have HLB := Lib.hid hlB
  have HA := Lib.hid hA
  have HB := Lib.hid hB
  have HLe := Lib.hid hle
  have i1 : ((m : Int) - 1).toNat = m - 1 := by omega
  obtain ⟨top, hto⟩ : ∃ top, top = (digs b)[m - 1]?.getD 0 := ⟨_, rfl⟩
  rw [← hto] at gt htp cb1
  have HTop := Lib.hid hto
  have ht0 : 0 < top := by omega
  clear hA hB hlA hlB hf hle hto htp
  go_enter Try.func45, Try.ntmps45
  go_wp2_with fail
  refine (rcompare_any A (some ⟨bb, bo, none⟩) n m ca cb (digs a) (digs b) w HA.out HB.out).mono ?_
  rintro e w1 ⟨he, d, rfl⟩
  rw [HC.out] at he
  subst he
  have HB0 : Hid (Below w.heap.size w (w.drewN d)) := bdrewN (Below.refl _ _) d
  have LA := Lib.hid (HA.out.drewN d)
  have LB := Lib.hid (HB.out.drewN d)
  have cb2 : (w.drewN d).cell? ⟨bb, bo + (m - 1), none⟩ = some (.int .u32 (top : Int)) := cb1
  have hsz : Hid ((w.drewN d).heap.size = w.heap.size) := (rfl : _ = _)
  generalize w.drewN d = w1 at *
  clear HA HB cb1
  go_wp2_with fail
  go_loop [7] (fun x => ∃ s : Nat, s ≤ 31 ∧ x = .int .u64 (s : Int) ∧ top * 2 ^ s < 4294967296) (fun x => 32 - (intOf x).toNat)
  case atStart => exact ⟨0, by omega, rfl, by rw [Nat.pow_zero, Nat.mul_one]; exact gt⟩
  case round =>
    obtain ⟨s, hs, rfl, hts⟩ := hrel
    obtain ⟨P, hP⟩ : ∃ P, P = top * 2 ^ s := ⟨_, rfl⟩
    have hw : IntKind.u32.wrap ((top : Int) * 2 ^ s) = (P : Int) := by
      rw [cast_shl, Nat.mul_comm, ← hP, IntKind.wrap_u32]
      omega
    have HP := Lib.hid hP
    rw [← hP] at hts
    clear hP
    by_cases hp : P < 2147483648
    · have hpi : (P : Int) < 2147483648 := by omega
      clear hp
      go_wp2
      go_round
      case rel => exact ⟨s + 1, by
        have e := HP.out
        rcases Nat.lt_or_ge s 31 with h | h
        · omega
        · obtain rfl : s = 31 := by omega
          have h5 := Nat.mul_le_mul_right (2 ^ 31) ht0
          omega, by go_num, by rw [Nat.pow_succ, ← Nat.mul_assoc, ← HP.out]; omega⟩
      case measure => simp [intOf]; omega
    · have hpi : (2147483648 : Int) ≤ (P : Int) := by omega
      have hpd : decide ((P : Int) < 2147483648) = false := by simp; omega
      have hup := up_of (x := top) (s := s) (by omega) gt (by rw [← HP.out]; omega) (by rw [← HP.out]; exact hts)
      rw [HTop.out] at hup
      have HF2 := HF.out
      rw [← hup] at HF2
      obtain ⟨V, hV⟩ : ∃ V, V = b * 2 ^ s := ⟨_, rfl⟩
      obtain ⟨U, hU⟩ : ∃ U, U = a * 2 ^ s := ⟨_, rfl⟩
      rw [← hV] at HF2
      have HVF := Lib.hid HF2
      have HUB : Hid (U < 2147483648 * 4294967296 ^ n) := by
        show _ < _
        have h1 := digs_len.1 (Nat.le_of_eq HLA.out)
        rw [hU, Nat.mul_comm]
        exact Nat.mul_lt_mul_of_le_of_lt (Nat.pow_le_pow_right (by omega) hs) h1 (by decide)
      have HDiv : Hid (U / V = a / b ∧ U % V = a % b * 2 ^ s) := by
        show _ ∧ _
        rw [hU, hV]
        exact ⟨Nat.mul_div_mul_right _ _ (Nat.pow_pos (by omega)), Nat.mul_mod_mul_right _ _ _⟩
      have HV : Hid (val (digs b) * 2 ^ s = V) := by show _ = _; rw [digs_val, hV]
      have HU : Hid (val (digs a) * 2 ^ s = U) := by show _ = _; rw [digs_val, hU]
      have hV0 : 0 < V := by rw [hV]; exact Nat.mul_pos hbp (Nat.pow_pos (by omega))
      have HVb := Lib.hid hV
      clear hup HF2 hV hU HP hp hts
      go_wp2_with fail
      clear hw hpi hpd
      refine (rleft_any w1 _ m cb s (digs b) V LB.out (by omega) (by omega) HV.out).mono ?_
      rintro e w2 ⟨A2, c2, ts, rfl, hL2, hv2, hb2⟩
      have HL2 := Lib.hid (hL2.take (Nat.le_succ m))
      have HT2 := Lib.hid (take_digs hL2.good hL2.len hv2 HVF.out.2.2.1)
      have hcap2 := hL2.cap
      have hmax2 := hL2.max
      rw [HT2.out] at HL2
      have LA2 := Lib.hid (LA.out.via hb2)
      have HB2 := Lib.hid (HB0.out.trans (hb2.mono HB0.out.size))
      clear hL2 hv2 hb2
      go_wp2_with fail
      refine (rleft_own w2 A n ca s (digs a) U LA2.out (by omega) (by omega) HU.out).mono ?_
      rintro e w3 ⟨A3, c3, us, rfl, hO3, hG3, hl3, hv3, hb3⟩
      obtain ⟨A3', c3', e3, hL3⟩ := hO3.lm hG3
      have hcap3 := hL3.cap
      have hmax3 := hL3.max
      rw [hl3] at e3 hL3 hcap3
      cases e3
      obtain ⟨gu, rfl, -, hgu, hOb3⟩ := hO3.ob (by omega)
      have HX3 := Lib.hid (HL2.out.below hb3)
      have HB3 := Lib.hid (HB2.out.trans (hb3.mono HB2.out.size))
      have HO3 := Lib.hid hOb3
      have HG3 := Lib.hid hG3
      have HV3 := Lib.hid hv3
      have HL3l := Lib.hid hl3
      have hs3 := hOb3.lt
      clear hO3 hL3 hOb3 hG3 hv3 hl3 hb3
      have hmk2 := fun w => run_make_u32 ((n : Int) + 1 - (m : Int)) ((n : Int) + 1 - (m : Int)) (n + 1 - m) (by omega) (by omega) (by omega) w
      go_wp2_with fail
      clear hmk2
      go_loopw [11] (fun i wr => ∃ (k : Nat) (rs qs : List Nat), k ≤ n + 1 - m ∧ i = .int .i64 ((k : Int) - 1) ∧ Ob wr gu rs ∧ Good rs ∧ rs.length = n + 1 ∧ Ld wr w3.heap.size qs ∧ Good qs ∧ qs.length = n + 1 - m ∧
          val (rs.drop k) < V ∧ val rs + 4294967296 ^ k * (V * val (qs.drop k)) = U ∧ Below w2.heap.size w3 wr) (fun i _ => (intOf i + 1).toNat)
      case atStart =>
        refine ⟨n + 1 - m, us, zer (n + 1 - m), Nat.le_refl _, rfl, HO3.out.below ((Below.refl _ _).alloc (Nat.le_refl _) _) hs3, HG3.out, HL3l.out, Ld.new _ _, zer_good _, zer_len _, ?_, ?_, (Below.refl _ _).alloc (by omega) _⟩
        · rw [val_drop _ HG3.out, HV3.out]
          refine Nat.div_lt_of_lt_mul (Nat.lt_of_lt_of_le HUB.out ?_)
          have h5 := Nat.mul_le_mul_left (4294967296 ^ (n + 1 - m)) HVF.out.2.1
          rw [Nat.mul_left_comm, ← Nat.pow_add, show n + 1 - m + (m - 1) = n by omega] at h5
          exact h5
        · rw [HV3.out, List.drop_of_length_le (by rw [zer_len]; exact Nat.le_refl _)]
          simp [val_nil]
      case round =>
        obtain ⟨k, rs, qs, hk, rfl, hR, hGR, hlR, hQ, hGQ, hlQ, hI1, hI2, hb⟩ := hrel
        have HR := Lib.hid hR
        have HQ := Lib.hid hQ
        have HI1 := Lib.hid hI1
        have HI2 := Lib.hid hI2
        have HBl := Lib.hid hb
        have HGR := Lib.hid hGR
        have HGQ := Lib.hid hGQ
        have HlR := Lib.hid hlR
        have HlQ := Lib.hid hlQ
        have hgur := hR.lt
        clear hR hQ hI1 hI2 hb hGR hGQ hlR hlQ
        rcases k with _ | k
        · rw [show (((0 : Nat) : Int) - 1) = -1 from rfl]
          have hQe : Hid (val qs = a / b) := by
            show _ = _
            have h1 := HI1.out
            have h2 := HI2.out
            simp only [List.drop_zero, Nat.pow_zero, Nat.one_mul] at h1 h2
            rw [← HDiv.out.1, ← h2, Nat.add_mul_div_left _ _ hV0, Nat.div_eq_of_lt h1, Nat.zero_add]
          have hRv : Hid (val rs < V) := by have h1 := HI1.out; rw [List.drop_zero] at h1; exact h1
          have hRe : Hid (val rs = a % b * 2 ^ s) := by
            show _ = _
            have h2 := HI2.out
            simp only [List.drop_zero, Nat.pow_zero, Nat.one_mul] at h2
            rw [← HDiv.out.2, ← h2, Nat.add_mul_mod_self_left, Nat.mod_eq_of_lt hRv.out]
          have hRt : Hid (val (rs.take m) = a % b * 2 ^ s) := by
            show _ = _
            rw [← hRe.out]
            exact (val_short (Nat.lt_trans hRv.out (digs_len.1 (Nat.le_of_eq HVF.out.2.2.1)))).1
          have HLq : Hid (Lm wr wr.heap.size (some ⟨w3.heap.size, 0, none⟩) (n + 1 - m) (n + 1 - m) qs) := by
            have e := HQ.out.lm HGQ.out (off := 0) (n := n + 1 - m) (c := n + 1 - m) (by rw [HlQ.out]; omega) (Nat.le_refl _) (by omega)
            rwa [List.drop_zero, List.take_of_length_le (by rw [HlQ.out]; exact Nat.le_refl _)] at e
          have HLr : Hid (Lm wr wr.heap.size (some ⟨gu, 0, none⟩) m c3 (rs.take m)) := by
            have e := HR.out.lm HGR.out (off := 0) (n := m) (c := c3) (by rw [HlR.out]; omega) (by omega) (by omega)
            rwa [List.drop_zero] at e
          have HGt := Lib.hid (HGR.out.take m)
          have HSv : Hid (val (shrL s (rs.take m) m) = a % b) := by
            show _ = _
            rw [shrL_val HGt.out s (by omega) HLr.out.len, hRt.out, Nat.mul_div_cancel _ (Nat.pow_pos (by omega))]
          obtain ⟨r0, hr0⟩ : ∃ r0, r0 = rs.take m := ⟨_, rfl⟩
          rw [← hr0] at HLr HGt HSv
          clear hr0 hRt
          go_wp2
          go_loopw [13, 14] (fun u i wz => ∃ k : Nat, k ≤ m ∧ i = .int .i64 k ∧ Ow wz wr.heap.size u (shrL s r0 k) ∧ Below wr.heap.size wr wz) (fun _ i _ => m - (intOf i).toNat)
          case atStart => exact ⟨0, Nat.zero_le _, rfl, Ow.nil _ _, Below.refl _ _⟩
          case round =>
            obtain ⟨k, hk2, rfl, hO, hb⟩ := hrel
            have HO := Lib.hid hO
            have HBz := Lib.hid hb
            have HSl := Lib.hid (shrL_len s r0 k)
            clear hO hb
            by_cases hlt : k < m
            · obtain ⟨b1', bo1', e1, _, hcx⟩ := (HLr.out.below HBz.out).cell hlt
              cases e1
              have hxg := HGt.out.get k
              have hyg := HGt.out.get (k + 1)
              by_cases hlt2 : k + 1 < m
              · obtain ⟨b2', bo2', e2, _, hcy⟩ := (HLr.out.below HBz.out).cell hlt2
                cases e2
                rw [Nat.zero_add] at hcx hcy
                have HX : Hid ((((r0[k]?.getD 0 : Nat) : Int) + ((r0[k + 1]?.getD 0 : Nat) : Int) * 4294967296) / 2 ^ s % 4294967296 = (((r0[k]?.getD 0 + 4294967296 * r0[k + 1]?.getD 0) / 2 ^ s % 4294967296 : Nat) : Int)) := by
                  show _ = _
                  have e : ((r0[k]?.getD 0 : Nat) : Int) + ((r0[k + 1]?.getD 0 : Nat) : Int) * 4294967296 = ((r0[k]?.getD 0 + 4294967296 * r0[k + 1]?.getD 0 : Nat) : Int) := by omega
                  rw [e, cast_shr, Int.natCast_emod]
                  rfl
                go_wp2_with (at_builtin; refine wpList_append_u32 _ rfl _ _ rfl _ _ _ rfl HO.out _ ((r0[k]?.getD 0 + 4294967296 * r0[k + 1]?.getD 0) / 2 ^ s % 4294967296) 1 HX.out (by rw [HSl.out]; omega) HBz.out.size rfl ?_; intro u' w6 hO6 hg6)
                go_roundw
                case rel => exact ⟨k + 1, by omega, by go_num, hO6, HO.out.below HBz.out HBz.out.size hg6⟩
                case measure => simp [intOf]; omega
              · have HZ := Lib.hid (getD_over (xs := r0) (k := k + 1) (by rw [HLr.out.len]; omega))
                rw [Nat.zero_add] at hcx
                have HX : Hid (((r0[k]?.getD 0 : Nat) : Int) / 2 ^ s % 4294967296 = (((r0[k]?.getD 0 + 4294967296 * r0[k + 1]?.getD 0) / 2 ^ s % 4294967296 : Nat) : Int)) := by
                  show _ = _
                  rw [HZ.out, Nat.mul_zero, Nat.add_zero, cast_shr, Int.natCast_emod]
                  rfl
                have HY : Hid (((r0[k]?.getD 0 : Nat) : Int) / 2 ^ s = ((r0[k]?.getD 0 / 2 ^ s : Nat) : Int)) := cast_shr _ _
                have hy9 := Nat.div_le_self (r0[k]?.getD 0) (2 ^ s)
                have HW : Hid ((r0[k]?.getD 0 + 4294967296 * r0[k + 1]?.getD 0) / 2 ^ s % 4294967296 = r0[k]?.getD 0 / 2 ^ s) := by
                  show _ = _
                  rw [HZ.out, Nat.mul_zero, Nat.add_zero]
                  exact Nat.mod_eq_of_lt (by omega)
                have HWY : Hid (((r0[k]?.getD 0 : Nat) : Int) / 2 ^ s = (((r0[k]?.getD 0 + 4294967296 * r0[k + 1]?.getD 0) / 2 ^ s % 4294967296 : Nat) : Int)) := by show _ = _; rw [HW.out, HY.out]
                clear hy9
                go_wp2_with (at_builtin; refine wpList_append_u32 _ rfl _ _ rfl _ _ _ rfl HO.out _ ((r0[k]?.getD 0 + 4294967296 * r0[k + 1]?.getD 0) / 2 ^ s % 4294967296) 1 (by first | exact HX.out | exact HWY.out) (by rw [HSl.out]; omega) HBz.out.size rfl ?_; intro u' w6 hO6 hg6)
                go_roundw
                case rel => exact ⟨k + 1, by omega, by go_num, hO6, HO.out.below HBz.out HBz.out.size hg6⟩
                case measure => simp [intOf]; omega
            · obtain rfl : k = m := by omega
              have HGs : Hid (Good (shrL s r0 k)) := by
                show Good _
                rw [shrL_lims HGt.out s (by omega)]
                exact lims_good _ _
              obtain ⟨A7, c7, rfl, hL7⟩ := HO.out.lm HGs.out
              rw [HSl.out] at hL7 ⊢
              have HL7 := Lib.hid hL7
              have HLq7 := Lib.hid (HLq.out.via HBz.out)
              clear hL7
              go_wp2_with fail
              refine (rtrim_any _ _ _ _ _ (a / b) HLq7.out hQe.out (by omega)).mono ?_
              rintro e w8 ⟨A8, c8, rfl, hL8, hb8⟩
              have HL8 := Lib.hid hL8
              have HL78 := Lib.hid (HL7.out.via hb8)
              have HB8 := Lib.hid hb8
              clear hL8 hb8
              go_wp2_with fail
              refine (rtrim_any _ _ _ _ _ (a % b) HL78.out HSv.out (by omega)).mono ?_
              rintro e w9 ⟨A9, c9, rfl, hL9, hb9⟩
              go_wp2
              go_ret2
              have hs23 := HBl.out.size
              have hsz1 := HB3.out.size
              refine ⟨A8, c8, A9, c9, rfl, HL8.out.via hb9, hL9, ?_⟩
              have q1 := HB3.out.trans (HBl.out.mono HB2.out.size)
              have q2 := q1.trans (HBz.out.mono q1.size)
              have q3 := q2.trans (HB8.out.mono q2.size)
              exact q3.trans (hb9.mono q3.size)
        · have hkm : k + m < rs.length := by rw [HlR.out]; omega
          have HP := Lib.hid (part_facts HGR.out HVF.out.2.2.1 hm2 hkm HI1.out)
          have HW := Lib.hid (part_whole HP.out.1)
          have HLb : Hid (Lm wr gu A2 m c2 (digs V)) := (HX3.out.below HBl.out).mono hgu
          have hcut1 : ((k : Int) + 1 - 1) = (k : Int) := by omega
          go_wp2_with fail
          rw [show k + m + 1 - k = m + 1 by omega]
          refine (rdigit_any wr gu k (c3 - k) m c2 A2 rs (digs V) V HR.out HGR.out HLb.out hm2 (by omega) (by omega) (by omega) hkm (digs_val V) hV0 HP.out.2.2.2.2.1 HP.out.2.1 (by rw [HW.out]; exact HP.out.2.2.2.2.2.1)).mono ?_
          rw [HW.out]
          rintro e w5 ⟨rfl, ⟨P5, hPl, hPg, hPv, hO5⟩, hg5⟩
          have hgu3 : ¬ (w3.heap.size = gu) := by omega
          have hQ5 := HQ.out.grown hg5 (fun e => by injection e with e; omega)
          have hcq := hQ5.cell (i := k) (by rw [HlQ.out]; omega)
          have hfq := hQ5.frozen k
          have hD9 : val (rs.drop k) / V ≤ 4294967295 := Nat.le_trans HP.out.2.2.2.2.2.1 (gs_le _ _ _ _ _)
          have HPD := Lib.hid (part_done2 (rs := rs) (P := P5) (m := m) (k := k) hPl hkm HP.out.2.2.2.1 hPv)
          have HO5 := Lib.hid hO5
          have HG5 := Lib.hid hg5
          have HQ5 := Lib.hid hQ5
          have HPg := Lib.hid hPg
          have HPl := Lib.hid hPl
          have hml : val (rs.drop k) % V < V := Nat.mod_lt _ hV0
          clear hPl hPg hPv hO5 hg5 hQ5
          have HD9 := Lib.hid hD9
          clear hD9
          go_wp2
          go_roundw
          case rel =>
            refine ⟨k, _, _, by omega, rfl, HO5.out.grown (grownBy_setCellAt _ _ _ _) (fun e => by injection e with e; omega), spl_good HGR.out HPg.out, by rw [spl_len (by rw [HPl.out]; omega), HlR.out], HQ5.out.set_ k _, HGQ.out.set (by have := HD9.out; omega) k, by rw [List.length_set, HlQ.out], ?_, ?_, ?_⟩
            · rw [HPD.out.1]; exact hml
            · exact inv_step (by omega) rfl HI2.out HPD.out.2 (val_set_drop _ (by rw [HlQ.out]; omega))
            · exact (HBl.out.grown HG5.out (by have := HBl.out.size; omega) (fun b e => by injection e with e; omega)).setCell (p := ⟨w3.heap.size, k, none⟩) (by show w2.heap.size ≤ w3.heap.size; omega) _
          case measure => simp [intOf]

/-- over, by a divisor other than 0. -/
theorem rover_any (w : World) (A B : Option Addr) (n m ca cb a b : Nat) (hA : Lm w w.heap.size A n ca (digs a)) (hB : Lm w w.heap.size B m cb (digs b)) (hb : 0 < b) (hn9 : n ≤ 1000000) :
    Calls Try.prog 45 #[.slice A n ca, .slice B m cb] w (RD w (a / b) (a % b)) := by
  have hc := cmpL_norm (digs_good a) (digs_good b) (digs_norm a) (digs_norm b)
  rw [digs_val, digs_val] at hc
  rcases Nat.lt_or_ge a b with h | h
  · exact rover_less w A B n m ca cb b a _ hA hB (digs_val a) (by rw [hc]; exact cmpN_lt h) h hn9
  · have hm : 0 < m := by rw [← hB.len, digs_pos]; exact hb
    rcases Nat.lt_or_ge m 2 with h1 | h1
    · obtain rfl : m = 1 := by omega
      refine rover_one w A B n ca cb b a _ hA hB (digs_val a) ?_ hn9
      rw [hc]
      unfold cmpN
      rw [if_neg (by omega)]
      split <;> decide
    · exact rover_long w A B n m ca cb a b hA hB h h1 hn9
end Go.Proofs.Ytdbilpmhejigpaa
