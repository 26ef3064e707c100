/- Lemmas, part 4. -/
import Derived.Deep.DeepCutAuto
import Derived.Deep.CutBlock
import Derived.Shelf.Spec.TrailingZeros
import Derived.RegionTactic
import Derived.ChangeAlike
import Derived.Test.YtegpckhfncblhaaDoormakes3
/- The reference's over: long division. -/
namespace Go.Proofs.YtegpckhfncblhaaDoor
open Go.RowKit

theorem rleft_any (w : World) (A : Option Addr) (n c s : Nat) (xs : List Nat) (v : Nat) (hA : Lm w w.heap.size A n c xs) (hn : n ≤ 100000000) (hs32 : s < 32) (hv : val xs * 2 ^ s = v) :
    Calls Tryd.prog 37 #[.slice A n c, .int .u64 (s : Int)] w (RL w (n + 1) v) :=
  (rleft_own w A n c s xs v hA hn hs32 hv).mono fun e w' ⟨A, c, ts, he, hO, hG, hl, hv, hb⟩ => by
    obtain ⟨A', c', e3, hL⟩ := hO.lm hG
    rw [hl] at e3 hL
    cases e3
    exact ⟨A, c, ts, he, hL, hv, hb⟩

set_option maxRecDepth 100000 in
set_option maxHeartbeats 4000000 in
theorem rover_long (w : World) (A B : Option Addr) (n m ca cb a b : Nat) (hA : Lm w w.heap.size A n ca (digs a)) (hB : Lm w w.heap.size B m cb (digs b)) (hle : b ≤ a) (hm2 : 2 ≤ m) (hn9 : n ≤ 1000000) :
    Calls Tryd.prog 38 #[.slice A n ca, .slice B m cb] w (RD w (a / b) (a % b)) := by
  obtain ⟨z, hz, HC⟩ : ∃ z : Int, decide (z < 0) = false ∧ Hid (cmpL (digs a) (digs b) = z) := ⟨_, by rw [cmpL_norm (digs_good _) (digs_good _) (digs_norm _) (digs_norm _), digs_val, digs_val]; unfold cmpN; rw [if_neg (by omega)]; split <;> decide, rfl⟩
  have hcA := hA.cap
  have hxA := hA.max
  have hcB := hB.cap
  have hxB := hB.max
  have hlA := hA.len
  have hlB := hB.len
  have hmn : m ≤ n := by rw [← hlA, ← hlB]; exact digs_mono hle
  have hm1 : ((m : Int) == 1) = false := by simp; omega
  have hbp : 0 < b := digs_pos.1 (by omega)
  have gt := hB.good.get (m - 1)
  have htp := top_pos hbp
  rw [hlB] at htp
  obtain ⟨bb, bo, e, hbb, cb1⟩ := hB.cell (k := m - 1) (by omega)
  subst e
  have hf := up_facts hlB (by omega)
  have HF := Lib.hid hf
  have HLA := Lib.hid hlA
  have HLB := Lib.hid hlB
  have HA := Lib.hid hA
  have HB := Lib.hid hB
  have HLe := Lib.hid hle
  have i1 : ((m : Int) - 1).toNat = m - 1 := by omega
  obtain ⟨top, hto⟩ : ∃ top, top = (digs b)[m - 1]?.getD 0 := ⟨_, rfl⟩
  rw [← hto] at gt htp cb1
  have HTop := Lib.hid hto
  have ht0 : 0 < top := by omega
  clear hA hB hlA hlB hf hle hto htp
  go_enter Tryd.func38, Tryd.ntmps38
  go_wp2_with fail
  refine (rcompare_any A (some ⟨bb, bo, none⟩) n m ca cb (digs a) (digs b) w HA.out HB.out).mono ?_
  rintro e w1 ⟨he, d, rfl⟩
  rw [HC.out] at he
  subst he
  have HB0 : Hid (Below w.heap.size w (w.drewN d)) := bdrewN (Below.refl _ _) d
  have LA := Lib.hid (HA.out.drewN d)
  have LB := Lib.hid (HB.out.drewN d)
  have cb2 : (w.drewN d).cell? ⟨bb, bo + (m - 1), none⟩ = some (.int .u32 (top : Int)) := cb1
  have hsz : Hid ((w.drewN d).heap.size = w.heap.size) := (rfl : _ = _)
  generalize w.drewN d = w1 at *
  clear HA HB cb1
  go_wp2_with fail
  go_loop [7] (fun x => ∃ s : Nat, s ≤ 31 ∧ x = .int .u64 (s : Int) ∧ top * 2 ^ s < 4294967296) (fun x => 32 - (intOf x).toNat)
  case atStart => exact ⟨0, by omega, rfl, by rw [Nat.pow_zero, Nat.mul_one]; exact gt⟩
  case round =>
    obtain ⟨s, hs, rfl, hts⟩ := hrel
    obtain ⟨P, hP⟩ : ∃ P, P = top * 2 ^ s := ⟨_, rfl⟩
    have hw : IntKind.u32.wrap ((top : Int) * 2 ^ s) = (P : Int) := by
      rw [cast_shl, Nat.mul_comm, ← hP, IntKind.wrap_u32]
      omega
    have HP := Lib.hid hP
    rw [← hP] at hts
    clear hP
    by_cases hp : P < 2147483648
    · have hpi : (P : Int) < 2147483648 := by omega
      clear hp
      go_wp2
      go_round
      case rel => exact ⟨s + 1, by
        have e := HP.out
        rcases Nat.lt_or_ge s 31 with h | h
        · omega
        · obtain rfl : s = 31 := by omega
          have h5 := Nat.mul_le_mul_right (2 ^ 31) ht0
          omega, by go_num, by rw [Nat.pow_succ, ← Nat.mul_assoc, ← HP.out]; omega⟩
      case measure => simp [intOf]; omega
    · have hpi : (2147483648 : Int) ≤ (P : Int) := by omega
      have hpd : decide ((P : Int) < 2147483648) = false := by simp; omega
      have hup := up_of (x := top) (s := s) (by omega) gt (by rw [← HP.out]; omega) (by rw [← HP.out]; exact hts)
      rw [HTop.out] at hup
      have HF2 := HF.out
      rw [← hup] at HF2
      obtain ⟨V, hV⟩ : ∃ V, V = b * 2 ^ s := ⟨_, rfl⟩
      obtain ⟨U, hU⟩ : ∃ U, U = a * 2 ^ s := ⟨_, rfl⟩
      rw [← hV] at HF2
      have HVF := Lib.hid HF2
      have HUB : Hid (U < 2147483648 * 4294967296 ^ n) := by
        show _ < _
        have h1 := digs_len.1 (Nat.le_of_eq HLA.out)
        rw [hU, Nat.mul_comm]
        exact Nat.mul_lt_mul_of_le_of_lt (Nat.pow_le_pow_right (by omega) hs) h1 (by decide)
      have HDiv : Hid (U / V = a / b ∧ U % V = a % b * 2 ^ s) := by
        show _ ∧ _
        rw [hU, hV]
        exact ⟨Nat.mul_div_mul_right _ _ (Nat.pow_pos (by omega)), Nat.mul_mod_mul_right _ _ _⟩
      have HV : Hid (val (digs b) * 2 ^ s = V) := by show _ = _; rw [digs_val, hV]
      have HU : Hid (val (digs a) * 2 ^ s = U) := by show _ = _; rw [digs_val, hU]
      have hV0 : 0 < V := by rw [hV]; exact Nat.mul_pos hbp (Nat.pow_pos (by omega))
      have HVb := Lib.hid hV
      clear hup HF2 hV hU HP hp hts
      go_wp2_with fail
      clear hw hpi hpd
      refine (rleft_any w1 _ m cb s (digs b) V LB.out (by omega) (by omega) HV.out).mono ?_
      rintro e w2 ⟨A2, c2, ts, rfl, hL2, hv2, hb2⟩
      have HL2 := Lib.hid (hL2.take (Nat.le_succ m))
      have HT2 := Lib.hid (take_dgs hL2.good hL2.len hv2 HVF.out.2.2.1)
      have hcap2 := hL2.cap
      have hmax2 := hL2.max
      rw [HT2.out] at HL2
      have LA2 := Lib.hid (LA.out.via hb2)
      have HB2 := Lib.hid (HB0.out.trans (hb2.mono HB0.out.size))
      clear hL2 hv2 hb2
      go_wp2_with fail
      refine (rleft_own w2 A n ca s (digs a) U LA2.out (by omega) (by omega) HU.out).mono ?_
      rintro e w3 ⟨A3, c3, us, rfl, hO3, hG3, hl3, hv3, hb3⟩
      obtain ⟨A3', c3', e3, hL3⟩ := hO3.lm hG3
      have hcap3 := hL3.cap
      have hmax3 := hL3.max
      rw [hl3] at e3 hL3 hcap3
      cases e3
      obtain ⟨gu, rfl, -, hgu, hOb3⟩ := hO3.ob (by omega)
      have HX3 := Lib.hid (HL2.out.below hb3)
      have HB3 := Lib.hid (HB2.out.trans (hb3.mono HB2.out.size))
      have HO3 := Lib.hid hOb3
      have HG3 := Lib.hid hG3
      have HV3 := Lib.hid hv3
      have HL3l := Lib.hid hl3
      have hs3 := hOb3.lt
      clear hO3 hL3 hOb3 hG3 hv3 hl3 hb3
      have hmk2 := fun w => run_make_u32 ((n : Int) + 1 - (m : Int)) ((n : Int) + 1 - (m : Int)) (n + 1 - m) (by omega) (by omega) (by omega) w
      go_wp2_with fail
      clear hmk2
      go_loopw [11] (fun i wr => ∃ (k : Nat) (rs qs : List Nat), k ≤ n + 1 - m ∧ i = .int .i64 ((k : Int) - 1) ∧ Ob wr gu rs ∧ Good rs ∧ rs.length = n + 1 ∧ Ld wr w3.heap.size qs ∧ Good qs ∧ qs.length = n + 1 - m ∧
          val (rs.drop k) < V ∧ val rs + 4294967296 ^ k * (V * val (qs.drop k)) = U ∧ Below w2.heap.size w3 wr) (fun i _ => (intOf i + 1).toNat)
      case atStart =>
        refine ⟨n + 1 - m, us, zer (n + 1 - m), Nat.le_refl _, rfl, HO3.out.below ((Below.refl _ _).alloc (Nat.le_refl _) _) hs3, HG3.out, HL3l.out, Ld.new _ _, zer_good _, zer_len _, ?_, ?_, (Below.refl _ _).alloc (by omega) _⟩
        · rw [val_drop _ HG3.out, HV3.out]
          refine Nat.div_lt_of_lt_mul (Nat.lt_of_lt_of_le HUB.out ?_)
          have h5 := Nat.mul_le_mul_left (4294967296 ^ (n + 1 - m)) HVF.out.2.1
          rw [Nat.mul_left_comm, ← Nat.pow_add, show n + 1 - m + (m - 1) = n by omega] at h5
          exact h5
        · rw [HV3.out, List.drop_of_length_le (by rw [zer_len]; exact Nat.le_refl _)]
          simp [val_nil]
      case round =>
        obtain ⟨k, rs, qs, hk, rfl, hR, hGR, hlR, hQ, hGQ, hlQ, hI1, hI2, hb⟩ := hrel
        have HR := Lib.hid hR
        have HQ := Lib.hid hQ
        have HI1 := Lib.hid hI1
        have HI2 := Lib.hid hI2
        have HBl := Lib.hid hb
        have HGR := Lib.hid hGR
        have HGQ := Lib.hid hGQ
        have HlR := Lib.hid hlR
        have HlQ := Lib.hid hlQ
        have hgur := hR.lt
        clear hR hQ hI1 hI2 hb hGR hGQ hlR hlQ
        rcases k with _ | k
        · rw [show (((0 : Nat) : Int) - 1) = -1 from rfl]
          have hQe : Hid (val qs = a / b) := by
            show _ = _
            have h1 := HI1.out
            have h2 := HI2.out
            simp only [List.drop_zero, Nat.pow_zero, Nat.one_mul] at h1 h2
            rw [← HDiv.out.1, ← h2, Nat.add_mul_div_left _ _ hV0, Nat.div_eq_of_lt h1, Nat.zero_add]
          have hRv : Hid (val rs < V) := by have h1 := HI1.out; rw [List.drop_zero] at h1; exact h1
          have hRe : Hid (val rs = a % b * 2 ^ s) := by
            show _ = _
            have h2 := HI2.out
            simp only [List.drop_zero, Nat.pow_zero, Nat.one_mul] at h2
            rw [← HDiv.out.2, ← h2, Nat.add_mul_mod_self_left, Nat.mod_eq_of_lt hRv.out]
          have hRt : Hid (val (rs.take m) = a % b * 2 ^ s) := by
            show _ = _
            rw [← hRe.out]
            exact (val_short (Nat.lt_trans hRv.out (digs_len.1 (Nat.le_of_eq HVF.out.2.2.1)))).1
          have HLq : Hid (Lm wr wr.heap.size (some ⟨w3.heap.size, 0, none⟩) (n + 1 - m) (n + 1 - m) qs) := by
            have e := HQ.out.lm HGQ.out (off := 0) (n := n + 1 - m) (c := n + 1 - m) (by rw [HlQ.out]; omega) (Nat.le_refl _) (by omega)
            rwa [List.drop_zero, List.take_of_length_le (by rw [HlQ.out]; exact Nat.le_refl _)] at e
          have HLr : Hid (Lm wr wr.heap.size (some ⟨gu, 0, none⟩) m c3 (rs.take m)) := by
            have e := HR.out.lm HGR.out (off := 0) (n := m) (c := c3) (by rw [HlR.out]; omega) (by omega) (by omega)
            rwa [List.drop_zero] at e
          have HGt := Lib.hid (HGR.out.take m)
          have HSv : Hid (val (shrL s (rs.take m) m) = a % b) := by
            show _ = _
            rw [shrL_val HGt.out s (by omega) HLr.out.len, hRt.out, Nat.mul_div_cancel _ (Nat.pow_pos (by omega))]
          obtain ⟨r0, hr0⟩ : ∃ r0, r0 = rs.take m := ⟨_, rfl⟩
          rw [← hr0] at HLr HGt HSv
          clear hr0 hRt
          go_wp2
          go_loopw [13, 14] (fun u i wz => ∃ k : Nat, k ≤ m ∧ i = .int .i64 k ∧ Ow wz wr.heap.size u (shrL s r0 k) ∧ Below wr.heap.size wr wz) (fun _ i _ => m - (intOf i).toNat)
          case atStart => exact ⟨0, Nat.zero_le _, rfl, Ow.nil _ _, Below.refl _ _⟩
          case round =>
            obtain ⟨k, hk2, rfl, hO, hb⟩ := hrel
            have HO := Lib.hid hO
            have HBz := Lib.hid hb
            have HSl := Lib.hid (shrL_len s r0 k)
            clear hO hb
            by_cases hlt : k < m
            · obtain ⟨b1', bo1', e1, _, hcx⟩ := (HLr.out.below HBz.out).cell hlt
              cases e1
              have hxg := HGt.out.get k
              have hyg := HGt.out.get (k + 1)
              by_cases hlt2 : k + 1 < m
              · obtain ⟨b2', bo2', e2, _, hcy⟩ := (HLr.out.below HBz.out).cell hlt2
                cases e2
                rw [Nat.zero_add] at hcx hcy
                have HX : Hid ((((r0[k]?.getD 0 : Nat) : Int) + ((r0[k + 1]?.getD 0 : Nat) : Int) * 4294967296) / 2 ^ s % 4294967296 = (((r0[k]?.getD 0 + 4294967296 * r0[k + 1]?.getD 0) / 2 ^ s % 4294967296 : Nat) : Int)) := by
                  show _ = _
                  have e : ((r0[k]?.getD 0 : Nat) : Int) + ((r0[k + 1]?.getD 0 : Nat) : Int) * 4294967296 = ((r0[k]?.getD 0 + 4294967296 * r0[k + 1]?.getD 0 : Nat) : Int) := by omega
                  rw [e, cast_shr, Int.natCast_emod]
                  rfl
                go_wp2_with (at_builtin; refine wpList_append_u32 _ rfl _ _ rfl _ _ _ rfl HO.out _ ((r0[k]?.getD 0 + 4294967296 * r0[k + 1]?.getD 0) / 2 ^ s % 4294967296) 1 HX.out (by rw [HSl.out]; omega) HBz.out.size rfl ?_; intro u' w6 hO6 hg6)
                go_roundw
                case rel => exact ⟨k + 1, by omega, by go_num, hO6, HO.out.below HBz.out HBz.out.size hg6⟩
                case measure => simp [intOf]; omega
              · have HZ := Lib.hid (getD_over (xs := r0) (k := k + 1) (by rw [HLr.out.len]; omega))
                rw [Nat.zero_add] at hcx
                have HX : Hid (((r0[k]?.getD 0 : Nat) : Int) / 2 ^ s % 4294967296 = (((r0[k]?.getD 0 + 4294967296 * r0[k + 1]?.getD 0) / 2 ^ s % 4294967296 : Nat) : Int)) := by
                  show _ = _
                  rw [HZ.out, Nat.mul_zero, Nat.add_zero, cast_shr, Int.natCast_emod]
                  rfl
                have HY : Hid (((r0[k]?.getD 0 : Nat) : Int) / 2 ^ s = ((r0[k]?.getD 0 / 2 ^ s : Nat) : Int)) := cast_shr _ _
                have hy9 := Nat.div_le_self (r0[k]?.getD 0) (2 ^ s)
                have HW : Hid ((r0[k]?.getD 0 + 4294967296 * r0[k + 1]?.getD 0) / 2 ^ s % 4294967296 = r0[k]?.getD 0 / 2 ^ s) := by
                  show _ = _
                  rw [HZ.out, Nat.mul_zero, Nat.add_zero]
                  exact Nat.mod_eq_of_lt (by omega)
                have HWY : Hid (((r0[k]?.getD 0 : Nat) : Int) / 2 ^ s = (((r0[k]?.getD 0 + 4294967296 * r0[k + 1]?.getD 0) / 2 ^ s % 4294967296 : Nat) : Int)) := by show _ = _; rw [HW.out, HY.out]
                clear hy9
                go_wp2_with (at_builtin; refine wpList_append_u32 _ rfl _ _ rfl _ _ _ rfl HO.out _ ((r0[k]?.getD 0 + 4294967296 * r0[k + 1]?.getD 0) / 2 ^ s % 4294967296) 1 (by first | exact HX.out | exact HWY.out) (by rw [HSl.out]; omega) HBz.out.size rfl ?_; intro u' w6 hO6 hg6)
                go_roundw
                case rel => exact ⟨k + 1, by omega, by go_num, hO6, HO.out.below HBz.out HBz.out.size hg6⟩
                case measure => simp [intOf]; omega
            · obtain rfl : k = m := by omega
              have HGs : Hid (Good (shrL s r0 k)) := by
                show Good _
                rw [shrL_lims HGt.out s (by omega)]
                exact lims_good _ _
              obtain ⟨A7, c7, rfl, hL7⟩ := HO.out.lm HGs.out
              rw [HSl.out] at hL7 ⊢
              have HL7 := Lib.hid hL7
              have HLq7 := Lib.hid (HLq.out.via HBz.out)
              clear hL7
              go_wp2_with fail
              refine (rtrim_any _ _ _ _ _ (a / b) HLq7.out hQe.out (by omega)).mono ?_
              rintro e w8 ⟨A8, c8, rfl, hL8, hb8⟩
              have HL8 := Lib.hid hL8
              have HL78 := Lib.hid (HL7.out.via hb8)
              have HB8 := Lib.hid hb8
              clear hL8 hb8
              go_wp2_with fail
              refine (rtrim_any _ _ _ _ _ (a % b) HL78.out HSv.out (by omega)).mono ?_
              rintro e w9 ⟨A9, c9, rfl, hL9, hb9⟩
              go_wp2
              go_ret2
              have hs23 := HBl.out.size
              have hsz1 := HB3.out.size
              refine ⟨A8, c8, A9, c9, rfl, HL8.out.via hb9, hL9, ?_⟩
              have q1 := HB3.out.trans (HBl.out.mono HB2.out.size)
              have q2 := q1.trans (HBz.out.mono q1.size)
              have q3 := q2.trans (HB8.out.mono q2.size)
              exact q3.trans (hb9.mono q3.size)
        · have hkm : k + m < rs.length := by rw [HlR.out]; omega
          have HP := Lib.hid (part_facts HGR.out HVF.out.2.2.1 hm2 hkm HI1.out)
          have HW := Lib.hid (part_whole HP.out.1)
          have HLb : Hid (Lm wr gu A2 m c2 (digs V)) := (HX3.out.below HBl.out).mono hgu
          have hcut1 : ((k : Int) + 1 - 1) = (k : Int) := by omega
          go_wp2_with fail
          rw [show k + m + 1 - k = m + 1 by omega]
          refine (rdigit_any wr gu k (c3 - k) m c2 A2 rs (digs V) V HR.out HGR.out HLb.out hm2 (by omega) (by omega) (by omega) hkm (digs_val V) hV0 HP.out.2.2.2.2.1 HP.out.2.1 (by rw [HW.out]; exact HP.out.2.2.2.2.2.1)).mono ?_
          rw [HW.out]
          rintro e w5 ⟨rfl, ⟨P5, hPl, hPg, hPv, hO5⟩, hg5⟩
          have hgu3 : ¬ (w3.heap.size = gu) := by omega
          have hQ5 := HQ.out.grown hg5 (fun e => by injection e with e; omega)
          have hcq := hQ5.cell (i := k) (by rw [HlQ.out]; omega)
          have hfq := hQ5.frozen k
          have hD9 : val (rs.drop k) / V ≤ 4294967295 := Nat.le_trans HP.out.2.2.2.2.2.1 (gs_le _ _ _ _ _)
          have HPD := Lib.hid (part_done2 (rs := rs) (P := P5) (m := m) (k := k) hPl hkm HP.out.2.2.2.1 hPv)
          have HO5 := Lib.hid hO5
          have HG5 := Lib.hid hg5
          have HQ5 := Lib.hid hQ5
          have HPg := Lib.hid hPg
          have HPl := Lib.hid hPl
          have hml : val (rs.drop k) % V < V := Nat.mod_lt _ hV0
          clear hPl hPg hPv hO5 hg5 hQ5
          have HD9 := Lib.hid hD9
          clear hD9
          go_wp2
          go_roundw
          case rel =>
            refine ⟨k, _, _, by omega, rfl, HO5.out.grown (grownBy_setCellAt _ _ _ _) (fun e => by injection e with e; omega), spl_good HGR.out HPg.out, by rw [spl_len (by rw [HPl.out]; omega), HlR.out], HQ5.out.set_ k _, HGQ.out.set (by have := HD9.out; omega) k, by rw [List.length_set, HlQ.out], ?_, ?_, ?_⟩
            · rw [HPD.out.1]; exact hml
            · exact inv_step (by omega) rfl HI2.out HPD.out.2 (val_set_drop _ (by rw [HlQ.out]; omega))
            · exact (HBl.out.grown HG5.out (by have := HBl.out.size; omega) (fun b e => by injection e with e; omega)).setCell (p := ⟨w3.heap.size, k, none⟩) (by show w2.heap.size ≤ w3.heap.size; omega) _
          case measure => simp [intOf]

/-- over, by a divisor other than 0. -/
theorem rover_any (w : World) (A B : Option Addr) (n m ca cb a b : Nat) (hA : Lm w w.heap.size A n ca (digs a)) (hB : Lm w w.heap.size B m cb (digs b)) (hb : 0 < b) (hn9 : n ≤ 1000000) :
    Calls Tryd.prog 38 #[.slice A n ca, .slice B m cb] w (RD w (a / b) (a % b)) := by
  have hc := cmpL_norm (digs_good a) (digs_good b) (digs_norm a) (digs_norm b)
  rw [digs_val, digs_val] at hc
  rcases Nat.lt_or_ge a b with h | h
  · exact rover_less w A B n m ca cb b a _ hA hB (digs_val a) (by rw [hc]; exact cmpN_lt h) h hn9
  · have hm : 0 < m := by rw [← hB.len, digs_pos]; exact hb
    rcases Nat.lt_or_ge m 2 with h1 | h1
    · obtain rfl : m = 1 := by omega
      refine rover_one w A B n ca cb b a _ hA hB (digs_val a) ?_ hn9
      rw [hc]
      unfold cmpN
      rw [if_neg (by omega)]
      split <;> decide
    · exact rover_long w A B n m ca cb a b hA hB h h1 hn9
end Go.Proofs.YtegpckhfncblhaaDoor

/- The reference's DivMod. -/
namespace Go.Proofs.YtegpckhfncblhaaDoor
open Go.RowKit

set_option maxRecDepth 100000 in
set_option maxHeartbeats 2000000 in
theorem rdivmod_bad (w : World) (na nb : Bool) (A B : Option Addr) (n m ca cb : Nat) (xs ys : List Nat) (hA : Lm w w.heap.size A n ca xs) (hB : Lm w w.heap.size B m cb ys) (hv : chkB na xs nb ys = 8) :
    Calls Tryd.prog 16 #[.agg #[.bool na, .slice A n ca], .agg #[.bool nb, .slice B m cb]] w (RWW w false [] false [] 8) := by
  have HA := Lib.hid hA
  have HB := Lib.hid hB
  have HV := Lib.hid hv
  clear hv
  go_enter Tryd.func16, Tryd.ntmps16
  go_wp2_with fail
  refine (rboth_any _ _ _ _ _ _ _ _ _ _ _ ((((HA.out.box _).box _).box _).box _) ((((HB.out.box _).box _).box _).box _) 8 HV.out).mono ?_
  rintro e w1 ⟨rfl, hb1⟩
  have ⟨PA, PB, PQ, PR⟩ := boxes4 hb1
  have LA1 := Lib.hid (((((HA.out.box _).box _).box _).box _).via hb1)
  have LB1 := Lib.hid (((((HB.out.box _).box _).box _).box _).via hb1)
  have HB1 := Lib.hid (bbox (bbox (bbox (bbox hb1))))
  have ⟨a0, a1, _, _, _⟩ := PA
  have ⟨b0, b1, _, _, _⟩ := PB
  clear hb1
  go_wp2_with fail
  refine (rboth_any _ _ _ _ _ _ _ _ _ _ _ LA1.out LB1.out 8 HV.out).mono ?_
  rintro e w2 ⟨rfl, hb2⟩
  have PQ2 := PQ.via hb2
  have PR2 := PR.via hb2
  have HB2 := Lib.hid (HB1.out.trans (hb2.mono HB1.out.size))
  clear PQ PR hb2
  have ⟨q0, q1, qf0, qf1, ql⟩ := PQ2
  have ⟨r0, r1, rf0, rf1, rl⟩ := PR2
  go_wp2
  refine post_ww Tryd.results16 rfl rfl rfl ((PQ2.set _ _).far (by omega) _ _) ((PR2.far (by omega) _ _).set _ _) ⟨none, 0, 0, none, 0, 0, rfl, Lm.nil _ _, Lm.nil _ _, below_set2 (below_set2 HB2.out (by omega) _ _) (by omega) _ _⟩

set_option maxRecDepth 100000 in
set_option maxHeartbeats 2000000 in
theorem rdivmod_zero (w : World) (na nb : Bool) (A B : Option Addr) (n ca cb : Nat) (xs : List Nat) (hA : Lm w w.heap.size A n ca xs) (hB : Lm w w.heap.size B 0 cb []) (hv : chkB na xs nb [] = 0) :
    Calls Tryd.prog 16 #[.agg #[.bool na, .slice A n ca], .agg #[.bool nb, .slice B 0 cb]] w (RWW w false [] false [] 18) := by
  have HA := Lib.hid hA
  have HB := Lib.hid hB
  have HV := Lib.hid hv
  clear hv
  go_enter Tryd.func16, Tryd.ntmps16
  go_wp2_with fail
  refine (rboth_any _ _ _ _ _ _ _ _ _ _ _ ((((HA.out.box _).box _).box _).box _) ((((HB.out.box _).box _).box _).box _) 0 HV.out).mono ?_
  rintro e w1 ⟨rfl, hb1⟩
  have ⟨_, PB, PQ, PR⟩ := boxes4 hb1
  have HB1 := Lib.hid (bbox (bbox (bbox (bbox hb1))))
  have ⟨b0, b1, _, _, _⟩ := PB
  have ⟨q0, q1, qf0, qf1, ql⟩ := PQ
  have ⟨r0, r1, rf0, rf1, rl⟩ := PR
  clear hb1
  go_wp2
  refine post_ww Tryd.results16 rfl rfl rfl ((PQ.set _ _).far (by omega) _ _) ((PR.far (by omega) _ _).set _ _) ⟨none, 0, 0, none, 0, 0, rfl, Lm.nil _ _, Lm.nil _ _, below_set2 (below_set2 HB1.out (by omega) _ _) (by omega) _ _⟩

set_option maxRecDepth 100000 in
set_option maxHeartbeats 2000000 in
theorem rdivmod_same (w : World) (na nb : Bool) (A B : Option Addr) (n m ca cb a b : Nat) (hA : Lm w w.heap.size A n ca (digs a)) (hB : Lm w w.heap.size B m cb (digs b)) (hv : chkB na (digs a) nb (digs b) = 0) (hb : 0 < b) (hs : na = nb) (z : Bool) (hz : decide (0 < a % b) = z) :
    Calls Tryd.prog 16 #[.agg #[.bool na, .slice A n ca], .agg #[.bool nb, .slice B m cb]] w (RWW w (mkN false (a / b)) (digs (a / b)) (mkN nb (a % b)) (digs (a % b)) 0) := by
  have h41 := (chk_ok.1 (chkB_ok.1 hv).1).1
  have h42 := (chk_ok.1 (chkB_ok.1 hv).2).1
  have hml := Nat.mod_lt a hb
  have hq0 : (digs (a / b)).length ≤ 4096 := Nat.le_trans (digs_mono (Nat.div_le_self a b)) h41
  have hr0 : (digs (a % b)).length ≤ 4096 := Nat.le_trans (digs_mono (Nat.le_of_lt hml)) h42
  have HLq : Hid (mkL (a / b) = digs (a / b)) := by show _ = _; unfold mkL; rw [if_pos hq0]
  have HLr : Hid (mkL (a % b) = digs (a % b)) := by show _ = _; unfold mkL; rw [if_pos hr0]
  have HEq : Hid (mkE (a / b) = 0) := by show _ = _; unfold mkE; rw [if_pos hq0]
  have HEr : Hid (mkE (a % b) = 0) := by show _ = _; unfold mkE; rw [if_pos hr0]
  rw [hA.len] at h41
  rw [hB.len] at h42
  have hm0 : 0 < m := by rw [← hB.len, digs_pos]; exact hb
  have hm1 : ((m : Int) == 0) = false := by simp; omega
  have hcB := hB.cap
  have hxB := hB.max
  have HA := Lib.hid hA
  have HB := Lib.hid hB
  have HV := Lib.hid hv
  have HVq : Hid (val (digs (a / b)) = a / b) := digs_val _
  have HVr : Hid (val (digs (a % b)) = a % b) := digs_val _
  have hrl : decide (0 < (digs (a % b)).length) = decide (0 < a % b) := decide_eq_decide.2 digs_pos
  rw [hz] at hrl
  clear hz
  clear hv hA hB hml
  subst hs
  cases na <;> cases z
  · go_enter Tryd.func16, Tryd.ntmps16
    go_wp2_with fail
    refine (rboth_any _ _ _ _ _ _ _ _ _ _ _ ((((HA.out.box _).box _).box _).box _) ((((HB.out.box _).box _).box _).box _) 0 HV.out).mono ?_
    rintro e w1 ⟨rfl, hb1⟩
    have ⟨PA, PB, PQ, PR⟩ := boxes4 hb1
    have LA1 := Lib.hid (((((HA.out.box _).box _).box _).box _).via hb1)
    have LB1 := Lib.hid (((((HB.out.box _).box _).box _).box _).via hb1)
    have HB1 := Lib.hid (bbox (bbox (bbox (bbox hb1))))
    have ⟨a0, a1, _, _, _⟩ := PA
    have ⟨b0, b1, _, _, _⟩ := PB
    clear hb1
    go_wp2_with fail
    refine (rover_any w1 A B n m ca cb a b LA1.out LB1.out hb (by omega)).mono ?_
    rintro e w2 ⟨Q, cq, R, cr, rfl, hQ, hR, hb2⟩
    have PA2 := PA.via hb2
    have PB2 := PB.via hb2
    have PQ2 := PQ.via hb2
    have PR2 := PR.via hb2
    have HB2 := Lib.hid (HB1.out.trans (hb2.mono HB1.out.size))
    have HQ := Lib.hid hQ
    have HR := Lib.hid hR
    have LB2 := Lib.hid (LB1.out.via hb2)
    clear PA PB PQ PR LA1 LB1 HB1 a0 a1 b0 b1 hb2 hQ hR
    have ⟨a0, a1, _, _, _⟩ := PA2
    have ⟨b0, b1, _, _, _⟩ := PB2
    go_wp2_with fail
    refine (rmade_any w2 _ _ _ _ _ (a / b) HQ.out HVq.out (by omega)).mono ?_
    rintro e w3 ⟨A3, n3, c3, rfl, hL3, hb3⟩
    rw [HLq.out] at hL3
    rw [HEq.out]
    have PA4 := (PA2.via hb3).alloc (.cells #[.bool (mkN false (a / b)), .slice A3 n3 c3] 24)
    have PB4 := (PB2.via hb3).alloc (.cells #[.bool (mkN false (a / b)), .slice A3 n3 c3] 24)
    have PQ4 := (PQ2.via hb3).alloc (.cells #[.bool (mkN false (a / b)), .slice A3 n3 c3] 24)
    have PR4 := (PR2.via hb3).alloc (.cells #[.bool (mkN false (a / b)), .slice A3 n3 c3] 24)
    have HB4 := Lib.hid ((HB2.out.trans (hb3.mono HB2.out.size)).alloc (HB2.out.trans (hb3.mono HB2.out.size)).size (.cells #[.bool (mkN false (a / b)), .slice A3 n3 c3] 24))
    have HR4 := Lib.hid ((HR.out.via hb3).box (.cells #[.bool (mkN false (a / b)), .slice A3 n3 c3] 24))
    have LB4 := Lib.hid ((LB2.out.via hb3).box (.cells #[.bool (mkN false (a / b)), .slice A3 n3 c3] 24))
    have HL4 := Lib.hid (hL3.box (.cells #[.bool (mkN false (a / b)), .slice A3 n3 c3] 24))
    have PX4 := Pr.new w3 w3.heap.size rfl (.bool (mkN false (a / b))) (.slice A3 n3 c3) 24
    have hlt3 : w.heap.size + 1 + 1 + 1 < w3.heap.size := (PR2.via hb3).lt
    clear PA2 PB2 PQ2 PR2 HQ HR HB2 LB2 hb3 hL3 a0 a1 b0 b1
    have ⟨a0, a1, _, _, _⟩ := PA4
    have ⟨b0, b1, _, _, _⟩ := PB4
    go_wp2_with fail
    generalize w3.alloc (.cells #[.bool (mkN false (a / b)), .slice A3 n3 c3] 24) = w4 at *
    generalize w3.heap.size = g3 at *
    refine (rmade_any w4 _ _ _ _ _ (a % b) HR4.out HVr.out (by omega)).mono ?_
    rintro e w5 ⟨A5, n5, c5, rfl, hL5, hb5⟩
    rw [HLr.out] at hL5
    rw [HEr.out]
    have PA6 := (PA4.via hb5).alloc (.cells #[.bool (mkN false (a % b)), .slice A5 n5 c5] 24)
    have PB6 := (PB4.via hb5).alloc (.cells #[.bool (mkN false (a % b)), .slice A5 n5 c5] 24)
    have PQ6 := (PQ4.via hb5).alloc (.cells #[.bool (mkN false (a % b)), .slice A5 n5 c5] 24)
    have PR6 := (PR4.via hb5).alloc (.cells #[.bool (mkN false (a % b)), .slice A5 n5 c5] 24)
    have PX6 := (PX4.via hb5).alloc (.cells #[.bool (mkN false (a % b)), .slice A5 n5 c5] 24)
    have HB6 := Lib.hid ((HB4.out.trans (hb5.mono HB4.out.size)).alloc (HB4.out.trans (hb5.mono HB4.out.size)).size (.cells #[.bool (mkN false (a % b)), .slice A5 n5 c5] 24))
    have LB6 := Lib.hid ((LB4.out.via hb5).box (.cells #[.bool (mkN false (a % b)), .slice A5 n5 c5] 24))
    have HL6 := Lib.hid ((HL4.out.via hb5).box (.cells #[.bool (mkN false (a % b)), .slice A5 n5 c5] 24))
    have HM6 := Lib.hid (hL5.box (.cells #[.bool (mkN false (a % b)), .slice A5 n5 c5] 24))
    have PY6 := Pr.new w5 w5.heap.size rfl (.bool (mkN false (a % b))) (.slice A5 n5 c5) 24
    have hlt5 : g3 < w5.heap.size := (PX4.via hb5).lt
    clear PA4 PB4 PQ4 PR4 PX4 HB4 HR4 LB4 HL4 hb5 hL5 a0 a1 b0 b1
    have ⟨a0, a1, _, _, _⟩ := PA6
    have ⟨b0, b1, _, _, _⟩ := PB6
    go_wp2_with fail
    generalize w5.alloc (.cells #[.bool (mkN false (a % b)), .slice A5 n5 c5] 24) = w6 at *
    generalize w5.heap.size = g5 at *
    have ⟨q0, q1, qf0, qf1, ql⟩ := PQ6
    have ⟨r0, r1, rf0, rf1, rl⟩ := PR6
    have ⟨x0, x1, xf0, xf1, xl⟩ := PX6
    have ⟨y0, y1, yf0, yf1, yl⟩ := PY6
    go_region
    all_goals
      go_wp2
      refine post_ww Tryd.results16 rfl rfl rfl ((PQ6.set _ _).far (by omega) _ _).drew ((PR6.far (by omega) _ _).set _ _).drew ⟨A3, n3, c3, A5, n5, c5, rfl, ?_, ?_, ?_⟩
      · exact ((HL6.out.setP PQ6 _ _).setP (PR6.far (by omega) _ _) _ _).drew
      · exact ((HM6.out.setP PQ6 _ _).setP (PR6.far (by omega) _ _) _ _).drew
      · exact (below_set2 (below_set2 HB6.out (by omega) _ _) (by omega) _ _).drew
  · go_enter Tryd.func16, Tryd.ntmps16
    go_wp2_with fail
    refine (rboth_any _ _ _ _ _ _ _ _ _ _ _ ((((HA.out.box _).box _).box _).box _) ((((HB.out.box _).box _).box _).box _) 0 HV.out).mono ?_
    rintro e w1 ⟨rfl, hb1⟩
    have ⟨PA, PB, PQ, PR⟩ := boxes4 hb1
    have LA1 := Lib.hid (((((HA.out.box _).box _).box _).box _).via hb1)
    have LB1 := Lib.hid (((((HB.out.box _).box _).box _).box _).via hb1)
    have HB1 := Lib.hid (bbox (bbox (bbox (bbox hb1))))
    have ⟨a0, a1, _, _, _⟩ := PA
    have ⟨b0, b1, _, _, _⟩ := PB
    clear hb1
    go_wp2_with fail
    refine (rover_any w1 A B n m ca cb a b LA1.out LB1.out hb (by omega)).mono ?_
    rintro e w2 ⟨Q, cq, R, cr, rfl, hQ, hR, hb2⟩
    have PA2 := PA.via hb2
    have PB2 := PB.via hb2
    have PQ2 := PQ.via hb2
    have PR2 := PR.via hb2
    have HB2 := Lib.hid (HB1.out.trans (hb2.mono HB1.out.size))
    have HQ := Lib.hid hQ
    have HR := Lib.hid hR
    have LB2 := Lib.hid (LB1.out.via hb2)
    clear PA PB PQ PR LA1 LB1 HB1 a0 a1 b0 b1 hb2 hQ hR
    have ⟨a0, a1, _, _, _⟩ := PA2
    have ⟨b0, b1, _, _, _⟩ := PB2
    go_wp2_with fail
    refine (rmade_any w2 _ _ _ _ _ (a / b) HQ.out HVq.out (by omega)).mono ?_
    rintro e w3 ⟨A3, n3, c3, rfl, hL3, hb3⟩
    rw [HLq.out] at hL3
    rw [HEq.out]
    have PA4 := (PA2.via hb3).alloc (.cells #[.bool (mkN false (a / b)), .slice A3 n3 c3] 24)
    have PB4 := (PB2.via hb3).alloc (.cells #[.bool (mkN false (a / b)), .slice A3 n3 c3] 24)
    have PQ4 := (PQ2.via hb3).alloc (.cells #[.bool (mkN false (a / b)), .slice A3 n3 c3] 24)
    have PR4 := (PR2.via hb3).alloc (.cells #[.bool (mkN false (a / b)), .slice A3 n3 c3] 24)
    have HB4 := Lib.hid ((HB2.out.trans (hb3.mono HB2.out.size)).alloc (HB2.out.trans (hb3.mono HB2.out.size)).size (.cells #[.bool (mkN false (a / b)), .slice A3 n3 c3] 24))
    have HR4 := Lib.hid ((HR.out.via hb3).box (.cells #[.bool (mkN false (a / b)), .slice A3 n3 c3] 24))
    have LB4 := Lib.hid ((LB2.out.via hb3).box (.cells #[.bool (mkN false (a / b)), .slice A3 n3 c3] 24))
    have HL4 := Lib.hid (hL3.box (.cells #[.bool (mkN false (a / b)), .slice A3 n3 c3] 24))
    have PX4 := Pr.new w3 w3.heap.size rfl (.bool (mkN false (a / b))) (.slice A3 n3 c3) 24
    have hlt3 : w.heap.size + 1 + 1 + 1 < w3.heap.size := (PR2.via hb3).lt
    clear PA2 PB2 PQ2 PR2 HQ HR HB2 LB2 hb3 hL3 a0 a1 b0 b1
    have ⟨a0, a1, _, _, _⟩ := PA4
    have ⟨b0, b1, _, _, _⟩ := PB4
    go_wp2_with fail
    generalize w3.alloc (.cells #[.bool (mkN false (a / b)), .slice A3 n3 c3] 24) = w4 at *
    generalize w3.heap.size = g3 at *
    refine (rmade_any w4 _ _ _ _ _ (a % b) HR4.out HVr.out (by omega)).mono ?_
    rintro e w5 ⟨A5, n5, c5, rfl, hL5, hb5⟩
    rw [HLr.out] at hL5
    rw [HEr.out]
    have PA6 := (PA4.via hb5).alloc (.cells #[.bool (mkN false (a % b)), .slice A5 n5 c5] 24)
    have PB6 := (PB4.via hb5).alloc (.cells #[.bool (mkN false (a % b)), .slice A5 n5 c5] 24)
    have PQ6 := (PQ4.via hb5).alloc (.cells #[.bool (mkN false (a % b)), .slice A5 n5 c5] 24)
    have PR6 := (PR4.via hb5).alloc (.cells #[.bool (mkN false (a % b)), .slice A5 n5 c5] 24)
    have PX6 := (PX4.via hb5).alloc (.cells #[.bool (mkN false (a % b)), .slice A5 n5 c5] 24)
    have HB6 := Lib.hid ((HB4.out.trans (hb5.mono HB4.out.size)).alloc (HB4.out.trans (hb5.mono HB4.out.size)).size (.cells #[.bool (mkN false (a % b)), .slice A5 n5 c5] 24))
    have LB6 := Lib.hid ((LB4.out.via hb5).box (.cells #[.bool (mkN false (a % b)), .slice A5 n5 c5] 24))
    have HL6 := Lib.hid ((HL4.out.via hb5).box (.cells #[.bool (mkN false (a % b)), .slice A5 n5 c5] 24))
    have HM6 := Lib.hid (hL5.box (.cells #[.bool (mkN false (a % b)), .slice A5 n5 c5] 24))
    have PY6 := Pr.new w5 w5.heap.size rfl (.bool (mkN false (a % b))) (.slice A5 n5 c5) 24
    have hlt5 : g3 < w5.heap.size := (PX4.via hb5).lt
    clear PA4 PB4 PQ4 PR4 PX4 HB4 HR4 LB4 HL4 hb5 hL5 a0 a1 b0 b1
    have ⟨a0, a1, _, _, _⟩ := PA6
    have ⟨b0, b1, _, _, _⟩ := PB6
    go_wp2_with fail
    generalize w5.alloc (.cells #[.bool (mkN false (a % b)), .slice A5 n5 c5] 24) = w6 at *
    generalize w5.heap.size = g5 at *
    have ⟨q0, q1, qf0, qf1, ql⟩ := PQ6
    have ⟨r0, r1, rf0, rf1, rl⟩ := PR6
    have ⟨x0, x1, xf0, xf1, xl⟩ := PX6
    have ⟨y0, y1, yf0, yf1, yl⟩ := PY6
    go_region
    all_goals
      go_wp2
      refine post_ww Tryd.results16 rfl rfl rfl ((PQ6.set _ _).far (by omega) _ _).drew ((PR6.far (by omega) _ _).set _ _).drew ⟨A3, n3, c3, A5, n5, c5, rfl, ?_, ?_, ?_⟩
      · exact ((HL6.out.setP PQ6 _ _).setP (PR6.far (by omega) _ _) _ _).drew
      · exact ((HM6.out.setP PQ6 _ _).setP (PR6.far (by omega) _ _) _ _).drew
      · exact (below_set2 (below_set2 HB6.out (by omega) _ _) (by omega) _ _).drew
  · go_enter Tryd.func16, Tryd.ntmps16
    go_wp2_with fail
    refine (rboth_any _ _ _ _ _ _ _ _ _ _ _ ((((HA.out.box _).box _).box _).box _) ((((HB.out.box _).box _).box _).box _) 0 HV.out).mono ?_
    rintro e w1 ⟨rfl, hb1⟩
    have ⟨PA, PB, PQ, PR⟩ := boxes4 hb1
    have LA1 := Lib.hid (((((HA.out.box _).box _).box _).box _).via hb1)
    have LB1 := Lib.hid (((((HB.out.box _).box _).box _).box _).via hb1)
    have HB1 := Lib.hid (bbox (bbox (bbox (bbox hb1))))
    have ⟨a0, a1, _, _, _⟩ := PA
    have ⟨b0, b1, _, _, _⟩ := PB
    clear hb1
    go_wp2_with fail
    refine (rover_any w1 A B n m ca cb a b LA1.out LB1.out hb (by omega)).mono ?_
    rintro e w2 ⟨Q, cq, R, cr, rfl, hQ, hR, hb2⟩
    have PA2 := PA.via hb2
    have PB2 := PB.via hb2
    have PQ2 := PQ.via hb2
    have PR2 := PR.via hb2
    have HB2 := Lib.hid (HB1.out.trans (hb2.mono HB1.out.size))
    have HQ := Lib.hid hQ
    have HR := Lib.hid hR
    have LB2 := Lib.hid (LB1.out.via hb2)
    clear PA PB PQ PR LA1 LB1 HB1 a0 a1 b0 b1 hb2 hQ hR
    have ⟨a0, a1, _, _, _⟩ := PA2
    have ⟨b0, b1, _, _, _⟩ := PB2
    go_wp2_with fail
    refine (rmade_any w2 _ _ _ _ _ (a / b) HQ.out HVq.out (by omega)).mono ?_
    rintro e w3 ⟨A3, n3, c3, rfl, hL3, hb3⟩
    rw [HLq.out] at hL3
    rw [HEq.out]
    have PA4 := (PA2.via hb3).alloc (.cells #[.bool (mkN false (a / b)), .slice A3 n3 c3] 24)
    have PB4 := (PB2.via hb3).alloc (.cells #[.bool (mkN false (a / b)), .slice A3 n3 c3] 24)
    have PQ4 := (PQ2.via hb3).alloc (.cells #[.bool (mkN false (a / b)), .slice A3 n3 c3] 24)
    have PR4 := (PR2.via hb3).alloc (.cells #[.bool (mkN false (a / b)), .slice A3 n3 c3] 24)
    have HB4 := Lib.hid ((HB2.out.trans (hb3.mono HB2.out.size)).alloc (HB2.out.trans (hb3.mono HB2.out.size)).size (.cells #[.bool (mkN false (a / b)), .slice A3 n3 c3] 24))
    have HR4 := Lib.hid ((HR.out.via hb3).box (.cells #[.bool (mkN false (a / b)), .slice A3 n3 c3] 24))
    have LB4 := Lib.hid ((LB2.out.via hb3).box (.cells #[.bool (mkN false (a / b)), .slice A3 n3 c3] 24))
    have HL4 := Lib.hid (hL3.box (.cells #[.bool (mkN false (a / b)), .slice A3 n3 c3] 24))
    have PX4 := Pr.new w3 w3.heap.size rfl (.bool (mkN false (a / b))) (.slice A3 n3 c3) 24
    have hlt3 : w.heap.size + 1 + 1 + 1 < w3.heap.size := (PR2.via hb3).lt
    clear PA2 PB2 PQ2 PR2 HQ HR HB2 LB2 hb3 hL3 a0 a1 b0 b1
    have ⟨a0, a1, _, _, _⟩ := PA4
    have ⟨b0, b1, _, _, _⟩ := PB4
    go_wp2_with fail
    generalize w3.alloc (.cells #[.bool (mkN false (a / b)), .slice A3 n3 c3] 24) = w4 at *
    generalize w3.heap.size = g3 at *
    refine (rmade_any w4 _ _ _ _ _ (a % b) HR4.out HVr.out (by omega)).mono ?_
    rintro e w5 ⟨A5, n5, c5, rfl, hL5, hb5⟩
    rw [HLr.out] at hL5
    rw [HEr.out]
    have PA6 := (PA4.via hb5).alloc (.cells #[.bool (mkN true (a % b)), .slice A5 n5 c5] 24)
    have PB6 := (PB4.via hb5).alloc (.cells #[.bool (mkN true (a % b)), .slice A5 n5 c5] 24)
    have PQ6 := (PQ4.via hb5).alloc (.cells #[.bool (mkN true (a % b)), .slice A5 n5 c5] 24)
    have PR6 := (PR4.via hb5).alloc (.cells #[.bool (mkN true (a % b)), .slice A5 n5 c5] 24)
    have PX6 := (PX4.via hb5).alloc (.cells #[.bool (mkN true (a % b)), .slice A5 n5 c5] 24)
    have HB6 := Lib.hid ((HB4.out.trans (hb5.mono HB4.out.size)).alloc (HB4.out.trans (hb5.mono HB4.out.size)).size (.cells #[.bool (mkN true (a % b)), .slice A5 n5 c5] 24))
    have LB6 := Lib.hid ((LB4.out.via hb5).box (.cells #[.bool (mkN true (a % b)), .slice A5 n5 c5] 24))
    have HL6 := Lib.hid ((HL4.out.via hb5).box (.cells #[.bool (mkN true (a % b)), .slice A5 n5 c5] 24))
    have HM6 := Lib.hid (hL5.box (.cells #[.bool (mkN true (a % b)), .slice A5 n5 c5] 24))
    have PY6 := Pr.new w5 w5.heap.size rfl (.bool (mkN true (a % b))) (.slice A5 n5 c5) 24
    have hlt5 : g3 < w5.heap.size := (PX4.via hb5).lt
    clear PA4 PB4 PQ4 PR4 PX4 HB4 HR4 LB4 HL4 hb5 hL5 a0 a1 b0 b1
    have ⟨a0, a1, _, _, _⟩ := PA6
    have ⟨b0, b1, _, _, _⟩ := PB6
    go_wp2_with fail
    generalize w5.alloc (.cells #[.bool (mkN true (a % b)), .slice A5 n5 c5] 24) = w6 at *
    generalize w5.heap.size = g5 at *
    have ⟨q0, q1, qf0, qf1, ql⟩ := PQ6
    have ⟨r0, r1, rf0, rf1, rl⟩ := PR6
    have ⟨x0, x1, xf0, xf1, xl⟩ := PX6
    have ⟨y0, y1, yf0, yf1, yl⟩ := PY6
    go_region
    all_goals
      go_wp2
      refine post_ww Tryd.results16 rfl rfl rfl ((PQ6.set _ _).far (by omega) _ _).drew ((PR6.far (by omega) _ _).set _ _).drew ⟨A3, n3, c3, A5, n5, c5, rfl, ?_, ?_, ?_⟩
      · exact ((HL6.out.setP PQ6 _ _).setP (PR6.far (by omega) _ _) _ _).drew
      · exact ((HM6.out.setP PQ6 _ _).setP (PR6.far (by omega) _ _) _ _).drew
      · exact (below_set2 (below_set2 HB6.out (by omega) _ _) (by omega) _ _).drew
  · go_enter Tryd.func16, Tryd.ntmps16
    go_wp2_with fail
    refine (rboth_any _ _ _ _ _ _ _ _ _ _ _ ((((HA.out.box _).box _).box _).box _) ((((HB.out.box _).box _).box _).box _) 0 HV.out).mono ?_
    rintro e w1 ⟨rfl, hb1⟩
    have ⟨PA, PB, PQ, PR⟩ := boxes4 hb1
    have LA1 := Lib.hid (((((HA.out.box _).box _).box _).box _).via hb1)
    have LB1 := Lib.hid (((((HB.out.box _).box _).box _).box _).via hb1)
    have HB1 := Lib.hid (bbox (bbox (bbox (bbox hb1))))
    have ⟨a0, a1, _, _, _⟩ := PA
    have ⟨b0, b1, _, _, _⟩ := PB
    clear hb1
    go_wp2_with fail
    refine (rover_any w1 A B n m ca cb a b LA1.out LB1.out hb (by omega)).mono ?_
    rintro e w2 ⟨Q, cq, R, cr, rfl, hQ, hR, hb2⟩
    have PA2 := PA.via hb2
    have PB2 := PB.via hb2
    have PQ2 := PQ.via hb2
    have PR2 := PR.via hb2
    have HB2 := Lib.hid (HB1.out.trans (hb2.mono HB1.out.size))
    have HQ := Lib.hid hQ
    have HR := Lib.hid hR
    have LB2 := Lib.hid (LB1.out.via hb2)
    clear PA PB PQ PR LA1 LB1 HB1 a0 a1 b0 b1 hb2 hQ hR
    have ⟨a0, a1, _, _, _⟩ := PA2
    have ⟨b0, b1, _, _, _⟩ := PB2
    go_wp2_with fail
    refine (rmade_any w2 _ _ _ _ _ (a / b) HQ.out HVq.out (by omega)).mono ?_
    rintro e w3 ⟨A3, n3, c3, rfl, hL3, hb3⟩
    rw [HLq.out] at hL3
    rw [HEq.out]
    have PA4 := (PA2.via hb3).alloc (.cells #[.bool (mkN false (a / b)), .slice A3 n3 c3] 24)
    have PB4 := (PB2.via hb3).alloc (.cells #[.bool (mkN false (a / b)), .slice A3 n3 c3] 24)
    have PQ4 := (PQ2.via hb3).alloc (.cells #[.bool (mkN false (a / b)), .slice A3 n3 c3] 24)
    have PR4 := (PR2.via hb3).alloc (.cells #[.bool (mkN false (a / b)), .slice A3 n3 c3] 24)
    have HB4 := Lib.hid ((HB2.out.trans (hb3.mono HB2.out.size)).alloc (HB2.out.trans (hb3.mono HB2.out.size)).size (.cells #[.bool (mkN false (a / b)), .slice A3 n3 c3] 24))
    have HR4 := Lib.hid ((HR.out.via hb3).box (.cells #[.bool (mkN false (a / b)), .slice A3 n3 c3] 24))
    have LB4 := Lib.hid ((LB2.out.via hb3).box (.cells #[.bool (mkN false (a / b)), .slice A3 n3 c3] 24))
    have HL4 := Lib.hid (hL3.box (.cells #[.bool (mkN false (a / b)), .slice A3 n3 c3] 24))
    have PX4 := Pr.new w3 w3.heap.size rfl (.bool (mkN false (a / b))) (.slice A3 n3 c3) 24
    have hlt3 : w.heap.size + 1 + 1 + 1 < w3.heap.size := (PR2.via hb3).lt
    clear PA2 PB2 PQ2 PR2 HQ HR HB2 LB2 hb3 hL3 a0 a1 b0 b1
    have ⟨a0, a1, _, _, _⟩ := PA4
    have ⟨b0, b1, _, _, _⟩ := PB4
    go_wp2_with fail
    generalize w3.alloc (.cells #[.bool (mkN false (a / b)), .slice A3 n3 c3] 24) = w4 at *
    generalize w3.heap.size = g3 at *
    refine (rmade_any w4 _ _ _ _ _ (a % b) HR4.out HVr.out (by omega)).mono ?_
    rintro e w5 ⟨A5, n5, c5, rfl, hL5, hb5⟩
    rw [HLr.out] at hL5
    rw [HEr.out]
    have PA6 := (PA4.via hb5).alloc (.cells #[.bool (mkN true (a % b)), .slice A5 n5 c5] 24)
    have PB6 := (PB4.via hb5).alloc (.cells #[.bool (mkN true (a % b)), .slice A5 n5 c5] 24)
    have PQ6 := (PQ4.via hb5).alloc (.cells #[.bool (mkN true (a % b)), .slice A5 n5 c5] 24)
    have PR6 := (PR4.via hb5).alloc (.cells #[.bool (mkN true (a % b)), .slice A5 n5 c5] 24)
    have PX6 := (PX4.via hb5).alloc (.cells #[.bool (mkN true (a % b)), .slice A5 n5 c5] 24)
    have HB6 := Lib.hid ((HB4.out.trans (hb5.mono HB4.out.size)).alloc (HB4.out.trans (hb5.mono HB4.out.size)).size (.cells #[.bool (mkN true (a % b)), .slice A5 n5 c5] 24))
    have LB6 := Lib.hid ((LB4.out.via hb5).box (.cells #[.bool (mkN true (a % b)), .slice A5 n5 c5] 24))
    have HL6 := Lib.hid ((HL4.out.via hb5).box (.cells #[.bool (mkN true (a % b)), .slice A5 n5 c5] 24))
    have HM6 := Lib.hid (hL5.box (.cells #[.bool (mkN true (a % b)), .slice A5 n5 c5] 24))
    have PY6 := Pr.new w5 w5.heap.size rfl (.bool (mkN true (a % b))) (.slice A5 n5 c5) 24
    have hlt5 : g3 < w5.heap.size := (PX4.via hb5).lt
    clear PA4 PB4 PQ4 PR4 PX4 HB4 HR4 LB4 HL4 hb5 hL5 a0 a1 b0 b1
    have ⟨a0, a1, _, _, _⟩ := PA6
    have ⟨b0, b1, _, _, _⟩ := PB6
    go_wp2_with fail
    generalize w5.alloc (.cells #[.bool (mkN true (a % b)), .slice A5 n5 c5] 24) = w6 at *
    generalize w5.heap.size = g5 at *
    have ⟨q0, q1, qf0, qf1, ql⟩ := PQ6
    have ⟨r0, r1, rf0, rf1, rl⟩ := PR6
    have ⟨x0, x1, xf0, xf1, xl⟩ := PX6
    have ⟨y0, y1, yf0, yf1, yl⟩ := PY6
    go_region
    all_goals
      go_wp2
      refine post_ww Tryd.results16 rfl rfl rfl ((PQ6.set _ _).far (by omega) _ _).drew ((PR6.far (by omega) _ _).set _ _).drew ⟨A3, n3, c3, A5, n5, c5, rfl, ?_, ?_, ?_⟩
      · exact ((HL6.out.setP PQ6 _ _).setP (PR6.far (by omega) _ _) _ _).drew
      · exact ((HM6.out.setP PQ6 _ _).setP (PR6.far (by omega) _ _) _ _).drew
      · exact (below_set2 (below_set2 HB6.out (by omega) _ _) (by omega) _ _).drew
set_option maxRecDepth 100000 in
set_option maxHeartbeats 2000000 in
theorem rdivmod_exact (w : World) (na nb : Bool) (A B : Option Addr) (n m ca cb a b : Nat) (hA : Lm w w.heap.size A n ca (digs a)) (hB : Lm w w.heap.size B m cb (digs b)) (hv : chkB na (digs a) nb (digs b) = 0) (hb : 0 < b) (hs : na = true ∧ nb = false ∨ na = false ∧ nb = true) (h0 : a % b = 0) :
    Calls Tryd.prog 16 #[.agg #[.bool na, .slice A n ca], .agg #[.bool nb, .slice B m cb]] w (RWW w (mkN true (a / b)) (digs (a / b)) (mkN na (a % b)) (digs (a % b)) 0) := by
  have h41 := (chk_ok.1 (chkB_ok.1 hv).1).1
  have h42 := (chk_ok.1 (chkB_ok.1 hv).2).1
  have hml := Nat.mod_lt a hb
  have hq0 : (digs (a / b)).length ≤ 4096 := Nat.le_trans (digs_mono (Nat.div_le_self a b)) h41
  have hr0 : (digs (a % b)).length ≤ 4096 := Nat.le_trans (digs_mono (Nat.le_of_lt hml)) h42
  have HLq : Hid (mkL (a / b) = digs (a / b)) := by show _ = _; unfold mkL; rw [if_pos hq0]
  have HLr : Hid (mkL (a % b) = digs (a % b)) := by show _ = _; unfold mkL; rw [if_pos hr0]
  have HEq : Hid (mkE (a / b) = 0) := by show _ = _; unfold mkE; rw [if_pos hq0]
  have HEr : Hid (mkE (a % b) = 0) := by show _ = _; unfold mkE; rw [if_pos hr0]
  rw [hA.len] at h41
  rw [hB.len] at h42
  have hm0 : 0 < m := by rw [← hB.len, digs_pos]; exact hb
  have hm1 : ((m : Int) == 0) = false := by simp; omega
  have hcB := hB.cap
  have hxB := hB.max
  have HA := Lib.hid hA
  have HB := Lib.hid hB
  have HV := Lib.hid hv
  have HVq : Hid (val (digs (a / b)) = a / b) := digs_val _
  have HVr : Hid (val (digs (a % b)) = a % b) := digs_val _
  have hrl : decide (0 < (digs (a % b)).length) = decide (0 < a % b) := decide_eq_decide.2 digs_pos
  have hrz : decide (0 < (digs (a % b)).length) = false := by rw [hrl]; simp; omega
  have H0 := Lib.hid h0
  clear hrl h0
  clear hv hA hB hml
  rcases hs with ⟨rfl, rfl⟩ | ⟨rfl, rfl⟩
  · go_enter Tryd.func16, Tryd.ntmps16
    go_wp2_with fail
    refine (rboth_any _ _ _ _ _ _ _ _ _ _ _ ((((HA.out.box _).box _).box _).box _) ((((HB.out.box _).box _).box _).box _) 0 HV.out).mono ?_
    rintro e w1 ⟨rfl, hb1⟩
    have ⟨PA, PB, PQ, PR⟩ := boxes4 hb1
    have LA1 := Lib.hid (((((HA.out.box _).box _).box _).box _).via hb1)
    have LB1 := Lib.hid (((((HB.out.box _).box _).box _).box _).via hb1)
    have HB1 := Lib.hid (bbox (bbox (bbox (bbox hb1))))
    have ⟨a0, a1, _, _, _⟩ := PA
    have ⟨b0, b1, _, _, _⟩ := PB
    clear hb1
    go_wp2_with fail
    refine (rover_any w1 A B n m ca cb a b LA1.out LB1.out hb (by omega)).mono ?_
    rintro e w2 ⟨Q, cq, R, cr, rfl, hQ, hR, hb2⟩
    have PA2 := PA.via hb2
    have PB2 := PB.via hb2
    have PQ2 := PQ.via hb2
    have PR2 := PR.via hb2
    have HB2 := Lib.hid (HB1.out.trans (hb2.mono HB1.out.size))
    have HQ := Lib.hid hQ
    have HR := Lib.hid hR
    have LB2 := Lib.hid (LB1.out.via hb2)
    clear PA PB PQ PR LA1 LB1 HB1 a0 a1 b0 b1 hb2 hQ hR
    have ⟨a0, a1, _, _, _⟩ := PA2
    have ⟨b0, b1, _, _, _⟩ := PB2
    go_wp2_with fail
    refine (rmade_any w2 _ _ _ _ _ (a / b) HQ.out HVq.out (by omega)).mono ?_
    rintro e w3 ⟨A3, n3, c3, rfl, hL3, hb3⟩
    rw [HLq.out] at hL3
    rw [HEq.out]
    have PA4 := (PA2.via hb3).alloc (.cells #[.bool (mkN true (a / b)), .slice A3 n3 c3] 24)
    have PB4 := (PB2.via hb3).alloc (.cells #[.bool (mkN true (a / b)), .slice A3 n3 c3] 24)
    have PQ4 := (PQ2.via hb3).alloc (.cells #[.bool (mkN true (a / b)), .slice A3 n3 c3] 24)
    have PR4 := (PR2.via hb3).alloc (.cells #[.bool (mkN true (a / b)), .slice A3 n3 c3] 24)
    have HB4 := Lib.hid ((HB2.out.trans (hb3.mono HB2.out.size)).alloc (HB2.out.trans (hb3.mono HB2.out.size)).size (.cells #[.bool (mkN true (a / b)), .slice A3 n3 c3] 24))
    have HR4 := Lib.hid ((HR.out.via hb3).box (.cells #[.bool (mkN true (a / b)), .slice A3 n3 c3] 24))
    have LB4 := Lib.hid ((LB2.out.via hb3).box (.cells #[.bool (mkN true (a / b)), .slice A3 n3 c3] 24))
    have HL4 := Lib.hid (hL3.box (.cells #[.bool (mkN true (a / b)), .slice A3 n3 c3] 24))
    have PX4 := Pr.new w3 w3.heap.size rfl (.bool (mkN true (a / b))) (.slice A3 n3 c3) 24
    have hlt3 : w.heap.size + 1 + 1 + 1 < w3.heap.size := (PR2.via hb3).lt
    clear PA2 PB2 PQ2 PR2 HQ HR HB2 LB2 hb3 hL3 a0 a1 b0 b1
    have ⟨a0, a1, _, _, _⟩ := PA4
    have ⟨b0, b1, _, _, _⟩ := PB4
    go_wp2_with fail
    generalize w3.alloc (.cells #[.bool (mkN true (a / b)), .slice A3 n3 c3] 24) = w4 at *
    generalize w3.heap.size = g3 at *
    refine (rmade_any w4 _ _ _ _ _ (a % b) HR4.out HVr.out (by omega)).mono ?_
    rintro e w5 ⟨A5, n5, c5, rfl, hL5, hb5⟩
    rw [HLr.out] at hL5
    rw [HEr.out]
    have PA6 := (PA4.via hb5).alloc (.cells #[.bool (mkN true (a % b)), .slice A5 n5 c5] 24)
    have PB6 := (PB4.via hb5).alloc (.cells #[.bool (mkN true (a % b)), .slice A5 n5 c5] 24)
    have PQ6 := (PQ4.via hb5).alloc (.cells #[.bool (mkN true (a % b)), .slice A5 n5 c5] 24)
    have PR6 := (PR4.via hb5).alloc (.cells #[.bool (mkN true (a % b)), .slice A5 n5 c5] 24)
    have PX6 := (PX4.via hb5).alloc (.cells #[.bool (mkN true (a % b)), .slice A5 n5 c5] 24)
    have HB6 := Lib.hid ((HB4.out.trans (hb5.mono HB4.out.size)).alloc (HB4.out.trans (hb5.mono HB4.out.size)).size (.cells #[.bool (mkN true (a % b)), .slice A5 n5 c5] 24))
    have LB6 := Lib.hid ((LB4.out.via hb5).box (.cells #[.bool (mkN true (a % b)), .slice A5 n5 c5] 24))
    have HL6 := Lib.hid ((HL4.out.via hb5).box (.cells #[.bool (mkN true (a % b)), .slice A5 n5 c5] 24))
    have HM6 := Lib.hid (hL5.box (.cells #[.bool (mkN true (a % b)), .slice A5 n5 c5] 24))
    have PY6 := Pr.new w5 w5.heap.size rfl (.bool (mkN true (a % b))) (.slice A5 n5 c5) 24
    have hlt5 : g3 < w5.heap.size := (PX4.via hb5).lt
    clear PA4 PB4 PQ4 PR4 PX4 HB4 HR4 LB4 HL4 hb5 hL5 a0 a1 b0 b1
    have ⟨a0, a1, _, _, _⟩ := PA6
    have ⟨b0, b1, _, _, _⟩ := PB6
    go_wp2_with fail
    generalize w5.alloc (.cells #[.bool (mkN true (a % b)), .slice A5 n5 c5] 24) = w6 at *
    generalize w5.heap.size = g5 at *
    have ⟨q0, q1, qf0, qf1, ql⟩ := PQ6
    have ⟨r0, r1, rf0, rf1, rl⟩ := PR6
    have ⟨x0, x1, xf0, xf1, xl⟩ := PX6
    have ⟨y0, y1, yf0, yf1, yl⟩ := PY6
    go_region
    all_goals
      go_wp2
      refine post_ww Tryd.results16 rfl rfl rfl ((PQ6.set _ _).far (by omega) _ _).drew ((PR6.far (by omega) _ _).set _ _).drew ⟨A3, n3, c3, A5, n5, c5, rfl, ?_, ?_, ?_⟩
      · exact ((HL6.out.setP PQ6 _ _).setP (PR6.far (by omega) _ _) _ _).drew
      · exact ((HM6.out.setP PQ6 _ _).setP (PR6.far (by omega) _ _) _ _).drew
      · exact (below_set2 (below_set2 HB6.out (by omega) _ _) (by omega) _ _).drew
  · go_enter Tryd.func16, Tryd.ntmps16
    go_wp2_with fail
    refine (rboth_any _ _ _ _ _ _ _ _ _ _ _ ((((HA.out.box _).box _).box _).box _) ((((HB.out.box _).box _).box _).box _) 0 HV.out).mono ?_
    rintro e w1 ⟨rfl, hb1⟩
    have ⟨PA, PB, PQ, PR⟩ := boxes4 hb1
    have LA1 := Lib.hid (((((HA.out.box _).box _).box _).box _).via hb1)
    have LB1 := Lib.hid (((((HB.out.box _).box _).box _).box _).via hb1)
    have HB1 := Lib.hid (bbox (bbox (bbox (bbox hb1))))
    have ⟨a0, a1, _, _, _⟩ := PA
    have ⟨b0, b1, _, _, _⟩ := PB
    clear hb1
    go_wp2_with fail
    refine (rover_any w1 A B n m ca cb a b LA1.out LB1.out hb (by omega)).mono ?_
    rintro e w2 ⟨Q, cq, R, cr, rfl, hQ, hR, hb2⟩
    have PA2 := PA.via hb2
    have PB2 := PB.via hb2
    have PQ2 := PQ.via hb2
    have PR2 := PR.via hb2
    have HB2 := Lib.hid (HB1.out.trans (hb2.mono HB1.out.size))
    have HQ := Lib.hid hQ
    have HR := Lib.hid hR
    have LB2 := Lib.hid (LB1.out.via hb2)
    clear PA PB PQ PR LA1 LB1 HB1 a0 a1 b0 b1 hb2 hQ hR
    have ⟨a0, a1, _, _, _⟩ := PA2
    have ⟨b0, b1, _, _, _⟩ := PB2
    go_wp2_with fail
    refine (rmade_any w2 _ _ _ _ _ (a / b) HQ.out HVq.out (by omega)).mono ?_
    rintro e w3 ⟨A3, n3, c3, rfl, hL3, hb3⟩
    rw [HLq.out] at hL3
    rw [HEq.out]
    have PA4 := (PA2.via hb3).alloc (.cells #[.bool (mkN true (a / b)), .slice A3 n3 c3] 24)
    have PB4 := (PB2.via hb3).alloc (.cells #[.bool (mkN true (a / b)), .slice A3 n3 c3] 24)
    have PQ4 := (PQ2.via hb3).alloc (.cells #[.bool (mkN true (a / b)), .slice A3 n3 c3] 24)
    have PR4 := (PR2.via hb3).alloc (.cells #[.bool (mkN true (a / b)), .slice A3 n3 c3] 24)
    have HB4 := Lib.hid ((HB2.out.trans (hb3.mono HB2.out.size)).alloc (HB2.out.trans (hb3.mono HB2.out.size)).size (.cells #[.bool (mkN true (a / b)), .slice A3 n3 c3] 24))
    have HR4 := Lib.hid ((HR.out.via hb3).box (.cells #[.bool (mkN true (a / b)), .slice A3 n3 c3] 24))
    have LB4 := Lib.hid ((LB2.out.via hb3).box (.cells #[.bool (mkN true (a / b)), .slice A3 n3 c3] 24))
    have HL4 := Lib.hid (hL3.box (.cells #[.bool (mkN true (a / b)), .slice A3 n3 c3] 24))
    have PX4 := Pr.new w3 w3.heap.size rfl (.bool (mkN true (a / b))) (.slice A3 n3 c3) 24
    have hlt3 : w.heap.size + 1 + 1 + 1 < w3.heap.size := (PR2.via hb3).lt
    clear PA2 PB2 PQ2 PR2 HQ HR HB2 LB2 hb3 hL3 a0 a1 b0 b1
    have ⟨a0, a1, _, _, _⟩ := PA4
    have ⟨b0, b1, _, _, _⟩ := PB4
    go_wp2_with fail
    generalize w3.alloc (.cells #[.bool (mkN true (a / b)), .slice A3 n3 c3] 24) = w4 at *
    generalize w3.heap.size = g3 at *
    refine (rmade_any w4 _ _ _ _ _ (a % b) HR4.out HVr.out (by omega)).mono ?_
    rintro e w5 ⟨A5, n5, c5, rfl, hL5, hb5⟩
    rw [HLr.out] at hL5
    rw [HEr.out]
    have PA6 := (PA4.via hb5).alloc (.cells #[.bool (mkN false (a % b)), .slice A5 n5 c5] 24)
    have PB6 := (PB4.via hb5).alloc (.cells #[.bool (mkN false (a % b)), .slice A5 n5 c5] 24)
    have PQ6 := (PQ4.via hb5).alloc (.cells #[.bool (mkN false (a % b)), .slice A5 n5 c5] 24)
    have PR6 := (PR4.via hb5).alloc (.cells #[.bool (mkN false (a % b)), .slice A5 n5 c5] 24)
    have PX6 := (PX4.via hb5).alloc (.cells #[.bool (mkN false (a % b)), .slice A5 n5 c5] 24)
    have HB6 := Lib.hid ((HB4.out.trans (hb5.mono HB4.out.size)).alloc (HB4.out.trans (hb5.mono HB4.out.size)).size (.cells #[.bool (mkN false (a % b)), .slice A5 n5 c5] 24))
    have LB6 := Lib.hid ((LB4.out.via hb5).box (.cells #[.bool (mkN false (a % b)), .slice A5 n5 c5] 24))
    have HL6 := Lib.hid ((HL4.out.via hb5).box (.cells #[.bool (mkN false (a % b)), .slice A5 n5 c5] 24))
    have HM6 := Lib.hid (hL5.box (.cells #[.bool (mkN false (a % b)), .slice A5 n5 c5] 24))
    have PY6 := Pr.new w5 w5.heap.size rfl (.bool (mkN false (a % b))) (.slice A5 n5 c5) 24
    have hlt5 : g3 < w5.heap.size := (PX4.via hb5).lt
    clear PA4 PB4 PQ4 PR4 PX4 HB4 HR4 LB4 HL4 hb5 hL5 a0 a1 b0 b1
    have ⟨a0, a1, _, _, _⟩ := PA6
    have ⟨b0, b1, _, _, _⟩ := PB6
    go_wp2_with fail
    generalize w5.alloc (.cells #[.bool (mkN false (a % b)), .slice A5 n5 c5] 24) = w6 at *
    generalize w5.heap.size = g5 at *
    have ⟨q0, q1, qf0, qf1, ql⟩ := PQ6
    have ⟨r0, r1, rf0, rf1, rl⟩ := PR6
    have ⟨x0, x1, xf0, xf1, xl⟩ := PX6
    have ⟨y0, y1, yf0, yf1, yl⟩ := PY6
    go_region
    all_goals
      go_wp2
      refine post_ww Tryd.results16 rfl rfl rfl ((PQ6.set _ _).far (by omega) _ _).drew ((PR6.far (by omega) _ _).set _ _).drew ⟨A3, n3, c3, A5, n5, c5, rfl, ?_, ?_, ?_⟩
      · exact ((HL6.out.setP PQ6 _ _).setP (PR6.far (by omega) _ _) _ _).drew
      · exact ((HM6.out.setP PQ6 _ _).setP (PR6.far (by omega) _ _) _ _).drew
      · exact (below_set2 (below_set2 HB6.out (by omega) _ _) (by omega) _ _).drew
end Go.Proofs.YtegpckhfncblhaaDoor

/- The reference's DivMod, rounded down. -/
namespace Go.Proofs.YtegpckhfncblhaaDoor
open Go.RowKit

theorem rfrom_m1 (w : World) : Calls Tryd.prog 35 #[.int .i64 (-1)] w fun e w' => ∃ A n c, e = .returned (.agg #[.bool true, .slice A n c]) ∧ Lm w' w'.heap.size A n c (digs 1) ∧ Below w.heap.size w w' :=
  (rfrom_any w (-1) (by omega) (by omega)).mono fun _ _ ⟨A, n, c, he, hL, hb⟩ => ⟨A, n, c, he, hL, hb⟩
theorem toI_mkN {v : Nat} (h : (digs v).length ≤ 4096) (neg : Bool) : toI (mkN neg v) v = toI neg v := by
  unfold mkN toI
  rw [decide_eq_true h, Bool.true_and]
  by_cases h0 : v = 0
  · subst h0; cases neg <;> rfl
  · rw [decide_eq_true h0, Bool.and_true]
theorem mkL_digs {v : Nat} (h : (digs v).length ≤ 4096) : mkL v = digs v := by unfold mkL; rw [if_pos h]
theorem mkE_zero {v : Nat} (h : (digs v).length ≤ 4096) : mkE v = 0 := by unfold mkE; rw [if_pos h]
theorem down_le {a b : Nat} (hb : 0 < b) (h0 : 0 < a % b) : a / b + 1 ≤ a := by
  have h := Nat.div_add_mod a b
  have hb2 : 2 ≤ b := by have := Nat.mod_lt a hb; omega
  have h2 : 2 * (a / b) ≤ b * (a / b) := Nat.mul_le_mul_right _ hb2
  generalize a / b = z at *
  omega

set_option maxRecDepth 100000 in
set_option maxHeartbeats 2000000 in
theorem rdivmod_down (w : World) (na nb : Bool) (A B : Option Addr) (n m ca cb a b : Nat) (hA : Lm w w.heap.size A n ca (digs a)) (hB : Lm w w.heap.size B m cb (digs b)) (hv : chkB na (digs a) nb (digs b) = 0) (hb : 0 < b) (hs : na = true ∧ nb = false ∨ na = false ∧ nb = true) (h0 : 0 < a % b) :
    Calls Tryd.prog 16 #[.agg #[.bool na, .slice A n ca], .agg #[.bool nb, .slice B m cb]] w (RWW w (mkN true (a / b + 1)) (digs (a / b + 1)) (mkN nb (b - a % b)) (digs (b - a % b)) 0) := by
  have h41 := (chk_ok.1 (chkB_ok.1 hv).1).1
  have h42 := (chk_ok.1 (chkB_ok.1 hv).2).1
  have hml := Nat.mod_lt a hb
  have hq0 : (digs (a / b)).length ≤ 4096 := Nat.le_trans (digs_mono (Nat.div_le_self a b)) h41
  have hr0 : (digs (a % b)).length ≤ 4096 := Nat.le_trans (digs_mono (Nat.le_of_lt hml)) h42
  have HLq : Hid (mkL (a / b) = digs (a / b)) := by show _ = _; unfold mkL; rw [if_pos hq0]
  have HLr : Hid (mkL (a % b) = digs (a % b)) := by show _ = _; unfold mkL; rw [if_pos hr0]
  have HEq : Hid (mkE (a / b) = 0) := by show _ = _; unfold mkE; rw [if_pos hq0]
  have HEr : Hid (mkE (a % b) = 0) := by show _ = _; unfold mkE; rw [if_pos hr0]
  have hq1 : (digs (a / b + 1)).length ≤ 4096 := Nat.le_trans (digs_mono (down_le hb h0)) h41
  have hr1 : (digs (b - a % b)).length ≤ 4096 := Nat.le_trans (digs_mono (Nat.sub_le _ _)) h42
  have HS1 : Hid (∀ (W : World) (A' A'' : Option Addr) (n' c' n'' c'' : Nat), Lm W W.heap.size A' n' c' (digs (a / b)) → Lm W W.heap.size A'' n'' c'' (digs 1) → Calls Tryd.prog 45 #[.agg #[.bool (mkN true (a / b)), .slice A' n' c'], .agg #[.bool true, .slice A'' n'' c'']] W (RW W (mkN true (a / b + 1)) (digs (a / b + 1)) 0)) := by
    intro W A' A'' n' c' n'' c'' h1 h2
    have h3 := rsum_any W (mkN true (a / b)) true A' A'' n' n'' c' c'' (a / b) 1 h1 h2 (by rw [← h1.len]; omega) (by rw [← h2.len]; have : (digs 1).length ≤ 1 := digs_len.2 (by omega); omega)
    rw [← rz_of W true (a / b + 1) (by rw [toI_mkN hq0]; unfold toI; simp; omega), mkL_digs hq1, mkE_zero hq1] at h3
    exact h3
  have HS2 : Hid (∀ (W : World) (A' : Option Addr) (n' c' : Nat), Lm W W.heap.size A' n' c' (digs (a % b)) → Lm W W.heap.size B m cb (digs b) → Calls Tryd.prog 45 #[.agg #[.bool (mkN na (a % b)), .slice A' n' c'], .agg #[.bool nb, .slice B m cb]] W (RW W (mkN nb (b - a % b)) (digs (b - a % b)) 0)) := by
    intro W A' n' c' h1 h2
    have h3 := rsum_any W (mkN na (a % b)) nb A' B n' m c' cb (a % b) b h1 h2 (by rw [← h1.len]; omega) (by rw [← h2.len]; omega)
    rw [← rz_of W nb (b - a % b) (by rw [toI_mkN hr0]; rcases hs with ⟨e1, e2⟩ | ⟨e1, e2⟩ <;> subst e1 <;> subst e2 <;> simp only [toI, Bool.false_eq_true, if_true, if_false] <;> omega), mkL_digs hr1, mkE_zero hr1] at h3
    exact h3
  rw [hA.len] at h41
  rw [hB.len] at h42
  have hm0 : 0 < m := by rw [← hB.len, digs_pos]; exact hb
  have hm1 : ((m : Int) == 0) = false := by simp; omega
  have hcB := hB.cap
  have hxB := hB.max
  have HA := Lib.hid hA
  have HB := Lib.hid hB
  have HV := Lib.hid hv
  have HVq : Hid (val (digs (a / b)) = a / b) := digs_val _
  have HVr : Hid (val (digs (a % b)) = a % b) := digs_val _
  have hrl : decide (0 < (digs (a % b)).length) = decide (0 < a % b) := decide_eq_decide.2 digs_pos
  have hrz : decide (0 < (digs (a % b)).length) = true := by rw [hrl]; simpa using h0
  clear hrl
  clear hv hA hB hml
  rcases hs with ⟨rfl, rfl⟩ | ⟨rfl, rfl⟩
  · go_enter Tryd.func16, Tryd.ntmps16
    go_wp2_with fail
    refine (rboth_any _ _ _ _ _ _ _ _ _ _ _ ((((HA.out.box _).box _).box _).box _) ((((HB.out.box _).box _).box _).box _) 0 HV.out).mono ?_
    rintro e w1 ⟨rfl, hb1⟩
    have ⟨PA, PB, PQ, PR⟩ := boxes4 hb1
    have LA1 := Lib.hid (((((HA.out.box _).box _).box _).box _).via hb1)
    have LB1 := Lib.hid (((((HB.out.box _).box _).box _).box _).via hb1)
    have HB1 := Lib.hid (bbox (bbox (bbox (bbox hb1))))
    have ⟨a0, a1, _, _, _⟩ := PA
    have ⟨b0, b1, _, _, _⟩ := PB
    clear hb1
    go_wp2_with fail
    refine (rover_any w1 A B n m ca cb a b LA1.out LB1.out hb (by omega)).mono ?_
    rintro e w2 ⟨Q, cq, R, cr, rfl, hQ, hR, hb2⟩
    have PA2 := PA.via hb2
    have PB2 := PB.via hb2
    have PQ2 := PQ.via hb2
    have PR2 := PR.via hb2
    have HB2 := Lib.hid (HB1.out.trans (hb2.mono HB1.out.size))
    have HQ := Lib.hid hQ
    have HR := Lib.hid hR
    have LB2 := Lib.hid (LB1.out.via hb2)
    clear PA PB PQ PR LA1 LB1 HB1 a0 a1 b0 b1 hb2 hQ hR
    have ⟨a0, a1, _, _, _⟩ := PA2
    have ⟨b0, b1, _, _, _⟩ := PB2
    go_wp2_with fail
    refine (rmade_any w2 _ _ _ _ _ (a / b) HQ.out HVq.out (by omega)).mono ?_
    rintro e w3 ⟨A3, n3, c3, rfl, hL3, hb3⟩
    rw [HLq.out] at hL3
    rw [HEq.out]
    have PA4 := (PA2.via hb3).alloc (.cells #[.bool (mkN true (a / b)), .slice A3 n3 c3] 24)
    have PB4 := (PB2.via hb3).alloc (.cells #[.bool (mkN true (a / b)), .slice A3 n3 c3] 24)
    have PQ4 := (PQ2.via hb3).alloc (.cells #[.bool (mkN true (a / b)), .slice A3 n3 c3] 24)
    have PR4 := (PR2.via hb3).alloc (.cells #[.bool (mkN true (a / b)), .slice A3 n3 c3] 24)
    have HB4 := Lib.hid ((HB2.out.trans (hb3.mono HB2.out.size)).alloc (HB2.out.trans (hb3.mono HB2.out.size)).size (.cells #[.bool (mkN true (a / b)), .slice A3 n3 c3] 24))
    have HR4 := Lib.hid ((HR.out.via hb3).box (.cells #[.bool (mkN true (a / b)), .slice A3 n3 c3] 24))
    have LB4 := Lib.hid ((LB2.out.via hb3).box (.cells #[.bool (mkN true (a / b)), .slice A3 n3 c3] 24))
    have HL4 := Lib.hid (hL3.box (.cells #[.bool (mkN true (a / b)), .slice A3 n3 c3] 24))
    have PX4 := Pr.new w3 w3.heap.size rfl (.bool (mkN true (a / b))) (.slice A3 n3 c3) 24
    have hlt3 : w.heap.size + 1 + 1 + 1 < w3.heap.size := (PR2.via hb3).lt
    clear PA2 PB2 PQ2 PR2 HQ HR HB2 LB2 hb3 hL3 a0 a1 b0 b1
    have ⟨a0, a1, _, _, _⟩ := PA4
    have ⟨b0, b1, _, _, _⟩ := PB4
    go_wp2_with fail
    generalize w3.alloc (.cells #[.bool (mkN true (a / b)), .slice A3 n3 c3] 24) = w4 at *
    generalize w3.heap.size = g3 at *
    refine (rmade_any w4 _ _ _ _ _ (a % b) HR4.out HVr.out (by omega)).mono ?_
    rintro e w5 ⟨A5, n5, c5, rfl, hL5, hb5⟩
    rw [HLr.out] at hL5
    rw [HEr.out]
    have PA6 := (PA4.via hb5).alloc (.cells #[.bool (mkN true (a % b)), .slice A5 n5 c5] 24)
    have PB6 := (PB4.via hb5).alloc (.cells #[.bool (mkN true (a % b)), .slice A5 n5 c5] 24)
    have PQ6 := (PQ4.via hb5).alloc (.cells #[.bool (mkN true (a % b)), .slice A5 n5 c5] 24)
    have PR6 := (PR4.via hb5).alloc (.cells #[.bool (mkN true (a % b)), .slice A5 n5 c5] 24)
    have PX6 := (PX4.via hb5).alloc (.cells #[.bool (mkN true (a % b)), .slice A5 n5 c5] 24)
    have HB6 := Lib.hid ((HB4.out.trans (hb5.mono HB4.out.size)).alloc (HB4.out.trans (hb5.mono HB4.out.size)).size (.cells #[.bool (mkN true (a % b)), .slice A5 n5 c5] 24))
    have LB6 := Lib.hid ((LB4.out.via hb5).box (.cells #[.bool (mkN true (a % b)), .slice A5 n5 c5] 24))
    have HL6 := Lib.hid ((HL4.out.via hb5).box (.cells #[.bool (mkN true (a % b)), .slice A5 n5 c5] 24))
    have HM6 := Lib.hid (hL5.box (.cells #[.bool (mkN true (a % b)), .slice A5 n5 c5] 24))
    have PY6 := Pr.new w5 w5.heap.size rfl (.bool (mkN true (a % b))) (.slice A5 n5 c5) 24
    have hlt5 : g3 < w5.heap.size := (PX4.via hb5).lt
    clear PA4 PB4 PQ4 PR4 PX4 HB4 HR4 LB4 HL4 hb5 hL5 a0 a1 b0 b1
    have ⟨a0, a1, _, _, _⟩ := PA6
    have ⟨b0, b1, _, _, _⟩ := PB6
    go_wp2_with fail
    generalize w5.alloc (.cells #[.bool (mkN true (a % b)), .slice A5 n5 c5] 24) = w6 at *
    generalize w5.heap.size = g5 at *
    have ⟨q0, q1, qf0, qf1, ql⟩ := PQ6
    have ⟨r0, r1, rf0, rf1, rl⟩ := PR6
    have ⟨x0, x1, xf0, xf1, xl⟩ := PX6
    have ⟨y0, y1, yf0, yf1, yl⟩ := PY6
    go_region_with
      (first
       | (go_at_call 35; refine (rfrom_m1 _).mono ?_; rintro e ws ⟨As, ns, cs, rfl, hLs, hbs⟩; have Bs := (Below.refl w6.heap.size w6).drew.trans hbs; have PXs := PX6.via Bs; have ⟨xs0, xs1, xsf0, xsf1, xsl⟩ := PXs)
       | (go_at_call 45; refine (HS1.out ws A3 As n3 c3 ns cs (HL6.out.via Bs) hLs).mono ?_; rintro e wt ⟨At, nt, ct, rfl, hLt, hbt⟩; have PXt := PXs.via hbt; have ⟨xt0, xt1, xtf0, xtf1, xtl⟩ := PXt))
    all_goals
      have Bt := Bs.trans (hbt.mono Bs.size)
      have PA7 := (PA6.via Bt).far (h := g3) (by omega) (.bool (mkN true (a / b + 1))) (.slice At nt ct)
      have PB7 := (PB6.via Bt).far (h := g3) (by omega) (.bool (mkN true (a / b + 1))) (.slice At nt ct)
      have PQ7 := (PQ6.via Bt).far (h := g3) (by omega) (.bool (mkN true (a / b + 1))) (.slice At nt ct)
      have PR7 := (PR6.via Bt).far (h := g3) (by omega) (.bool (mkN true (a / b + 1))) (.slice At nt ct)
      have PY7 := (PY6.via Bt).far (h := g3) (by omega) (.bool (mkN true (a / b + 1))) (.slice At nt ct)
      have PX7 := PXt.set (.bool (mkN true (a / b + 1))) (.slice At nt ct)
      have HL7 := Lib.hid (hLt.setP PXt (.bool (mkN true (a / b + 1))) (.slice At nt ct))
      have HM7 := Lib.hid ((HM6.out.via Bt).setP PXt (.bool (mkN true (a / b + 1))) (.slice At nt ct))
      have LB7 := Lib.hid ((LB6.out.via Bt).setP PXt (.bool (mkN true (a / b + 1))) (.slice At nt ct))
      have HB7 := Lib.hid (below_set2 (HB6.out.trans (Bt.mono HB6.out.size)) (g := g3) (by omega) (.bool (mkN true (a / b + 1))) (.slice At nt ct))
      have ⟨y70, y71, _, _, _⟩ := PY7
      have ⟨b70, b71, _, _, _⟩ := PB7
      go_wp2_with fail
      generalize (wt.setCell ⟨g3, 0, none⟩ (.bool (mkN true (a / b + 1)))).setCell ⟨g3, 1, none⟩ (.slice At nt ct) = w7 at *
      refine (HS2.out w7 A5 n5 c5 HM7.out LB7.out).mono ?_
      rintro e w8 ⟨A8, n8, c8, rfl, hL8, hb8⟩
      have PY8 := PY7.via hb8
      have ⟨y80, y81, yf80, yf81, _⟩ := PY8
      have PQ9 := (PQ7.via hb8).far (h := g5) (by omega) (.bool (mkN false (b - a % b))) (.slice A8 n8 c8)
      have PR9 := (PR7.via hb8).far (h := g5) (by omega) (.bool (mkN false (b - a % b))) (.slice A8 n8 c8)
      have PX9 := (PX7.via hb8).far (h := g5) (by omega) (.bool (mkN false (b - a % b))) (.slice A8 n8 c8)
      have PY9 := PY8.set (.bool (mkN false (b - a % b))) (.slice A8 n8 c8)
      have HM9 := Lib.hid (hL8.setP PY8 (.bool (mkN false (b - a % b))) (.slice A8 n8 c8))
      have HL9 := Lib.hid ((HL7.out.via hb8).setP PY8 (.bool (mkN false (b - a % b))) (.slice A8 n8 c8))
      have HB9 := Lib.hid (below_set2 (HB7.out.trans (hb8.mono HB7.out.size)) (g := g5) (by omega) (.bool (mkN false (b - a % b))) (.slice A8 n8 c8))
      go_wp2_with fail
      generalize (w8.setCell ⟨g5, 0, none⟩ (.bool (mkN false (b - a % b)))).setCell ⟨g5, 1, none⟩ (.slice A8 n8 c8) = w9 at *
      have ⟨q90, q91, qf90, qf91, ql9⟩ := PQ9
      have ⟨r90, r91, rf90, rf91, rl9⟩ := PR9
      have ⟨x90, x91, xf90, xf91, xl9⟩ := PX9
      have ⟨y90, y91, yf90, yf91, yl9⟩ := PY9
      go_region
      all_goals
        go_wp2
        refine post_ww Tryd.results16 rfl rfl rfl ((PQ9.set _ _).far (by omega) _ _).drew ((PR9.far (by omega) _ _).set _ _).drew ⟨At, nt, ct, A8, n8, c8, rfl, ?_, ?_, ?_⟩
        · exact ((HL9.out.setP PQ9 _ _).setP (PR9.far (by omega) _ _) _ _).drew
        · exact ((HM9.out.setP PQ9 _ _).setP (PR9.far (by omega) _ _) _ _).drew
        · exact (below_set2 (below_set2 HB9.out (by omega) _ _) (by omega) _ _).drew
  · go_enter Tryd.func16, Tryd.ntmps16
    go_wp2_with fail
    refine (rboth_any _ _ _ _ _ _ _ _ _ _ _ ((((HA.out.box _).box _).box _).box _) ((((HB.out.box _).box _).box _).box _) 0 HV.out).mono ?_
    rintro e w1 ⟨rfl, hb1⟩
    have ⟨PA, PB, PQ, PR⟩ := boxes4 hb1
    have LA1 := Lib.hid (((((HA.out.box _).box _).box _).box _).via hb1)
    have LB1 := Lib.hid (((((HB.out.box _).box _).box _).box _).via hb1)
    have HB1 := Lib.hid (bbox (bbox (bbox (bbox hb1))))
    have ⟨a0, a1, _, _, _⟩ := PA
    have ⟨b0, b1, _, _, _⟩ := PB
    clear hb1
    go_wp2_with fail
    refine (rover_any w1 A B n m ca cb a b LA1.out LB1.out hb (by omega)).mono ?_
    rintro e w2 ⟨Q, cq, R, cr, rfl, hQ, hR, hb2⟩
    have PA2 := PA.via hb2
    have PB2 := PB.via hb2
    have PQ2 := PQ.via hb2
    have PR2 := PR.via hb2
    have HB2 := Lib.hid (HB1.out.trans (hb2.mono HB1.out.size))
    have HQ := Lib.hid hQ
    have HR := Lib.hid hR
    have LB2 := Lib.hid (LB1.out.via hb2)
    clear PA PB PQ PR LA1 LB1 HB1 a0 a1 b0 b1 hb2 hQ hR
    have ⟨a0, a1, _, _, _⟩ := PA2
    have ⟨b0, b1, _, _, _⟩ := PB2
    go_wp2_with fail
    refine (rmade_any w2 _ _ _ _ _ (a / b) HQ.out HVq.out (by omega)).mono ?_
    rintro e w3 ⟨A3, n3, c3, rfl, hL3, hb3⟩
    rw [HLq.out] at hL3
    rw [HEq.out]
    have PA4 := (PA2.via hb3).alloc (.cells #[.bool (mkN true (a / b)), .slice A3 n3 c3] 24)
    have PB4 := (PB2.via hb3).alloc (.cells #[.bool (mkN true (a / b)), .slice A3 n3 c3] 24)
    have PQ4 := (PQ2.via hb3).alloc (.cells #[.bool (mkN true (a / b)), .slice A3 n3 c3] 24)
    have PR4 := (PR2.via hb3).alloc (.cells #[.bool (mkN true (a / b)), .slice A3 n3 c3] 24)
    have HB4 := Lib.hid ((HB2.out.trans (hb3.mono HB2.out.size)).alloc (HB2.out.trans (hb3.mono HB2.out.size)).size (.cells #[.bool (mkN true (a / b)), .slice A3 n3 c3] 24))
    have HR4 := Lib.hid ((HR.out.via hb3).box (.cells #[.bool (mkN true (a / b)), .slice A3 n3 c3] 24))
    have LB4 := Lib.hid ((LB2.out.via hb3).box (.cells #[.bool (mkN true (a / b)), .slice A3 n3 c3] 24))
    have HL4 := Lib.hid (hL3.box (.cells #[.bool (mkN true (a / b)), .slice A3 n3 c3] 24))
    have PX4 := Pr.new w3 w3.heap.size rfl (.bool (mkN true (a / b))) (.slice A3 n3 c3) 24
    have hlt3 : w.heap.size + 1 + 1 + 1 < w3.heap.size := (PR2.via hb3).lt
    clear PA2 PB2 PQ2 PR2 HQ HR HB2 LB2 hb3 hL3 a0 a1 b0 b1
    have ⟨a0, a1, _, _, _⟩ := PA4
    have ⟨b0, b1, _, _, _⟩ := PB4
    go_wp2_with fail
    generalize w3.alloc (.cells #[.bool (mkN true (a / b)), .slice A3 n3 c3] 24) = w4 at *
    generalize w3.heap.size = g3 at *
    refine (rmade_any w4 _ _ _ _ _ (a % b) HR4.out HVr.out (by omega)).mono ?_
    rintro e w5 ⟨A5, n5, c5, rfl, hL5, hb5⟩
    rw [HLr.out] at hL5
    rw [HEr.out]
    have PA6 := (PA4.via hb5).alloc (.cells #[.bool (mkN false (a % b)), .slice A5 n5 c5] 24)
    have PB6 := (PB4.via hb5).alloc (.cells #[.bool (mkN false (a % b)), .slice A5 n5 c5] 24)
    have PQ6 := (PQ4.via hb5).alloc (.cells #[.bool (mkN false (a % b)), .slice A5 n5 c5] 24)
    have PR6 := (PR4.via hb5).alloc (.cells #[.bool (mkN false (a % b)), .slice A5 n5 c5] 24)
    have PX6 := (PX4.via hb5).alloc (.cells #[.bool (mkN false (a % b)), .slice A5 n5 c5] 24)
    have HB6 := Lib.hid ((HB4.out.trans (hb5.mono HB4.out.size)).alloc (HB4.out.trans (hb5.mono HB4.out.size)).size (.cells #[.bool (mkN false (a % b)), .slice A5 n5 c5] 24))
    have LB6 := Lib.hid ((LB4.out.via hb5).box (.cells #[.bool (mkN false (a % b)), .slice A5 n5 c5] 24))
    have HL6 := Lib.hid ((HL4.out.via hb5).box (.cells #[.bool (mkN false (a % b)), .slice A5 n5 c5] 24))
    have HM6 := Lib.hid (hL5.box (.cells #[.bool (mkN false (a % b)), .slice A5 n5 c5] 24))
    have PY6 := Pr.new w5 w5.heap.size rfl (.bool (mkN false (a % b))) (.slice A5 n5 c5) 24
    have hlt5 : g3 < w5.heap.size := (PX4.via hb5).lt
    clear PA4 PB4 PQ4 PR4 PX4 HB4 HR4 LB4 HL4 hb5 hL5 a0 a1 b0 b1
    have ⟨a0, a1, _, _, _⟩ := PA6
    have ⟨b0, b1, _, _, _⟩ := PB6
    go_wp2_with fail
    generalize w5.alloc (.cells #[.bool (mkN false (a % b)), .slice A5 n5 c5] 24) = w6 at *
    generalize w5.heap.size = g5 at *
    have ⟨q0, q1, qf0, qf1, ql⟩ := PQ6
    have ⟨r0, r1, rf0, rf1, rl⟩ := PR6
    have ⟨x0, x1, xf0, xf1, xl⟩ := PX6
    have ⟨y0, y1, yf0, yf1, yl⟩ := PY6
    go_region_with
      (first
       | (go_at_call 35; refine (rfrom_m1 _).mono ?_; rintro e ws ⟨As, ns, cs, rfl, hLs, hbs⟩; have Bs := (Below.refl w6.heap.size w6).drew.trans hbs; have PXs := PX6.via Bs; have ⟨xs0, xs1, xsf0, xsf1, xsl⟩ := PXs)
       | (go_at_call 45; refine (HS1.out ws A3 As n3 c3 ns cs (HL6.out.via Bs) hLs).mono ?_; rintro e wt ⟨At, nt, ct, rfl, hLt, hbt⟩; have PXt := PXs.via hbt; have ⟨xt0, xt1, xtf0, xtf1, xtl⟩ := PXt))
    all_goals
      have Bt := Bs.trans (hbt.mono Bs.size)
      have PA7 := (PA6.via Bt).far (h := g3) (by omega) (.bool (mkN true (a / b + 1))) (.slice At nt ct)
      have PB7 := (PB6.via Bt).far (h := g3) (by omega) (.bool (mkN true (a / b + 1))) (.slice At nt ct)
      have PQ7 := (PQ6.via Bt).far (h := g3) (by omega) (.bool (mkN true (a / b + 1))) (.slice At nt ct)
      have PR7 := (PR6.via Bt).far (h := g3) (by omega) (.bool (mkN true (a / b + 1))) (.slice At nt ct)
      have PY7 := (PY6.via Bt).far (h := g3) (by omega) (.bool (mkN true (a / b + 1))) (.slice At nt ct)
      have PX7 := PXt.set (.bool (mkN true (a / b + 1))) (.slice At nt ct)
      have HL7 := Lib.hid (hLt.setP PXt (.bool (mkN true (a / b + 1))) (.slice At nt ct))
      have HM7 := Lib.hid ((HM6.out.via Bt).setP PXt (.bool (mkN true (a / b + 1))) (.slice At nt ct))
      have LB7 := Lib.hid ((LB6.out.via Bt).setP PXt (.bool (mkN true (a / b + 1))) (.slice At nt ct))
      have HB7 := Lib.hid (below_set2 (HB6.out.trans (Bt.mono HB6.out.size)) (g := g3) (by omega) (.bool (mkN true (a / b + 1))) (.slice At nt ct))
      have ⟨y70, y71, _, _, _⟩ := PY7
      have ⟨b70, b71, _, _, _⟩ := PB7
      go_wp2_with fail
      generalize (wt.setCell ⟨g3, 0, none⟩ (.bool (mkN true (a / b + 1)))).setCell ⟨g3, 1, none⟩ (.slice At nt ct) = w7 at *
      refine (HS2.out w7 A5 n5 c5 HM7.out LB7.out).mono ?_
      rintro e w8 ⟨A8, n8, c8, rfl, hL8, hb8⟩
      have PY8 := PY7.via hb8
      have ⟨y80, y81, yf80, yf81, _⟩ := PY8
      have PQ9 := (PQ7.via hb8).far (h := g5) (by omega) (.bool (mkN true (b - a % b))) (.slice A8 n8 c8)
      have PR9 := (PR7.via hb8).far (h := g5) (by omega) (.bool (mkN true (b - a % b))) (.slice A8 n8 c8)
      have PX9 := (PX7.via hb8).far (h := g5) (by omega) (.bool (mkN true (b - a % b))) (.slice A8 n8 c8)
      have PY9 := PY8.set (.bool (mkN true (b - a % b))) (.slice A8 n8 c8)
      have HM9 := Lib.hid (hL8.setP PY8 (.bool (mkN true (b - a % b))) (.slice A8 n8 c8))
      have HL9 := Lib.hid ((HL7.out.via hb8).setP PY8 (.bool (mkN true (b - a % b))) (.slice A8 n8 c8))
      have HB9 := Lib.hid (below_set2 (HB7.out.trans (hb8.mono HB7.out.size)) (g := g5) (by omega) (.bool (mkN true (b - a % b))) (.slice A8 n8 c8))
      go_wp2_with fail
      generalize (w8.setCell ⟨g5, 0, none⟩ (.bool (mkN true (b - a % b)))).setCell ⟨g5, 1, none⟩ (.slice A8 n8 c8) = w9 at *
      have ⟨q90, q91, qf90, qf91, ql9⟩ := PQ9
      have ⟨r90, r91, rf90, rf91, rl9⟩ := PR9
      have ⟨x90, x91, xf90, xf91, xl9⟩ := PX9
      have ⟨y90, y91, yf90, yf91, yl9⟩ := PY9
      go_region
      all_goals
        go_wp2
        refine post_ww Tryd.results16 rfl rfl rfl ((PQ9.set _ _).far (by omega) _ _).drew ((PR9.far (by omega) _ _).set _ _).drew ⟨At, nt, ct, A8, n8, c8, rfl, ?_, ?_, ?_⟩
        · exact ((HL9.out.setP PQ9 _ _).setP (PR9.far (by omega) _ _) _ _).drew
        · exact ((HM9.out.setP PQ9 _ _).setP (PR9.far (by omega) _ _) _ _).drew
        · exact (below_set2 (below_set2 HB9.out (by omega) _ _) (by omega) _ _).drew
end Go.Proofs.YtegpckhfncblhaaDoor

/- bits.TrailingZeros32 and wide.zeros, over the library's table. -/
namespace Go.Proofs.YtegpckhfncblhaaDoor
open Go.RowKit

/-- The table of package bits lies in its variable. -/
def TabD (w : World) : Prop := ∀ j, j < 32 → w.cell? ⟨0, j, none⟩ = some (.int .u8 (Lib.deBruijn32tab.getD j 0))
theorem TabD.below {w w' : World} {B : Nat} (h : TabD w) (hb : Below B w w') (hB : 0 < B) : TabD w' := fun j hj => (hb.cell (p := ⟨0, j, none⟩) hB).trans (h j hj)
theorem TabD.lt {w : World} (h : TabD w) : 0 < w.heap.size := by
  refine Nat.lt_of_not_le fun hle => ?_
  have h0 := h 0 (by omega)
  have hn : w.heap[0]? = none := Array.getElem?_eq_none hle
  simp [World.cell?, hn] at h0
theorem TabD.via {w w' : World} (h : TabD w) (hb : Below w.heap.size w w') : TabD w' := h.below hb h.lt
theorem TabD.box {w : World} (h : TabD w) (o : Obj) : TabD (w.alloc o) := h.via ((Below.refl _ _).alloc (Nat.le_refl _) o)

theorem pow_odd {v t m : Nat} (h : v = 2 ^ t * (2 * m + 1)) (k : Nat) : v % 2 ^ k = 0 ↔ k ≤ t := by
  subst h
  constructor
  · intro h0
    refine Nat.le_of_not_lt fun hk => ?_
    obtain ⟨d, rfl⟩ : ∃ d, k = t + (d + 1) := ⟨k - t - 1, by omega⟩
    have h1 := Nat.div_add_mod (2 ^ t * (2 * m + 1)) (2 ^ (t + (d + 1)))
    rw [h0, Nat.add_zero, Nat.pow_add, Nat.mul_assoc] at h1
    have h2 := Nat.eq_of_mul_eq_mul_left (Nat.pow_pos (by omega)) h1
    rw [Nat.pow_succ] at h2
    generalize 2 ^ t * (2 * m + 1) / (2 ^ t * (2 ^ d * 2)) = q at h2
    have h3 : 2 ^ d * 2 * q = 2 * (2 ^ d * q) := by rw [Nat.mul_comm (2 ^ d) 2, Nat.mul_assoc]
    omega
  · intro hk
    obtain ⟨d, rfl⟩ : ∃ d, t = k + d := ⟨t - k, by omega⟩
    rw [Nat.pow_add, Nat.mul_assoc]
    exact Nat.mul_mod_right _ _

set_option maxRecDepth 100000 in
set_option maxHeartbeats 1000000 in
theorem tz32_core (x k idx : Nat) (w : World) (hx0 : ((x : Int) == 0) = false)
    (key : bits BinOp.and IntKind.u32 (x : Int) (-(x : Int) % 4294967296) * 125613361 % 4294967296 / 134217728 = (idx : Int))
    (hi : idx < 32) (hk : k < 32) (hcell : w.cell? ⟨0, idx, none⟩ = some (.int .u8 k)) :
    Calls Tryd.prog 76 #[.int .u32 x] w fun e w' => e = .returned (.int .i64 k) ∧ w = w' := by
  go_enter Tryd.func76, Tryd.ntmps76
  go_wp2_with (simp only [key])
  go_ret
  exact ⟨rfl, rfl⟩
theorem tz32_any (x : Nat) (hx : x < 4294967296) (hx0 : x ≠ 0) (w : World) (hT : TabD w) :
    Calls Tryd.prog 76 #[.int .u32 x] w fun e w' => e = .returned (.int .i64 (Lib.ctz 32 x)) ∧ w = w' := by
  obtain ⟨hlow, hk⟩ := Lib.lowest_bit 32 x hx0 hx
  obtain ⟨hi, htab⟩ := Lib.deBruijn32_at _ hk
  have hcell := hT _ hi
  rw [htab] at hcell
  exact tz32_core x _ _ w (by simp; omega) (tz32_key x _ hx hx0 hlow) hi hk hcell

/-- How many digits 0 the number v ends with. -/
def Zs (v t : Nat) : Prop := ∀ k, v % 2 ^ k = 0 ↔ k ≤ t
theorem zs_of {xs : List Nat} (g : Good xs) {j : Nat} (hj : j < xs.length) (h0 : val (xs.take j) = 0) (hx : xs[j]?.getD 0 ≠ 0) : Zs (val xs) (32 * j + Lib.ctz 32 (xs[j]?.getD 0)) ∧ Lib.ctz 32 (xs[j]?.getD 0) < 32 := by
  have hg := g.get j
  obtain ⟨m, hm, hc⟩ := Lib.ctzFrom_spec 32 (xs[j]?.getD 0) (by omega) hg
  have hcz : Lib.ctz 32 (xs[j]?.getD 0) = Lib.ctzFrom 32 (xs[j]?.getD 0) := by unfold Lib.ctz; rw [if_neg hx]
  rw [hcz]
  refine ⟨fun k => ?_, hc⟩
  have h1 := val_split xs j (by omega)
  rw [h0, val_step, Nat.zero_add] at h1
  generalize val (xs.drop (j + 1)) = r at h1
  generalize Lib.ctzFrom 32 (xs[j]?.getD 0) = t at *
  rw [hm] at h1
  refine pow_odd (m := m + 2 ^ (31 - t) * r) ?_ k
  rw [h1, Nat.pow_add, Nat.pow_mul, show (2 : Nat) ^ 32 = 4294967296 from rfl, Nat.mul_assoc]
  congr 1
  have e : (4294967296 : Nat) = 2 ^ t * (2 * 2 ^ (31 - t)) := by
    rw [show 2 * 2 ^ (31 - t) = 2 ^ (32 - t) from by rw [show 32 - t = (31 - t) + 1 from by omega, Nat.pow_succ]; omega, ← Nat.pow_add, show t + (32 - t) = 32 from by omega]
  rw [e, Nat.mul_assoc, ← Nat.mul_add]
  congr 1
  grind

set_option maxRecDepth 100000 in
set_option maxHeartbeats 1000000 in
theorem zeros_any (w : World) (A : Option Addr) (n c : Nat) (xs : List Nat) (v : Nat) (hA : Lm w w.heap.size A n c xs) (hv : val xs = v) (hv0 : 0 < v) (hn : n ≤ 1000000) (hT : TabD w) :
    Calls Tryd.prog 57 #[.slice A n c] w fun e w' => ∃ t : Nat, Zs v t ∧ t ≤ 32 * n ∧ e = .returned (.int .i64 t) ∧ w = w' := by
  have HA := Lib.hid hA
  have HT := Lib.hid hT
  have HV := Lib.hid hv
  have hca := hA.cap
  have hxa := hA.max
  clear hA hT hv
  go_enter Tryd.func57, Tryd.ntmps57
  go_wp2
  go_loop [7] (fun k => ∃ j : Nat, j ≤ n ∧ k = .int .i64 j ∧ val (xs.take j) = 0) (fun k => n - (intOf k).toNat)
  case atStart => exact ⟨0, Nat.zero_le _, rfl, rfl⟩
  case round =>
    obtain ⟨j, hj, rfl, hz⟩ := hrel
    have HZ := Lib.hid hz
    clear hz
    by_cases hlt : j < n
    · obtain ⟨b, off, rfl, hb, hc⟩ := HA.out.cell hlt
      have hgx := HA.out.good.get j
      have HS : Hid (val (xs.take (j + 1)) = 4294967296 ^ j * xs[j]?.getD 0) := by show _ = _; rw [val_take_succ', HZ.out, Nat.zero_add]
      have HC : Hid (xs[j]?.getD 0 ≠ 0 → Zs (val xs) (32 * j + Lib.ctz 32 (xs[j]?.getD 0)) ∧ Lib.ctz 32 (xs[j]?.getD 0) < 32) := zs_of HA.out.good (by rw [HA.out.len]; exact hlt) HZ.out
      generalize xs[j]?.getD 0 = x at *
      by_cases hx : x = 0
      · subst hx
        go_wp2
        go_round
        case rel => exact ⟨j + 1, by omega, by go_num, by rw [HS.out, Nat.mul_zero]⟩
        case measure => simp [intOf]; omega
      · have hxb : ((x : Int) != 0) = true := by simp; omega
        have HC2 := Lib.hid (HC.out hx)
        have hct := HC2.out.2
        go_wp2_with fail
        refine (tz32_any x hgx hx w HT.out).mono ?_
        rintro e w1 ⟨rfl, rfl⟩
        go_wp2
        go_ret
        refine ⟨32 * j + Lib.ctz 32 x, by rw [← HV.out]; exact HC2.out.1, by omega, ret_int (by omega), rfl⟩
    · exfalso
      have h1 := HZ.out
      rw [List.take_of_length_le (by rw [HA.out.len]; omega), HV.out] at h1
      omega
end Go.Proofs.YtegpckhfncblhaaDoor

/- wide.Shift. -/
namespace Go.Proofs.YtegpckhfncblhaaDoor
open Go.RowKit

set_option maxRecDepth 100000 in
set_option maxHeartbeats 400000 in
theorem shift_bad (w : World) (neg : Bool) (A : Option Addr) (n c : Nat) (xs : List Nat) (k : Int) (h : Lm w w.heap.size A n c xs) (hc : chk neg xs = 8) :
    Calls Tryd.prog 29 #[.agg #[.bool neg, .slice A n c], .int .i64 k] w (RW w false [] 8) := by
  have HH := Lib.hid h
  have HC := Lib.hid hc
  clear hc
  go_enter Tryd.func29, Tryd.ntmps29
  go_wp2_with (go_at_call 20; refine (check_bad _ _ _ _ _ _ ((HH.out.box _).box _) HC.out).mono ?_; rintro e w1 ⟨rfl, hb1⟩; have ⟨hx0, hx1, hy0, hy1, hf0, hf1, hsz⟩ := box2 hb1)
  exact post_ws Tryd.results29 rfl rfl hy0 hy1 ⟨none, 0, 0, rfl, Lm.nil _ _, below_set2 (bbox (bbox hb1)) (by omega) _ _⟩
set_option maxRecDepth 100000 in
set_option maxHeartbeats 400000 in
theorem shift_arg (w : World) (neg : Bool) (A : Option Addr) (n c : Nat) (xs : List Nat) (k : Int) (h : Lm w w.heap.size A n c xs) (hc : chk neg xs = 0) (hk : k < -131072 ∨ 131072 < k) :
    Calls Tryd.prog 29 #[.agg #[.bool neg, .slice A n c], .int .i64 k] w (RW w false [] 2) := by
  have HH := Lib.hid h
  have HC := Lib.hid hc
  clear hc
  by_cases h1 : k < -131072
  · clear hk
    go_enter Tryd.func29, Tryd.ntmps29
    go_wp2_with (go_at_call 20; refine (check_ok _ _ _ _ _ _ ((HH.out.box _).box _) HC.out).mono ?_; rintro e w1 ⟨rfl, hb1⟩; have ⟨hx0, hx1, hy0, hy1, hf0, hf1, hsz⟩ := box2 hb1)
    exact post_ws Tryd.results29 rfl rfl hy0 hy1 ⟨none, 0, 0, rfl, Lm.nil _ _, below_set2 (bbox (bbox hb1)) (by omega) _ _⟩
  · have h2 : 131072 < k := by omega
    clear hk
    go_enter Tryd.func29, Tryd.ntmps29
    go_wp2_with (go_at_call 20; refine (check_ok _ _ _ _ _ _ ((HH.out.box _).box _) HC.out).mono ?_; rintro e w1 ⟨rfl, hb1⟩; have ⟨hx0, hx1, hy0, hy1, hf0, hf1, hsz⟩ := box2 hb1)
    exact post_ws Tryd.results29 rfl rfl hy0 hy1 ⟨none, 0, 0, rfl, Lm.nil _ _, below_set2 (bbox (bbox hb1)) (by omega) _ _⟩

set_option maxRecDepth 100000 in
set_option maxHeartbeats 1000000 in
theorem shift_up (w : World) (neg : Bool) (A : Option Addr) (n c v k : Nat) (h : Lm w w.heap.size A n c (digs v)) (hc : chk neg (digs v) = 0) (hk : k ≤ 131072) :
    Calls Tryd.prog 29 #[.agg #[.bool neg, .slice A n c], .int .i64 (k : Int)] w (RW w (mkN neg (v * 2 ^ k)) (mkL (v * 2 ^ k)) (mkE (v * 2 ^ k))) := by
  have hl := (chk_ok.1 hc).1
  rw [h.len] at hl
  have HH := Lib.hid h
  have HC := Lib.hid hc
  have HV := Lib.hid (digs_val v)
  clear hc
  go_enter Tryd.func29, Tryd.ntmps29
  go_wp2_with (go_at_call 20; refine (check_ok _ _ _ _ _ _ ((HH.out.box _).box _) HC.out).mono ?_; rintro e w1 ⟨rfl, hb1⟩; have ⟨hx0, hx1, hy0, hy1, hf0, hf1, hsz⟩ := box2 hb1)
  have HL := Lib.hid (((HH.out.box _).box _).via hb1)
  go_region_held3 (fun w' => w'.cell? ⟨w.heap.size, 0, none⟩ = some (.bool neg) ∧ w'.cell? ⟨w.heap.size, 1, none⟩ = some (.slice A n c))
    (first | exact ⟨hx0, hx1⟩ | exact hk2 | exact hk3 | go_keep)
    (first
     | (go_at_call 55; refine (left_any _ _ _ _ k (digs v) (v * 2 ^ k) (by first | exact HL.out | exact HL.out.drew) (by omega) (by omega) (by rw [HV.out])).mono ?_; rintro e w2 ⟨A2, c2, rfl, hL2, hb2⟩; have hg2 : w.heap.size + 1 < w2.heap.size := Nat.lt_of_lt_of_le hsz hb2.size; have hk2 := keep2 hb2 (Nat.lt_of_succ_lt hsz) ⟨hx0, hx1⟩; have hky2 := keep2 hb2 hsz ⟨hy0, hy1⟩; have hkf2 := keepF hb2 hsz ⟨hf0, hf1⟩)
     | (go_at_call 27; refine (made_any _ _ _ _ _ (v * 2 ^ k) hL2).mono ?_; rintro e w3 ⟨A3, n3, c3, rfl, hL3, hb3⟩; have hk3 := keep2 hb3 (Nat.lt_of_succ_lt hg2) hk2; have hky3 := keep2 hb3 hg2 hky2; have hkf3 := keepF hb3 hg2 hkf2))
  go_wp2
  exact post_ws Tryd.results29 rfl rfl hky3.1 hky3.2 ⟨A3, n3, c3, rfl, hL3.set2 hky3.1 hky3.2 _ _,
    below_set2 (((bbox (bbox hb1)).drew.trans (hb2.mono (show w.heap.size ≤ w1.heap.size from by omega))).trans (hb3.mono (by omega))) (by omega) _ _⟩
theorem boxes2 {w w1 : World} {t0 t1 : TypeId} {a0 a1 b0 b1 : Value} (hb : Below ((w.alloc (.cells #[a0, a1] t0)).alloc (.cells #[b0, b1] t1)).heap.size ((w.alloc (.cells #[a0, a1] t0)).alloc (.cells #[b0, b1] t1)) w1) :
    Pr w1 w.heap.size a0 a1 ∧ Pr w1 (w.heap.size + 1) b0 b1 :=
  ⟨((Pr.new w _ rfl a0 a1 t0).alloc _).via hb, (Pr.new _ _ (by simp) b0 b1 t1).via hb⟩

set_option maxRecDepth 100000 in
set_option maxHeartbeats 1000000 in
theorem shift_down_pos (w : World) (A : Option Addr) (n c v j : Nat) (z : Int) (h : Lm w w.heap.size A n c (digs v)) (hc : chk false (digs v) = 0) (hz : z = -(j : Int)) (hj0 : 0 < j) (hj : j ≤ 131072) :
    Calls Tryd.prog 29 #[.agg #[.bool false, .slice A n c], .int .i64 z] w (RW w (mkN false (v / 2 ^ j)) (mkL (v / 2 ^ j)) (mkE (v / 2 ^ j))) := by
  have hl := (chk_ok.1 hc).1
  rw [h.len] at hl
  have HH := Lib.hid h
  have HC := Lib.hid hc
  have HV := Lib.hid (digs_val v)
  have hcA := h.cap
  have hxA := h.max
  have hz1 : z < 0 := by omega
  have hz2 : -131072 ≤ z := by omega
  have HZ : Hid (-z = (j : Int)) := by show _ = _; omega
  clear hc h hz
  go_enter Tryd.func29, Tryd.ntmps29
  go_wp2_with fail
  refine (check_ok _ _ _ _ _ _ ((HH.out.box _).box _) HC.out).mono ?_
  rintro e w1 ⟨rfl, hb1⟩
  have ⟨P1, P2⟩ : Pr w1 w.heap.size (.bool false) (.slice A n c) ∧ Pr w1 (w.heap.size + 1) (.bool false) (.slice none 0 0) := boxes2 hb1
  have HL1 := Lib.hid (((HH.out.box _).box _).via hb1)
  have HB1 := Lib.hid (bbox (bbox hb1))
  clear hb1
  have ⟨a0, a1, _, _, _⟩ := P1
  go_wp2_with fail
  rw [HZ.out]
  refine (right_any w1 A n c j v (v / 2 ^ j) HL1.out (by omega) (by omega) rfl).mono ?_
  rintro e w2 ⟨A2, c2, rfl, hL2, hb2⟩
  have P1' := P1.via hb2
  have P2' := P2.via hb2
  have HB2 := Lib.hid (HB1.out.trans (hb2.mono HB1.out.size))
  have HL2 := Lib.hid hL2
  have hc2 := hL2.cap
  have hx2 := hL2.max
  have hl2 : (digs (v / 2 ^ j)).length ≤ 4096 := by
    have := digs_mono (Nat.div_le_self v (2 ^ j))
    rw [HH.out.len] at this
    omega
  clear hL2 hb2 a0 a1 P1 P2 HB1
  have ⟨a0, a1, _, _, _⟩ := P1'
  go_wp2_with fail
  refine (made_any _ _ _ _ _ (v / 2 ^ j) HL2.out).mono ?_
  rintro e w8 ⟨A3, n3, c3, rfl, hL3, hb3⟩
  have P8 := P2'.via hb3
  have HB8 := Lib.hid (HB2.out.trans (hb3.mono HB2.out.size))
  have HL8 := Lib.hid hL3
  clear hL3 hb3
  have ⟨k0, k1, f0, f1, kl⟩ := P8
  go_wp2
  exact post_ws Tryd.results29 rfl rfl k0 k1 ⟨A3, n3, c3, rfl, HL8.out.set2 k0 k1 _ _, below_set2 HB8.out (by omega) _ _⟩

set_option maxRecDepth 100000 in
set_option maxHeartbeats 1000000 in
theorem shift_down_even (w : World) (A : Option Addr) (n c v j : Nat) (z : Int) (h : Lm w w.heap.size A n c (digs v)) (hc : chk true (digs v) = 0) (hz : z = -(j : Int)) (hj0 : 0 < j) (hj : j ≤ 131072) (hT : TabD w) (h0 : v % 2 ^ j = 0) :
    Calls Tryd.prog 29 #[.agg #[.bool true, .slice A n c], .int .i64 z] w (RW w (mkN true (v / 2 ^ j)) (mkL (v / 2 ^ j)) (mkE (v / 2 ^ j))) := by
  have hl := (chk_ok.1 hc).1
  rw [h.len] at hl
  have hv0 : 0 < v := Nat.pos_of_ne_zero fun e => (chk_ok.1 hc).2.2 rfl (digs_nil.2 e)
  have HH := Lib.hid h
  have HC := Lib.hid hc
  have HV := Lib.hid (digs_val v)
  have hcA := h.cap
  have hxA := h.max
  have hz1 : z < 0 := by omega
  have hz2 : -131072 ≤ z := by omega
  have HZ : Hid (-z = (j : Int)) := by show _ = _; omega
  clear hc h hz
  go_enter Tryd.func29, Tryd.ntmps29
  go_wp2_with fail
  refine (check_ok _ _ _ _ _ _ ((HH.out.box _).box _) HC.out).mono ?_
  rintro e w1 ⟨rfl, hb1⟩
  have ⟨P1, P2⟩ : Pr w1 w.heap.size (.bool true) (.slice A n c) ∧ Pr w1 (w.heap.size + 1) (.bool false) (.slice none 0 0) := boxes2 hb1
  have HL1 := Lib.hid (((HH.out.box _).box _).via hb1)
  have HB1 := Lib.hid (bbox (bbox hb1))
  have HT1 := Lib.hid (((hT.box _).box _).via hb1)
  clear hT
  clear hb1
  have ⟨a0, a1, _, _, _⟩ := P1
  go_wp2_with fail
  rw [HZ.out]
  refine (right_any w1 A n c j v (v / 2 ^ j) HL1.out (by omega) (by omega) rfl).mono ?_
  rintro e w2 ⟨A2, c2, rfl, hL2, hb2⟩
  have P1' := P1.via hb2
  have P2' := P2.via hb2
  have HB2 := Lib.hid (HB1.out.trans (hb2.mono HB1.out.size))
  have HL2 := Lib.hid hL2
  have HT2 := Lib.hid (HT1.out.via hb2)
  have HL1b := Lib.hid (HL1.out.via hb2)
  have hc2 := hL2.cap
  have hx2 := hL2.max
  have hl2 : (digs (v / 2 ^ j)).length ≤ 4096 := by
    have := digs_mono (Nat.div_le_self v (2 ^ j))
    rw [HH.out.len] at this
    omega
  clear hL2 hb2 a0 a1 P1 P2 HB1
  have ⟨a0, a1, _, _, _⟩ := P1'
  go_wp2_with fail
  refine (zeros_any w2 A n c (digs v) v (by first | exact HL1b.out) HV.out hv0 (by omega) HT2.out).mono ?_
  rintro e w3 ⟨t, ht, ht9, rfl, rfl⟩
  have htz : -z ≤ (t : Int) := by have e1 := (ht j).1 h0; have e2 := HZ.out; omega
  go_wp2_with fail
  refine (made_any _ _ _ _ _ (v / 2 ^ j) HL2.out).mono ?_
  rintro e w8 ⟨A3, n3, c3, rfl, hL3, hb3⟩
  have P8 := P2'.via hb3
  have HB8 := Lib.hid (HB2.out.trans (hb3.mono HB2.out.size))
  have HL8 := Lib.hid hL3
  clear hL3 hb3
  have ⟨k0, k1, f0, f1, kl⟩ := P8
  go_wp2
  exact post_ws Tryd.results29 rfl rfl k0 k1 ⟨A3, n3, c3, rfl, HL8.out.set2 k0 k1 _ _, below_set2 HB8.out (by omega) _ _⟩

set_option maxRecDepth 100000 in
set_option maxHeartbeats 1000000 in
theorem shift_down_lost (w : World) (A : Option Addr) (n c v j : Nat) (z : Int) (h : Lm w w.heap.size A n c (digs v)) (hc : chk true (digs v) = 0) (hz : z = -(j : Int)) (hj0 : 0 < j) (hj : j ≤ 131072) (hT : TabD w) (h0 : v % 2 ^ j ≠ 0) :
    Calls Tryd.prog 29 #[.agg #[.bool true, .slice A n c], .int .i64 z] w (RW w (mkN true (v / 2 ^ j + 1)) (mkL (v / 2 ^ j + 1)) (mkE (v / 2 ^ j + 1))) := by
  have hl := (chk_ok.1 hc).1
  rw [h.len] at hl
  have hv0 : 0 < v := Nat.pos_of_ne_zero fun e => (chk_ok.1 hc).2.2 rfl (digs_nil.2 e)
  have HH := Lib.hid h
  have HC := Lib.hid hc
  have HV := Lib.hid (digs_val v)
  have hcA := h.cap
  have hxA := h.max
  have hz1 : z < 0 := by omega
  have hz2 : -131072 ≤ z := by omega
  have HZ : Hid (-z = (j : Int)) := by show _ = _; omega
  clear hc h hz
  go_enter Tryd.func29, Tryd.ntmps29
  go_wp2_with fail
  refine (check_ok _ _ _ _ _ _ ((HH.out.box _).box _) HC.out).mono ?_
  rintro e w1 ⟨rfl, hb1⟩
  have ⟨P1, P2⟩ : Pr w1 w.heap.size (.bool true) (.slice A n c) ∧ Pr w1 (w.heap.size + 1) (.bool false) (.slice none 0 0) := boxes2 hb1
  have HL1 := Lib.hid (((HH.out.box _).box _).via hb1)
  have HB1 := Lib.hid (bbox (bbox hb1))
  have HT1 := Lib.hid (((hT.box _).box _).via hb1)
  clear hT
  clear hb1
  have ⟨a0, a1, _, _, _⟩ := P1
  go_wp2_with fail
  rw [HZ.out]
  refine (right_any w1 A n c j v (v / 2 ^ j) HL1.out (by omega) (by omega) rfl).mono ?_
  rintro e w2 ⟨A2, c2, rfl, hL2, hb2⟩
  have P1' := P1.via hb2
  have P2' := P2.via hb2
  have HB2 := Lib.hid (HB1.out.trans (hb2.mono HB1.out.size))
  have HL2 := Lib.hid hL2
  have HT2 := Lib.hid (HT1.out.via hb2)
  have HL1b := Lib.hid (HL1.out.via hb2)
  have hc2 := hL2.cap
  have hx2 := hL2.max
  have hl2 : (digs (v / 2 ^ j)).length ≤ 4096 := by
    have := digs_mono (Nat.div_le_self v (2 ^ j))
    rw [HH.out.len] at this
    omega
  clear hL2 hb2 a0 a1 P1 P2 HB1
  have ⟨a0, a1, _, _, _⟩ := P1'
  go_wp2_with fail
  refine (zeros_any w2 A n c (digs v) v (by first | exact HL1b.out) HV.out hv0 (by omega) HT2.out).mono ?_
  rintro e w3 ⟨t, ht, ht9, rfl, rfl⟩
  have htz : (t : Int) < -z := by have e1 : ¬ j ≤ t := fun e => h0 ((ht j).2 e); have e2 := HZ.out; omega
  go_wp2_with fail
  refine (sum_any _ _ _ _ _ _ _ (digs (v / 2 ^ j)) [1] (v / 2 ^ j + 1) (HL2.out.box _) (Lm.one w2 1 1 rfl (by omega)) (by omega) (by omega) (by rw [digs_val, val_one])).mono ?_
  rintro e w4 ⟨A4, c4, rfl, hL4, hb4⟩
  have P2q := P2'.via (bbox hb4)
  have HB4 := Lib.hid (HB2.out.trans ((bbox hb4).mono HB2.out.size))
  have HL4 := Lib.hid hL4
  have hb4q := Lib.hid hb4
  clear hL4 hb4
  have P1q := P1'.via (bbox hb4q.out)
  clear P2' P1' a0 a1
  have ⟨a0, a1, _, _, _⟩ := P1q
  have P2' := P2q
  go_wp2_with fail
  refine (made_any _ _ _ _ _ (v / 2 ^ j + 1) HL4.out).mono ?_
  rintro e w8 ⟨A3, n3, c3, rfl, hL3, hb3⟩
  have P8 := P2'.via hb3
  have HB8 := Lib.hid (HB4.out.trans (hb3.mono HB4.out.size))
  have HL8 := Lib.hid hL3
  clear hL3 hb3
  have ⟨k0, k1, f0, f1, kl⟩ := P8
  go_wp2
  exact post_ws Tryd.results29 rfl rfl k0 k1 ⟨A3, n3, c3, rfl, HL8.out.set2 k0 k1 _ _, below_set2 HB8.out (by omega) _ _⟩
end Go.Proofs.YtegpckhfncblhaaDoor

/- Square roots by Newton's rule, in numbers. -/
namespace Go.Proofs.YtegpckhfncblhaaDoor
theorem sq_le {a b : Nat} : 2 * a * b ≤ a * a + b * b := by
  rcases Nat.le_total a b with h | h
  · obtain ⟨d, rfl⟩ := Nat.le.dest h
    have : (a + d) * (a + d) = a * a + 2 * a * d + d * d := by grind
    have : 2 * a * (a + d) = 2 * (a * a) + 2 * a * d := by grind
    have := Nat.zero_le (d * d)
    omega
  · obtain ⟨d, rfl⟩ := Nat.le.dest h
    have : (b + d) * (b + d) = b * b + 2 * b * d + d * d := by grind
    have : 2 * (b + d) * b = 2 * (b * b) + 2 * b * d := by grind
    have := Nat.zero_le (d * d)
    omega
theorem le_of_sq {d t : Nat} (h : t * t ≤ d * d) : t ≤ d := by
  rcases Nat.lt_or_ge d t with h1 | h1
  · have := Nat.mul_self_lt_mul_self h1
    omega
  · exact h1
/-- One step of Newton's rule: the next number is less than a unit away. -/
theorem newton_core {N Y T p q : Nat} (hY : 0 < p) (h2 : 2 * p = Y) (hTT : T * T ≤ 2 * Y) (hTY : T ≤ Y) (h3 : (Y - T) * (Y - T) < N) (h4 : N < (Y + T) * (Y + T)) (hq : 2 * Y * q ≤ N) (hq' : N < 2 * Y * (q + 1)) :
    (p + q - 1) * (p + q - 1) < N ∧ N < (p + q + 1) * (p + q + 1) := by
  subst h2
  constructor
  · obtain ⟨u, hu⟩ : ∃ u, p + q = u + 1 := ⟨p + q - 1, by omega⟩
    rw [hu, Nat.add_sub_cancel]
    refine Nat.lt_of_not_le fun hN => ?_
    have e1 : 2 * (2 * p) * (p + q) = 2 * p * (2 * p) + 2 * (2 * p) * q := by grind
    rw [hu] at e1
    have e2 : 2 * (2 * p) * (u + 1) = 2 * (2 * p) * u + 2 * (2 * p) := by grind
    have hm : 2 * (2 * p) * u + 2 * (2 * p) ≤ 2 * p * (2 * p) + N := by omega
    clear e1 e2
    rcases Nat.le_total u (2 * p) with h | h
    · obtain ⟨d, hd⟩ := Nat.le.dest h
      have e3 : d * d + 2 * (2 * p) * u = 2 * p * (2 * p) + u * u := by rw [← hd]; grind
      have hT : T ≤ d := le_of_sq (by omega)
      have h5 : u ≤ 2 * p - T := by omega
      have := Nat.mul_le_mul h5 h5
      omega
    · obtain ⟨d, hd⟩ := Nat.le.dest h
      have e3 : d * d + 2 * (2 * p) * u = 2 * p * (2 * p) + u * u := by rw [← hd]; grind
      have hT : T ≤ d := le_of_sq (by omega)
      have e4 : (2 * p + T) * (2 * p + T) = 2 * p * (2 * p) + 2 * (2 * p) * T + T * T := by grind
      have e5 : 2 * (2 * p) * u = 2 * (2 * p * (2 * p)) + 2 * (2 * p) * d := by rw [← hd]; grind
      have h6 : 2 * (2 * p) * T ≤ 2 * (2 * p) * d := Nat.mul_le_mul_left _ hT
      omega
  · refine Nat.lt_of_not_le fun hN => ?_
    have h5 := @sq_le (2 * p) (p + q + 1)
    have e1 : 2 * (2 * p) * (p + q + 1) = 2 * p * (2 * p) + 2 * (2 * p) * (q + 1) := by grind
    omega
/-- r is the root of v, rounded down. -/
def IsRt (v r : Nat) : Prop := r * r ≤ v ∧ v < (r + 1) * (r + 1)
theorem IsRt.uniq {v r s : Nat} (h : IsRt v r) (k : IsRt v s) : r = s := by
  have h1 : r < s + 1 := Nat.lt_of_not_le fun h' => by have := Nat.mul_le_mul h' h'; have := h.1; have := k.2; omega
  have h2 : s < r + 1 := Nat.lt_of_not_le fun h' => by have := Nat.mul_le_mul h' h'; have := k.1; have := h.2; omega
  omega
/-- a is nearer than a unit to the root of the number v without its lowest 2 * (c - e) digits. -/
def RtInv (v c e a : Nat) : Prop := 2 ^ e ≤ a ∧ (a - 1) * (a - 1) < v / 4 ^ (c - e) ∧ v / 4 ^ (c - e) < (a + 1) * (a + 1)
theorem rt_start {v c : Nat} (h1 : 4 ^ c ≤ v) (h2 : v < 4 ^ (c + 1)) : RtInv v c 0 1 := by
  refine ⟨by simp, ?_, ?_⟩
  · simp only [Nat.sub_self, Nat.mul_zero, Nat.sub_zero]
    exact (Nat.le_div_iff_mul_le (Nat.pow_pos (by omega))).2 (by omega)
  · rw [Nat.sub_zero]
    exact (Nat.div_lt_iff_lt_mul (Nat.pow_pos (by omega))).2 (by rw [Nat.pow_succ] at h2; omega)
theorem rt_end {v c a : Nat} (h : RtInv v c c a) : (a - 1) * (a - 1) < v ∧ v < (a + 1) * (a + 1) := by
  have := h.2
  simpa using this
theorem rt_root {v a : Nat} (h0 : 1 ≤ a) (h : (a - 1) * (a - 1) < v ∧ v < (a + 1) * (a + 1)) : IsRt v (if v < a * a then a - 1 else a) := by
  split
  · exact ⟨by omega, by rw [Nat.sub_add_cancel h0]; assumption⟩
  · exact ⟨by omega, h.2⟩
theorem rt_mid {N a k M q : Nat} (hk : 2 ^ k ≤ a) (hlo : (a - 1) * (a - 1) < M) (hhi : M < (a + 1) * (a + 1)) (hM : N / (2 ^ (k + 1) * 2 ^ (k + 1)) = M) (hq : N / (2 * (2 ^ (k + 1) * a)) = q) :
    (2 ^ k * a + q - 1) * (2 ^ k * a + q - 1) < N ∧ N < (2 ^ k * a + q + 1) * (2 ^ k * a + q + 1) := by
  have ha0 : 0 < a := Nat.lt_of_lt_of_le (Nat.pow_pos (by omega)) hk
  have hTp : 0 < 2 ^ (k + 1) * 2 ^ (k + 1) := Nat.mul_pos (Nat.pow_pos (by omega)) (Nat.pow_pos (by omega))
  have hT2 : 2 ^ (k + 1) = 2 * 2 ^ k := by rw [Nat.pow_succ]; omega
  have n1 := Nat.div_mul_le_self N (2 ^ (k + 1) * 2 ^ (k + 1))
  have n2 := Nat.lt_mul_div_succ N hTp
  have hT0 : 0 < 2 ^ (k + 1) := Nat.pow_pos (by omega)
  have hTT : 2 ^ (k + 1) * 2 ^ (k + 1) ≤ 2 * (2 ^ (k + 1) * a) := by
    have := Nat.mul_le_mul_left (2 ^ (k + 1)) hk
    rw [hT2] at this ⊢
    have e : 2 * 2 ^ k * (2 * 2 ^ k) = 2 * (2 * 2 ^ k * 2 ^ k) := by grind
    omega
  have hpY : 2 * (2 ^ k * a) = 2 ^ (k + 1) * a := by rw [hT2]; grind
  have hP : 0 < 2 ^ k * a := Nat.mul_pos (Nat.pow_pos (by omega)) ha0
  rw [hM] at n1 n2
  clear hM hT2
  generalize hT : 2 ^ (k + 1) = T at *
  clear hT
  have hY : 0 < T * a := Nat.mul_pos hT0 ha0
  have q1 := Nat.mul_div_le N (2 * (T * a))
  have q2 := Nat.lt_mul_div_succ N (show 0 < 2 * (T * a) by omega)
  rw [hq] at q1 q2
  refine @newton_core N (T * a) T (2 ^ k * a) q hP hpY hTT (Nat.le_mul_of_pos_right _ ha0) ?_ ?_ q1 q2
  · have e : (T * a - T) * (T * a - T) = (a - 1) * (a - 1) * (T * T) := by
      rw [show T * a - T = T * (a - 1) from by rw [Nat.mul_sub, Nat.mul_one]]; grind
    rw [e]
    have h5 := Nat.mul_lt_mul_of_pos_right hlo hTp
    omega
  · have e : (T * a + T) * (T * a + T) = (a + 1) * (a + 1) * (T * T) := by grind
    rw [e]
    have h5 := Nat.mul_le_mul_right (T * T) (Nat.succ_le_of_lt hhi)
    rw [Nat.mul_comm (T * T)] at n2
    exact Nat.lt_of_lt_of_le n2 h5
theorem rt_step {v c d e a : Nat} (hc : d ≤ c) (h0 : e < d) (hd : d ≤ 2 * e + 1) (h1 : 4 ^ c ≤ v) (h : RtInv v c e a) :
    RtInv v c d (a * 2 ^ (d - e - 1) + v / 2 ^ (2 * c - e - d + 1) / a) := by
  obtain ⟨ha, hlo, hhi⟩ := h
  obtain ⟨k, rfl⟩ : ∃ k, d = e + k + 1 := ⟨d - e - 1, by omega⟩
  have hk : 2 ^ k ≤ a := Nat.le_trans (Nat.pow_le_pow_right (by omega) (by omega)) ha
  rw [show e + k + 1 - e - 1 = k from by omega]
  have hM : v / 4 ^ (c - (e + k + 1)) / (2 ^ (k + 1) * 2 ^ (k + 1)) = v / 4 ^ (c - e) := by
    rw [Nat.div_div_eq_div_mul]
    congr 1
    rw [show (4 : Nat) = 2 ^ 2 from rfl, ← Nat.pow_mul, ← Nat.pow_mul, ← Nat.pow_add, ← Nat.pow_add]
    congr 1
    omega
  have hq : v / 4 ^ (c - (e + k + 1)) / (2 * (2 ^ (k + 1) * a)) = v / 2 ^ (2 * c - e - (e + k + 1) + 1) / a := by
    rw [Nat.div_div_eq_div_mul, Nat.div_div_eq_div_mul]
    congr 1
    rw [show (4 : Nat) = 2 ^ 2 from rfl, ← Nat.pow_mul, show 2 * (2 ^ (k + 1) * a) = 2 ^ (k + 2) * a from by rw [Nat.pow_succ 2 (k + 1)]; grind, ← Nat.mul_assoc, ← Nat.pow_add]
    congr 2
    omega
  have core := rt_mid hk hlo hhi hM hq
  rw [Nat.mul_comm a]
  refine ⟨?_, core⟩
  have h4 : 4 ^ (e + k + 1) ≤ v / 4 ^ (c - (e + k + 1)) := by
    refine (Nat.le_div_iff_mul_le (Nat.pow_pos (by omega))).2 ?_
    rw [← Nat.pow_add, show e + k + 1 + (c - (e + k + 1)) = c from by omega]
    exact h1
  have h5 : 2 ^ (e + k + 1) * 2 ^ (e + k + 1) < (2 ^ k * a + v / 2 ^ (2 * c - e - (e + k + 1) + 1) / a + 1) * (2 ^ k * a + v / 2 ^ (2 * c - e - (e + k + 1) + 1) / a + 1) := by
    rw [show (4 : Nat) = 2 * 2 from rfl, Nat.mul_pow] at h4
    exact Nat.lt_of_le_of_lt h4 core.2
  refine Nat.le_of_lt_succ (Nat.lt_of_not_le fun h6 => ?_)
  have := Nat.mul_le_mul h6 h6
  exact Nat.lt_irrefl _ (Nat.lt_of_lt_of_le h5 this)
end Go.Proofs.YtegpckhfncblhaaDoor

/-
  The contract of bits.Len where the number is less than 65536.
-/
namespace Go.Proofs.YtegpckhfncblhaaDoor
open Go.RowKit
end Go.Proofs.YtegpckhfncblhaaDoor

/- wide.root: the square root, rounded down. -/
namespace Go.Proofs.YtegpckhfncblhaaDoor
open Go.RowKit

theorem rt_le {v c e x : Nat} (h : RtInv v c e x) : x ≤ v := by
  have h1 := h.2.1
  have h2 : v / 4 ^ (c - e) ≤ v := Nat.div_le_self _ _
  refine Nat.le_of_not_lt fun h3 => ?_
  have h4 := Nat.mul_le_mul (show v ≤ x - 1 by omega) (show v ≤ x - 1 by omega)
  rcases Nat.eq_zero_or_pos v with h5 | h5
  · subst h5; omega
  · have h6 := Nat.mul_le_mul_left v h5
    omega
theorem rt_pos {v c e x : Nat} (h : RtInv v c e x) : 1 ≤ x := Nat.le_trans (Nat.pow_pos (by omega)) h.1
/-- A call returns the root of v. -/
def RR (w : World) (v : Nat) (e : Ending) (w' : World) : Prop := ∃ r A c, IsRt v r ∧ e = .returned (.slice A (digs r).length c) ∧ Lm w' w'.heap.size A (digs r).length c (digs r) ∧ Below w.heap.size w w'

end Go.Proofs.YtegpckhfncblhaaDoor

/- wide.Sqrt. -/
namespace Go.Proofs.YtegpckhfncblhaaDoor
open Go.RowKit

/-- A call returns the root of v as a number. -/
def RQ (w : World) (v : Nat) (e : Ending) (w' : World) : Prop := ∃ r, IsRt v r ∧ RW w false (digs r) 0 e w'
theorem rt_zero : IsRt 0 0 := ⟨Nat.le_refl _, by decide⟩
theorem IsRt.le {v r : Nat} (h : IsRt v r) : r ≤ v := by
  rcases Nat.eq_zero_or_pos r with h0 | h0
  · omega
  · exact Nat.le_trans (Nat.le_mul_of_pos_left r h0) h.1

end Go.Proofs.YtegpckhfncblhaaDoor

/- Lehmer steps (Collins condition), in whole numbers. -/
namespace Go.Proofs.YtegpckhfncblhaaDoor
/-- The loop's state: the two numbers that are looked at (x, y), the factors of the last three numbers; a, b: the numbers themselves, of which X and Y are the highest digits. -/
structure Leh (X Y a b P s c x y A0 B0 A1 B1 A2 B2 : Int) : Prop where
  sq : s * s = 1
  hx : x = s * (A1 * X - B1 * Y)
  hy : y = -s * (A2 * X - B2 * Y)
  y0 : 0 ≤ y
  yx : y ≤ x
  xX : x ≤ X
  a0 : 0 ≤ A0
  b0 : 0 ≤ B0
  a1 : 0 ≤ A1
  b1 : 0 ≤ B1
  a2 : 0 ≤ A2
  b2 : 1 ≤ B2
  ab : A2 ≤ B2
  sm : A1 + A2 ≤ B1 + B2
  bb : B1 ≤ B2
  a1b : A1 ≤ B2
  det : B2 * x + B1 * y = X
  gcd : Int.gcd (s * (A1 * a - B1 * b)) (-s * (A2 * a - B2 * b)) = Int.gcd a b
  cm : -1 ≤ c
  sum : (c = -1 ∧ s * (A1 * a - B1 * b) = a ∧ -s * (A2 * a - B2 * b) = b) ∨ (0 ≤ c ∧ s * (A1 * a - B1 * b) + -s * (A2 * a - B2 * b) ≤ a)
  par : (s = 1 ∧ c % 2 = 1) ∨ (s = -1 ∧ c % 2 = 0)
  /-- what stands if the last step is taken -/
  tk : 0 ≤ c → 0 ≤ s * (A1 * a - B1 * b) ∧ s * (A1 * a - B1 * b) ≤ -s * (A0 * a - B0 * b) ∧ Int.gcd (-s * (A0 * a - B0 * b)) (s * (A1 * a - B1 * b)) = Int.gcd a b ∧
    A0 < 4294967296 ∧ B0 < 4294967296 ∧ A1 < 4294967296 ∧ B1 < 4294967296 ∧ (1 ≤ c → -s * (A0 * a - B0 * b) + s * (A1 * a - B1 * b) ≤ a)

theorem Leh.start {X Y a b P : Int} (h0 : 0 ≤ Y) (h1 : Y ≤ X) : Leh X Y a b P 1 (-1) X Y 0 0 1 0 0 1 := by
  refine ⟨by omega, by omega, by omega, h0, h1, by omega, by omega, by omega, by omega, by omega, by omega, by omega, by omega, by omega, by omega, by omega, by omega, ?_, by omega, .inl ⟨rfl, by omega, by omega⟩, .inl ⟨rfl, rfl⟩, fun h => absurd h (by omega)⟩
  rw [show (1 : Int) * (1 * a - 0 * b) = a from by omega, show (-1 : Int) * (0 * a - 1 * b) = b from by omega]

theorem gcd_step (u v q : Int) : Int.gcd v (u - q * v) = Int.gcd u v := by
  rw [Int.gcd_comm u v, Int.sub_eq_add_neg, ← Int.neg_mul]
  exact Int.gcd_add_mul_right_right v u (-q)

theorem leh_low {P m n a0 b0 t : Int} (s : Int) (hs : s * s = 1) (hm : 0 ≤ m) (hn : 0 ≤ n) (hmn : m ≤ n) (ha : 0 ≤ a0) (ha' : a0 ≤ P) (hb : 0 ≤ b0) (hb' : b0 ≤ P) (ht : n ≤ t) : 0 ≤ t * P + s * (m * a0 - n * b0) := by
  have hP : 0 ≤ P := by omega
  have e1 : m * a0 ≤ n * P := Int.le_trans (Int.mul_le_mul_of_nonneg_right hmn ha) (Int.mul_le_mul_of_nonneg_left ha' hn)
  have e2 : n * b0 ≤ n * P := Int.mul_le_mul_of_nonneg_left hb' hn
  have e3 : n * P ≤ t * P := Int.mul_le_mul_of_nonneg_right ht hP
  have e4 : 0 ≤ m * a0 := Int.mul_nonneg hm ha
  have e5 : 0 ≤ n * b0 := Int.mul_nonneg hn hb
  have e6 : s = 1 ∨ s = -1 := by
    have : (s - 1) * (s + 1) = 0 := by grind
    rcases Int.mul_eq_zero.1 this with h | h
    · left; omega
    · right; omega
  rcases e6 with rfl | rfl
  · omega
  · omega

theorem sq_lt {B x X : Int} (hB : 0 ≤ B) (hx : B ≤ x) (h : B * x ≤ X) (hX : X < 18446744073709551616) : B < 4294967296 := by
  refine Int.lt_of_not_ge fun h2 => ?_
  have e1 : (4294967296 : Int) * 4294967296 ≤ B * x := Int.mul_le_mul h2 (by omega) (by omega) hB
  omega

theorem Leh.step {X Y a b P s c x y A0 B0 A1 B1 A2 B2 ra rb q r : Int} (h : Leh X Y a b P s c x y A0 B0 A1 B1 A2 B2) (ha : a = X * P + ra) (hb : b = Y * P + rb) (ra0 : 0 ≤ ra) (raP : ra ≤ P) (rb0 : 0 ≤ rb) (rbP : rb ≤ P) (hX : X < 18446744073709551616)
    (hc1 : B2 ≤ y) (hc2 : B1 + B2 ≤ x - y) (hq : x = q * y + r) (hr0 : 0 ≤ r) (hr : r < y) :
    Leh X Y a b P (-s) (c + 1) y r A1 B1 A2 B2 (A1 + q * A2) (B1 + q * B2) ∧ 1 ≤ q ∧ B1 + q * B2 ≤ X ∧ A1 + q * A2 ≤ B1 + q * B2 ∧ q ≤ X ∧ q * y ≤ x ∧ q * A2 ≤ X ∧ q * B2 ≤ X := by
  have hy1 : 1 ≤ y := Int.le_trans h.b2 hc1
  have hq1 : 1 ≤ q := by
    refine Int.le_of_not_gt fun h2 => ?_
    have : q * y ≤ 0 := Int.mul_nonpos_of_nonpos_of_nonneg (by omega) (by omega)
    have := h.yx; have := h.b1; have := h.b2; omega
  have hqA : A2 ≤ q * A2 := by have := Int.mul_le_mul_of_nonneg_right hq1 h.a2; rwa [Int.one_mul] at this
  have hqB : B2 ≤ q * B2 := by have := Int.mul_le_mul_of_nonneg_right hq1 (show 0 ≤ B2 by have := h.b2; omega); rwa [Int.one_mul] at this
  have hqAB : (q - 1) * A2 ≤ (q - 1) * B2 := Int.mul_le_mul_of_nonneg_left h.ab (by omega)
  have hqAB' : q * A2 - A2 ≤ q * B2 - B2 := by rw [Int.sub_mul, Int.sub_mul] at hqAB; omega
  have hdet : (B1 + q * B2) * y + B2 * r = X := by
    have := h.det
    rw [hq] at this
    grind
  have hBr : 0 ≤ B2 * r := Int.mul_nonneg (by have := h.b2; omega) hr0
  have hB1q : B1 + q * B2 ≤ X := by
    have e1 : (B1 + q * B2) * 1 ≤ (B1 + q * B2) * y := Int.mul_le_mul_of_nonneg_left hy1 (by have := h.b1; have := h.b2; omega)
    omega
  have hqy : q * y ≤ x := by omega
  have hqX : q ≤ X := by
    have e1 : q * 1 ≤ q * y := Int.mul_le_mul_of_nonneg_left hy1 (by omega)
    have := h.xX
    omega
  have hv2 : 0 ≤ -s * (A2 * a - B2 * b) := by
    have e1 := leh_low (-s) (P := P) (m := A2) (n := B2) (a0 := ra) (b0 := rb) (t := y) (by have := h.sq; grind) h.a2 (by have := h.b2; omega) h.ab ra0 raP rb0 rbP hc1
    have e2 : -s * (A2 * a - B2 * b) = y * P + -s * (A2 * ra - B2 * rb) := by rw [h.hy, ha, hb]; grind
    rw [e2]; exact e1
  have hv12 : -s * (A2 * a - B2 * b) ≤ s * (A1 * a - B1 * b) := by
    have e1 := leh_low s (P := P) (m := A1 + A2) (n := B1 + B2) (a0 := ra) (b0 := rb) (t := x - y) h.sq (by have := h.a1; have := h.a2; omega) (by have := h.b1; have := h.b2; omega) h.sm ra0 raP rb0 rbP hc2
    have e2 : s * (A1 * a - B1 * b) - -s * (A2 * a - B2 * b) = (x - y) * P + s * ((A1 + A2) * ra - (B1 + B2) * rb) := by rw [h.hx, h.hy, ha, hb]; grind
    omega
  have hlin : - -s * ((A1 + q * A2) * a - (B1 + q * B2) * b) = s * (A1 * a - B1 * b) - q * (-s * (A2 * a - B2 * b)) := by grind
  have hqv : -s * (A2 * a - B2 * b) ≤ q * (-s * (A2 * a - B2 * b)) := by
    have := Int.mul_le_mul_of_nonneg_right hq1 hv2
    rwa [Int.one_mul] at this
  have hB2 : B2 < 4294967296 := by
    refine sq_lt (X := X) (x := x) (by have := h.b2; omega) (by have := h.yx; omega) ?_ hX
    have := h.det
    have e1 : 0 ≤ B1 * y := Int.mul_nonneg h.b1 h.y0
    omega
  have hsum : s * (A1 * a - B1 * b) + -s * (A2 * a - B2 * b) - q * (-s * (A2 * a - B2 * b)) ≤ a := by
    rcases h.sum with ⟨_, e1, e2⟩ | ⟨_, e1⟩ <;> omega
  refine ⟨⟨?_, ?_, ?_, hr0, by omega, by have := h.xX; have := h.yx; omega, h.a1, h.b1, h.a2, by have := h.b2; omega, ?_, by have := h.b1; have := h.b2; omega, ?_, ?_, ?_, ?_, ?_, ?_, by have := h.cm; omega, ?_, ?_, ?_⟩, hq1, hB1q, ?_, hqX, hqy, ?_, ?_⟩
  · have := h.sq; grind
  · have := h.hy; exact this
  · have e1 := h.hx
    have e2 := h.hy
    have : r = x - q * y := by omega
    rw [this, e1, e2]
    grind
  · have := h.a1; have := h.a2; omega
  · have := h.sm; omega
  · have := h.sm; have := h.ab; omega
  · have := h.b1; omega
  · have := h.ab; have := h.b1; omega
  · exact hdet
  · rw [hlin, gcd_step]; exact h.gcd
  · right
    refine ⟨by have := h.cm; omega, ?_⟩
    rw [hlin]
    omega
  · have := h.cm
    rcases h.par with ⟨e1, e2⟩ | ⟨e1, e2⟩
    · right; constructor <;> omega
    · left; constructor <;> omega
  · intro _
    rw [show - -s * (A1 * a - B1 * b) = s * (A1 * a - B1 * b) from by rw [Int.neg_neg]]
    have := h.a1b; have := h.bb; have := h.ab; have := h.cm
    refine ⟨hv2, hv12, h.gcd, by omega, by omega, by omega, hB2, fun h1 => ?_⟩
    rcases h.sum with ⟨e0, _, _⟩ | ⟨_, e1⟩
    · omega
    · omega
  · have := h.sm; have := h.ab; omega
  · have := h.ab; have := h.b1; have := h.a2; have := Int.mul_le_mul_of_nonneg_left h.ab (show 0 ≤ q by omega); omega
  · have := h.b1; omega
/-- The loop's state, in natural numbers. -/
def LehN (a b p : Nat) (s c : Int) (x y A0 B0 A1 B1 A2 B2 : Nat) : Prop := Leh ((a / p : Nat) : Int) ((b / p : Nat) : Int) (a : Int) (b : Int) (p : Int) s c (x : Int) (y : Int) (A0 : Int) (B0 : Int) (A1 : Int) (B1 : Int) (A2 : Int) (B2 : Int)
theorem LehN.start {a b p : Nat} (h : b ≤ a) : LehN a b p 1 (-1) (a / p) (b / p) 0 0 1 0 0 1 :=
  Leh.start (Int.natCast_nonneg _) (Int.ofNat_le.2 (Nat.div_le_div_right h))
theorem LehN.bd {a b p x y A0 B0 A1 B1 A2 B2 : Nat} {s c : Int} (h : LehN a b p s c x y A0 B0 A1 B1 A2 B2) (hX : a / p < 18446744073709551616) :
    x < 18446744073709551616 ∧ y ≤ x ∧ 1 ≤ B2 ∧ (1 ≤ y → B1 + B2 < 18446744073709551616) ∧ -1 ≤ c := by
  have h1 := h.xX
  have h2 := h.yx
  have h3 := h.b2
  refine ⟨by omega, by omega, by omega, fun hy => ?_, h.cm⟩
  have h4 := h.det
  rw [← Int.natCast_mul, ← Int.natCast_mul] at h4
  have h5 : B2 ≤ B2 * x := Nat.le_mul_of_pos_right _ (by omega)
  have h6 : B1 ≤ B1 * y := Nat.le_mul_of_pos_right _ (by omega)
  omega
theorem LehN.go {a b p x y A0 B0 A1 B1 A2 B2 : Nat} {s c : Int} (h : LehN a b p s c x y A0 B0 A1 B1 A2 B2) (hp : 0 < p) (hX : a / p < 18446744073709551616) (h1 : B2 ≤ y) (h2 : B1 + B2 ≤ x - y) :
    LehN a b p (-s) (c + 1) y (x % y) A1 B1 A2 B2 (A1 + x / y * A2) (B1 + x / y * B2) ∧ 1 ≤ x / y ∧ B1 + x / y * B2 < 18446744073709551616 ∧ A1 + x / y * A2 < 18446744073709551616 ∧ x / y * A2 < 18446744073709551616 ∧ x / y * B2 < 18446744073709551616 ∧
      x / y * y ≤ x ∧ x - x / y * y = x % y ∧ B2 < 4294967296 ∧ B2 ≤ x / y * B2 := by
  obtain ⟨b1, b2, b3, _, b5⟩ := h.bd hX
  have hy : 0 < y := by omega
  have hdm := Nat.div_add_mod x y
  have hml := Nat.mod_lt x hy
  have hdm' : x = x / y * y + x % y := by rw [Nat.mul_comm]; exact hdm.symm
  have e1 := Nat.div_add_mod a p
  have e2 := Nat.div_add_mod b p
  have e3 := Nat.mod_lt a hp
  have e4 := Nat.mod_lt b hp
  have key := Leh.step h (ra := ((a % p : Nat) : Int)) (rb := ((b % p : Nat) : Int)) (q := ((x / y : Nat) : Int)) (r := ((x % y : Nat) : Int))
    (by rw [← Int.natCast_mul, ← Int.natCast_add]; congr 1; rw [Nat.mul_comm]; exact e1.symm)
    (by rw [← Int.natCast_mul, ← Int.natCast_add]; congr 1; rw [Nat.mul_comm]; exact e2.symm)
    (by omega) (by omega) (by omega) (by omega) (by omega) (by omega) (by omega)
    (by rw [← Int.natCast_mul, ← Int.natCast_add]; congr 1)
    (by omega) (by omega)
  obtain ⟨k1, k2, k3, k4, k5, k6, k7, k8⟩ := key
  have hB : B2 < 4294967296 := by
    have := k1.tk (by omega)
    omega
  have hq : 1 ≤ x / y := by omega
  have hqB : B2 ≤ x / y * B2 := Nat.le_mul_of_pos_left _ (by omega)
  refine ⟨?_, hq, ?_, ?_, ?_, ?_, by omega, by omega, hB, hqB⟩
  · unfold LehN
    rw [Int.natCast_add, Int.natCast_mul, Int.natCast_add, Int.natCast_mul]
    exact k1
  · rw [← Int.natCast_mul, ← Int.natCast_add] at k3; omega
  · rw [← Int.natCast_mul, ← Int.natCast_add, ← Int.natCast_mul, ← Int.natCast_add] at k4
    rw [← Int.natCast_mul, ← Int.natCast_add] at k3
    omega
  · rw [← Int.natCast_mul] at k7; omega
  · rw [← Int.natCast_mul] at k8; omega
/-- What stands once steps are taken. -/
theorem leh_take {a b p x y A0 B0 A1 B1 A2 B2 : Nat} {s c : Int} (h : LehN a b p s c x y A0 B0 A1 B1 A2 B2) (hc : 0 < c) (hb : 0 < b) : ∃ u v : Nat, v ≤ u ∧ Nat.gcd u v = Nat.gcd a b ∧ u + v < a + b ∧ u ≤ a ∧
    A0 < 4294967296 ∧ B0 < 4294967296 ∧ A1 < 4294967296 ∧ B1 < 4294967296 ∧ (c % 2 = 0 → u + B0 * b = A0 * a ∧ v + A1 * a = B1 * b) ∧ (c % 2 = 1 → u + A0 * a = B0 * b ∧ v + B1 * b = A1 * a) := by
  obtain ⟨t1, t2, t3, t4, t5, t6, t7, t8⟩ := h.tk (by omega)
  have t9 := t8 (by omega)
  obtain ⟨u, hu⟩ := Int.eq_ofNat_of_zero_le (Int.le_trans t1 t2)
  obtain ⟨v, hv⟩ := Int.eq_ofNat_of_zero_le t1
  have hpar := h.par
  rw [hu, hv] at t3 t9 t2
  have t3' : Nat.gcd u v = Nat.gcd a b := t3
  refine ⟨u, v, by omega, t3', by omega, by omega, by omega, by omega, by omega, by omega, fun h0 => ?_, fun h0 => ?_⟩
  · rcases hpar with ⟨_, e⟩ | ⟨rfl, _⟩
    · omega
    · rw [← Int.natCast_mul, ← Int.natCast_mul] at hu hv
      omega
  · rcases hpar with ⟨rfl, _⟩ | ⟨_, e⟩
    · rw [← Int.natCast_mul, ← Int.natCast_mul] at hu hv
      omega
    · omega
end Go.Proofs.YtegpckhfncblhaaDoor

/- Differences of two products by a limb, limb by limb (blend), in whole numbers. -/
namespace Go.Proofs.YtegpckhfncblhaaDoor
/-- One limb of the difference p x - m y with c carried and t borrowed: the limb, what is carried, what is borrowed. -/
def blO (c t : Nat) : Nat := if t % 4294967296 ≤ c % 4294967296 then c % 4294967296 - t % 4294967296 else c % 4294967296 + 4294967296 - t % 4294967296
def blC (c : Nat) : Nat := c / 4294967296
def blT (c t : Nat) : Nat := t / 4294967296 + if t % 4294967296 ≤ c % 4294967296 then 0 else 1
theorem bl_eq (c t : Nat) : blO c t + 4294967296 * blC c + t = c + 4294967296 * blT c t := by
  unfold blO blC blT
  split <;> omega
theorem blO_lt (c t : Nat) : blO c t < 4294967296 := by unfold blO; split <;> omega
/-- The limbs, what is carried and what is borrowed behind k limbs. -/
def blK (p m : Nat) (xs ys : List Nat) : Nat → List Nat × Nat × Nat
  | 0 => ([], 0, 0)
  | k + 1 => ((blK p m xs ys k).1 ++ [blO ((blK p m xs ys k).2.1 + p * xs[k]?.getD 0) ((blK p m xs ys k).2.2 + m * ys[k]?.getD 0)], blC ((blK p m xs ys k).2.1 + p * xs[k]?.getD 0), blT ((blK p m xs ys k).2.1 + p * xs[k]?.getD 0) ((blK p m xs ys k).2.2 + m * ys[k]?.getD 0))
theorem blK_len (p m : Nat) (xs ys : List Nat) (k : Nat) : (blK p m xs ys k).1.length = k := by
  induction k with
  | zero => rfl
  | succ k ih => simp [blK, ih]
theorem blK_good (p m : Nat) (xs ys : List Nat) (k : Nat) : Good (blK p m xs ys k).1 := by
  induction k with
  | zero => exact Good.nil
  | succ k ih => exact ih.append (Good.nil.cons (blO_lt _ _))
theorem bl_mul {p x : Nat} (hp : p < 4294967296) (hx : x < 4294967296) : p * x ≤ 18446744065119617025 := by
  have := Nat.mul_le_mul (show p ≤ 4294967295 by omega) (show x ≤ 4294967295 by omega)
  omega
theorem blK_bd {p m : Nat} {xs ys : List Nat} (hp : p < 4294967296) (hm : m < 4294967296) (hx : Good xs) (hy : Good ys) (k : Nat) : (blK p m xs ys k).2.1 < 4294967296 ∧ (blK p m xs ys k).2.2 ≤ 4294967296 := by
  induction k with
  | zero => exact ⟨by show 0 < 4294967296; omega, by show 0 ≤ 4294967296; omega⟩
  | succ k ih =>
    have h1 := bl_mul hp (hx.get k)
    have h2 := bl_mul hm (hy.get k)
    obtain ⟨i1, i2⟩ := ih
    show blC _ < _ ∧ blT _ _ ≤ _
    generalize (blK p m xs ys k).2.1 = c at *
    generalize (blK p m xs ys k).2.2 = t at *
    generalize p * xs[k]?.getD 0 = u at *
    generalize m * ys[k]?.getD 0 = v at *
    unfold blC blT
    constructor
    · omega
    · split <;> omega
theorem blK_val (p m : Nat) (xs ys : List Nat) (k : Nat) : val (blK p m xs ys k).1 + 4294967296 ^ k * (blK p m xs ys k).2.1 + m * val (ys.take k) = p * val (xs.take k) + 4294967296 ^ k * (blK p m xs ys k).2.2 := by
  induction k with
  | zero => simp [blK, val_nil]
  | succ k ih =>
    have e1 : (blK p m xs ys (k + 1)).1 = (blK p m xs ys k).1 ++ [blO ((blK p m xs ys k).2.1 + p * xs[k]?.getD 0) ((blK p m xs ys k).2.2 + m * ys[k]?.getD 0)] := rfl
    have e2 : (blK p m xs ys (k + 1)).2.1 = blC ((blK p m xs ys k).2.1 + p * xs[k]?.getD 0) := rfl
    have e3 : (blK p m xs ys (k + 1)).2.2 = blT ((blK p m xs ys k).2.1 + p * xs[k]?.getD 0) ((blK p m xs ys k).2.2 + m * ys[k]?.getD 0) := rfl
    rw [e1, e2, e3, val_snoc, blK_len, val_take_succ', val_take_succ', pow_succ_]
    generalize (blK p m xs ys k).2.1 = c at *
    generalize (blK p m xs ys k).2.2 = t at *
    generalize xs[k]?.getD 0 = x at *
    generalize ys[k]?.getD 0 = y at *
    have h := bl_eq (c + p * x) (t + m * y)
    generalize blO (c + p * x) (t + m * y) = o at *
    generalize blC (c + p * x) = c' at *
    generalize blT (c + p * x) (t + m * y) = t' at *
    generalize val (blK p m xs ys k).1 = V at *
    generalize val (xs.take k) = X at *
    generalize val (ys.take k) = Y at *
    generalize 4294967296 ^ k = E at *
    have h2 : E * (o + 4294967296 * c' + (t + m * y)) = E * (c + p * x + 4294967296 * t') := by rw [h]
    grind
/-- Behind all limbs: the difference, if it is a number of as many limbs. -/
theorem bl_all {p m n D : Nat} {xs ys : List Nat} (hx : xs.length = n) (hy : ys.length = n) (hD : D < 4294967296 ^ n) (h : D + m * val ys = p * val xs) : val (blK p m xs ys n).1 = D := by
  have h1 := blK_val p m xs ys n
  rw [List.take_of_length_le (by omega), List.take_of_length_le (by omega)] at h1
  have h2 := val_lt (blK_good p m xs ys n)
  rw [blK_len] at h2
  generalize val (blK p m xs ys n).1 = V at *
  generalize (blK p m xs ys n).2.1 = c at *
  generalize (blK p m xs ys n).2.2 = t at *
  generalize 4294967296 ^ n = E at *
  have h3 : V + E * c = D + E * t := by omega
  rcases Nat.lt_trichotomy c t with h4 | h4 | h4
  · have h5 : E * (c + 1) ≤ E * t := Nat.mul_le_mul_left _ h4
    rw [Nat.mul_add] at h5
    omega
  · subst h4; omega
  · have h5 : E * (t + 1) ≤ E * c := Nat.mul_le_mul_left _ h4
    rw [Nat.mul_add] at h5
    omega
theorem bl_at {p m : Nat} {xs ys : List Nat} {j : Nat} : ((blK p m xs ys j).1 ++ xs.drop j)[j]?.getD 0 = xs[j]?.getD 0 := by
  rw [List.getElem?_append_right (by rw [blK_len]; exact Nat.le_refl _), blK_len, Nat.sub_self, List.getElem?_drop, Nat.add_zero]
theorem bl_len {p m : Nat} {xs ys : List Nat} {j n : Nat} (hx : xs.length = n) (hj : j ≤ n) : ((blK p m xs ys j).1 ++ xs.drop j).length = n := by
  rw [List.length_append, blK_len, List.length_drop]; omega
theorem bl_set {p m : Nat} {xs ys : List Nat} {j : Nat} (hj : j < xs.length) :
    ((blK p m xs ys j).1 ++ xs.drop j).set j (blO ((blK p m xs ys j).2.1 + p * xs[j]?.getD 0) ((blK p m xs ys j).2.2 + m * ys[j]?.getD 0)) = (blK p m xs ys (j + 1)).1 ++ xs.drop (j + 1) := by
  rw [List.set_append_right _ _ (by rw [blK_len]; exact Nat.le_refl _), blK_len, Nat.sub_self, drop_cons_ _ j hj, List.set_cons_zero]
  show _ = ((blK p m xs ys j).1 ++ [_]) ++ _
  rw [List.append_assoc]
  rfl
end Go.Proofs.YtegpckhfncblhaaDoor

/- A block of the call's own that is known whole: any values; wide.blend's next. -/
namespace Go.Proofs.YtegpckhfncblhaaDoor
open Go.RowKit

/-- Block g is just the values vs, none frozen. -/
def Kd (w : World) (g : Nat) (t : TypeId) (vs : Array Value) : Prop := w.heap[g]? = some (.cells vs t (0, 0))
section
variable {w w' : World} {g : Nat} {t : TypeId} {vs : Array Value}
theorem Kd.lt (h : Kd w g t vs) : g < w.heap.size := (Array.getElem?_eq_some_iff.1 h).1
theorem Kd.cell (h : Kd w g t vs) (i : Nat) : w.cell? ⟨g, i, none⟩ = vs[i]? := cell_of_row w g i _ _ (0, 0) h
theorem Kd.frozen (h : Kd w g t vs) (i : Nat) : w.frozen? ⟨g, i, none⟩ = false := by
  unfold Kd at h
  simp [World.frozen?, h]
theorem Kd.set_ (h : Kd w g t vs) (i : Nat) (v : Value) : Kd (w.setCell ⟨g, i, none⟩ v) g t (vs.setIfInBounds i v) := by
  unfold Kd at h ⊢
  simp [World.setCell, Array.getElem?_modify, h]
theorem Kd.far (h : Kd w g t vs) {k i : Nat} (hk : k ≠ g) (v : Value) : Kd (w.setCell ⟨k, i, none⟩ v) g t vs := (Below.heap_setCell _ _ _ g (fun e => hk e.symm)).trans h
theorem Kd.grown (h : Kd w g t vs) {row : Option Nat} (hb : w.grownBy w' row) (hg : some g ≠ row) : Kd w' g t vs := (hb.block g h.lt hg).trans h
theorem Kd.below (h : Kd w g t vs) {B : Nat} (hb : Below B w w') (hg : g < B) : Kd w' g t vs := (hb.block g hg).trans h
theorem Kd.new (w : World) (k : Nat) (hk : w.heap.size = k) (vs : Array Value) (t : TypeId) : Kd (w.alloc (.cells vs t)) k t vs := by
  subst hk
  exact heap_alloc_new w _
theorem Kd.alloc (h : Kd w g t vs) (o : Obj) : Kd (w.alloc o) g t vs := (heap_alloc_old w o h.lt).trans h
theorem Kd.drew (h : Kd w g t vs) : Kd w.drew g t vs := h
theorem Kd.drewN (h : Kd w g t vs) (k : Nat) : Kd (w.drewN k) g t vs := h
end
theorem grown_drew {w w' : World} {r : Option Nat} (h : w.grownBy w' r) : w.grownBy w'.drew r := ⟨h.os, h.tape, h.output, h.size, h.block⟩
theorem grown_drewN {w w' : World} {r : Option Nat} (h : w.grownBy w' r) (k : Nat) : w.grownBy (w'.drewN k) r := ⟨h.os, h.tape, h.output, h.size, h.block⟩
/-- The four cells of a blend. -/
def blV (p m c s : Nat) : Array Value := #[.int .u64 (p : Int), .int .u64 (m : Int), .int .u64 (c : Int), .int .u64 (s : Int)]

set_option maxRecDepth 100000 in
set_option maxHeartbeats 4000000 in
theorem next_any (w : World) (g : Nat) (t : TypeId) (p m c s x y : Nat) (hK : Kd w g t (blV p m c s)) (hp : p < 4294967296) (hm : m < 4294967296) (hc : c < 4294967296) (hs : s ≤ 4294967296) (hx : x < 4294967296) (hy : y < 4294967296) :
    Calls Tryd.prog 80 #[.pointer (some ⟨g, 0, none⟩), .int .u64 (x : Int), .int .u64 (y : Int)] w fun e w' =>
      e = .returned (.int .u32 (blO (c + p * x) (s + m * y) : Nat)) ∧ Kd w' g t (blV p m (blC (c + p * x)) (blT (c + p * x) (s + m * y))) ∧ w.grownBy w' (some g) := by
  have h1 := bl_mul hp hx
  have h2 := bl_mul hm hy
  have hpx : (p : Int) * (x : Int) = ((p * x : Nat) : Int) := by rw [Int.natCast_mul]
  have hmy : (m : Int) * (y : Int) = ((m * y : Nat) : Int) := by rw [Int.natCast_mul]
  have c0 := hK.cell 0
  have c1 := hK.cell 1
  have c2 := hK.cell 2
  have c3 := hK.cell 3
  have f2 := hK.frozen 2
  have f3 := hK.frozen 3
  simp only [blV, List.getElem?_toArray, List.getElem?_cons_zero, List.getElem?_cons_succ] at c0 c1 c2 c3
  have HK := Lib.hid hK
  clear hK
  go_enter Tryd.func80, Tryd.ntmps80
  generalize hu : p * x = u at *
  generalize hv : m * y = v at *
  clear hu hv
  go_wp2
  go_region
  all_goals
    (try rw [show IntKind.u64.wrap ((c : Int) + IntKind.u64.wrap (u : Int)) = ((c + u : Nat) : Int) from by rw [IntKind.wrap_u64, IntKind.wrap_u64]; omega])
    (try rw [show (c : Int) + (u : Int) = ((c + u : Nat) : Int) from by omega])
    have HK2 : Hid (Kd (w.setCell ⟨g, 2, none⟩ (.int .u64 ((c + u : Nat) : Int))).drew g t (blV p m (c + u) s)) := HK.out.set_ 2 _
    have HG2 : Hid (w.grownBy (w.setCell ⟨g, 2, none⟩ (.int .u64 ((c + u : Nat) : Int))).drew (some g)) := grown_drew (grownBy_setCellAt w g 2 _)
    clear c0 c1 c2 c3 f2 f3
    generalize (w.setCell ⟨g, 2, none⟩ (.int .u64 ((c + u : Nat) : Int))).drew = W1 at *
    have c0 := HK2.out.cell 0
    have c1 := HK2.out.cell 1
    have c2 := HK2.out.cell 2
    have c3 := HK2.out.cell 3
    have f2 := HK2.out.frozen 2
    have f3 := HK2.out.frozen 3
    simp only [blV, List.getElem?_toArray, List.getElem?_cons_zero, List.getElem?_cons_succ] at c0 c1 c2 c3
    generalize hC : c + u = C at *
    go_wp2
    go_region
    all_goals
      (try rw [show IntKind.u64.wrap ((s : Int) + IntKind.u64.wrap (v : Int)) = ((s + v : Nat) : Int) from by rw [IntKind.wrap_u64, IntKind.wrap_u64]; omega])
      (try rw [show (s : Int) + (v : Int) = ((s + v : Nat) : Int) from by omega])
      have HK3 : Hid (Kd (W1.setCell ⟨g, 3, none⟩ (.int .u64 ((s + v : Nat) : Int))).drew g t (blV p m C (s + v))) := HK2.out.set_ 3 _
      have HG3 : Hid (w.grownBy (W1.setCell ⟨g, 3, none⟩ (.int .u64 ((s + v : Nat) : Int))).drew (some g)) := grown_drew (grownBy_trans HG2.out (grownBy_setCellAt W1 g 3 _))
      clear c0 c1 c2 c3 f2 f3 HK2 HG2
      generalize (W1.setCell ⟨g, 3, none⟩ (.int .u64 ((s + v : Nat) : Int))).drew = W2 at *
      have c0 := HK3.out.cell 0
      have c1 := HK3.out.cell 1
      have c2 := HK3.out.cell 2
      have c3 := HK3.out.cell 3
      have f2 := HK3.out.frozen 2
      have f3 := HK3.out.frozen 3
      simp only [blV, List.getElem?_toArray, List.getElem?_cons_zero, List.getElem?_cons_succ] at c0 c1 c2 c3
      generalize hS : s + v = S at *
      go_wp2
      go_quiet (fail)
      go_wp2
      rw [hC, hS]
      go_ret
      have eO : IntKind.u64.wrap ((C : Int) % 4294967296 - (S : Int) % 4294967296) % 4294967296 = ((blO C S : Nat) : Int) := by rw [IntKind.wrap_u64]; unfold blO; split <;> omega
      have key : ∀ z : Int, z = ((blT C S : Nat) : Int) → Kd (((W2.drewN nq).setCell ⟨g, 2, none⟩ (.int .u64 ((C : Int) / 4294967296))).setCell ⟨g, 3, none⟩ (.int .u64 z)) g t (blV p m (blC C) (blT C S)) := by
        rintro _ rfl
        exact ((show Kd (W2.drewN nq) g t (blV p m C S) from HK3.out).set_ 2 (.int .u64 ((C : Int) / 4294967296))).set_ 3 _
      refine ⟨congrArg Ending.returned (congrArg (Value.int IntKind.u32) eO), key _ (by simp only [IntKind.wrap_u64]; unfold blT; split <;> omega), grownBy_trans (grownBy_trans (grown_drewN HG3.out nq) (grownBy_setCellAt _ g 2 _)) (grownBy_setCellAt _ g 3 _)⟩
end Go.Proofs.YtegpckhfncblhaaDoor

/- wide.foresee: the steps of Euclid's rule that the highest digits determine. -/
namespace Go.Proofs.YtegpckhfncblhaaDoor
open Go.RowKit

/-- The five cells of steps. -/
def stV (c : Int) (A0 B0 A1 B1 : Nat) : Array Value := #[.int .i64 c, .int .u64 (A0 : Int), .int .u64 (B0 : Int), .int .u64 (A1 : Int), .int .u64 (B1 : Int)]
def fcV (A B : Nat) : Array Value := #[.int .u64 (A : Int), .int .u64 (B : Int)]
/-- What foresee returns: steps that the highest digits allow. -/
def RF (w : World) (a b : Nat) (e : Ending) (w' : World) : Prop := ∃ (c : Int) (A0 B0 A1 B1 : Nat), e = .returned (.agg #[.int .i64 c, .int .u64 (A0 : Int), .int .u64 (B0 : Int), .int .u64 (A1 : Int), .int .u64 (B1 : Int)]) ∧ c ≤ 4294967296 ∧
  (∃ (p : Nat) (s : Int) (x y A2 B2 : Nat), LehN a b p s c x y A0 B0 A1 B1 A2 B2) ∧ Below w.heap.size w w'

/-- The world behind an exchange of factors. -/
def xch (W : World) (g h : Nat) (a b d e f k : Value) : World := ((((((W.setCell ⟨g, 1, none⟩ a).setCell ⟨g, 2, none⟩ b).setCell ⟨g, 3, none⟩ d).setCell ⟨g, 4, none⟩ e).setCell ⟨h, 0, none⟩ f).setCell ⟨h, 1, none⟩ k).drew
section
variable {W : World} {g h : Nat} {t t' : TypeId} {c a b d e f k a0 b0 d0 e0 f0 k0 : Value}
theorem xch_g (H : Kd W g t #[c, a0, b0, d0, e0]) (hne : h ≠ g) : Kd (xch W g h a b d e f k) g t #[c, a, b, d, e] := by
  have h1 : Kd (W.setCell ⟨g, 1, none⟩ a) g t #[c, a, b0, d0, e0] := H.set_ 1 a
  have h2 : Kd ((W.setCell ⟨g, 1, none⟩ a).setCell ⟨g, 2, none⟩ b) g t #[c, a, b, d0, e0] := h1.set_ 2 b
  have h3 : Kd (((W.setCell ⟨g, 1, none⟩ a).setCell ⟨g, 2, none⟩ b).setCell ⟨g, 3, none⟩ d) g t #[c, a, b, d, e0] := h2.set_ 3 d
  have h4 : Kd ((((W.setCell ⟨g, 1, none⟩ a).setCell ⟨g, 2, none⟩ b).setCell ⟨g, 3, none⟩ d).setCell ⟨g, 4, none⟩ e) g t #[c, a, b, d, e] := h3.set_ 4 e
  exact ((h4.far (i := 0) hne f).far (i := 1) hne k).drew
theorem xch_h (H : Kd W h t' #[f0, k0]) (hne : h ≠ g) : Kd (xch W g h a b d e f k) h t' #[f, k] := by
  have h1 := (((H.far (i := 1) (Ne.symm hne) a).far (i := 2) (Ne.symm hne) b).far (i := 3) (Ne.symm hne) d).far (i := 4) (Ne.symm hne) e
  have h2 : Kd (((((W.setCell ⟨g, 1, none⟩ a).setCell ⟨g, 2, none⟩ b).setCell ⟨g, 3, none⟩ d).setCell ⟨g, 4, none⟩ e).setCell ⟨h, 0, none⟩ f) h t' #[f, k0] := h1.set_ 0 f
  have h3 : Kd ((((((W.setCell ⟨g, 1, none⟩ a).setCell ⟨g, 2, none⟩ b).setCell ⟨g, 3, none⟩ d).setCell ⟨g, 4, none⟩ e).setCell ⟨h, 0, none⟩ f).setCell ⟨h, 1, none⟩ k) h t' #[f, k] := h2.set_ 1 k
  exact h3.drew
theorem xch_r {r : Nat} {vs : Array Value} (H : Kd W r t vs) (h1 : g ≠ r) (h2 : h ≠ r) : Kd (xch W g h a b d e f k) r t vs :=
  ((((((H.far (i := 1) h1 a).far (i := 2) h1 b).far (i := 3) h1 d).far (i := 4) h1 e).far (i := 0) h2 f).far (i := 1) h2 k).drew
theorem xch_b {B : Nat} {w : World} (H : Below B w W) (h1 : B ≤ g) (h2 : B ≤ h) : Below B w (xch W g h a b d e f k) :=
  ((((((H.setCell (p := ⟨g, 1, none⟩) h1 a).setCell (p := ⟨g, 2, none⟩) h1 b).setCell (p := ⟨g, 3, none⟩) h1 d).setCell (p := ⟨g, 4, none⟩) h1 e).setCell (p := ⟨h, 0, none⟩) h2 f).setCell (p := ⟨h, 1, none⟩) h2 k).drew
end

theorem res_s {fn : Func} {r : Nat} (hr : fn.results = #[.cell r 92]) {tmps : Array Value} {w : World} {g : Nat} {c a b d e : Value} (ht : tmps.getD r undef = .pointer (some ⟨g, 0, none⟩))
    (h0 : w.cell? ⟨g, 0, none⟩ = some c) (h1 : w.cell? ⟨g, 1, none⟩ = some a) (h2 : w.cell? ⟨g, 2, none⟩ = some b) (h3 : w.cell? ⟨g, 3, none⟩ = some d) (h4 : w.cell? ⟨g, 4, none⟩ = some e) :
    (results fn tmps).run Tryd.prog w = .ok (.agg #[c, a, b, d, e]) w := by
  rw [Array.getD_eq_getD_getElem?] at ht
  simp [results, hr, go_sem, ht, h0, h1, h2, h3, h4]
theorem st_sets {W : World} {g : Nat} {t : TypeId} {c a b d e c0 a0 b0 d0 e0 : Value} (H : Kd W g t #[c0, a0, b0, d0, e0]) :
    Kd (((((W.setCell ⟨g, 0, none⟩ c).setCell ⟨g, 1, none⟩ a).setCell ⟨g, 2, none⟩ b).setCell ⟨g, 3, none⟩ d).setCell ⟨g, 4, none⟩ e) g t #[c, a, b, d, e] := by
  have h0 : Kd (W.setCell ⟨g, 0, none⟩ c) g t #[c, a0, b0, d0, e0] := H.set_ 0 c
  have h1 : Kd ((W.setCell ⟨g, 0, none⟩ c).setCell ⟨g, 1, none⟩ a) g t #[c, a, b0, d0, e0] := h0.set_ 1 a
  have h2 : Kd (((W.setCell ⟨g, 0, none⟩ c).setCell ⟨g, 1, none⟩ a).setCell ⟨g, 2, none⟩ b) g t #[c, a, b, d0, e0] := h1.set_ 2 b
  have h3 : Kd ((((W.setCell ⟨g, 0, none⟩ c).setCell ⟨g, 1, none⟩ a).setCell ⟨g, 2, none⟩ b).setCell ⟨g, 3, none⟩ d) g t #[c, a, b, d, e0] := h2.set_ 3 d
  exact h3.set_ 4 e
theorem st_setb {W w : World} {B g : Nat} {c a b d e : Value} (H : Below B w W) (h : B ≤ g) :
    Below B w (((((W.setCell ⟨g, 0, none⟩ c).setCell ⟨g, 1, none⟩ a).setCell ⟨g, 2, none⟩ b).setCell ⟨g, 3, none⟩ d).setCell ⟨g, 4, none⟩ e) :=
  ((((H.setCell (p := ⟨g, 0, none⟩) h c).setCell (p := ⟨g, 1, none⟩) h a).setCell (p := ⟨g, 2, none⟩) h b).setCell (p := ⟨g, 3, none⟩) h d).setCell (p := ⟨g, 4, none⟩) h e

set_option maxRecDepth 100000 in
set_option maxHeartbeats 4000000 in
theorem foresee_any (w : World) (A B : Option Addr) (n m ca cb a b : Nat) (hA : Lm w w.heap.size A n ca (digs a)) (hB : Lm w w.heap.size B m cb (digs b)) (hle : b ≤ a) (hm : 3 ≤ m) (hn : n ≤ 1000000) :
    Calls Tryd.prog 65 #[.slice A n ca, .slice B m cb] w (RF w a b) := by
  have hcA := hA.cap
  have hxA := hA.max
  have hcB := hB.cap
  have hxB := hB.max
  have hlA := hA.len
  have hb64 : 4294967296 ^ 2 ≤ b := by
    have := val_ge (digs_norm b) 2 (by rw [hB.len]; omega)
    rwa [digs_val] at this
  have ha0 : 0 < a := by
    have : (4294967296 : Nat) ^ 2 = 18446744073709551616 := by decide
    omega
  obtain ⟨hL0, hL1, hL2⟩ := lenS_pos ha0
  have hL9 : lenS (digs a) ≤ 32 * n := by
    refine lenS_le.2 ?_
    have := digs_len.1 (Nat.le_of_eq hlA)
    rwa [Nat.pow_mul]
  have hL64 : 64 < lenS (digs a) := by
    refine Nat.lt_of_not_le fun h => ?_
    have h1 := lenS_le.1 h
    have : (2 : Nat) ^ 64 = 4294967296 ^ 2 := by decide
    omega
  obtain ⟨k, hk⟩ : ∃ k, k = lenS (digs a) - 64 := ⟨_, rfl⟩
  have hkL : lenS (digs a) = k + 64 := by omega
  have hX : a / 2 ^ k < 18446744073709551616 := by
    refine Nat.div_lt_of_lt_mul ?_
    rw [show (18446744073709551616 : Nat) = 2 ^ 64 from rfl, ← Nat.pow_add, ← hkL]
    exact hL2
  have hY : b / 2 ^ k ≤ a / 2 ^ k := Nat.div_le_div_right hle
  have hk9 : k ≤ 32000000 := by omega
  have HWx : Hid (win a k = a / 2 ^ k) := Nat.mod_eq_of_lt hX
  have HWy : Hid (win b k = b / 2 ^ k) := Nat.mod_eq_of_lt (by omega)
  have HS : Hid (LehN a b (2 ^ k) 1 (-1) (a / 2 ^ k) (b / 2 ^ k) 0 0 1 0 0 1) := LehN.start hle
  have HP : Hid (0 < 2 ^ k) := Nat.pow_pos (by omega)
  have HX := Lib.hid hX
  have HA := Lib.hid hA
  have HB := Lib.hid hB
  generalize hXX : a / 2 ^ k = X at hX hY HWx HS
  generalize hYY : b / 2 ^ k = Y at hY HWy HS
  clear hA hB hL0 hL1 hL2 hb64 ha0 hlA hk hXX hYY
  go_enter Tryd.func65, Tryd.ntmps65
  go_wp2_with fail
  refine (length_any _ _ _ _ _ (HA.out.box _) (by omega)).mono ?_
  rintro e w1 ⟨rfl, rfl⟩
  rw [hkL]
  go_wp2_with fail
  refine (window_any _ A n ca (digs a) a k (HA.out.box _) (digs_val _) (by omega) (by omega)).mono ?_
  rintro e w1 ⟨rfl, d1, rfl⟩
  rw [show (Int.toNat (k : Int)) = k from rfl, HWx.out]
  go_wp2_with fail
  refine (window_any _ B m cb (digs b) b k ((HB.out.box _).drewN d1) (digs_val _) (by omega) (by omega)).mono ?_
  rintro e w1 ⟨rfl, d2, rfl⟩
  rw [show (Int.toNat (k : Int)) = k from rfl, HWy.out]
  go_wp2
  go_loopw [6, 7] (fun xv yv wr => ∃ (s c : Int) (x y A0 B0 A1 B1 A2 B2 : Nat), xv = .int .u64 (x : Int) ∧ yv = .int .u64 (y : Int) ∧ LehN a b (2 ^ k) s c x y A0 B0 A1 B1 A2 B2 ∧
      c ≤ B2 ∧ (0 ≤ c → 1 ≤ B1) ∧ c ≤ 4294967296 ∧ Kd wr w.heap.size 92 (stV 0 0 0 0 0) ∧ Kd wr (w.heap.size + 1) 92 (stV c A0 B0 A1 B1) ∧ Kd wr (w.heap.size + 1 + 1) 90 (fcV A2 B2) ∧ Below w.heap.size w wr) (fun _ y _ => (intOf y).toNat)
  case atStart =>
    refine ⟨1, -1, X, Y, 0, 0, 1, 0, 0, 1, rfl, rfl, HS.out, by omega, by omega, by omega, (((Kd.new w _ rfl _ _).drewN _).alloc _).alloc _, (Kd.new _ _ (by simp) _ _).alloc _, Kd.new _ _ (by simp) _ _, ?_⟩
    exact ((bdrewN ((Below.refl _ _).alloc (Nat.le_refl _) _) _).alloc (by simp) _).alloc (by simp; omega) _
  case round =>
    obtain ⟨s, c, x, y, A0, B0, A1, B1, A2, B2, rfl, rfl, hI, hcB, hcz, hc9, hR, hS, hN, hb⟩ := hrel
    obtain ⟨l1, l2, l3, l4, l5⟩ := hI.bd HX.out
    have s0 := hS.cell 0
    have s1 := hS.cell 1
    have s2 := hS.cell 2
    have s3 := hS.cell 3
    have s4 := hS.cell 4
    have n0 := hN.cell 0
    have n1 := hN.cell 1
    simp only [stV, fcV, List.getElem?_toArray, List.getElem?_cons_zero, List.getElem?_cons_succ] at s0 s1 s2 s3 s4 n0 n1
    have f1 := hS.frozen 1
    have f2 := hS.frozen 2
    have f3 := hS.frozen 3
    have f4 := hS.frozen 4
    have f0 := hS.frozen 0
    have fn0 := hN.frozen 0
    have fn1 := hN.frozen 1
    have ltS := hS.lt
    have ltN := hN.lt
    have HI := Lib.hid hI
    have HR := Lib.hid hR
    have HSt := Lib.hid hS
    have HN := Lib.hid hN
    have HBl := Lib.hid hb
    have HCz := Lib.hid hcz
    clear hI hR hS hN hb hcz
    by_cases h1 : B2 ≤ y
    · by_cases h2 : B1 + B2 ≤ x - y
      · obtain ⟨g0, g1, g2, g3, g4, g5, g6, g7, g8, g9⟩ := HI.out.go HP.out HX.out h1 h2
        have HI2 := Lib.hid g0
        clear g0
        have i1 : (B2 : Int) ≤ (y : Int) := by omega
        have i2 : (B1 : Int) + (B2 : Int) ≤ (x : Int) - (y : Int) := by omega
        have hs9 := l4 (by omega)
        have hyi : ¬ ((y : Int) = 0) := by omega
        have q0 : (x : Int) / (y : Int) = ((x / y : Nat) : Int) := by rw [← Int.natCast_ediv]
        have q1 : (x : Int).tdiv (y : Int) = ((x / y : Nat) : Int) := by rw [Int.tdiv_eq_ediv_of_nonneg (by omega), ← Int.natCast_ediv]
        have hrl := Nat.mod_lt x (show 0 < y by omega)
        have hq9 : x / y < 18446744073709551616 := Nat.lt_of_le_of_lt (Nat.div_le_self _ _) l1
        generalize x / y = q at *
        generalize x % y = r at *
        clear h1 h2 l4
        go_wp2
        have HN3 : Hid (Kd (wr.alloc (.cells #[.int .u64 ((A1 : Int) + (q : Int) * (A2 : Int)), .int .u64 ((B1 : Int) + (q : Int) * (B2 : Int))] 90)) wr.heap.size 90 (fcV (A1 + q * A2) (B1 + q * B2))) := by
          have e := Kd.new wr _ rfl #[.int .u64 ((A1 : Int) + (q : Int) * (A2 : Int)), .int .u64 ((B1 : Int) + (q : Int) * (B2 : Int))] 90
          have e2 : fcV (A1 + q * A2) (B1 + q * B2) = #[.int .u64 ((A1 : Int) + (q : Int) * (A2 : Int)), .int .u64 ((B1 : Int) + (q : Int) * (B2 : Int))] := by unfold fcV; rw [Int.natCast_add, Int.natCast_add, Int.natCast_mul, Int.natCast_mul]
          rw [e2]; exact e
        have HR1 := Lib.hid (HR.out.alloc (.cells #[.int .u64 ((A1 : Int) + (q : Int) * (A2 : Int)), .int .u64 ((B1 : Int) + (q : Int) * (B2 : Int))] 90))
        have HS1 := Lib.hid (HSt.out.alloc (.cells #[.int .u64 ((A1 : Int) + (q : Int) * (A2 : Int)), .int .u64 ((B1 : Int) + (q : Int) * (B2 : Int))] 90))
        have HN1 := Lib.hid (HN.out.alloc (.cells #[.int .u64 ((A1 : Int) + (q : Int) * (A2 : Int)), .int .u64 ((B1 : Int) + (q : Int) * (B2 : Int))] 90))
        have HB1 := Lib.hid (HBl.out.alloc HBl.out.size (.cells #[.int .u64 ((A1 : Int) + (q : Int) * (A2 : Int)), .int .u64 ((B1 : Int) + (q : Int) * (B2 : Int))] 90))
        clear s0 s1 s2 s3 s4 n0 n1 f0 f1 f2 f3 f4 fn0 fn1
        generalize wr.alloc (.cells #[.int .u64 ((A1 : Int) + (q : Int) * (A2 : Int)), .int .u64 ((B1 : Int) + (q : Int) * (B2 : Int))] 90) = W1 at *
        have s0 := HS1.out.cell 0
        have s1 := HS1.out.cell 1
        have s2 := HS1.out.cell 2
        have s3 := HS1.out.cell 3
        have s4 := HS1.out.cell 4
        have n0 := HN1.out.cell 0
        have n1 := HN1.out.cell 1
        have m0 := HN3.out.cell 0
        have m1 := HN3.out.cell 1
        simp only [stV, fcV, List.getElem?_toArray, List.getElem?_cons_zero, List.getElem?_cons_succ] at s0 s1 s2 s3 s4 n0 n1 m0 m1
        have f0 := HS1.out.frozen 0
        have f1 := HS1.out.frozen 1
        have f2 := HS1.out.frozen 2
        have f3 := HS1.out.frozen 3
        have f4 := HS1.out.frozen 4
        have fn0 := HN1.out.frozen 0
        have fn1 := HN1.out.frozen 1
        have HBB : Hid (B1 + B2 ≤ B1 + q * B2) := Nat.add_le_add_left g9 B1
        generalize A1 + q * A2 = A3 at *
        generalize B1 + q * B2 = B3 at *
        have ne1 : ¬ (w.heap.size + 1 = wr.heap.size) := by omega
        have ne2 : ¬ (w.heap.size + 1 + 1 = wr.heap.size) := by omega
        generalize wr.heap.size = gN at *
        clear q0 q1
        go_region
        rw [show ((((((W1.setCell ⟨w.heap.size + 1, 1, none⟩ (.int .u64 (A1 : Int))).setCell ⟨w.heap.size + 1, 2, none⟩ (.int .u64 (B1 : Int))).setCell ⟨w.heap.size + 1, 3, none⟩ (.int .u64 (A2 : Int))).setCell ⟨w.heap.size + 1, 4, none⟩ (.int .u64 (B2 : Int))).setCell ⟨w.heap.size + 1 + 1, 0, none⟩ (.int .u64 (A3 : Int))).setCell ⟨w.heap.size + 1 + 1, 1, none⟩ (.int .u64 (B3 : Int))).drew = (xch W1 (w.heap.size + 1) (w.heap.size + 1 + 1) (.int .u64 (A1 : Int)) (.int .u64 (B1 : Int)) (.int .u64 (A2 : Int)) (.int .u64 (B2 : Int)) (.int .u64 (A3 : Int)) (.int .u64 (B3 : Int))) from rfl]
        have HS2 : Hid (Kd (xch W1 (w.heap.size + 1) (w.heap.size + 1 + 1) (.int .u64 (A1 : Int)) (.int .u64 (B1 : Int)) (.int .u64 (A2 : Int)) (.int .u64 (B2 : Int)) (.int .u64 (A3 : Int)) (.int .u64 (B3 : Int))) (w.heap.size + 1) 92 (stV c A1 B1 A2 B2)) := xch_g HS1.out (by omega)
        have HN2 : Hid (Kd (xch W1 (w.heap.size + 1) (w.heap.size + 1 + 1) (.int .u64 (A1 : Int)) (.int .u64 (B1 : Int)) (.int .u64 (A2 : Int)) (.int .u64 (B2 : Int)) (.int .u64 (A3 : Int)) (.int .u64 (B3 : Int))) (w.heap.size + 1 + 1) 90 (fcV A3 B3)) := xch_h HN1.out (by omega)
        have HR2 : Hid (Kd (xch W1 (w.heap.size + 1) (w.heap.size + 1 + 1) (.int .u64 (A1 : Int)) (.int .u64 (B1 : Int)) (.int .u64 (A2 : Int)) (.int .u64 (B2 : Int)) (.int .u64 (A3 : Int)) (.int .u64 (B3 : Int))) w.heap.size 92 (stV 0 0 0 0 0)) := xch_r HR1.out (by omega) (by omega)
        have HB2 : Hid (Below w.heap.size w (xch W1 (w.heap.size + 1) (w.heap.size + 1 + 1) (.int .u64 (A1 : Int)) (.int .u64 (B1 : Int)) (.int .u64 (A2 : Int)) (.int .u64 (B2 : Int)) (.int .u64 (A3 : Int)) (.int .u64 (B3 : Int)))) := xch_b HB1.out (by omega) (by omega)
        clear s0 s1 s2 s3 s4 n0 n1 f0 f1 f2 f3 f4 fn0 fn1 m0 m1 HS1 HN1 HR1 HB1
        generalize (xch W1 (w.heap.size + 1) (w.heap.size + 1 + 1) (.int .u64 (A1 : Int)) (.int .u64 (B1 : Int)) (.int .u64 (A2 : Int)) (.int .u64 (B2 : Int)) (.int .u64 (A3 : Int)) (.int .u64 (B3 : Int))) = W2 at *
        have s0 := HS2.out.cell 0
        simp only [stV, List.getElem?_toArray, List.getElem?_cons_zero] at s0
        have f0 := HS2.out.frozen 0
        go_wp2
        go_roundw
        case rel =>
          have HCz' := HCz.out
          refine ⟨-s, c + 1, y, r, A1, B1, A2, B2, A3, B3, by go_num, by go_num, HI2.out, ?_, by omega, by omega, HR2.out.far (show w.heap.size + 1 ≠ w.heap.size by omega) _, HS2.out.set_ 0 _, HN2.out.far (show w.heap.size + 1 ≠ w.heap.size + 1 + 1 by omega) _, HB2.out.setCell (p := ⟨w.heap.size + 1, 0, none⟩) (show w.heap.size ≤ w.heap.size + 1 by omega) _⟩
          by_cases hz : 0 ≤ c
          · have := HCz' hz; have := HBB.out; omega
          · omega
        case measure => simp [intOf]; omega
      · have i1 : (B2 : Int) ≤ (y : Int) := by omega
        have hs9 := l4 (by omega)
        have i2 : decide ((B1 : Int) + (B2 : Int) ≤ (x : Int) - (y : Int)) = false := by simp; omega
        have hs9i : (B1 : Int) + (B2 : Int) < 18446744073709551616 := by omega
        have i3 : (0 : Int) ≤ (x : Int) - (y : Int) := by omega
        clear l4
        have r0 := HR.out.cell 0
        have r1 := HR.out.cell 1
        have r2 := HR.out.cell 2
        have r3 := HR.out.cell 3
        have r4 := HR.out.cell 4
        simp only [stV, List.getElem?_toArray, List.getElem?_cons_zero, List.getElem?_cons_succ] at r0 r1 r2 r3 r4
        have k0 := HR.out.frozen 0
        have k1 := HR.out.frozen 1
        have k2 := HR.out.frozen 2
        have k3 := HR.out.frozen 3
        have k4 := HR.out.frozen 4
        go_wp2
        all_goals first
          | omega
          | (have e := st_sets (c := .int .i64 c) (a := .int .u64 (A0 : Int)) (b := .int .u64 (B0 : Int)) (d := .int .u64 (A1 : Int)) (e := .int .u64 (B1 : Int)) HR.out
             exact bodyPost_ret (res_s Tryd.results65 rfl (e.cell 0) (e.cell 1) (e.cell 2) (e.cell 3) (e.cell 4)) rfl ⟨c, A0, B0, A1, B1, rfl, hc9, ⟨_, _, _, _, _, _, HI.out⟩, st_setb HBl.out (Nat.le_refl _)⟩)
    · have i1 : decide ((B2 : Int) ≤ (y : Int)) = false := by simp; omega
      clear l4
      have r0 := HR.out.cell 0
      have r1 := HR.out.cell 1
      have r2 := HR.out.cell 2
      have r3 := HR.out.cell 3
      have r4 := HR.out.cell 4
      simp only [stV, List.getElem?_toArray, List.getElem?_cons_zero, List.getElem?_cons_succ] at r0 r1 r2 r3 r4
      have k0 := HR.out.frozen 0
      have k1 := HR.out.frozen 1
      have k2 := HR.out.frozen 2
      have k3 := HR.out.frozen 3
      have k4 := HR.out.frozen 4
      go_wp2
      all_goals first
        | omega
        | (have e := st_sets (c := .int .i64 c) (a := .int .u64 (A0 : Int)) (b := .int .u64 (B0 : Int)) (d := .int .u64 (A1 : Int)) (e := .int .u64 (B1 : Int)) HR.out
           exact bodyPost_ret (res_s Tryd.results65 rfl (e.cell 0) (e.cell 1) (e.cell 2) (e.cell 3) (e.cell 4)) rfl ⟨c, A0, B0, A1, B1, rfl, hc9, ⟨_, _, _, _, _, _, HI.out⟩, st_setb HBl.out (Nat.le_refl _)⟩)
end Go.Proofs.YtegpckhfncblhaaDoor

