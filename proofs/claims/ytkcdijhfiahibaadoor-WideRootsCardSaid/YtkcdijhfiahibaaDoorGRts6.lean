/- Lemmas, part 6. -/
import Derived.Laws.MathBits
import Derived.Deep.DeepCutAuto
import Derived.Deep.CutBlock
import Derived.Laws.BitsLemmas
import Derived.Test.YtkcdijhfiahibaaDoorGRts5
/- The reference's digit. -/
namespace Go.Proofs.YtkcdijhfiahibaaDoor
open Go.RowKit

theorem spl_get {cs M : List Nat} {off k : Nat} (h : off + M.length ≤ cs.length) (hk : k < M.length) : (spl cs off M)[off + k]?.getD 0 = M[k]?.getD 0 := by
  have hl : (cs.take off).length = off := by rw [List.length_take]; omega
  unfold spl
  rw [List.getElem?_append_right (by omega), hl, Nat.add_sub_cancel_left, List.getElem?_append_left hk]
theorem spl_seti {cs M : List Nat} {off k : Nat} (t : Nat) (h : off + M.length ≤ cs.length) (hk : k < M.length) : (spl cs off M).set (off + k) t = spl cs off (M.set k t) := by
  have hl : (cs.take off).length = off := by rw [List.length_take]; omega
  unfold spl
  rw [List.set_append_right _ _ (by omega), hl, Nat.add_sub_cancel_left, List.set_append_left _ _ hk, List.length_set]

set_option maxRecDepth 100000 in
set_option maxHeartbeats 4000000 in
theorem rdigit_any (w : World) (g off c n cb : Nat) (B : Option Addr) (cs ys : List Nat) (V : Nat) (hO : Ob w g cs) (hG : Good cs) (hB : Lm w g B n cb ys) (hn2 : 2 ≤ n) (hn9 : n ≤ 1000000000) (hc : n + 1 ≤ c) (hc9 : c ≤ 9223372036854775807)
    (hoff : off + n < cs.length) (hV : val ys = V) (hV0 : 0 < V) (h1 : 1 ≤ ys[n - 1]?.getD 0) (hle : cs[off + n]?.getD 0 ≤ ys[n - 1]?.getD 0)
    (hX : val ((cs.drop off).take (n + 1)) / V ≤ gs (ys[n - 1]?.getD 0) (ys[n - 2]?.getD 0) (cs[off + n]?.getD 0) (cs[off + (n - 1)]?.getD 0) (cs[off + (n - 2)]?.getD 0)) :
    Calls Tryd.prog 78 #[.slice (some ⟨g, off, none⟩) (n + 1) c, .slice B n cb] w fun e w' => e = .returned (.int .u32 ((val ((cs.drop off).take (n + 1)) / V : Nat) : Int)) ∧
      (∃ P, P.length = n + 1 ∧ Good P ∧ val P = val ((cs.drop off).take (n + 1)) % V ∧ Ob w' g (spl cs off P)) ∧ w.grownBy w' (some g) := by
  have hcap := hB.cap
  have hmax := hB.max
  have g1 := hB.good.get (n - 1)
  have g2 := hB.good.get (n - 2)
  have gh := hG.get (off + n)
  have gu1 := hG.get (off + (n - 1))
  have gu2 := hG.get (off + (n - 2))
  have ch := hO.cell (i := off + n) (by omega)
  have cu1 := hO.cell (i := off + (n - 1)) (by omega)
  have cu2 := hO.cell (i := off + (n - 2)) (by omega)
  have hgs := hO.lt
  have HO := Lib.hid hO
  have HG := Lib.hid hG
  have HB := Lib.hid hB
  have HV := Lib.hid hV
  have HOff := Lib.hid hoff
  obtain ⟨X, HXd⟩ : ∃ X, Hid (X = val ((cs.drop off).take (n + 1))) := ⟨_, rfl⟩
  rw [← HXd.out] at hX ⊢
  obtain ⟨bb, bo, rfl, hbb, cb1⟩ := hB.cell (k := n - 1) (by omega)
  obtain ⟨bb', bo', e, _, cb2⟩ := hB.cell (k := n - 2) (by omega)
  cases e
  clear hO hB hG hV
  generalize ys[n - 1]?.getD 0 = b1 at *
  generalize ys[n - 2]?.getD 0 = b2 at *
  generalize cs[off + n]?.getD 0 = h at *
  generalize cs[off + (n - 1)]?.getD 0 = u1 at *
  generalize cs[off + (n - 2)]?.getD 0 = u2 at *
  have i1 : ((n : Int) - 1).toNat = n - 1 := by omega
  have i2 : ((n : Int) - 2).toNat = n - 2 := by omega
  obtain ⟨hi, hhi⟩ : ∃ hi : Nat, hi = h * 4294967296 + u1 := ⟨_, rfl⟩
  have hq0' : (hi : Int) / (b1 : Int) = ((hi / b1 : Nat) : Int) := by rw [← Int.natCast_ediv]
  have hr0' : (hi : Int) % (b1 : Int) = ((hi % b1 : Nat) : Int) := by rw [← Int.natCast_emod]
  have hq0 : (hi : Int).tdiv (b1 : Int) = ((hi / b1 : Nat) : Int) := by rw [Int.tdiv_eq_ediv_of_nonneg (by omega), ← Int.natCast_ediv]
  have hr0 : (hi : Int).tmod (b1 : Int) = ((hi % b1 : Nat) : Int) := by rw [Int.tmod_eq_emod_of_nonneg (by omega), ← Int.natCast_emod]
  have hb0 : ¬ ((b1 : Int) = 0) := by omega
  have hdm := Nat.div_add_mod hi b1
  have hrl := Nat.mod_lt hi (show 0 < b1 by omega)
  have hD9 := Nat.div_le_self hi b1
  generalize hi / b1 = D0 at *
  generalize hi % b1 = R0 at *
  have hi9 : hi < 18446744073709551616 := by omega
  have hbit : IntKind.u64.wrap ((h : Int) * 4294967296 + (u1 : Int)) = (hi : Int) := by rw [IntKind.wrap_u64]; omega
  obtain ⟨Q, hQ⟩ : ∃ Q, Q = gs b1 b2 h u1 u2 := ⟨_, rfl⟩
  have hQ0 : Q ≤ D0 := by rw [hQ]; exact gs_start gu2 (by rw [← hhi]; exact hdm) hrl
  rw [← hQ] at hX
  have HI := Lib.hid hhi
  have HQ := Lib.hid hQ
  have HXq := Lib.hid hX
  clear hhi hQ hX
  go_enter Tryd.func78, Tryd.ntmps78
  go_wp2
  go_quiet (fail)
  go_wp2
  go_quiet (fail)
  go_upto_block 0 with (fail)
  go_cut [7] (fun s7 wx => ∃ D d : Nat, s7 = .int .u64 (D : Int) ∧ Q ≤ D ∧ D ≤ 4294967295 ∧ wx = w.drewN d)
  case first =>
    go_wp2
    go_loopw [7, 8] (fun x r wr => ∃ D R d : Nat, x = .int .u64 (D : Int) ∧ r = .int .u64 (R : Int) ∧ D * b1 + R = hi ∧ Q ≤ D ∧ wr = w.drewN d) (fun x _ _ => (intOf x).toNat)
    case atStart => exact ⟨D0, R0, _, rfl, rfl, by rw [Nat.mul_comm]; exact hdm, hQ0, drewN_add w _ _⟩
    case round =>
      obtain ⟨D, R, d, rfl, rfl, hDR, hQD, rfl⟩ := hrel
      have hDle : D ≤ hi := by
        have := Nat.le_mul_of_pos_right D (show 0 < b1 by omega)
        omega
      have hRle : R ≤ hi := by omega
      have HDR := Lib.hid hDR
      clear hDR
      by_cases hd : 4294967296 ≤ D
      · have hlt : Q < D := by rw [HQ.out]; exact gs_lt (by omega) (by rw [← HI.out]; exact HDR.out) (.inl (by omega))
        have HDM : Hid ((D - 1) * b1 + (R + b1) = D * b1 + R) := by show _ = _; rw [Nat.sub_mul, Nat.one_mul]; have := Nat.le_mul_of_pos_left b1 (show 0 < D by omega); omega
        have hRb : R + b1 ≤ hi := by have := HDM.out; have := HDR.out; omega
        have hdi : (4294967296 : Int) ≤ (D : Int) := by omega
        go_wp2_with fail
        go_quiet (fail)
        go_wp2
        all_goals
          first
          | (go_meet; exact ⟨D - 1, _, by go_num, by omega, by omega, by first | exact drewN_add w _ _ | rfl⟩)
          | (go_roundw
             case rel => exact ⟨D - 1, R + b1, _, by go_num, by go_num, by rw [← HDR.out]; exact HDM.out, by omega, rfl⟩
             case measure => simp [intOf]; omega)
      · have hdd : decide ((4294967296 : Int) ≤ (D : Int)) = false := by simp; omega
        by_cases hR : R < 4294967296
        · have hRi : (R : Int) < 4294967296 := by omega
          have hmul := mul_bd (show D < 4294967296 by omega) g2
          obtain ⟨T, hT⟩ : ∃ T : Nat, T = R * 4294967296 + u2 := ⟨_, rfl⟩
          have hbit2 : IntKind.u64.wrap ((R : Int) * 4294967296 + (u2 : Int)) = (T : Int) := by rw [IntKind.wrap_u64]; omega
          have HT := Lib.hid hT
          clear hT
          by_cases hp : T < D * b2
          · have hlt : Q < D := by rw [HQ.out]; exact gs_lt (by omega) (by rw [← HI.out]; exact HDR.out) (.inr (by rw [← HT.out]; exact hp))
            have HDM : Hid ((D - 1) * b1 + (R + b1) = D * b1 + R) := by show _ = _; rw [Nat.sub_mul, Nat.one_mul]; have := Nat.le_mul_of_pos_left b1 (show 0 < D by omega); omega
            have hRb : R + b1 ≤ hi := by have := HDM.out; have := HDR.out; omega
            have hpi : (T : Int) < (D : Int) * (b2 : Int) := by rw [← Int.natCast_mul]; omega
            clear hp
            by_cases hR2 : R + b1 < 4294967296
            case' pos => have hR2i : (R : Int) + (b1 : Int) < 4294967296 := by omega
            case' pos => have hR2d : decide ((4294967296 : Int) ≤ (R : Int) + (b1 : Int)) = false := by simp; omega
            case' neg => have hR2i : (4294967296 : Int) ≤ (R : Int) + (b1 : Int) := by omega
            all_goals have hD1i : (D : Int) - 1 < 4294967296 := by omega
            all_goals clear hR2
            all_goals
              go_wp2_with fail
              go_quiet (fail)
              go_wp2
            · go_meet
              exact ⟨D - 1, _, by go_num, by omega, by omega, by first | exact drewN_add w _ _ | rfl⟩
            · go_roundw
              case rel => exact ⟨D - 1, R + b1, _, by go_num, by go_num, by rw [← HDR.out]; exact HDM.out, by omega, rfl⟩
              case measure => simp [intOf]; omega
          · have hpd : decide ((T : Int) < (D : Int) * (b2 : Int)) = false := by rw [← Int.natCast_mul]; simp; omega
            go_wp2_with fail
            go_quiet (fail)
            go_wp2
            go_meet
            exact ⟨D, _, rfl, hQD, by omega, drewN_add w _ _⟩
        · have hRd : decide ((R : Int) < 4294967296) = false := by simp; omega
          go_wp2_with fail
          go_quiet (fail)
          go_wp2
          go_meet
          exact ⟨D, _, rfl, hQD, by omega, drewN_add w _ _⟩
  case rest =>
    obtain ⟨D, d, rfl, hQD, hDq, rfl⟩ := hcut
    clear hq0' hr0' hq0 hr0 hb0 hdm hrl hD9 hbit hQ0 hle i1 i2 ch cu1 cu2 cb1 cb2 gh gu1 gu2 g2 hi9 HI hoff
    have HXD : Hid (X / V ≤ D) := Nat.le_trans HXq.out hQD
    clear HXq hQD HQ
    have HCar := Lib.hid (fun k => sbK_carry (HG.out.drop off) HB.out.good (show D < 4294967296 by omega) k)
    go_wp2
    go_loopw [9, 10, 11] (fun bw cy i wr => ∃ k cc bw' : Nat, k ≤ n + 1 ∧ i = .int .i64 k ∧ cy = .int .u64 (cc : Int) ∧ bw = .int .i64 (bw' : Int) ∧ bw' ≤ 1 ∧ cc + bw' = (sbK (cs.drop off) ys D k).2 ∧ (n < k → cc = 0) ∧ Ob wr g (spl cs off (sbK (cs.drop off) ys D k).1) ∧ w.grownBy wr (some g)) (fun _ _ i _ => n + 1 - (intOf i).toNat)
    case atStart => exact ⟨0, 0, 0, Nat.zero_le _, rfl, rfl, rfl, Nat.zero_le _, rfl, fun _ => rfl, by show Ob _ g (spl cs off []); rw [spl_nil]; exact HO.out, grownBy_drewN (World.grownBy.refl w _) d⟩
    case round =>
      obtain ⟨k, cc, bw, hk, rfl, rfl, rfl, hbw, hcb, hcz, hOk, hgk⟩ := hrel
      by_cases hkn : k ≤ n
      · have hoff := HOff.out
        have hln := sbK_len (cs.drop off) ys D k
        have hct := hOk.cell (i := off + k) (by rw [spl_len (by omega)]; omega)
        have hat := spl_at (cs := cs) (off := off) (ts := (sbK (cs.drop off) ys D k).1) (by omega)
        rw [hln] at hat
        rw [hat] at hct
        have hfr := hOk.frozen (off + k)
        have hpg := HG.out.get (off + k)
        have hcl := HCar.out k
        have hyg := HB.out.good.get k
        have hmul := mul_bd (show D < 4294967296 by omega) hyg
        have HCb := Lib.hid hcb
        have HOk := Lib.hid hOk
        have HGk := Lib.hid hgk
        have HLn := Lib.hid hln
        have hcl2 : cc < 4294967296 := by omega
        clear hcb hOk hgk hln hat hcl hcz hoff
        have HFin : Hid (∀ (wz : World) (E bw2 : Nat), E = cc + ys[k]?.getD 0 * D → bw2 = (if cs[off + k]?.getD 0 < E % 4294967296 + bw then 1 else 0) → Ob wz g ((spl cs off (sbK (cs.drop off) ys D k).1).set (off + k) ((cs[off + k]?.getD 0 + 8589934592 - E % 4294967296 - bw) % 4294967296)) → w.grownBy wz (some g) →
            ∃ k' cc' bw' : Nat, k' ≤ n + 1 ∧ Value.int .i64 ((k : Int) + 1) = .int .i64 k' ∧ Value.int .u64 ((E : Int) / 4294967296) = .int .u64 (cc' : Int) ∧ Value.int .i64 (bw2 : Int) = .int .i64 (bw' : Int) ∧ bw' ≤ 1 ∧ cc' + bw' = (sbK (cs.drop off) ys D k').2 ∧ (n < k' → cc' = 0) ∧ Ob wz g (spl cs off (sbK (cs.drop off) ys D k').1) ∧ w.grownBy wz (some g)) := by
          intro wz E bw2 h1 h2 h3 h4
          have hst := dg_step (m := ys[k]?.getD 0 * D) HCb.out hbw hpg
          rw [← h1, ← h2] at hst
          have hdr : (cs.drop off)[k]?.getD 0 = cs[off + k]?.getD 0 := by rw [List.getElem?_drop]
          have e2 : (sbK (cs.drop off) ys D (k + 1)).2 = ((sbK (cs.drop off) ys D k).2 + ys[k]?.getD 0 * D) / 4294967296 + (if (cs.drop off)[k]?.getD 0 < ((sbK (cs.drop off) ys D k).2 + ys[k]?.getD 0 * D) % 4294967296 then 1 else 0) := rfl
          have e1 : (sbK (cs.drop off) ys D (k + 1)).1 = (sbK (cs.drop off) ys D k).1 ++ [((cs.drop off)[k]?.getD 0 + 4294967296 - ((sbK (cs.drop off) ys D k).2 + ys[k]?.getD 0 * D) % 4294967296) % 4294967296] := rfl
          rw [hdr] at e1 e2
          refine ⟨k + 1, E / 4294967296, bw2, by omega, by go_num, congrArg (Value.int IntKind.u64) (Int.natCast_ediv _ _).symm, rfl, by rw [h2]; split <;> omega, by rw [e2, hst.2], ?_, ?_, h4⟩
          · intro hlt
            have hz := getD_over (xs := ys) (k := k) (by rw [HB.out.len]; omega)
            rw [hz, Nat.zero_mul, Nat.add_zero] at h1
            rw [h1]
            exact Nat.div_eq_of_lt hcl2
          · have hs := spl_set (cs := cs) (off := off) (ts := (sbK (cs.drop off) ys D k).1) ((cs[off + k]?.getD 0 + 8589934592 - E % 4294967296 - bw) % 4294967296) (by have := HOff.out; rw [HLn.out]; omega)
            rw [HLn.out] at hs
            rw [e1, ← hst.1, ← hs]
            exact h3
        by_cases hkl : k < n
        · obtain ⟨b1', bo1', e1, _, hcy⟩ := (HB.out.grownLt HGk.out (Nat.le_of_lt hgs)).cell hkl
          cases e1
          obtain ⟨E, hE⟩ : ∃ E : Nat, E = cc + ys[k]?.getD 0 * D := ⟨_, rfl⟩
          rw [Nat.mul_comm] at hmul
          have hE9 : E < 18446744073709551616 := by omega
          have hEw : IntKind.u64.wrap ((cc : Int) + IntKind.u64.wrap ((D : Int) * ((ys[k]?.getD 0 : Nat) : Int))) = (E : Int) := by
            rw [← Int.natCast_mul, Nat.mul_comm, IntKind.wrap_u64, IntKind.wrap_u64]
            omega
          obtain ⟨m, hm⟩ : ∃ m, m = E % 4294967296 := ⟨_, rfl⟩
          have hand : bits .and .u64 (E : Int) 4294967295 = (m : Int) := by rw [and_low32 _ (by omega) (by omega), hm]; omega
          have hm9 : m < 4294967296 := by omega
          have HE := Lib.hid hE
          have HM := Lib.hid hm
          clear hE hmul hm
          by_cases hng : cs[off + k]?.getD 0 < m + bw
          · have hti : ((cs[off + k]?.getD 0 : Nat) : Int) - (m : Int) - (bw : Int) < 0 := by omega
            go_wp2
            go_roundw
            case rel =>
              have e3 : (((cs[off + k]?.getD 0 : Nat) : Int) - (m : Int) - (bw : Int) + 4294967296) = (((cs[off + k]?.getD 0 + 8589934592 - E % 4294967296 - bw) % 4294967296 : Nat) : Int) := by have := HM.out; omega
              rw [e3]
              exact HFin.out _ E 1 HE.out (by rw [if_pos (by have := HM.out; omega)]) (HOk.out.set_ (off + k) _) (grownBy_trans HGk.out (grownBy_setCellAt _ _ _ _))
            case measure => simp [intOf]; omega
          · have hti : 0 ≤ ((cs[off + k]?.getD 0 : Nat) : Int) - (m : Int) - (bw : Int) := by omega
            have htd : decide (((cs[off + k]?.getD 0 : Nat) : Int) - (m : Int) - (bw : Int) < 0) = false := by simp; omega
            go_wp2
            go_roundw
            case rel =>
              have e3 : (((cs[off + k]?.getD 0 : Nat) : Int) - (m : Int) - (bw : Int)) = (((cs[off + k]?.getD 0 + 8589934592 - E % 4294967296 - bw) % 4294967296 : Nat) : Int) := by have := HM.out; omega
              rw [e3]
              exact HFin.out _ E 0 HE.out (by rw [if_neg (by have := HM.out; omega)]) (HOk.out.set_ (off + k) _) (grownBy_trans HGk.out (grownBy_setCellAt _ _ _ _))
            case measure => simp [intOf]; omega
        · obtain rfl : k = n := by omega
          have hand : bits .and .u64 (cc : Int) 4294967295 = (cc : Int) := by rw [and_low32 _ (by omega) (by omega)]; omega
          have HZ : Hid (cc = cc + ys[k]?.getD 0 * D) := by
            show _ = _
            rw [getD_over (xs := ys) (k := k) (by rw [HB.out.len]; omega), Nat.zero_mul, Nat.add_zero]
          clear hmul
          by_cases hng : cs[off + k]?.getD 0 < cc + bw
          · have hti : ((cs[off + k]?.getD 0 : Nat) : Int) - (cc : Int) - (bw : Int) < 0 := by omega
            go_wp2
            go_roundw
            case rel =>
              have e3 : (((cs[off + k]?.getD 0 : Nat) : Int) - (cc : Int) - (bw : Int) + 4294967296) = (((cs[off + k]?.getD 0 + 8589934592 - cc % 4294967296 - bw) % 4294967296 : Nat) : Int) := by omega
              rw [e3]
              exact HFin.out _ cc 1 HZ.out (by rw [if_pos (by omega)]) (HOk.out.set_ (off + k) _) (grownBy_trans HGk.out (grownBy_setCellAt _ _ _ _))
            case measure => simp [intOf]
          · have hti : 0 ≤ ((cs[off + k]?.getD 0 : Nat) : Int) - (cc : Int) - (bw : Int) := by omega
            have htd : decide (((cs[off + k]?.getD 0 : Nat) : Int) - (cc : Int) - (bw : Int) < 0) = false := by simp; omega
            go_wp2
            go_roundw
            case rel =>
              have e3 : (((cs[off + k]?.getD 0 : Nat) : Int) - (cc : Int) - (bw : Int)) = (((cs[off + k]?.getD 0 + 8589934592 - cc % 4294967296 - bw) % 4294967296 : Nat) : Int) := by omega
              rw [e3]
              exact HFin.out _ cc 0 HZ.out (by rw [if_neg (by omega)]) (HOk.out.set_ (off + k) _) (grownBy_trans HGk.out (grownBy_setCellAt _ _ _ _))
            case measure => simp [intOf]
      · obtain rfl : k = n + 1 := by omega
        have hcc : cc = 0 := hcz (by omega)
        have HI3 : Hid (val (sbK (cs.drop off) ys D (n + 1)).1 + V * D = X + 4294967296 ^ (n + 1) * bw) := by
          show _ = _
          have e := sbK_val (xs := ys) (HG.out.drop off) D (n + 1)
          rw [List.take_of_length_le (by rw [HB.out.len]; omega), HV.out, ← HXd.out, ← hcb, hcc, Nat.zero_add] at e
          exact e
        have HOk := Lib.hid hOk
        have HGk := Lib.hid hgk
        have HLn := Lib.hid (sbK_len (cs.drop off) ys D (n + 1))
        have HTg := Lib.hid (sbK_good (cs.drop off) ys D (n + 1))
        clear hcb hcc hcz hOk hgk hkn hk
        go_wp2
        go_loopw [7, 9] (fun q bz wr' => ∃ (qq bb' : Nat) (T : List Nat), q = .int .u64 (qq : Int) ∧ bz = .int .i64 (bb' : Int) ∧ bb' ≤ 1 ∧ qq ≤ 4294967295 ∧ X / V ≤ qq ∧ T.length = n + 1 ∧ Good T ∧ val T + V * qq = X + 4294967296 ^ (n + 1) * bb' ∧ Ob wr' g (spl cs off T) ∧ w.grownBy wr' (some g)) (fun q _ _ => (intOf q).toNat)
        case atStart => exact ⟨D, bw, _, rfl, rfl, hbw, hDq, HXD.out, HLn.out, HTg.out, HI3.out, HOk.out, HGk.out⟩
        case round =>
          obtain ⟨qq, bb', T, rfl, rfl, hb1', hq9, hXq, hTl, hTG, hTv, hOT, hgT⟩ := hrel
          have HTl := Lib.hid hTl
          have HTG := Lib.hid hTG
          have HTv := Lib.hid hTv
          have HXq := Lib.hid hXq
          have HOT := Lib.hid hOT
          have HGT := Lib.hid hgT
          clear hTl hTG hTv hXq hOT hgT
          rcases Nat.eq_zero_or_pos bb' with h0 | h0
          · subst h0
            have HDn := Lib.hid (dg_done hV0 (by have e := HTv.out; rw [Nat.mul_zero, Nat.add_zero] at e; exact e) HXq.out)
            go_wp2
            go_ret
            exact ⟨ret_int (by rw [HDn.out.1]), ⟨T, HTl.out, HTG.out, HDn.out.2, HOT.out⟩, HGT.out⟩
          · obtain rfl : bb' = 1 := by omega
            have hTlt := val_lt HTG.out
            rw [HTl.out] at hTlt
            have hmo := dg_more hV0 (by have e := HTv.out; rw [Nat.mul_one] at e; exact e) hTlt
            have hq1 := hmo.1
            have HXq1 := Lib.hid hmo.2
            clear hmo hTlt
            go_wp2
            go_loopw [10, 13] (fun cy i wj => ∃ k : Nat, k ≤ n + 1 ∧ i = .int .i64 k ∧ cy = .int .u64 ((addK T ys k).2 : Nat) ∧ Ob wj g (spl cs off (spl T 0 (addK T ys k).1)) ∧ w.grownBy wj (some g)) (fun _ i _ => n + 1 - (intOf i).toNat)
            case atStart => exact ⟨0, Nat.zero_le _, rfl, rfl, by show Ob _ g (spl cs off (spl T 0 [])); rw [spl_nil]; exact HOT.out, HGT.out⟩
            case round =>
              obtain ⟨k, hk, rfl, rfl, hOj, hgj⟩ := hrel
              have HOj := Lib.hid hOj
              clear hOj
              have hcar := addK_carry HTG.out HB.out.good k
              have HAl := Lib.hid (addK_len T ys k)
              by_cases hkn : k ≤ n
              · have HMl : Hid ((spl T 0 (addK T ys k).1).length = n + 1) := by show _ = _; rw [spl_len (by rw [HAl.out, HTl.out]; omega), HTl.out]
                have hct := HOj.out.cell (i := off + k) (by have := HOff.out; rw [spl_len (by rw [HMl.out]; omega)]; omega)
                have hge : (spl cs off (spl T 0 (addK T ys k).1))[off + k]?.getD 0 = T[k]?.getD 0 := by
                  rw [spl_get (by have := HOff.out; rw [HMl.out]; omega) (by rw [HMl.out]; omega)]
                  have e := spl_at (cs := T) (off := 0) (ts := (addK T ys k).1) (by rw [HAl.out, HTl.out]; omega)
                  rw [HAl.out, Nat.zero_add] at e
                  exact e
                rw [hge] at hct
                have hfr := HOj.out.frozen (off + k)
                have hTg := HTG.out.get k
                have hyg := HB.out.good.get k
                have HFin : Hid (∀ (wz : World) (E : Int), E = (((addK T ys k).2 + (T[k]?.getD 0 + ys[k]?.getD 0) : Nat) : Int) → Ob wz g ((spl cs off (spl T 0 (addK T ys k).1)).set (off + k) (((addK T ys k).2 + (T[k]?.getD 0 + ys[k]?.getD 0)) % 4294967296)) → w.grownBy wz (some g) →
                    ∃ k' : Nat, k' ≤ n + 1 ∧ Value.int .i64 ((k : Int) + 1) = .int .i64 k' ∧ Value.int .u64 (E / 4294967296) = .int .u64 ((addK T ys k').2 : Nat) ∧ Ob wz g (spl cs off (spl T 0 (addK T ys k').1)) ∧ w.grownBy wz (some g)) := by
                  intro wz E h1 h2 h3
                  refine ⟨k + 1, by omega, by go_num, ?_, ?_, h3⟩
                  · rw [h1]
                    exact congrArg (Value.int IntKind.u64) (Int.natCast_ediv _ _).symm
                  · rw [spl_seti _ (by have := HOff.out; rw [HMl.out]; omega) (by rw [HMl.out]; omega)] at h2
                    have e := spl_set (cs := T) (off := 0) (ts := (addK T ys k).1) (((addK T ys k).2 + (T[k]?.getD 0 + ys[k]?.getD 0)) % 4294967296) (by rw [HAl.out, HTl.out]; omega)
                    rw [HAl.out, Nat.zero_add] at e
                    rw [e] at h2
                    exact h2
                clear hge
                by_cases hkl : k < n
                · obtain ⟨b1', bo1', e1, _, hcy⟩ := (HB.out.grownLt hgj (Nat.le_of_lt hgs)).cell hkl
                  cases e1
                  go_wp2
                  go_roundw
                  case rel =>
                    refine HFin.out _ _ (by omega) ?_ (grownBy_trans hgj (grownBy_setCellAt _ _ _ _))
                    have e := HOj.out.set_ (off + k) (((addK T ys k).2 + (T[k]?.getD 0 + ys[k]?.getD 0)) % 4294967296)
                    have e3 : ((((addK T ys k).2 + (T[k]?.getD 0 + ys[k]?.getD 0)) % 4294967296 : Nat) : Int) = (((addK T ys k).2 : Nat) + ((T[k]?.getD 0 : Nat) : Int) + ((ys[k]?.getD 0 : Nat) : Int)) % 4294967296 := by omega
                    rw [e3] at e
                    exact e
                  case measure => simp [intOf]; omega
                · obtain rfl : k = n := by omega
                  have HZ := Lib.hid (getD_over (xs := ys) (k := k) (by rw [HB.out.len]; omega))
                  go_wp2
                  go_roundw
                  case rel =>
                    have hz := HZ.out
                    refine HFin.out _ _ (by omega) ?_ (grownBy_trans hgj (grownBy_setCellAt _ _ _ _))
                    have e := HOj.out.set_ (off + k) (((addK T ys k).2 + (T[k]?.getD 0 + ys[k]?.getD 0)) % 4294967296)
                    have e3 : ((((addK T ys k).2 + (T[k]?.getD 0 + ys[k]?.getD 0)) % 4294967296 : Nat) : Int) = (((addK T ys k).2 : Nat) + ((T[k]?.getD 0 : Nat) : Int)) % 4294967296 := by omega
                    rw [e3] at e
                    exact e
                  case measure => simp [intOf]
              · obtain rfl : k = n + 1 := by omega
                have HE : Hid (spl T 0 (addK T ys (n + 1)).1 = (addK T ys (n + 1)).1) := by
                  show T.take 0 ++ ((addK T ys (n + 1)).1 ++ T.drop (0 + (addK T ys (n + 1)).1.length)) = _
                  rw [HAl.out, List.drop_of_length_le (by rw [HTl.out]; omega), List.append_nil]; rfl
                have HBk : Hid (val (addK T ys (n + 1)).1 + V * (qq - 1) = X + 4294967296 ^ (n + 1) * (1 - (addK T ys (n + 1)).2)) := by
                  refine dg_back hq1 (by have e := HTv.out; rw [Nat.mul_one] at e; exact e) ?_ hcar
                  rw [addK_val, List.take_of_length_le (by rw [HTl.out]; exact Nat.le_refl _), List.take_of_length_le (by rw [HB.out.len]; omega), HV.out]
                go_wp2
                go_roundw
                case rel =>
                  refine ⟨qq - 1, 1 - (addK T ys (n + 1)).2, (addK T ys (n + 1)).1, by go_num, by go_num, by omega, by omega, HXq1.out, HAl.out, addK_good _ _ _, HBk.out, ?_, hgj⟩
                  have e := HOj.out
                  rw [HE.out] at e
                  exact e
                case measure => simp [intOf]; omega
end Go.Proofs.YtkcdijhfiahibaaDoor

/- The reference's over. -/
namespace Go.Proofs.YtkcdijhfiahibaaDoor
open Go.RowKit

set_option maxRecDepth 100000 in
set_option maxHeartbeats 1000000 in
theorem rover_less (w : World) (A B : Option Addr) (n m ca cb b v : Nat) (xs : List Nat) (hA : Lm w w.heap.size A n ca xs) (hB : Lm w w.heap.size B m cb (digs b)) (hv : val xs = v) (hC : cmpL xs (digs b) = -1) (hlt : v < b) (hn9 : n ≤ 1000000) :
    Calls Tryd.prog 51 #[.slice A n ca, .slice B m cb] w (RD w (v / b) (v % b)) := by
  have HC := Lib.hid hC
  have HA := Lib.hid hA
  have HB := Lib.hid hB
  have HV := Lib.hid hv
  have hcB := hB.cap
  have hxB := hB.max
  rw [Nat.div_eq_of_lt hlt, Nat.mod_eq_of_lt hlt]
  clear hA hB hlt hv hC
  go_enter Tryd.func51, Tryd.ntmps51
  go_wp2_with fail
  refine (rcompare_any A B n m ca cb xs (digs b) w HA.out HB.out).mono ?_
  rintro e w1 ⟨he, d, rfl⟩
  rw [HC.out] at he
  subst he
  go_wp2_with fail
  refine (rtrim_any _ _ _ _ xs v (HA.out.drewN d) HV.out (by omega)).mono ?_
  rintro e w2 ⟨A2, c2, rfl, hL2, hb2⟩
  go_wp2
  go_ret2
  refine ⟨none, 0, A2, c2, rfl, Lm.nil _ _, hL2, (bdrewN (Below.refl w.heap.size w) d).trans hb2⟩

set_option maxRecDepth 100000 in
set_option maxHeartbeats 1000000 in
theorem rover_one (w : World) (A B : Option Addr) (n ca cb b v : Nat) (xs : List Nat) (hA : Lm w w.heap.size A n ca xs) (hB : Lm w w.heap.size B 1 cb (digs b)) (hv : val xs = v) (hC : 0 ≤ cmpL xs (digs b)) (hn9 : n ≤ 1000000) :
    Calls Tryd.prog 51 #[.slice A n ca, .slice B 1 cb] w (RD w (v / b) (v % b)) := by
  obtain ⟨z, hz, HC⟩ : ∃ z : Int, decide (z < 0) = false ∧ Hid (cmpL xs (digs b) = z) := ⟨_, by simp; omega, rfl⟩
  have hb0 : 0 < b := by rw [← digs_pos, hB.len]; omega
  have hbe : (digs b)[0]?.getD 0 = b := by
    have h1 := val_take_succ' (digs b) 0
    rw [List.take_of_length_le (by rw [hB.len]; omega), digs_val] at h1
    simpa [val_nil] using h1.symm
  have hb9 := hB.good.get 0
  obtain ⟨bb, bo, rfl, hbb, cb1⟩ := hB.cell (k := 0) (by omega)
  rw [hbe] at cb1 hb9
  rw [Nat.add_zero] at cb1
  have hcB := hB.cap
  have hxB := hB.max
  have HA := Lib.hid hA
  have HB := Lib.hid hB
  have HV := Lib.hid hv
  clear hA hB hbe hv hC
  go_enter Tryd.func51, Tryd.ntmps51
  go_wp2_with fail
  refine (rcompare_any A (some ⟨bb, bo, none⟩) n 1 ca cb xs (digs b) w HA.out HB.out).mono ?_
  rintro e w1 ⟨he, d, rfl⟩
  rw [HC.out] at he
  subst he
  go_wp2_with fail
  refine (rshort_any (w.drewN d) A n ca b xs v (HA.out.drewN d) (by omega) hb0 hb9 HV.out).mono ?_
  rintro e w2 ⟨Q, cq, R, cr, rfl, hQ, hR, hb2⟩
  go_wp2
  go_ret2
  exact ⟨Q, cq, R, cr, rfl, hQ, hR, (bdrewN (Below.refl w.heap.size w) d).trans hb2⟩

theorem up_aux {x s l : Nat} (l1 : 1 ≤ l) (l2 : 2 ^ (l - 1) ≤ x) (l3 : x < 2 ^ l) (h1 : 2 ^ 31 ≤ x * 2 ^ s) (h2 : x * 2 ^ s < 2 ^ 32) : s = 32 - l := by
  have m1 := Nat.mul_le_mul_right (2 ^ s) l2
  have m2 := (Nat.mul_lt_mul_right (a := 2 ^ s) (Nat.pow_pos (by decide))).2 l3
  have a1 := Nat.lt_of_le_of_lt m1 h2
  have a2 := Nat.lt_of_le_of_lt h1 m2
  rw [← Nat.pow_add] at a1 a2
  have b1 := (Nat.pow_lt_pow_iff_right (by decide : 1 < 2)).1 a1
  have b2 := (Nat.pow_lt_pow_iff_right (by decide : 1 < 2)).1 a2
  clear a1 a2 m1 m2 h1 h2 l2 l3
  omega
theorem up_of {x s : Nat} (h0 : x ≠ 0) (h : x < 4294967296) (h1 : 2147483648 ≤ x * 2 ^ s) (h2 : x * 2 ^ s < 4294967296) : s = 32 - Lib.bitLen x := by
  have hb := bitLen_bounds h0 h
  generalize Lib.bitLen x = l at hb ⊢
  exact up_aux hb.1 hb.2.1 hb.2.2 h1 h2
/-- A limb more than a number has is 0. -/
theorem take_dgs {ts : List Nat} {V m : Nat} (g : Good ts) (hl : ts.length = m + 1) (hv : val ts = V) (hV : (digs V).length = m) : ts.take m = digs V := by
  have h1 := val_short (xs := ts) (j := m) (by rw [hv]; exact digs_len.1 (Nat.le_of_eq hV))
  exact eq_of_val (g.take m) (digs_good V) (by rw [List.length_take, hl, hV]; omega) (by rw [h1.1, hv, digs_val])
theorem part_whole {rs : List Nat} {m k : Nat} (h : val (rs.drop k) = val ((rs.drop k).take m) + 4294967296 ^ m * rs[k + m]?.getD 0) : val ((rs.drop k).take (m + 1)) = val (rs.drop k) := by
  rw [val_take_succ', List.getElem?_drop]
  exact h.symm
theorem part_done2 {rs P : List Nat} {m k v : Nat} (hP : P.length = m + 1) (hk : k + m < rs.length) (hz : val (rs.drop (k + m + 1)) = 0) (hv : val P = v) :
    val ((spl rs k P).drop k) = v ∧ val (spl rs k P) = val (rs.take k) + 4294967296 ^ k * v := by
  have hl : (rs.take k).length = k := by rw [List.length_take]; omega
  have e : val (P ++ rs.drop (k + P.length)) = v := by
    have hz2 : val (rs.drop (k + P.length)) = 0 := by rw [hP, ← Nat.add_assoc]; exact hz
    rw [val_append, hv, hz2, Nat.mul_zero, Nat.add_zero]
  unfold spl
  constructor
  · rw [List.drop_append_of_le_length (by omega), List.drop_of_length_le (by omega), List.nil_append]
    exact e
  · rw [val_append, hl, e]
end Go.Proofs.YtkcdijhfiahibaaDoor

/- The reference's over: long division. -/
namespace Go.Proofs.YtkcdijhfiahibaaDoor
open Go.RowKit

theorem rleft_any (w : World) (A : Option Addr) (n c s : Nat) (xs : List Nat) (v : Nat) (hA : Lm w w.heap.size A n c xs) (hn : n ≤ 100000000) (hs32 : s < 32) (hv : val xs * 2 ^ s = v) :
    Calls Tryd.prog 77 #[.slice A n c, .int .u64 (s : Int)] w (RL w (n + 1) v) :=
  (rleft_own w A n c s xs v hA hn hs32 hv).mono fun e w' ⟨A, c, ts, he, hO, hG, hl, hv, hb⟩ => by
    obtain ⟨A', c', e3, hL⟩ := hO.lm hG
    rw [hl] at e3 hL
    cases e3
    exact ⟨A, c, ts, he, hL, hv, hb⟩

set_option maxRecDepth 100000 in
set_option maxHeartbeats 4000000 in
theorem rover_long (w : World) (A B : Option Addr) (n m ca cb a b : Nat) (hA : Lm w w.heap.size A n ca (digs a)) (hB : Lm w w.heap.size B m cb (digs b)) (hle : b ≤ a) (hm2 : 2 ≤ m) (hn9 : n ≤ 1000000) :
    Calls Tryd.prog 51 #[.slice A n ca, .slice B m cb] w (RD w (a / b) (a % b)) := by
  obtain ⟨z, hz, HC⟩ : ∃ z : Int, decide (z < 0) = false ∧ Hid (cmpL (digs a) (digs b) = z) := ⟨_, by rw [cmpL_norm (digs_good _) (digs_good _) (digs_norm _) (digs_norm _), digs_val, digs_val]; unfold cmpN; rw [if_neg (by omega)]; split <;> decide, rfl⟩
  have hcA := hA.cap
  have hxA := hA.max
  have hcB := hB.cap
  have hxB := hB.max
  have hlA := hA.len
  have hlB := hB.len
  have hmn : m ≤ n := by rw [← hlA, ← hlB]; exact digs_mono hle
  have hm1 : ((m : Int) == 1) = false := by simp; omega
  have hbp : 0 < b := digs_pos.1 (by omega)
  have gt := hB.good.get (m - 1)
  have htp := top_pos hbp
  rw [hlB] at htp
  obtain ⟨bb, bo, e, hbb, cb1⟩ := hB.cell (k := m - 1) (by omega)
  subst e
  have hf := up_facts hlB (by omega)
  have HF := Lib.hid hf
  have HLA := Lib.hid hlA
  have HLB := Lib.hid hlB
  have HA := Lib.hid hA
  have HB := Lib.hid hB
  have HLe := Lib.hid hle
  have i1 : ((m : Int) - 1).toNat = m - 1 := by omega
  obtain ⟨top, hto⟩ : ∃ top, top = (digs b)[m - 1]?.getD 0 := ⟨_, rfl⟩
  rw [← hto] at gt htp cb1
  have HTop := Lib.hid hto
  have ht0 : 0 < top := by omega
  clear hA hB hlA hlB hf hle hto htp
  go_enter Tryd.func51, Tryd.ntmps51
  go_wp2_with fail
  refine (rcompare_any A (some ⟨bb, bo, none⟩) n m ca cb (digs a) (digs b) w HA.out HB.out).mono ?_
  rintro e w1 ⟨he, d, rfl⟩
  rw [HC.out] at he
  subst he
  have HB0 : Hid (Below w.heap.size w (w.drewN d)) := bdrewN (Below.refl _ _) d
  have LA := Lib.hid (HA.out.drewN d)
  have LB := Lib.hid (HB.out.drewN d)
  have cb2 : (w.drewN d).cell? ⟨bb, bo + (m - 1), none⟩ = some (.int .u32 (top : Int)) := cb1
  have hsz : Hid ((w.drewN d).heap.size = w.heap.size) := (rfl : _ = _)
  generalize w.drewN d = w1 at *
  clear HA HB cb1
  go_wp2_with fail
  go_loop [7] (fun x => ∃ s : Nat, s ≤ 31 ∧ x = .int .u64 (s : Int) ∧ top * 2 ^ s < 4294967296) (fun x => 32 - (intOf x).toNat)
  case atStart => exact ⟨0, by omega, rfl, by rw [Nat.pow_zero, Nat.mul_one]; exact gt⟩
  case round =>
    obtain ⟨s, hs, rfl, hts⟩ := hrel
    obtain ⟨P, hP⟩ : ∃ P, P = top * 2 ^ s := ⟨_, rfl⟩
    have hw : IntKind.u32.wrap ((top : Int) * 2 ^ s) = (P : Int) := by
      rw [cast_shl, Nat.mul_comm, ← hP, IntKind.wrap_u32]
      omega
    have HP := Lib.hid hP
    rw [← hP] at hts
    clear hP
    by_cases hp : P < 2147483648
    · have hpi : (P : Int) < 2147483648 := by omega
      clear hp
      go_wp2
      go_round
      case rel => exact ⟨s + 1, by
        have e := HP.out
        rcases Nat.lt_or_ge s 31 with h | h
        · omega
        · obtain rfl : s = 31 := by omega
          have h5 := Nat.mul_le_mul_right (2 ^ 31) ht0
          omega, by go_num, by rw [Nat.pow_succ, ← Nat.mul_assoc, ← HP.out]; omega⟩
      case measure => simp [intOf]; omega
    · have hpi : (2147483648 : Int) ≤ (P : Int) := by omega
      have hpd : decide ((P : Int) < 2147483648) = false := by simp; omega
      have hup := up_of (x := top) (s := s) (by omega) gt (by rw [← HP.out]; omega) (by rw [← HP.out]; exact hts)
      rw [HTop.out] at hup
      have HF2 := HF.out
      rw [← hup] at HF2
      obtain ⟨V, hV⟩ : ∃ V, V = b * 2 ^ s := ⟨_, rfl⟩
      obtain ⟨U, hU⟩ : ∃ U, U = a * 2 ^ s := ⟨_, rfl⟩
      rw [← hV] at HF2
      have HVF := Lib.hid HF2
      have HUB : Hid (U < 2147483648 * 4294967296 ^ n) := by
        show _ < _
        have h1 := digs_len.1 (Nat.le_of_eq HLA.out)
        rw [hU, Nat.mul_comm]
        exact Nat.mul_lt_mul_of_le_of_lt (Nat.pow_le_pow_right (by omega) hs) h1 (by decide)
      have HDiv : Hid (U / V = a / b ∧ U % V = a % b * 2 ^ s) := by
        show _ ∧ _
        rw [hU, hV]
        exact ⟨Nat.mul_div_mul_right _ _ (Nat.pow_pos (by omega)), Nat.mul_mod_mul_right _ _ _⟩
      have HV : Hid (val (digs b) * 2 ^ s = V) := by show _ = _; rw [digs_val, hV]
      have HU : Hid (val (digs a) * 2 ^ s = U) := by show _ = _; rw [digs_val, hU]
      have hV0 : 0 < V := by rw [hV]; exact Nat.mul_pos hbp (Nat.pow_pos (by omega))
      have HVb := Lib.hid hV
      clear hup HF2 hV hU HP hp hts
      go_wp2_with fail
      clear hw hpi hpd
      refine (rleft_any w1 _ m cb s (digs b) V LB.out (by omega) (by omega) HV.out).mono ?_
      rintro e w2 ⟨A2, c2, ts, rfl, hL2, hv2, hb2⟩
      have HL2 := Lib.hid (hL2.take (Nat.le_succ m))
      have HT2 := Lib.hid (take_dgs hL2.good hL2.len hv2 HVF.out.2.2.1)
      have hcap2 := hL2.cap
      have hmax2 := hL2.max
      rw [HT2.out] at HL2
      have LA2 := Lib.hid (LA.out.via hb2)
      have HB2 := Lib.hid (HB0.out.trans (hb2.mono HB0.out.size))
      clear hL2 hv2 hb2
      go_wp2_with fail
      refine (rleft_own w2 A n ca s (digs a) U LA2.out (by omega) (by omega) HU.out).mono ?_
      rintro e w3 ⟨A3, c3, us, rfl, hO3, hG3, hl3, hv3, hb3⟩
      obtain ⟨A3', c3', e3, hL3⟩ := hO3.lm hG3
      have hcap3 := hL3.cap
      have hmax3 := hL3.max
      rw [hl3] at e3 hL3 hcap3
      cases e3
      obtain ⟨gu, rfl, -, hgu, hOb3⟩ := hO3.ob (by omega)
      have HX3 := Lib.hid (HL2.out.below hb3)
      have HB3 := Lib.hid (HB2.out.trans (hb3.mono HB2.out.size))
      have HO3 := Lib.hid hOb3
      have HG3 := Lib.hid hG3
      have HV3 := Lib.hid hv3
      have HL3l := Lib.hid hl3
      have hs3 := hOb3.lt
      clear hO3 hL3 hOb3 hG3 hv3 hl3 hb3
      have hmk2 := fun w => run_make_u32 ((n : Int) + 1 - (m : Int)) ((n : Int) + 1 - (m : Int)) (n + 1 - m) (by omega) (by omega) (by omega) w
      go_wp2_with fail
      clear hmk2
      go_loopw [11] (fun i wr => ∃ (k : Nat) (rs qs : List Nat), k ≤ n + 1 - m ∧ i = .int .i64 ((k : Int) - 1) ∧ Ob wr gu rs ∧ Good rs ∧ rs.length = n + 1 ∧ Ld wr w3.heap.size qs ∧ Good qs ∧ qs.length = n + 1 - m ∧
          val (rs.drop k) < V ∧ val rs + 4294967296 ^ k * (V * val (qs.drop k)) = U ∧ Below w2.heap.size w3 wr) (fun i _ => (intOf i + 1).toNat)
      case atStart =>
        refine ⟨n + 1 - m, us, zer (n + 1 - m), Nat.le_refl _, rfl, HO3.out.below ((Below.refl _ _).alloc (Nat.le_refl _) _) hs3, HG3.out, HL3l.out, Ld.new _ _, zer_good _, zer_len _, ?_, ?_, (Below.refl _ _).alloc (by omega) _⟩
        · rw [val_drop _ HG3.out, HV3.out]
          refine Nat.div_lt_of_lt_mul (Nat.lt_of_lt_of_le HUB.out ?_)
          have h5 := Nat.mul_le_mul_left (4294967296 ^ (n + 1 - m)) HVF.out.2.1
          rw [Nat.mul_left_comm, ← Nat.pow_add, show n + 1 - m + (m - 1) = n by omega] at h5
          exact h5
        · rw [HV3.out, List.drop_of_length_le (by rw [zer_len]; exact Nat.le_refl _)]
          simp [val_nil]
      case round =>
        obtain ⟨k, rs, qs, hk, rfl, hR, hGR, hlR, hQ, hGQ, hlQ, hI1, hI2, hb⟩ := hrel
        have HR := Lib.hid hR
        have HQ := Lib.hid hQ
        have HI1 := Lib.hid hI1
        have HI2 := Lib.hid hI2
        have HBl := Lib.hid hb
        have HGR := Lib.hid hGR
        have HGQ := Lib.hid hGQ
        have HlR := Lib.hid hlR
        have HlQ := Lib.hid hlQ
        have hgur := hR.lt
        clear hR hQ hI1 hI2 hb hGR hGQ hlR hlQ
        rcases k with _ | k
        · rw [show (((0 : Nat) : Int) - 1) = -1 from rfl]
          have hQe : Hid (val qs = a / b) := by
            show _ = _
            have h1 := HI1.out
            have h2 := HI2.out
            simp only [List.drop_zero, Nat.pow_zero, Nat.one_mul] at h1 h2
            rw [← HDiv.out.1, ← h2, Nat.add_mul_div_left _ _ hV0, Nat.div_eq_of_lt h1, Nat.zero_add]
          have hRv : Hid (val rs < V) := by have h1 := HI1.out; rw [List.drop_zero] at h1; exact h1
          have hRe : Hid (val rs = a % b * 2 ^ s) := by
            show _ = _
            have h2 := HI2.out
            simp only [List.drop_zero, Nat.pow_zero, Nat.one_mul] at h2
            rw [← HDiv.out.2, ← h2, Nat.add_mul_mod_self_left, Nat.mod_eq_of_lt hRv.out]
          have hRt : Hid (val (rs.take m) = a % b * 2 ^ s) := by
            show _ = _
            rw [← hRe.out]
            exact (val_short (Nat.lt_trans hRv.out (digs_len.1 (Nat.le_of_eq HVF.out.2.2.1)))).1
          have HLq : Hid (Lm wr wr.heap.size (some ⟨w3.heap.size, 0, none⟩) (n + 1 - m) (n + 1 - m) qs) := by
            have e := HQ.out.lm HGQ.out (off := 0) (n := n + 1 - m) (c := n + 1 - m) (by rw [HlQ.out]; omega) (Nat.le_refl _) (by omega)
            rwa [List.drop_zero, List.take_of_length_le (by rw [HlQ.out]; exact Nat.le_refl _)] at e
          have HLr : Hid (Lm wr wr.heap.size (some ⟨gu, 0, none⟩) m c3 (rs.take m)) := by
            have e := HR.out.lm HGR.out (off := 0) (n := m) (c := c3) (by rw [HlR.out]; omega) (by omega) (by omega)
            rwa [List.drop_zero] at e
          have HGt := Lib.hid (HGR.out.take m)
          have HSv : Hid (val (shrL s (rs.take m) m) = a % b) := by
            show _ = _
            rw [shrL_val HGt.out s (by omega) HLr.out.len, hRt.out, Nat.mul_div_cancel _ (Nat.pow_pos (by omega))]
          obtain ⟨r0, hr0⟩ : ∃ r0, r0 = rs.take m := ⟨_, rfl⟩
          rw [← hr0] at HLr HGt HSv
          clear hr0 hRt
          go_wp2
          go_loopw [13, 14] (fun u i wz => ∃ k : Nat, k ≤ m ∧ i = .int .i64 k ∧ Ow wz wr.heap.size u (shrL s r0 k) ∧ Below wr.heap.size wr wz) (fun _ i _ => m - (intOf i).toNat)
          case atStart => exact ⟨0, Nat.zero_le _, rfl, Ow.nil _ _, Below.refl _ _⟩
          case round =>
            obtain ⟨k, hk2, rfl, hO, hb⟩ := hrel
            have HO := Lib.hid hO
            have HBz := Lib.hid hb
            have HSl := Lib.hid (shrL_len s r0 k)
            clear hO hb
            by_cases hlt : k < m
            · obtain ⟨b1', bo1', e1, _, hcx⟩ := (HLr.out.below HBz.out).cell hlt
              cases e1
              have hxg := HGt.out.get k
              have hyg := HGt.out.get (k + 1)
              by_cases hlt2 : k + 1 < m
              · obtain ⟨b2', bo2', e2, _, hcy⟩ := (HLr.out.below HBz.out).cell hlt2
                cases e2
                rw [Nat.zero_add] at hcx hcy
                have HX : Hid ((((r0[k]?.getD 0 : Nat) : Int) + ((r0[k + 1]?.getD 0 : Nat) : Int) * 4294967296) / 2 ^ s % 4294967296 = (((r0[k]?.getD 0 + 4294967296 * r0[k + 1]?.getD 0) / 2 ^ s % 4294967296 : Nat) : Int)) := by
                  show _ = _
                  have e : ((r0[k]?.getD 0 : Nat) : Int) + ((r0[k + 1]?.getD 0 : Nat) : Int) * 4294967296 = ((r0[k]?.getD 0 + 4294967296 * r0[k + 1]?.getD 0 : Nat) : Int) := by omega
                  rw [e, cast_shr, Int.natCast_emod]
                  rfl
                go_wp2_with (at_builtin; refine wpList_append_u32 _ rfl _ _ rfl _ _ _ rfl HO.out _ ((r0[k]?.getD 0 + 4294967296 * r0[k + 1]?.getD 0) / 2 ^ s % 4294967296) 1 HX.out (by rw [HSl.out]; omega) HBz.out.size rfl ?_; intro u' w6 hO6 hg6)
                go_roundw
                case rel => exact ⟨k + 1, by omega, by go_num, hO6, HO.out.below HBz.out HBz.out.size hg6⟩
                case measure => simp [intOf]; omega
              · have HZ := Lib.hid (getD_over (xs := r0) (k := k + 1) (by rw [HLr.out.len]; omega))
                rw [Nat.zero_add] at hcx
                have HX : Hid (((r0[k]?.getD 0 : Nat) : Int) / 2 ^ s % 4294967296 = (((r0[k]?.getD 0 + 4294967296 * r0[k + 1]?.getD 0) / 2 ^ s % 4294967296 : Nat) : Int)) := by
                  show _ = _
                  rw [HZ.out, Nat.mul_zero, Nat.add_zero, cast_shr, Int.natCast_emod]
                  rfl
                have HY : Hid (((r0[k]?.getD 0 : Nat) : Int) / 2 ^ s = ((r0[k]?.getD 0 / 2 ^ s : Nat) : Int)) := cast_shr _ _
                have hy9 := Nat.div_le_self (r0[k]?.getD 0) (2 ^ s)
                have HW : Hid ((r0[k]?.getD 0 + 4294967296 * r0[k + 1]?.getD 0) / 2 ^ s % 4294967296 = r0[k]?.getD 0 / 2 ^ s) := by
                  show _ = _
                  rw [HZ.out, Nat.mul_zero, Nat.add_zero]
                  exact Nat.mod_eq_of_lt (by omega)
                have HWY : Hid (((r0[k]?.getD 0 : Nat) : Int) / 2 ^ s = (((r0[k]?.getD 0 + 4294967296 * r0[k + 1]?.getD 0) / 2 ^ s % 4294967296 : Nat) : Int)) := by show _ = _; rw [HW.out, HY.out]
                clear hy9
                go_wp2_with (at_builtin; refine wpList_append_u32 _ rfl _ _ rfl _ _ _ rfl HO.out _ ((r0[k]?.getD 0 + 4294967296 * r0[k + 1]?.getD 0) / 2 ^ s % 4294967296) 1 (by first | exact HX.out | exact HWY.out) (by rw [HSl.out]; omega) HBz.out.size rfl ?_; intro u' w6 hO6 hg6)
                go_roundw
                case rel => exact ⟨k + 1, by omega, by go_num, hO6, HO.out.below HBz.out HBz.out.size hg6⟩
                case measure => simp [intOf]; omega
            · obtain rfl : k = m := by omega
              have HGs : Hid (Good (shrL s r0 k)) := by
                show Good _
                rw [shrL_lims HGt.out s (by omega)]
                exact lims_good _ _
              obtain ⟨A7, c7, rfl, hL7⟩ := HO.out.lm HGs.out
              rw [HSl.out] at hL7 ⊢
              have HL7 := Lib.hid hL7
              have HLq7 := Lib.hid (HLq.out.via HBz.out)
              clear hL7
              go_wp2_with fail
              refine (rtrim_any _ _ _ _ _ (a / b) HLq7.out hQe.out (by omega)).mono ?_
              rintro e w8 ⟨A8, c8, rfl, hL8, hb8⟩
              have HL8 := Lib.hid hL8
              have HL78 := Lib.hid (HL7.out.via hb8)
              have HB8 := Lib.hid hb8
              clear hL8 hb8
              go_wp2_with fail
              refine (rtrim_any _ _ _ _ _ (a % b) HL78.out HSv.out (by omega)).mono ?_
              rintro e w9 ⟨A9, c9, rfl, hL9, hb9⟩
              go_wp2
              go_ret2
              have hs23 := HBl.out.size
              have hsz1 := HB3.out.size
              refine ⟨A8, c8, A9, c9, rfl, HL8.out.via hb9, hL9, ?_⟩
              have q1 := HB3.out.trans (HBl.out.mono HB2.out.size)
              have q2 := q1.trans (HBz.out.mono q1.size)
              have q3 := q2.trans (HB8.out.mono q2.size)
              exact q3.trans (hb9.mono q3.size)
        · have hkm : k + m < rs.length := by rw [HlR.out]; omega
          have HP := Lib.hid (part_facts HGR.out HVF.out.2.2.1 hm2 hkm HI1.out)
          have HW := Lib.hid (part_whole HP.out.1)
          have HLb : Hid (Lm wr gu A2 m c2 (digs V)) := (HX3.out.below HBl.out).mono hgu
          have hcut1 : ((k : Int) + 1 - 1) = (k : Int) := by omega
          go_wp2_with fail
          rw [show k + m + 1 - k = m + 1 by omega]
          refine (rdigit_any wr gu k (c3 - k) m c2 A2 rs (digs V) V HR.out HGR.out HLb.out hm2 (by omega) (by omega) (by omega) hkm (digs_val V) hV0 HP.out.2.2.2.2.1 HP.out.2.1 (by rw [HW.out]; exact HP.out.2.2.2.2.2.1)).mono ?_
          rw [HW.out]
          rintro e w5 ⟨rfl, ⟨P5, hPl, hPg, hPv, hO5⟩, hg5⟩
          have hgu3 : ¬ (w3.heap.size = gu) := by omega
          have hQ5 := HQ.out.grown hg5 (fun e => by injection e with e; omega)
          have hcq := hQ5.cell (i := k) (by rw [HlQ.out]; omega)
          have hfq := hQ5.frozen k
          have hD9 : val (rs.drop k) / V ≤ 4294967295 := Nat.le_trans HP.out.2.2.2.2.2.1 (gs_le _ _ _ _ _)
          have HPD := Lib.hid (part_done2 (rs := rs) (P := P5) (m := m) (k := k) hPl hkm HP.out.2.2.2.1 hPv)
          have HO5 := Lib.hid hO5
          have HG5 := Lib.hid hg5
          have HQ5 := Lib.hid hQ5
          have HPg := Lib.hid hPg
          have HPl := Lib.hid hPl
          have hml : val (rs.drop k) % V < V := Nat.mod_lt _ hV0
          clear hPl hPg hPv hO5 hg5 hQ5
          have HD9 := Lib.hid hD9
          clear hD9
          go_wp2
          go_roundw
          case rel =>
            refine ⟨k, _, _, by omega, rfl, HO5.out.grown (grownBy_setCellAt _ _ _ _) (fun e => by injection e with e; omega), spl_good HGR.out HPg.out, by rw [spl_len (by rw [HPl.out]; omega), HlR.out], HQ5.out.set_ k _, HGQ.out.set (by have := HD9.out; omega) k, by rw [List.length_set, HlQ.out], ?_, ?_, ?_⟩
            · rw [HPD.out.1]; exact hml
            · exact inv_step (by omega) rfl HI2.out HPD.out.2 (val_set_drop _ (by rw [HlQ.out]; omega))
            · exact (HBl.out.grown HG5.out (by have := HBl.out.size; omega) (fun b e => by injection e with e; omega)).setCell (p := ⟨w3.heap.size, k, none⟩) (by show w2.heap.size ≤ w3.heap.size; omega) _
          case measure => simp [intOf]

/-- over, by a divisor other than 0. -/
theorem rover_any (w : World) (A B : Option Addr) (n m ca cb a b : Nat) (hA : Lm w w.heap.size A n ca (digs a)) (hB : Lm w w.heap.size B m cb (digs b)) (hb : 0 < b) (hn9 : n ≤ 1000000) :
    Calls Tryd.prog 51 #[.slice A n ca, .slice B m cb] w (RD w (a / b) (a % b)) := by
  have hc := cmpL_norm (digs_good a) (digs_good b) (digs_norm a) (digs_norm b)
  rw [digs_val, digs_val] at hc
  rcases Nat.lt_or_ge a b with h | h
  · exact rover_less w A B n m ca cb b a _ hA hB (digs_val a) (by rw [hc]; exact cmpN_lt h) h hn9
  · have hm : 0 < m := by rw [← hB.len, digs_pos]; exact hb
    rcases Nat.lt_or_ge m 2 with h1 | h1
    · obtain rfl : m = 1 := by omega
      refine rover_one w A B n ca cb b a _ hA hB (digs_val a) ?_ hn9
      rw [hc]
      unfold cmpN
      rw [if_neg (by omega)]
      split <;> decide
    · exact rover_long w A B n m ca cb a b hA hB h h1 hn9
end Go.Proofs.YtkcdijhfiahibaaDoor

/- The reference's DivMod. -/
namespace Go.Proofs.YtkcdijhfiahibaaDoor
open Go.RowKit

set_option maxRecDepth 100000 in
set_option maxHeartbeats 2000000 in
theorem rdivmod_bad (w : World) (na nb : Bool) (A B : Option Addr) (n m ca cb : Nat) (xs ys : List Nat) (hA : Lm w w.heap.size A n ca xs) (hB : Lm w w.heap.size B m cb ys) (hv : chkB na xs nb ys = 8) :
    Calls Tryd.prog 23 #[.agg #[.bool na, .slice A n ca], .agg #[.bool nb, .slice B m cb]] w (RWW w false [] false [] 8) := by
  have HA := Lib.hid hA
  have HB := Lib.hid hB
  have HV := Lib.hid hv
  clear hv
  go_enter Tryd.func23, Tryd.ntmps23
  go_wp2_with fail
  refine (rboth_any _ _ _ _ _ _ _ _ _ _ _ ((((HA.out.box _).box _).box _).box _) ((((HB.out.box _).box _).box _).box _) 8 HV.out).mono ?_
  rintro e w1 ⟨rfl, hb1⟩
  have ⟨PA, PB, PQ, PR⟩ := boxes4 hb1
  have LA1 := Lib.hid (((((HA.out.box _).box _).box _).box _).via hb1)
  have LB1 := Lib.hid (((((HB.out.box _).box _).box _).box _).via hb1)
  have HB1 := Lib.hid (bbox (bbox (bbox (bbox hb1))))
  have ⟨a0, a1, _, _, _⟩ := PA
  have ⟨b0, b1, _, _, _⟩ := PB
  clear hb1
  go_wp2_with fail
  refine (rboth_any _ _ _ _ _ _ _ _ _ _ _ LA1.out LB1.out 8 HV.out).mono ?_
  rintro e w2 ⟨rfl, hb2⟩
  have PQ2 := PQ.via hb2
  have PR2 := PR.via hb2
  have HB2 := Lib.hid (HB1.out.trans (hb2.mono HB1.out.size))
  clear PQ PR hb2
  have ⟨q0, q1, qf0, qf1, ql⟩ := PQ2
  have ⟨r0, r1, rf0, rf1, rl⟩ := PR2
  go_wp2
  refine post_ww Tryd.results23 rfl rfl rfl ((PQ2.set _ _).far (by omega) _ _) ((PR2.far (by omega) _ _).set _ _) ⟨none, 0, 0, none, 0, 0, rfl, Lm.nil _ _, Lm.nil _ _, below_set2 (below_set2 HB2.out (by omega) _ _) (by omega) _ _⟩

set_option maxRecDepth 100000 in
set_option maxHeartbeats 2000000 in
theorem rdivmod_zero (w : World) (na nb : Bool) (A B : Option Addr) (n ca cb : Nat) (xs : List Nat) (hA : Lm w w.heap.size A n ca xs) (hB : Lm w w.heap.size B 0 cb []) (hv : chkB na xs nb [] = 0) :
    Calls Tryd.prog 23 #[.agg #[.bool na, .slice A n ca], .agg #[.bool nb, .slice B 0 cb]] w (RWW w false [] false [] 18) := by
  have HA := Lib.hid hA
  have HB := Lib.hid hB
  have HV := Lib.hid hv
  clear hv
  go_enter Tryd.func23, Tryd.ntmps23
  go_wp2_with fail
  refine (rboth_any _ _ _ _ _ _ _ _ _ _ _ ((((HA.out.box _).box _).box _).box _) ((((HB.out.box _).box _).box _).box _) 0 HV.out).mono ?_
  rintro e w1 ⟨rfl, hb1⟩
  have ⟨_, PB, PQ, PR⟩ := boxes4 hb1
  have HB1 := Lib.hid (bbox (bbox (bbox (bbox hb1))))
  have ⟨b0, b1, _, _, _⟩ := PB
  have ⟨q0, q1, qf0, qf1, ql⟩ := PQ
  have ⟨r0, r1, rf0, rf1, rl⟩ := PR
  clear hb1
  go_wp2
  refine post_ww Tryd.results23 rfl rfl rfl ((PQ.set _ _).far (by omega) _ _) ((PR.far (by omega) _ _).set _ _) ⟨none, 0, 0, none, 0, 0, rfl, Lm.nil _ _, Lm.nil _ _, below_set2 (below_set2 HB1.out (by omega) _ _) (by omega) _ _⟩

set_option maxRecDepth 100000 in
set_option maxHeartbeats 2000000 in
theorem rdivmod_same (w : World) (na nb : Bool) (A B : Option Addr) (n m ca cb a b : Nat) (hA : Lm w w.heap.size A n ca (digs a)) (hB : Lm w w.heap.size B m cb (digs b)) (hv : chkB na (digs a) nb (digs b) = 0) (hb : 0 < b) (hs : na = nb) (z : Bool) (hz : decide (0 < a % b) = z) :
    Calls Tryd.prog 23 #[.agg #[.bool na, .slice A n ca], .agg #[.bool nb, .slice B m cb]] w (RWW w (mkN false (a / b)) (digs (a / b)) (mkN nb (a % b)) (digs (a % b)) 0) := by
  have h41 := (chk_ok.1 (chkB_ok.1 hv).1).1
  have h42 := (chk_ok.1 (chkB_ok.1 hv).2).1
  have hml := Nat.mod_lt a hb
  have hq0 : (digs (a / b)).length ≤ 4096 := Nat.le_trans (digs_mono (Nat.div_le_self a b)) h41
  have hr0 : (digs (a % b)).length ≤ 4096 := Nat.le_trans (digs_mono (Nat.le_of_lt hml)) h42
  have HLq : Hid (mkL (a / b) = digs (a / b)) := by show _ = _; unfold mkL; rw [if_pos hq0]
  have HLr : Hid (mkL (a % b) = digs (a % b)) := by show _ = _; unfold mkL; rw [if_pos hr0]
  have HEq : Hid (mkE (a / b) = 0) := by show _ = _; unfold mkE; rw [if_pos hq0]
  have HEr : Hid (mkE (a % b) = 0) := by show _ = _; unfold mkE; rw [if_pos hr0]
  rw [hA.len] at h41
  rw [hB.len] at h42
  have hm0 : 0 < m := by rw [← hB.len, digs_pos]; exact hb
  have hm1 : ((m : Int) == 0) = false := by simp; omega
  have hcB := hB.cap
  have hxB := hB.max
  have HA := Lib.hid hA
  have HB := Lib.hid hB
  have HV := Lib.hid hv
  have HVq : Hid (val (digs (a / b)) = a / b) := digs_val _
  have HVr : Hid (val (digs (a % b)) = a % b) := digs_val _
  have hrl : decide (0 < (digs (a % b)).length) = decide (0 < a % b) := decide_eq_decide.2 digs_pos
  rw [hz] at hrl
  clear hz
  clear hv hA hB hml
  subst hs
  cases na <;> cases z
  · go_enter Tryd.func23, Tryd.ntmps23
    go_wp2_with fail
    refine (rboth_any _ _ _ _ _ _ _ _ _ _ _ ((((HA.out.box _).box _).box _).box _) ((((HB.out.box _).box _).box _).box _) 0 HV.out).mono ?_
    rintro e w1 ⟨rfl, hb1⟩
    have ⟨PA, PB, PQ, PR⟩ := boxes4 hb1
    have LA1 := Lib.hid (((((HA.out.box _).box _).box _).box _).via hb1)
    have LB1 := Lib.hid (((((HB.out.box _).box _).box _).box _).via hb1)
    have HB1 := Lib.hid (bbox (bbox (bbox (bbox hb1))))
    have ⟨a0, a1, _, _, _⟩ := PA
    have ⟨b0, b1, _, _, _⟩ := PB
    clear hb1
    go_wp2_with fail
    refine (rover_any w1 A B n m ca cb a b LA1.out LB1.out hb (by omega)).mono ?_
    rintro e w2 ⟨Q, cq, R, cr, rfl, hQ, hR, hb2⟩
    have PA2 := PA.via hb2
    have PB2 := PB.via hb2
    have PQ2 := PQ.via hb2
    have PR2 := PR.via hb2
    have HB2 := Lib.hid (HB1.out.trans (hb2.mono HB1.out.size))
    have HQ := Lib.hid hQ
    have HR := Lib.hid hR
    have LB2 := Lib.hid (LB1.out.via hb2)
    clear PA PB PQ PR LA1 LB1 HB1 a0 a1 b0 b1 hb2 hQ hR
    have ⟨a0, a1, _, _, _⟩ := PA2
    have ⟨b0, b1, _, _, _⟩ := PB2
    go_wp2_with fail
    refine (rmade_any w2 _ _ _ _ _ (a / b) HQ.out HVq.out (by omega)).mono ?_
    rintro e w3 ⟨A3, n3, c3, rfl, hL3, hb3⟩
    rw [HLq.out] at hL3
    rw [HEq.out]
    have PA4 := (PA2.via hb3).alloc (.cells #[.bool (mkN false (a / b)), .slice A3 n3 c3] 24)
    have PB4 := (PB2.via hb3).alloc (.cells #[.bool (mkN false (a / b)), .slice A3 n3 c3] 24)
    have PQ4 := (PQ2.via hb3).alloc (.cells #[.bool (mkN false (a / b)), .slice A3 n3 c3] 24)
    have PR4 := (PR2.via hb3).alloc (.cells #[.bool (mkN false (a / b)), .slice A3 n3 c3] 24)
    have HB4 := Lib.hid ((HB2.out.trans (hb3.mono HB2.out.size)).alloc (HB2.out.trans (hb3.mono HB2.out.size)).size (.cells #[.bool (mkN false (a / b)), .slice A3 n3 c3] 24))
    have HR4 := Lib.hid ((HR.out.via hb3).box (.cells #[.bool (mkN false (a / b)), .slice A3 n3 c3] 24))
    have LB4 := Lib.hid ((LB2.out.via hb3).box (.cells #[.bool (mkN false (a / b)), .slice A3 n3 c3] 24))
    have HL4 := Lib.hid (hL3.box (.cells #[.bool (mkN false (a / b)), .slice A3 n3 c3] 24))
    have PX4 := Pr.new w3 w3.heap.size rfl (.bool (mkN false (a / b))) (.slice A3 n3 c3) 24
    have hlt3 : w.heap.size + 1 + 1 + 1 < w3.heap.size := (PR2.via hb3).lt
    clear PA2 PB2 PQ2 PR2 HQ HR HB2 LB2 hb3 hL3 a0 a1 b0 b1
    have ⟨a0, a1, _, _, _⟩ := PA4
    have ⟨b0, b1, _, _, _⟩ := PB4
    go_wp2_with fail
    generalize w3.alloc (.cells #[.bool (mkN false (a / b)), .slice A3 n3 c3] 24) = w4 at *
    generalize w3.heap.size = g3 at *
    refine (rmade_any w4 _ _ _ _ _ (a % b) HR4.out HVr.out (by omega)).mono ?_
    rintro e w5 ⟨A5, n5, c5, rfl, hL5, hb5⟩
    rw [HLr.out] at hL5
    rw [HEr.out]
    have PA6 := (PA4.via hb5).alloc (.cells #[.bool (mkN false (a % b)), .slice A5 n5 c5] 24)
    have PB6 := (PB4.via hb5).alloc (.cells #[.bool (mkN false (a % b)), .slice A5 n5 c5] 24)
    have PQ6 := (PQ4.via hb5).alloc (.cells #[.bool (mkN false (a % b)), .slice A5 n5 c5] 24)
    have PR6 := (PR4.via hb5).alloc (.cells #[.bool (mkN false (a % b)), .slice A5 n5 c5] 24)
    have PX6 := (PX4.via hb5).alloc (.cells #[.bool (mkN false (a % b)), .slice A5 n5 c5] 24)
    have HB6 := Lib.hid ((HB4.out.trans (hb5.mono HB4.out.size)).alloc (HB4.out.trans (hb5.mono HB4.out.size)).size (.cells #[.bool (mkN false (a % b)), .slice A5 n5 c5] 24))
    have LB6 := Lib.hid ((LB4.out.via hb5).box (.cells #[.bool (mkN false (a % b)), .slice A5 n5 c5] 24))
    have HL6 := Lib.hid ((HL4.out.via hb5).box (.cells #[.bool (mkN false (a % b)), .slice A5 n5 c5] 24))
    have HM6 := Lib.hid (hL5.box (.cells #[.bool (mkN false (a % b)), .slice A5 n5 c5] 24))
    have PY6 := Pr.new w5 w5.heap.size rfl (.bool (mkN false (a % b))) (.slice A5 n5 c5) 24
    have hlt5 : g3 < w5.heap.size := (PX4.via hb5).lt
    clear PA4 PB4 PQ4 PR4 PX4 HB4 HR4 LB4 HL4 hb5 hL5 a0 a1 b0 b1
    have ⟨a0, a1, _, _, _⟩ := PA6
    have ⟨b0, b1, _, _, _⟩ := PB6
    go_wp2_with fail
    generalize w5.alloc (.cells #[.bool (mkN false (a % b)), .slice A5 n5 c5] 24) = w6 at *
    generalize w5.heap.size = g5 at *
    have ⟨q0, q1, qf0, qf1, ql⟩ := PQ6
    have ⟨r0, r1, rf0, rf1, rl⟩ := PR6
    have ⟨x0, x1, xf0, xf1, xl⟩ := PX6
    have ⟨y0, y1, yf0, yf1, yl⟩ := PY6
    go_region
    all_goals
      go_wp2
      refine post_ww Tryd.results23 rfl rfl rfl ((PQ6.set _ _).far (by omega) _ _).drew ((PR6.far (by omega) _ _).set _ _).drew ⟨A3, n3, c3, A5, n5, c5, rfl, ?_, ?_, ?_⟩
      · exact ((HL6.out.setP PQ6 _ _).setP (PR6.far (by omega) _ _) _ _).drew
      · exact ((HM6.out.setP PQ6 _ _).setP (PR6.far (by omega) _ _) _ _).drew
      · exact (below_set2 (below_set2 HB6.out (by omega) _ _) (by omega) _ _).drew
  · go_enter Tryd.func23, Tryd.ntmps23
    go_wp2_with fail
    refine (rboth_any _ _ _ _ _ _ _ _ _ _ _ ((((HA.out.box _).box _).box _).box _) ((((HB.out.box _).box _).box _).box _) 0 HV.out).mono ?_
    rintro e w1 ⟨rfl, hb1⟩
    have ⟨PA, PB, PQ, PR⟩ := boxes4 hb1
    have LA1 := Lib.hid (((((HA.out.box _).box _).box _).box _).via hb1)
    have LB1 := Lib.hid (((((HB.out.box _).box _).box _).box _).via hb1)
    have HB1 := Lib.hid (bbox (bbox (bbox (bbox hb1))))
    have ⟨a0, a1, _, _, _⟩ := PA
    have ⟨b0, b1, _, _, _⟩ := PB
    clear hb1
    go_wp2_with fail
    refine (rover_any w1 A B n m ca cb a b LA1.out LB1.out hb (by omega)).mono ?_
    rintro e w2 ⟨Q, cq, R, cr, rfl, hQ, hR, hb2⟩
    have PA2 := PA.via hb2
    have PB2 := PB.via hb2
    have PQ2 := PQ.via hb2
    have PR2 := PR.via hb2
    have HB2 := Lib.hid (HB1.out.trans (hb2.mono HB1.out.size))
    have HQ := Lib.hid hQ
    have HR := Lib.hid hR
    have LB2 := Lib.hid (LB1.out.via hb2)
    clear PA PB PQ PR LA1 LB1 HB1 a0 a1 b0 b1 hb2 hQ hR
    have ⟨a0, a1, _, _, _⟩ := PA2
    have ⟨b0, b1, _, _, _⟩ := PB2
    go_wp2_with fail
    refine (rmade_any w2 _ _ _ _ _ (a / b) HQ.out HVq.out (by omega)).mono ?_
    rintro e w3 ⟨A3, n3, c3, rfl, hL3, hb3⟩
    rw [HLq.out] at hL3
    rw [HEq.out]
    have PA4 := (PA2.via hb3).alloc (.cells #[.bool (mkN false (a / b)), .slice A3 n3 c3] 24)
    have PB4 := (PB2.via hb3).alloc (.cells #[.bool (mkN false (a / b)), .slice A3 n3 c3] 24)
    have PQ4 := (PQ2.via hb3).alloc (.cells #[.bool (mkN false (a / b)), .slice A3 n3 c3] 24)
    have PR4 := (PR2.via hb3).alloc (.cells #[.bool (mkN false (a / b)), .slice A3 n3 c3] 24)
    have HB4 := Lib.hid ((HB2.out.trans (hb3.mono HB2.out.size)).alloc (HB2.out.trans (hb3.mono HB2.out.size)).size (.cells #[.bool (mkN false (a / b)), .slice A3 n3 c3] 24))
    have HR4 := Lib.hid ((HR.out.via hb3).box (.cells #[.bool (mkN false (a / b)), .slice A3 n3 c3] 24))
    have LB4 := Lib.hid ((LB2.out.via hb3).box (.cells #[.bool (mkN false (a / b)), .slice A3 n3 c3] 24))
    have HL4 := Lib.hid (hL3.box (.cells #[.bool (mkN false (a / b)), .slice A3 n3 c3] 24))
    have PX4 := Pr.new w3 w3.heap.size rfl (.bool (mkN false (a / b))) (.slice A3 n3 c3) 24
    have hlt3 : w.heap.size + 1 + 1 + 1 < w3.heap.size := (PR2.via hb3).lt
    clear PA2 PB2 PQ2 PR2 HQ HR HB2 LB2 hb3 hL3 a0 a1 b0 b1
    have ⟨a0, a1, _, _, _⟩ := PA4
    have ⟨b0, b1, _, _, _⟩ := PB4
    go_wp2_with fail
    generalize w3.alloc (.cells #[.bool (mkN false (a / b)), .slice A3 n3 c3] 24) = w4 at *
    generalize w3.heap.size = g3 at *
    refine (rmade_any w4 _ _ _ _ _ (a % b) HR4.out HVr.out (by omega)).mono ?_
    rintro e w5 ⟨A5, n5, c5, rfl, hL5, hb5⟩
    rw [HLr.out] at hL5
    rw [HEr.out]
    have PA6 := (PA4.via hb5).alloc (.cells #[.bool (mkN false (a % b)), .slice A5 n5 c5] 24)
    have PB6 := (PB4.via hb5).alloc (.cells #[.bool (mkN false (a % b)), .slice A5 n5 c5] 24)
    have PQ6 := (PQ4.via hb5).alloc (.cells #[.bool (mkN false (a % b)), .slice A5 n5 c5] 24)
    have PR6 := (PR4.via hb5).alloc (.cells #[.bool (mkN false (a % b)), .slice A5 n5 c5] 24)
    have PX6 := (PX4.via hb5).alloc (.cells #[.bool (mkN false (a % b)), .slice A5 n5 c5] 24)
    have HB6 := Lib.hid ((HB4.out.trans (hb5.mono HB4.out.size)).alloc (HB4.out.trans (hb5.mono HB4.out.size)).size (.cells #[.bool (mkN false (a % b)), .slice A5 n5 c5] 24))
    have LB6 := Lib.hid ((LB4.out.via hb5).box (.cells #[.bool (mkN false (a % b)), .slice A5 n5 c5] 24))
    have HL6 := Lib.hid ((HL4.out.via hb5).box (.cells #[.bool (mkN false (a % b)), .slice A5 n5 c5] 24))
    have HM6 := Lib.hid (hL5.box (.cells #[.bool (mkN false (a % b)), .slice A5 n5 c5] 24))
    have PY6 := Pr.new w5 w5.heap.size rfl (.bool (mkN false (a % b))) (.slice A5 n5 c5) 24
    have hlt5 : g3 < w5.heap.size := (PX4.via hb5).lt
    clear PA4 PB4 PQ4 PR4 PX4 HB4 HR4 LB4 HL4 hb5 hL5 a0 a1 b0 b1
    have ⟨a0, a1, _, _, _⟩ := PA6
    have ⟨b0, b1, _, _, _⟩ := PB6
    go_wp2_with fail
    generalize w5.alloc (.cells #[.bool (mkN false (a % b)), .slice A5 n5 c5] 24) = w6 at *
    generalize w5.heap.size = g5 at *
    have ⟨q0, q1, qf0, qf1, ql⟩ := PQ6
    have ⟨r0, r1, rf0, rf1, rl⟩ := PR6
    have ⟨x0, x1, xf0, xf1, xl⟩ := PX6
    have ⟨y0, y1, yf0, yf1, yl⟩ := PY6
    go_region
    all_goals
      go_wp2
      refine post_ww Tryd.results23 rfl rfl rfl ((PQ6.set _ _).far (by omega) _ _).drew ((PR6.far (by omega) _ _).set _ _).drew ⟨A3, n3, c3, A5, n5, c5, rfl, ?_, ?_, ?_⟩
      · exact ((HL6.out.setP PQ6 _ _).setP (PR6.far (by omega) _ _) _ _).drew
      · exact ((HM6.out.setP PQ6 _ _).setP (PR6.far (by omega) _ _) _ _).drew
      · exact (below_set2 (below_set2 HB6.out (by omega) _ _) (by omega) _ _).drew
  · go_enter Tryd.func23, Tryd.ntmps23
    go_wp2_with fail
    refine (rboth_any _ _ _ _ _ _ _ _ _ _ _ ((((HA.out.box _).box _).box _).box _) ((((HB.out.box _).box _).box _).box _) 0 HV.out).mono ?_
    rintro e w1 ⟨rfl, hb1⟩
    have ⟨PA, PB, PQ, PR⟩ := boxes4 hb1
    have LA1 := Lib.hid (((((HA.out.box _).box _).box _).box _).via hb1)
    have LB1 := Lib.hid (((((HB.out.box _).box _).box _).box _).via hb1)
    have HB1 := Lib.hid (bbox (bbox (bbox (bbox hb1))))
    have ⟨a0, a1, _, _, _⟩ := PA
    have ⟨b0, b1, _, _, _⟩ := PB
    clear hb1
    go_wp2_with fail
    refine (rover_any w1 A B n m ca cb a b LA1.out LB1.out hb (by omega)).mono ?_
    rintro e w2 ⟨Q, cq, R, cr, rfl, hQ, hR, hb2⟩
    have PA2 := PA.via hb2
    have PB2 := PB.via hb2
    have PQ2 := PQ.via hb2
    have PR2 := PR.via hb2
    have HB2 := Lib.hid (HB1.out.trans (hb2.mono HB1.out.size))
    have HQ := Lib.hid hQ
    have HR := Lib.hid hR
    have LB2 := Lib.hid (LB1.out.via hb2)
    clear PA PB PQ PR LA1 LB1 HB1 a0 a1 b0 b1 hb2 hQ hR
    have ⟨a0, a1, _, _, _⟩ := PA2
    have ⟨b0, b1, _, _, _⟩ := PB2
    go_wp2_with fail
    refine (rmade_any w2 _ _ _ _ _ (a / b) HQ.out HVq.out (by omega)).mono ?_
    rintro e w3 ⟨A3, n3, c3, rfl, hL3, hb3⟩
    rw [HLq.out] at hL3
    rw [HEq.out]
    have PA4 := (PA2.via hb3).alloc (.cells #[.bool (mkN false (a / b)), .slice A3 n3 c3] 24)
    have PB4 := (PB2.via hb3).alloc (.cells #[.bool (mkN false (a / b)), .slice A3 n3 c3] 24)
    have PQ4 := (PQ2.via hb3).alloc (.cells #[.bool (mkN false (a / b)), .slice A3 n3 c3] 24)
    have PR4 := (PR2.via hb3).alloc (.cells #[.bool (mkN false (a / b)), .slice A3 n3 c3] 24)
    have HB4 := Lib.hid ((HB2.out.trans (hb3.mono HB2.out.size)).alloc (HB2.out.trans (hb3.mono HB2.out.size)).size (.cells #[.bool (mkN false (a / b)), .slice A3 n3 c3] 24))
    have HR4 := Lib.hid ((HR.out.via hb3).box (.cells #[.bool (mkN false (a / b)), .slice A3 n3 c3] 24))
    have LB4 := Lib.hid ((LB2.out.via hb3).box (.cells #[.bool (mkN false (a / b)), .slice A3 n3 c3] 24))
    have HL4 := Lib.hid (hL3.box (.cells #[.bool (mkN false (a / b)), .slice A3 n3 c3] 24))
    have PX4 := Pr.new w3 w3.heap.size rfl (.bool (mkN false (a / b))) (.slice A3 n3 c3) 24
    have hlt3 : w.heap.size + 1 + 1 + 1 < w3.heap.size := (PR2.via hb3).lt
    clear PA2 PB2 PQ2 PR2 HQ HR HB2 LB2 hb3 hL3 a0 a1 b0 b1
    have ⟨a0, a1, _, _, _⟩ := PA4
    have ⟨b0, b1, _, _, _⟩ := PB4
    go_wp2_with fail
    generalize w3.alloc (.cells #[.bool (mkN false (a / b)), .slice A3 n3 c3] 24) = w4 at *
    generalize w3.heap.size = g3 at *
    refine (rmade_any w4 _ _ _ _ _ (a % b) HR4.out HVr.out (by omega)).mono ?_
    rintro e w5 ⟨A5, n5, c5, rfl, hL5, hb5⟩
    rw [HLr.out] at hL5
    rw [HEr.out]
    have PA6 := (PA4.via hb5).alloc (.cells #[.bool (mkN true (a % b)), .slice A5 n5 c5] 24)
    have PB6 := (PB4.via hb5).alloc (.cells #[.bool (mkN true (a % b)), .slice A5 n5 c5] 24)
    have PQ6 := (PQ4.via hb5).alloc (.cells #[.bool (mkN true (a % b)), .slice A5 n5 c5] 24)
    have PR6 := (PR4.via hb5).alloc (.cells #[.bool (mkN true (a % b)), .slice A5 n5 c5] 24)
    have PX6 := (PX4.via hb5).alloc (.cells #[.bool (mkN true (a % b)), .slice A5 n5 c5] 24)
    have HB6 := Lib.hid ((HB4.out.trans (hb5.mono HB4.out.size)).alloc (HB4.out.trans (hb5.mono HB4.out.size)).size (.cells #[.bool (mkN true (a % b)), .slice A5 n5 c5] 24))
    have LB6 := Lib.hid ((LB4.out.via hb5).box (.cells #[.bool (mkN true (a % b)), .slice A5 n5 c5] 24))
    have HL6 := Lib.hid ((HL4.out.via hb5).box (.cells #[.bool (mkN true (a % b)), .slice A5 n5 c5] 24))
    have HM6 := Lib.hid (hL5.box (.cells #[.bool (mkN true (a % b)), .slice A5 n5 c5] 24))
    have PY6 := Pr.new w5 w5.heap.size rfl (.bool (mkN true (a % b))) (.slice A5 n5 c5) 24
    have hlt5 : g3 < w5.heap.size := (PX4.via hb5).lt
    clear PA4 PB4 PQ4 PR4 PX4 HB4 HR4 LB4 HL4 hb5 hL5 a0 a1 b0 b1
    have ⟨a0, a1, _, _, _⟩ := PA6
    have ⟨b0, b1, _, _, _⟩ := PB6
    go_wp2_with fail
    generalize w5.alloc (.cells #[.bool (mkN true (a % b)), .slice A5 n5 c5] 24) = w6 at *
    generalize w5.heap.size = g5 at *
    have ⟨q0, q1, qf0, qf1, ql⟩ := PQ6
    have ⟨r0, r1, rf0, rf1, rl⟩ := PR6
    have ⟨x0, x1, xf0, xf1, xl⟩ := PX6
    have ⟨y0, y1, yf0, yf1, yl⟩ := PY6
    go_region
    all_goals
      go_wp2
      refine post_ww Tryd.results23 rfl rfl rfl ((PQ6.set _ _).far (by omega) _ _).drew ((PR6.far (by omega) _ _).set _ _).drew ⟨A3, n3, c3, A5, n5, c5, rfl, ?_, ?_, ?_⟩
      · exact ((HL6.out.setP PQ6 _ _).setP (PR6.far (by omega) _ _) _ _).drew
      · exact ((HM6.out.setP PQ6 _ _).setP (PR6.far (by omega) _ _) _ _).drew
      · exact (below_set2 (below_set2 HB6.out (by omega) _ _) (by omega) _ _).drew
  · go_enter Tryd.func23, Tryd.ntmps23
    go_wp2_with fail
    refine (rboth_any _ _ _ _ _ _ _ _ _ _ _ ((((HA.out.box _).box _).box _).box _) ((((HB.out.box _).box _).box _).box _) 0 HV.out).mono ?_
    rintro e w1 ⟨rfl, hb1⟩
    have ⟨PA, PB, PQ, PR⟩ := boxes4 hb1
    have LA1 := Lib.hid (((((HA.out.box _).box _).box _).box _).via hb1)
    have LB1 := Lib.hid (((((HB.out.box _).box _).box _).box _).via hb1)
    have HB1 := Lib.hid (bbox (bbox (bbox (bbox hb1))))
    have ⟨a0, a1, _, _, _⟩ := PA
    have ⟨b0, b1, _, _, _⟩ := PB
    clear hb1
    go_wp2_with fail
    refine (rover_any w1 A B n m ca cb a b LA1.out LB1.out hb (by omega)).mono ?_
    rintro e w2 ⟨Q, cq, R, cr, rfl, hQ, hR, hb2⟩
    have PA2 := PA.via hb2
    have PB2 := PB.via hb2
    have PQ2 := PQ.via hb2
    have PR2 := PR.via hb2
    have HB2 := Lib.hid (HB1.out.trans (hb2.mono HB1.out.size))
    have HQ := Lib.hid hQ
    have HR := Lib.hid hR
    have LB2 := Lib.hid (LB1.out.via hb2)
    clear PA PB PQ PR LA1 LB1 HB1 a0 a1 b0 b1 hb2 hQ hR
    have ⟨a0, a1, _, _, _⟩ := PA2
    have ⟨b0, b1, _, _, _⟩ := PB2
    go_wp2_with fail
    refine (rmade_any w2 _ _ _ _ _ (a / b) HQ.out HVq.out (by omega)).mono ?_
    rintro e w3 ⟨A3, n3, c3, rfl, hL3, hb3⟩
    rw [HLq.out] at hL3
    rw [HEq.out]
    have PA4 := (PA2.via hb3).alloc (.cells #[.bool (mkN false (a / b)), .slice A3 n3 c3] 24)
    have PB4 := (PB2.via hb3).alloc (.cells #[.bool (mkN false (a / b)), .slice A3 n3 c3] 24)
    have PQ4 := (PQ2.via hb3).alloc (.cells #[.bool (mkN false (a / b)), .slice A3 n3 c3] 24)
    have PR4 := (PR2.via hb3).alloc (.cells #[.bool (mkN false (a / b)), .slice A3 n3 c3] 24)
    have HB4 := Lib.hid ((HB2.out.trans (hb3.mono HB2.out.size)).alloc (HB2.out.trans (hb3.mono HB2.out.size)).size (.cells #[.bool (mkN false (a / b)), .slice A3 n3 c3] 24))
    have HR4 := Lib.hid ((HR.out.via hb3).box (.cells #[.bool (mkN false (a / b)), .slice A3 n3 c3] 24))
    have LB4 := Lib.hid ((LB2.out.via hb3).box (.cells #[.bool (mkN false (a / b)), .slice A3 n3 c3] 24))
    have HL4 := Lib.hid (hL3.box (.cells #[.bool (mkN false (a / b)), .slice A3 n3 c3] 24))
    have PX4 := Pr.new w3 w3.heap.size rfl (.bool (mkN false (a / b))) (.slice A3 n3 c3) 24
    have hlt3 : w.heap.size + 1 + 1 + 1 < w3.heap.size := (PR2.via hb3).lt
    clear PA2 PB2 PQ2 PR2 HQ HR HB2 LB2 hb3 hL3 a0 a1 b0 b1
    have ⟨a0, a1, _, _, _⟩ := PA4
    have ⟨b0, b1, _, _, _⟩ := PB4
    go_wp2_with fail
    generalize w3.alloc (.cells #[.bool (mkN false (a / b)), .slice A3 n3 c3] 24) = w4 at *
    generalize w3.heap.size = g3 at *
    refine (rmade_any w4 _ _ _ _ _ (a % b) HR4.out HVr.out (by omega)).mono ?_
    rintro e w5 ⟨A5, n5, c5, rfl, hL5, hb5⟩
    rw [HLr.out] at hL5
    rw [HEr.out]
    have PA6 := (PA4.via hb5).alloc (.cells #[.bool (mkN true (a % b)), .slice A5 n5 c5] 24)
    have PB6 := (PB4.via hb5).alloc (.cells #[.bool (mkN true (a % b)), .slice A5 n5 c5] 24)
    have PQ6 := (PQ4.via hb5).alloc (.cells #[.bool (mkN true (a % b)), .slice A5 n5 c5] 24)
    have PR6 := (PR4.via hb5).alloc (.cells #[.bool (mkN true (a % b)), .slice A5 n5 c5] 24)
    have PX6 := (PX4.via hb5).alloc (.cells #[.bool (mkN true (a % b)), .slice A5 n5 c5] 24)
    have HB6 := Lib.hid ((HB4.out.trans (hb5.mono HB4.out.size)).alloc (HB4.out.trans (hb5.mono HB4.out.size)).size (.cells #[.bool (mkN true (a % b)), .slice A5 n5 c5] 24))
    have LB6 := Lib.hid ((LB4.out.via hb5).box (.cells #[.bool (mkN true (a % b)), .slice A5 n5 c5] 24))
    have HL6 := Lib.hid ((HL4.out.via hb5).box (.cells #[.bool (mkN true (a % b)), .slice A5 n5 c5] 24))
    have HM6 := Lib.hid (hL5.box (.cells #[.bool (mkN true (a % b)), .slice A5 n5 c5] 24))
    have PY6 := Pr.new w5 w5.heap.size rfl (.bool (mkN true (a % b))) (.slice A5 n5 c5) 24
    have hlt5 : g3 < w5.heap.size := (PX4.via hb5).lt
    clear PA4 PB4 PQ4 PR4 PX4 HB4 HR4 LB4 HL4 hb5 hL5 a0 a1 b0 b1
    have ⟨a0, a1, _, _, _⟩ := PA6
    have ⟨b0, b1, _, _, _⟩ := PB6
    go_wp2_with fail
    generalize w5.alloc (.cells #[.bool (mkN true (a % b)), .slice A5 n5 c5] 24) = w6 at *
    generalize w5.heap.size = g5 at *
    have ⟨q0, q1, qf0, qf1, ql⟩ := PQ6
    have ⟨r0, r1, rf0, rf1, rl⟩ := PR6
    have ⟨x0, x1, xf0, xf1, xl⟩ := PX6
    have ⟨y0, y1, yf0, yf1, yl⟩ := PY6
    go_region
    all_goals
      go_wp2
      refine post_ww Tryd.results23 rfl rfl rfl ((PQ6.set _ _).far (by omega) _ _).drew ((PR6.far (by omega) _ _).set _ _).drew ⟨A3, n3, c3, A5, n5, c5, rfl, ?_, ?_, ?_⟩
      · exact ((HL6.out.setP PQ6 _ _).setP (PR6.far (by omega) _ _) _ _).drew
      · exact ((HM6.out.setP PQ6 _ _).setP (PR6.far (by omega) _ _) _ _).drew
      · exact (below_set2 (below_set2 HB6.out (by omega) _ _) (by omega) _ _).drew
set_option maxRecDepth 100000 in
set_option maxHeartbeats 2000000 in
theorem rdivmod_exact (w : World) (na nb : Bool) (A B : Option Addr) (n m ca cb a b : Nat) (hA : Lm w w.heap.size A n ca (digs a)) (hB : Lm w w.heap.size B m cb (digs b)) (hv : chkB na (digs a) nb (digs b) = 0) (hb : 0 < b) (hs : na = true ∧ nb = false ∨ na = false ∧ nb = true) (h0 : a % b = 0) :
    Calls Tryd.prog 23 #[.agg #[.bool na, .slice A n ca], .agg #[.bool nb, .slice B m cb]] w (RWW w (mkN true (a / b)) (digs (a / b)) (mkN na (a % b)) (digs (a % b)) 0) := by
  have h41 := (chk_ok.1 (chkB_ok.1 hv).1).1
  have h42 := (chk_ok.1 (chkB_ok.1 hv).2).1
  have hml := Nat.mod_lt a hb
  have hq0 : (digs (a / b)).length ≤ 4096 := Nat.le_trans (digs_mono (Nat.div_le_self a b)) h41
  have hr0 : (digs (a % b)).length ≤ 4096 := Nat.le_trans (digs_mono (Nat.le_of_lt hml)) h42
  have HLq : Hid (mkL (a / b) = digs (a / b)) := by show _ = _; unfold mkL; rw [if_pos hq0]
  have HLr : Hid (mkL (a % b) = digs (a % b)) := by show _ = _; unfold mkL; rw [if_pos hr0]
  have HEq : Hid (mkE (a / b) = 0) := by show _ = _; unfold mkE; rw [if_pos hq0]
  have HEr : Hid (mkE (a % b) = 0) := by show _ = _; unfold mkE; rw [if_pos hr0]
  rw [hA.len] at h41
  rw [hB.len] at h42
  have hm0 : 0 < m := by rw [← hB.len, digs_pos]; exact hb
  have hm1 : ((m : Int) == 0) = false := by simp; omega
  have hcB := hB.cap
  have hxB := hB.max
  have HA := Lib.hid hA
  have HB := Lib.hid hB
  have HV := Lib.hid hv
  have HVq : Hid (val (digs (a / b)) = a / b) := digs_val _
  have HVr : Hid (val (digs (a % b)) = a % b) := digs_val _
  have hrl : decide (0 < (digs (a % b)).length) = decide (0 < a % b) := decide_eq_decide.2 digs_pos
  have hrz : decide (0 < (digs (a % b)).length) = false := by rw [hrl]; simp; omega
  have H0 := Lib.hid h0
  clear hrl h0
  clear hv hA hB hml
  rcases hs with ⟨rfl, rfl⟩ | ⟨rfl, rfl⟩
  · go_enter Tryd.func23, Tryd.ntmps23
    go_wp2_with fail
    refine (rboth_any _ _ _ _ _ _ _ _ _ _ _ ((((HA.out.box _).box _).box _).box _) ((((HB.out.box _).box _).box _).box _) 0 HV.out).mono ?_
    rintro e w1 ⟨rfl, hb1⟩
    have ⟨PA, PB, PQ, PR⟩ := boxes4 hb1
    have LA1 := Lib.hid (((((HA.out.box _).box _).box _).box _).via hb1)
    have LB1 := Lib.hid (((((HB.out.box _).box _).box _).box _).via hb1)
    have HB1 := Lib.hid (bbox (bbox (bbox (bbox hb1))))
    have ⟨a0, a1, _, _, _⟩ := PA
    have ⟨b0, b1, _, _, _⟩ := PB
    clear hb1
    go_wp2_with fail
    refine (rover_any w1 A B n m ca cb a b LA1.out LB1.out hb (by omega)).mono ?_
    rintro e w2 ⟨Q, cq, R, cr, rfl, hQ, hR, hb2⟩
    have PA2 := PA.via hb2
    have PB2 := PB.via hb2
    have PQ2 := PQ.via hb2
    have PR2 := PR.via hb2
    have HB2 := Lib.hid (HB1.out.trans (hb2.mono HB1.out.size))
    have HQ := Lib.hid hQ
    have HR := Lib.hid hR
    have LB2 := Lib.hid (LB1.out.via hb2)
    clear PA PB PQ PR LA1 LB1 HB1 a0 a1 b0 b1 hb2 hQ hR
    have ⟨a0, a1, _, _, _⟩ := PA2
    have ⟨b0, b1, _, _, _⟩ := PB2
    go_wp2_with fail
    refine (rmade_any w2 _ _ _ _ _ (a / b) HQ.out HVq.out (by omega)).mono ?_
    rintro e w3 ⟨A3, n3, c3, rfl, hL3, hb3⟩
    rw [HLq.out] at hL3
    rw [HEq.out]
    have PA4 := (PA2.via hb3).alloc (.cells #[.bool (mkN true (a / b)), .slice A3 n3 c3] 24)
    have PB4 := (PB2.via hb3).alloc (.cells #[.bool (mkN true (a / b)), .slice A3 n3 c3] 24)
    have PQ4 := (PQ2.via hb3).alloc (.cells #[.bool (mkN true (a / b)), .slice A3 n3 c3] 24)
    have PR4 := (PR2.via hb3).alloc (.cells #[.bool (mkN true (a / b)), .slice A3 n3 c3] 24)
    have HB4 := Lib.hid ((HB2.out.trans (hb3.mono HB2.out.size)).alloc (HB2.out.trans (hb3.mono HB2.out.size)).size (.cells #[.bool (mkN true (a / b)), .slice A3 n3 c3] 24))
    have HR4 := Lib.hid ((HR.out.via hb3).box (.cells #[.bool (mkN true (a / b)), .slice A3 n3 c3] 24))
    have LB4 := Lib.hid ((LB2.out.via hb3).box (.cells #[.bool (mkN true (a / b)), .slice A3 n3 c3] 24))
    have HL4 := Lib.hid (hL3.box (.cells #[.bool (mkN true (a / b)), .slice A3 n3 c3] 24))
    have PX4 := Pr.new w3 w3.heap.size rfl (.bool (mkN true (a / b))) (.slice A3 n3 c3) 24
    have hlt3 : w.heap.size + 1 + 1 + 1 < w3.heap.size := (PR2.via hb3).lt
    clear PA2 PB2 PQ2 PR2 HQ HR HB2 LB2 hb3 hL3 a0 a1 b0 b1
    have ⟨a0, a1, _, _, _⟩ := PA4
    have ⟨b0, b1, _, _, _⟩ := PB4
    go_wp2_with fail
    generalize w3.alloc (.cells #[.bool (mkN true (a / b)), .slice A3 n3 c3] 24) = w4 at *
    generalize w3.heap.size = g3 at *
    refine (rmade_any w4 _ _ _ _ _ (a % b) HR4.out HVr.out (by omega)).mono ?_
    rintro e w5 ⟨A5, n5, c5, rfl, hL5, hb5⟩
    rw [HLr.out] at hL5
    rw [HEr.out]
    have PA6 := (PA4.via hb5).alloc (.cells #[.bool (mkN true (a % b)), .slice A5 n5 c5] 24)
    have PB6 := (PB4.via hb5).alloc (.cells #[.bool (mkN true (a % b)), .slice A5 n5 c5] 24)
    have PQ6 := (PQ4.via hb5).alloc (.cells #[.bool (mkN true (a % b)), .slice A5 n5 c5] 24)
    have PR6 := (PR4.via hb5).alloc (.cells #[.bool (mkN true (a % b)), .slice A5 n5 c5] 24)
    have PX6 := (PX4.via hb5).alloc (.cells #[.bool (mkN true (a % b)), .slice A5 n5 c5] 24)
    have HB6 := Lib.hid ((HB4.out.trans (hb5.mono HB4.out.size)).alloc (HB4.out.trans (hb5.mono HB4.out.size)).size (.cells #[.bool (mkN true (a % b)), .slice A5 n5 c5] 24))
    have LB6 := Lib.hid ((LB4.out.via hb5).box (.cells #[.bool (mkN true (a % b)), .slice A5 n5 c5] 24))
    have HL6 := Lib.hid ((HL4.out.via hb5).box (.cells #[.bool (mkN true (a % b)), .slice A5 n5 c5] 24))
    have HM6 := Lib.hid (hL5.box (.cells #[.bool (mkN true (a % b)), .slice A5 n5 c5] 24))
    have PY6 := Pr.new w5 w5.heap.size rfl (.bool (mkN true (a % b))) (.slice A5 n5 c5) 24
    have hlt5 : g3 < w5.heap.size := (PX4.via hb5).lt
    clear PA4 PB4 PQ4 PR4 PX4 HB4 HR4 LB4 HL4 hb5 hL5 a0 a1 b0 b1
    have ⟨a0, a1, _, _, _⟩ := PA6
    have ⟨b0, b1, _, _, _⟩ := PB6
    go_wp2_with fail
    generalize w5.alloc (.cells #[.bool (mkN true (a % b)), .slice A5 n5 c5] 24) = w6 at *
    generalize w5.heap.size = g5 at *
    have ⟨q0, q1, qf0, qf1, ql⟩ := PQ6
    have ⟨r0, r1, rf0, rf1, rl⟩ := PR6
    have ⟨x0, x1, xf0, xf1, xl⟩ := PX6
    have ⟨y0, y1, yf0, yf1, yl⟩ := PY6
    go_region
    all_goals
      go_wp2
      refine post_ww Tryd.results23 rfl rfl rfl ((PQ6.set _ _).far (by omega) _ _).drew ((PR6.far (by omega) _ _).set _ _).drew ⟨A3, n3, c3, A5, n5, c5, rfl, ?_, ?_, ?_⟩
      · exact ((HL6.out.setP PQ6 _ _).setP (PR6.far (by omega) _ _) _ _).drew
      · exact ((HM6.out.setP PQ6 _ _).setP (PR6.far (by omega) _ _) _ _).drew
      · exact (below_set2 (below_set2 HB6.out (by omega) _ _) (by omega) _ _).drew
  · go_enter Tryd.func23, Tryd.ntmps23
    go_wp2_with fail
    refine (rboth_any _ _ _ _ _ _ _ _ _ _ _ ((((HA.out.box _).box _).box _).box _) ((((HB.out.box _).box _).box _).box _) 0 HV.out).mono ?_
    rintro e w1 ⟨rfl, hb1⟩
    have ⟨PA, PB, PQ, PR⟩ := boxes4 hb1
    have LA1 := Lib.hid (((((HA.out.box _).box _).box _).box _).via hb1)
    have LB1 := Lib.hid (((((HB.out.box _).box _).box _).box _).via hb1)
    have HB1 := Lib.hid (bbox (bbox (bbox (bbox hb1))))
    have ⟨a0, a1, _, _, _⟩ := PA
    have ⟨b0, b1, _, _, _⟩ := PB
    clear hb1
    go_wp2_with fail
    refine (rover_any w1 A B n m ca cb a b LA1.out LB1.out hb (by omega)).mono ?_
    rintro e w2 ⟨Q, cq, R, cr, rfl, hQ, hR, hb2⟩
    have PA2 := PA.via hb2
    have PB2 := PB.via hb2
    have PQ2 := PQ.via hb2
    have PR2 := PR.via hb2
    have HB2 := Lib.hid (HB1.out.trans (hb2.mono HB1.out.size))
    have HQ := Lib.hid hQ
    have HR := Lib.hid hR
    have LB2 := Lib.hid (LB1.out.via hb2)
    clear PA PB PQ PR LA1 LB1 HB1 a0 a1 b0 b1 hb2 hQ hR
    have ⟨a0, a1, _, _, _⟩ := PA2
    have ⟨b0, b1, _, _, _⟩ := PB2
    go_wp2_with fail
    refine (rmade_any w2 _ _ _ _ _ (a / b) HQ.out HVq.out (by omega)).mono ?_
    rintro e w3 ⟨A3, n3, c3, rfl, hL3, hb3⟩
    rw [HLq.out] at hL3
    rw [HEq.out]
    have PA4 := (PA2.via hb3).alloc (.cells #[.bool (mkN true (a / b)), .slice A3 n3 c3] 24)
    have PB4 := (PB2.via hb3).alloc (.cells #[.bool (mkN true (a / b)), .slice A3 n3 c3] 24)
    have PQ4 := (PQ2.via hb3).alloc (.cells #[.bool (mkN true (a / b)), .slice A3 n3 c3] 24)
    have PR4 := (PR2.via hb3).alloc (.cells #[.bool (mkN true (a / b)), .slice A3 n3 c3] 24)
    have HB4 := Lib.hid ((HB2.out.trans (hb3.mono HB2.out.size)).alloc (HB2.out.trans (hb3.mono HB2.out.size)).size (.cells #[.bool (mkN true (a / b)), .slice A3 n3 c3] 24))
    have HR4 := Lib.hid ((HR.out.via hb3).box (.cells #[.bool (mkN true (a / b)), .slice A3 n3 c3] 24))
    have LB4 := Lib.hid ((LB2.out.via hb3).box (.cells #[.bool (mkN true (a / b)), .slice A3 n3 c3] 24))
    have HL4 := Lib.hid (hL3.box (.cells #[.bool (mkN true (a / b)), .slice A3 n3 c3] 24))
    have PX4 := Pr.new w3 w3.heap.size rfl (.bool (mkN true (a / b))) (.slice A3 n3 c3) 24
    have hlt3 : w.heap.size + 1 + 1 + 1 < w3.heap.size := (PR2.via hb3).lt
    clear PA2 PB2 PQ2 PR2 HQ HR HB2 LB2 hb3 hL3 a0 a1 b0 b1
    have ⟨a0, a1, _, _, _⟩ := PA4
    have ⟨b0, b1, _, _, _⟩ := PB4
    go_wp2_with fail
    generalize w3.alloc (.cells #[.bool (mkN true (a / b)), .slice A3 n3 c3] 24) = w4 at *
    generalize w3.heap.size = g3 at *
    refine (rmade_any w4 _ _ _ _ _ (a % b) HR4.out HVr.out (by omega)).mono ?_
    rintro e w5 ⟨A5, n5, c5, rfl, hL5, hb5⟩
    rw [HLr.out] at hL5
    rw [HEr.out]
    have PA6 := (PA4.via hb5).alloc (.cells #[.bool (mkN false (a % b)), .slice A5 n5 c5] 24)
    have PB6 := (PB4.via hb5).alloc (.cells #[.bool (mkN false (a % b)), .slice A5 n5 c5] 24)
    have PQ6 := (PQ4.via hb5).alloc (.cells #[.bool (mkN false (a % b)), .slice A5 n5 c5] 24)
    have PR6 := (PR4.via hb5).alloc (.cells #[.bool (mkN false (a % b)), .slice A5 n5 c5] 24)
    have PX6 := (PX4.via hb5).alloc (.cells #[.bool (mkN false (a % b)), .slice A5 n5 c5] 24)
    have HB6 := Lib.hid ((HB4.out.trans (hb5.mono HB4.out.size)).alloc (HB4.out.trans (hb5.mono HB4.out.size)).size (.cells #[.bool (mkN false (a % b)), .slice A5 n5 c5] 24))
    have LB6 := Lib.hid ((LB4.out.via hb5).box (.cells #[.bool (mkN false (a % b)), .slice A5 n5 c5] 24))
    have HL6 := Lib.hid ((HL4.out.via hb5).box (.cells #[.bool (mkN false (a % b)), .slice A5 n5 c5] 24))
    have HM6 := Lib.hid (hL5.box (.cells #[.bool (mkN false (a % b)), .slice A5 n5 c5] 24))
    have PY6 := Pr.new w5 w5.heap.size rfl (.bool (mkN false (a % b))) (.slice A5 n5 c5) 24
    have hlt5 : g3 < w5.heap.size := (PX4.via hb5).lt
    clear PA4 PB4 PQ4 PR4 PX4 HB4 HR4 LB4 HL4 hb5 hL5 a0 a1 b0 b1
    have ⟨a0, a1, _, _, _⟩ := PA6
    have ⟨b0, b1, _, _, _⟩ := PB6
    go_wp2_with fail
    generalize w5.alloc (.cells #[.bool (mkN false (a % b)), .slice A5 n5 c5] 24) = w6 at *
    generalize w5.heap.size = g5 at *
    have ⟨q0, q1, qf0, qf1, ql⟩ := PQ6
    have ⟨r0, r1, rf0, rf1, rl⟩ := PR6
    have ⟨x0, x1, xf0, xf1, xl⟩ := PX6
    have ⟨y0, y1, yf0, yf1, yl⟩ := PY6
    go_region
    all_goals
      go_wp2
      refine post_ww Tryd.results23 rfl rfl rfl ((PQ6.set _ _).far (by omega) _ _).drew ((PR6.far (by omega) _ _).set _ _).drew ⟨A3, n3, c3, A5, n5, c5, rfl, ?_, ?_, ?_⟩
      · exact ((HL6.out.setP PQ6 _ _).setP (PR6.far (by omega) _ _) _ _).drew
      · exact ((HM6.out.setP PQ6 _ _).setP (PR6.far (by omega) _ _) _ _).drew
      · exact (below_set2 (below_set2 HB6.out (by omega) _ _) (by omega) _ _).drew
end Go.Proofs.YtkcdijhfiahibaaDoor

/- The reference's DivMod, rounded down. -/
namespace Go.Proofs.YtkcdijhfiahibaaDoor
open Go.RowKit

theorem rfrom_m1 (w : World) : Calls Tryd.prog 16 #[.int .i64 (-1)] w fun e w' => ∃ A n c, e = .returned (.agg #[.bool true, .slice A n c]) ∧ Lm w' w'.heap.size A n c (digs 1) ∧ Below w.heap.size w w' :=
  (rfrom_any w (-1) (by omega) (by omega)).mono fun _ _ ⟨A, n, c, he, hL, hb⟩ => ⟨A, n, c, he, hL, hb⟩
theorem toI_mkN {v : Nat} (h : (digs v).length ≤ 4096) (neg : Bool) : toI (mkN neg v) v = toI neg v := by
  unfold mkN toI
  rw [decide_eq_true h, Bool.true_and]
  by_cases h0 : v = 0
  · subst h0; cases neg <;> rfl
  · rw [decide_eq_true h0, Bool.and_true]
theorem mkL_digs {v : Nat} (h : (digs v).length ≤ 4096) : mkL v = digs v := by unfold mkL; rw [if_pos h]
theorem mkE_zero {v : Nat} (h : (digs v).length ≤ 4096) : mkE v = 0 := by unfold mkE; rw [if_pos h]
theorem down_le {a b : Nat} (hb : 0 < b) (h0 : 0 < a % b) : a / b + 1 ≤ a := by
  have h := Nat.div_add_mod a b
  have hb2 : 2 ≤ b := by have := Nat.mod_lt a hb; omega
  have h2 : 2 * (a / b) ≤ b * (a / b) := Nat.mul_le_mul_right _ hb2
  generalize a / b = z at *
  omega

set_option maxRecDepth 100000 in
set_option maxHeartbeats 2000000 in
theorem rdivmod_down (w : World) (na nb : Bool) (A B : Option Addr) (n m ca cb a b : Nat) (hA : Lm w w.heap.size A n ca (digs a)) (hB : Lm w w.heap.size B m cb (digs b)) (hv : chkB na (digs a) nb (digs b) = 0) (hb : 0 < b) (hs : na = true ∧ nb = false ∨ na = false ∧ nb = true) (h0 : 0 < a % b) :
    Calls Tryd.prog 23 #[.agg #[.bool na, .slice A n ca], .agg #[.bool nb, .slice B m cb]] w (RWW w (mkN true (a / b + 1)) (digs (a / b + 1)) (mkN nb (b - a % b)) (digs (b - a % b)) 0) := by
  have h41 := (chk_ok.1 (chkB_ok.1 hv).1).1
  have h42 := (chk_ok.1 (chkB_ok.1 hv).2).1
  have hml := Nat.mod_lt a hb
  have hq0 : (digs (a / b)).length ≤ 4096 := Nat.le_trans (digs_mono (Nat.div_le_self a b)) h41
  have hr0 : (digs (a % b)).length ≤ 4096 := Nat.le_trans (digs_mono (Nat.le_of_lt hml)) h42
  have HLq : Hid (mkL (a / b) = digs (a / b)) := by show _ = _; unfold mkL; rw [if_pos hq0]
  have HLr : Hid (mkL (a % b) = digs (a % b)) := by show _ = _; unfold mkL; rw [if_pos hr0]
  have HEq : Hid (mkE (a / b) = 0) := by show _ = _; unfold mkE; rw [if_pos hq0]
  have HEr : Hid (mkE (a % b) = 0) := by show _ = _; unfold mkE; rw [if_pos hr0]
  have hq1 : (digs (a / b + 1)).length ≤ 4096 := Nat.le_trans (digs_mono (down_le hb h0)) h41
  have hr1 : (digs (b - a % b)).length ≤ 4096 := Nat.le_trans (digs_mono (Nat.sub_le _ _)) h42
  have HS1 : Hid (∀ (W : World) (A' A'' : Option Addr) (n' c' n'' c'' : Nat), Lm W W.heap.size A' n' c' (digs (a / b)) → Lm W W.heap.size A'' n'' c'' (digs 1) → Calls Tryd.prog 39 #[.agg #[.bool (mkN true (a / b)), .slice A' n' c'], .agg #[.bool true, .slice A'' n'' c'']] W (RW W (mkN true (a / b + 1)) (digs (a / b + 1)) 0)) := by
    intro W A' A'' n' c' n'' c'' h1 h2
    have h3 := rsum_any W (mkN true (a / b)) true A' A'' n' n'' c' c'' (a / b) 1 h1 h2 (by rw [← h1.len]; omega) (by rw [← h2.len]; have : (digs 1).length ≤ 1 := digs_len.2 (by omega); omega)
    rw [← rz_of W true (a / b + 1) (by rw [toI_mkN hq0]; unfold toI; simp; omega), mkL_digs hq1, mkE_zero hq1] at h3
    exact h3
  have HS2 : Hid (∀ (W : World) (A' : Option Addr) (n' c' : Nat), Lm W W.heap.size A' n' c' (digs (a % b)) → Lm W W.heap.size B m cb (digs b) → Calls Tryd.prog 39 #[.agg #[.bool (mkN na (a % b)), .slice A' n' c'], .agg #[.bool nb, .slice B m cb]] W (RW W (mkN nb (b - a % b)) (digs (b - a % b)) 0)) := by
    intro W A' n' c' h1 h2
    have h3 := rsum_any W (mkN na (a % b)) nb A' B n' m c' cb (a % b) b h1 h2 (by rw [← h1.len]; omega) (by rw [← h2.len]; omega)
    rw [← rz_of W nb (b - a % b) (by rw [toI_mkN hr0]; rcases hs with ⟨e1, e2⟩ | ⟨e1, e2⟩ <;> subst e1 <;> subst e2 <;> simp only [toI, Bool.false_eq_true, if_true, if_false] <;> omega), mkL_digs hr1, mkE_zero hr1] at h3
    exact h3
  rw [hA.len] at h41
  rw [hB.len] at h42
  have hm0 : 0 < m := by rw [← hB.len, digs_pos]; exact hb
  have hm1 : ((m : Int) == 0) = false := by simp; omega
  have hcB := hB.cap
  have hxB := hB.max
  have HA := Lib.hid hA
  have HB := Lib.hid hB
  have HV := Lib.hid hv
  have HVq : Hid (val (digs (a / b)) = a / b) := digs_val _
  have HVr : Hid (val (digs (a % b)) = a % b) := digs_val _
  have hrl : decide (0 < (digs (a % b)).length) = decide (0 < a % b) := decide_eq_decide.2 digs_pos
  have hrz : decide (0 < (digs (a % b)).length) = true := by rw [hrl]; simpa using h0
  clear hrl
  clear hv hA hB hml
  rcases hs with ⟨rfl, rfl⟩ | ⟨rfl, rfl⟩
  · go_enter Tryd.func23, Tryd.ntmps23
    go_wp2_with fail
    refine (rboth_any _ _ _ _ _ _ _ _ _ _ _ ((((HA.out.box _).box _).box _).box _) ((((HB.out.box _).box _).box _).box _) 0 HV.out).mono ?_
    rintro e w1 ⟨rfl, hb1⟩
    have ⟨PA, PB, PQ, PR⟩ := boxes4 hb1
    have LA1 := Lib.hid (((((HA.out.box _).box _).box _).box _).via hb1)
    have LB1 := Lib.hid (((((HB.out.box _).box _).box _).box _).via hb1)
    have HB1 := Lib.hid (bbox (bbox (bbox (bbox hb1))))
    have ⟨a0, a1, _, _, _⟩ := PA
    have ⟨b0, b1, _, _, _⟩ := PB
    clear hb1
    go_wp2_with fail
    refine (rover_any w1 A B n m ca cb a b LA1.out LB1.out hb (by omega)).mono ?_
    rintro e w2 ⟨Q, cq, R, cr, rfl, hQ, hR, hb2⟩
    have PA2 := PA.via hb2
    have PB2 := PB.via hb2
    have PQ2 := PQ.via hb2
    have PR2 := PR.via hb2
    have HB2 := Lib.hid (HB1.out.trans (hb2.mono HB1.out.size))
    have HQ := Lib.hid hQ
    have HR := Lib.hid hR
    have LB2 := Lib.hid (LB1.out.via hb2)
    clear PA PB PQ PR LA1 LB1 HB1 a0 a1 b0 b1 hb2 hQ hR
    have ⟨a0, a1, _, _, _⟩ := PA2
    have ⟨b0, b1, _, _, _⟩ := PB2
    go_wp2_with fail
    refine (rmade_any w2 _ _ _ _ _ (a / b) HQ.out HVq.out (by omega)).mono ?_
    rintro e w3 ⟨A3, n3, c3, rfl, hL3, hb3⟩
    rw [HLq.out] at hL3
    rw [HEq.out]
    have PA4 := (PA2.via hb3).alloc (.cells #[.bool (mkN true (a / b)), .slice A3 n3 c3] 24)
    have PB4 := (PB2.via hb3).alloc (.cells #[.bool (mkN true (a / b)), .slice A3 n3 c3] 24)
    have PQ4 := (PQ2.via hb3).alloc (.cells #[.bool (mkN true (a / b)), .slice A3 n3 c3] 24)
    have PR4 := (PR2.via hb3).alloc (.cells #[.bool (mkN true (a / b)), .slice A3 n3 c3] 24)
    have HB4 := Lib.hid ((HB2.out.trans (hb3.mono HB2.out.size)).alloc (HB2.out.trans (hb3.mono HB2.out.size)).size (.cells #[.bool (mkN true (a / b)), .slice A3 n3 c3] 24))
    have HR4 := Lib.hid ((HR.out.via hb3).box (.cells #[.bool (mkN true (a / b)), .slice A3 n3 c3] 24))
    have LB4 := Lib.hid ((LB2.out.via hb3).box (.cells #[.bool (mkN true (a / b)), .slice A3 n3 c3] 24))
    have HL4 := Lib.hid (hL3.box (.cells #[.bool (mkN true (a / b)), .slice A3 n3 c3] 24))
    have PX4 := Pr.new w3 w3.heap.size rfl (.bool (mkN true (a / b))) (.slice A3 n3 c3) 24
    have hlt3 : w.heap.size + 1 + 1 + 1 < w3.heap.size := (PR2.via hb3).lt
    clear PA2 PB2 PQ2 PR2 HQ HR HB2 LB2 hb3 hL3 a0 a1 b0 b1
    have ⟨a0, a1, _, _, _⟩ := PA4
    have ⟨b0, b1, _, _, _⟩ := PB4
    go_wp2_with fail
    generalize w3.alloc (.cells #[.bool (mkN true (a / b)), .slice A3 n3 c3] 24) = w4 at *
    generalize w3.heap.size = g3 at *
    refine (rmade_any w4 _ _ _ _ _ (a % b) HR4.out HVr.out (by omega)).mono ?_
    rintro e w5 ⟨A5, n5, c5, rfl, hL5, hb5⟩
    rw [HLr.out] at hL5
    rw [HEr.out]
    have PA6 := (PA4.via hb5).alloc (.cells #[.bool (mkN true (a % b)), .slice A5 n5 c5] 24)
    have PB6 := (PB4.via hb5).alloc (.cells #[.bool (mkN true (a % b)), .slice A5 n5 c5] 24)
    have PQ6 := (PQ4.via hb5).alloc (.cells #[.bool (mkN true (a % b)), .slice A5 n5 c5] 24)
    have PR6 := (PR4.via hb5).alloc (.cells #[.bool (mkN true (a % b)), .slice A5 n5 c5] 24)
    have PX6 := (PX4.via hb5).alloc (.cells #[.bool (mkN true (a % b)), .slice A5 n5 c5] 24)
    have HB6 := Lib.hid ((HB4.out.trans (hb5.mono HB4.out.size)).alloc (HB4.out.trans (hb5.mono HB4.out.size)).size (.cells #[.bool (mkN true (a % b)), .slice A5 n5 c5] 24))
    have LB6 := Lib.hid ((LB4.out.via hb5).box (.cells #[.bool (mkN true (a % b)), .slice A5 n5 c5] 24))
    have HL6 := Lib.hid ((HL4.out.via hb5).box (.cells #[.bool (mkN true (a % b)), .slice A5 n5 c5] 24))
    have HM6 := Lib.hid (hL5.box (.cells #[.bool (mkN true (a % b)), .slice A5 n5 c5] 24))
    have PY6 := Pr.new w5 w5.heap.size rfl (.bool (mkN true (a % b))) (.slice A5 n5 c5) 24
    have hlt5 : g3 < w5.heap.size := (PX4.via hb5).lt
    clear PA4 PB4 PQ4 PR4 PX4 HB4 HR4 LB4 HL4 hb5 hL5 a0 a1 b0 b1
    have ⟨a0, a1, _, _, _⟩ := PA6
    have ⟨b0, b1, _, _, _⟩ := PB6
    go_wp2_with fail
    generalize w5.alloc (.cells #[.bool (mkN true (a % b)), .slice A5 n5 c5] 24) = w6 at *
    generalize w5.heap.size = g5 at *
    have ⟨q0, q1, qf0, qf1, ql⟩ := PQ6
    have ⟨r0, r1, rf0, rf1, rl⟩ := PR6
    have ⟨x0, x1, xf0, xf1, xl⟩ := PX6
    have ⟨y0, y1, yf0, yf1, yl⟩ := PY6
    go_region_with
      (first
       | (go_at_call 16; refine (rfrom_m1 _).mono ?_; rintro e ws ⟨As, ns, cs, rfl, hLs, hbs⟩; have Bs := (Below.refl w6.heap.size w6).drew.trans hbs; have PXs := PX6.via Bs; have ⟨xs0, xs1, xsf0, xsf1, xsl⟩ := PXs)
       | (go_at_call 39; refine (HS1.out ws A3 As n3 c3 ns cs (HL6.out.via Bs) hLs).mono ?_; rintro e wt ⟨At, nt, ct, rfl, hLt, hbt⟩; have PXt := PXs.via hbt; have ⟨xt0, xt1, xtf0, xtf1, xtl⟩ := PXt))
    all_goals
      have Bt := Bs.trans (hbt.mono Bs.size)
      have PA7 := (PA6.via Bt).far (h := g3) (by omega) (.bool (mkN true (a / b + 1))) (.slice At nt ct)
      have PB7 := (PB6.via Bt).far (h := g3) (by omega) (.bool (mkN true (a / b + 1))) (.slice At nt ct)
      have PQ7 := (PQ6.via Bt).far (h := g3) (by omega) (.bool (mkN true (a / b + 1))) (.slice At nt ct)
      have PR7 := (PR6.via Bt).far (h := g3) (by omega) (.bool (mkN true (a / b + 1))) (.slice At nt ct)
      have PY7 := (PY6.via Bt).far (h := g3) (by omega) (.bool (mkN true (a / b + 1))) (.slice At nt ct)
      have PX7 := PXt.set (.bool (mkN true (a / b + 1))) (.slice At nt ct)
      have HL7 := Lib.hid (hLt.setP PXt (.bool (mkN true (a / b + 1))) (.slice At nt ct))
      have HM7 := Lib.hid ((HM6.out.via Bt).setP PXt (.bool (mkN true (a / b + 1))) (.slice At nt ct))
      have LB7 := Lib.hid ((LB6.out.via Bt).setP PXt (.bool (mkN true (a / b + 1))) (.slice At nt ct))
      have HB7 := Lib.hid (below_set2 (HB6.out.trans (Bt.mono HB6.out.size)) (g := g3) (by omega) (.bool (mkN true (a / b + 1))) (.slice At nt ct))
      have ⟨y70, y71, _, _, _⟩ := PY7
      have ⟨b70, b71, _, _, _⟩ := PB7
      go_wp2_with fail
      generalize (wt.setCell ⟨g3, 0, none⟩ (.bool (mkN true (a / b + 1)))).setCell ⟨g3, 1, none⟩ (.slice At nt ct) = w7 at *
      refine (HS2.out w7 A5 n5 c5 HM7.out LB7.out).mono ?_
      rintro e w8 ⟨A8, n8, c8, rfl, hL8, hb8⟩
      have PY8 := PY7.via hb8
      have ⟨y80, y81, yf80, yf81, _⟩ := PY8
      have PQ9 := (PQ7.via hb8).far (h := g5) (by omega) (.bool (mkN false (b - a % b))) (.slice A8 n8 c8)
      have PR9 := (PR7.via hb8).far (h := g5) (by omega) (.bool (mkN false (b - a % b))) (.slice A8 n8 c8)
      have PX9 := (PX7.via hb8).far (h := g5) (by omega) (.bool (mkN false (b - a % b))) (.slice A8 n8 c8)
      have PY9 := PY8.set (.bool (mkN false (b - a % b))) (.slice A8 n8 c8)
      have HM9 := Lib.hid (hL8.setP PY8 (.bool (mkN false (b - a % b))) (.slice A8 n8 c8))
      have HL9 := Lib.hid ((HL7.out.via hb8).setP PY8 (.bool (mkN false (b - a % b))) (.slice A8 n8 c8))
      have HB9 := Lib.hid (below_set2 (HB7.out.trans (hb8.mono HB7.out.size)) (g := g5) (by omega) (.bool (mkN false (b - a % b))) (.slice A8 n8 c8))
      go_wp2_with fail
      generalize (w8.setCell ⟨g5, 0, none⟩ (.bool (mkN false (b - a % b)))).setCell ⟨g5, 1, none⟩ (.slice A8 n8 c8) = w9 at *
      have ⟨q90, q91, qf90, qf91, ql9⟩ := PQ9
      have ⟨r90, r91, rf90, rf91, rl9⟩ := PR9
      have ⟨x90, x91, xf90, xf91, xl9⟩ := PX9
      have ⟨y90, y91, yf90, yf91, yl9⟩ := PY9
      go_region
      all_goals
        go_wp2
        refine post_ww Tryd.results23 rfl rfl rfl ((PQ9.set _ _).far (by omega) _ _).drew ((PR9.far (by omega) _ _).set _ _).drew ⟨At, nt, ct, A8, n8, c8, rfl, ?_, ?_, ?_⟩
        · exact ((HL9.out.setP PQ9 _ _).setP (PR9.far (by omega) _ _) _ _).drew
        · exact ((HM9.out.setP PQ9 _ _).setP (PR9.far (by omega) _ _) _ _).drew
        · exact (below_set2 (below_set2 HB9.out (by omega) _ _) (by omega) _ _).drew
  · go_enter Tryd.func23, Tryd.ntmps23
    go_wp2_with fail
    refine (rboth_any _ _ _ _ _ _ _ _ _ _ _ ((((HA.out.box _).box _).box _).box _) ((((HB.out.box _).box _).box _).box _) 0 HV.out).mono ?_
    rintro e w1 ⟨rfl, hb1⟩
    have ⟨PA, PB, PQ, PR⟩ := boxes4 hb1
    have LA1 := Lib.hid (((((HA.out.box _).box _).box _).box _).via hb1)
    have LB1 := Lib.hid (((((HB.out.box _).box _).box _).box _).via hb1)
    have HB1 := Lib.hid (bbox (bbox (bbox (bbox hb1))))
    have ⟨a0, a1, _, _, _⟩ := PA
    have ⟨b0, b1, _, _, _⟩ := PB
    clear hb1
    go_wp2_with fail
    refine (rover_any w1 A B n m ca cb a b LA1.out LB1.out hb (by omega)).mono ?_
    rintro e w2 ⟨Q, cq, R, cr, rfl, hQ, hR, hb2⟩
    have PA2 := PA.via hb2
    have PB2 := PB.via hb2
    have PQ2 := PQ.via hb2
    have PR2 := PR.via hb2
    have HB2 := Lib.hid (HB1.out.trans (hb2.mono HB1.out.size))
    have HQ := Lib.hid hQ
    have HR := Lib.hid hR
    have LB2 := Lib.hid (LB1.out.via hb2)
    clear PA PB PQ PR LA1 LB1 HB1 a0 a1 b0 b1 hb2 hQ hR
    have ⟨a0, a1, _, _, _⟩ := PA2
    have ⟨b0, b1, _, _, _⟩ := PB2
    go_wp2_with fail
    refine (rmade_any w2 _ _ _ _ _ (a / b) HQ.out HVq.out (by omega)).mono ?_
    rintro e w3 ⟨A3, n3, c3, rfl, hL3, hb3⟩
    rw [HLq.out] at hL3
    rw [HEq.out]
    have PA4 := (PA2.via hb3).alloc (.cells #[.bool (mkN true (a / b)), .slice A3 n3 c3] 24)
    have PB4 := (PB2.via hb3).alloc (.cells #[.bool (mkN true (a / b)), .slice A3 n3 c3] 24)
    have PQ4 := (PQ2.via hb3).alloc (.cells #[.bool (mkN true (a / b)), .slice A3 n3 c3] 24)
    have PR4 := (PR2.via hb3).alloc (.cells #[.bool (mkN true (a / b)), .slice A3 n3 c3] 24)
    have HB4 := Lib.hid ((HB2.out.trans (hb3.mono HB2.out.size)).alloc (HB2.out.trans (hb3.mono HB2.out.size)).size (.cells #[.bool (mkN true (a / b)), .slice A3 n3 c3] 24))
    have HR4 := Lib.hid ((HR.out.via hb3).box (.cells #[.bool (mkN true (a / b)), .slice A3 n3 c3] 24))
    have LB4 := Lib.hid ((LB2.out.via hb3).box (.cells #[.bool (mkN true (a / b)), .slice A3 n3 c3] 24))
    have HL4 := Lib.hid (hL3.box (.cells #[.bool (mkN true (a / b)), .slice A3 n3 c3] 24))
    have PX4 := Pr.new w3 w3.heap.size rfl (.bool (mkN true (a / b))) (.slice A3 n3 c3) 24
    have hlt3 : w.heap.size + 1 + 1 + 1 < w3.heap.size := (PR2.via hb3).lt
    clear PA2 PB2 PQ2 PR2 HQ HR HB2 LB2 hb3 hL3 a0 a1 b0 b1
    have ⟨a0, a1, _, _, _⟩ := PA4
    have ⟨b0, b1, _, _, _⟩ := PB4
    go_wp2_with fail
    generalize w3.alloc (.cells #[.bool (mkN true (a / b)), .slice A3 n3 c3] 24) = w4 at *
    generalize w3.heap.size = g3 at *
    refine (rmade_any w4 _ _ _ _ _ (a % b) HR4.out HVr.out (by omega)).mono ?_
    rintro e w5 ⟨A5, n5, c5, rfl, hL5, hb5⟩
    rw [HLr.out] at hL5
    rw [HEr.out]
    have PA6 := (PA4.via hb5).alloc (.cells #[.bool (mkN false (a % b)), .slice A5 n5 c5] 24)
    have PB6 := (PB4.via hb5).alloc (.cells #[.bool (mkN false (a % b)), .slice A5 n5 c5] 24)
    have PQ6 := (PQ4.via hb5).alloc (.cells #[.bool (mkN false (a % b)), .slice A5 n5 c5] 24)
    have PR6 := (PR4.via hb5).alloc (.cells #[.bool (mkN false (a % b)), .slice A5 n5 c5] 24)
    have PX6 := (PX4.via hb5).alloc (.cells #[.bool (mkN false (a % b)), .slice A5 n5 c5] 24)
    have HB6 := Lib.hid ((HB4.out.trans (hb5.mono HB4.out.size)).alloc (HB4.out.trans (hb5.mono HB4.out.size)).size (.cells #[.bool (mkN false (a % b)), .slice A5 n5 c5] 24))
    have LB6 := Lib.hid ((LB4.out.via hb5).box (.cells #[.bool (mkN false (a % b)), .slice A5 n5 c5] 24))
    have HL6 := Lib.hid ((HL4.out.via hb5).box (.cells #[.bool (mkN false (a % b)), .slice A5 n5 c5] 24))
    have HM6 := Lib.hid (hL5.box (.cells #[.bool (mkN false (a % b)), .slice A5 n5 c5] 24))
    have PY6 := Pr.new w5 w5.heap.size rfl (.bool (mkN false (a % b))) (.slice A5 n5 c5) 24
    have hlt5 : g3 < w5.heap.size := (PX4.via hb5).lt
    clear PA4 PB4 PQ4 PR4 PX4 HB4 HR4 LB4 HL4 hb5 hL5 a0 a1 b0 b1
    have ⟨a0, a1, _, _, _⟩ := PA6
    have ⟨b0, b1, _, _, _⟩ := PB6
    go_wp2_with fail
    generalize w5.alloc (.cells #[.bool (mkN false (a % b)), .slice A5 n5 c5] 24) = w6 at *
    generalize w5.heap.size = g5 at *
    have ⟨q0, q1, qf0, qf1, ql⟩ := PQ6
    have ⟨r0, r1, rf0, rf1, rl⟩ := PR6
    have ⟨x0, x1, xf0, xf1, xl⟩ := PX6
    have ⟨y0, y1, yf0, yf1, yl⟩ := PY6
    go_region_with
      (first
       | (go_at_call 16; refine (rfrom_m1 _).mono ?_; rintro e ws ⟨As, ns, cs, rfl, hLs, hbs⟩; have Bs := (Below.refl w6.heap.size w6).drew.trans hbs; have PXs := PX6.via Bs; have ⟨xs0, xs1, xsf0, xsf1, xsl⟩ := PXs)
       | (go_at_call 39; refine (HS1.out ws A3 As n3 c3 ns cs (HL6.out.via Bs) hLs).mono ?_; rintro e wt ⟨At, nt, ct, rfl, hLt, hbt⟩; have PXt := PXs.via hbt; have ⟨xt0, xt1, xtf0, xtf1, xtl⟩ := PXt))
    all_goals
      have Bt := Bs.trans (hbt.mono Bs.size)
      have PA7 := (PA6.via Bt).far (h := g3) (by omega) (.bool (mkN true (a / b + 1))) (.slice At nt ct)
      have PB7 := (PB6.via Bt).far (h := g3) (by omega) (.bool (mkN true (a / b + 1))) (.slice At nt ct)
      have PQ7 := (PQ6.via Bt).far (h := g3) (by omega) (.bool (mkN true (a / b + 1))) (.slice At nt ct)
      have PR7 := (PR6.via Bt).far (h := g3) (by omega) (.bool (mkN true (a / b + 1))) (.slice At nt ct)
      have PY7 := (PY6.via Bt).far (h := g3) (by omega) (.bool (mkN true (a / b + 1))) (.slice At nt ct)
      have PX7 := PXt.set (.bool (mkN true (a / b + 1))) (.slice At nt ct)
      have HL7 := Lib.hid (hLt.setP PXt (.bool (mkN true (a / b + 1))) (.slice At nt ct))
      have HM7 := Lib.hid ((HM6.out.via Bt).setP PXt (.bool (mkN true (a / b + 1))) (.slice At nt ct))
      have LB7 := Lib.hid ((LB6.out.via Bt).setP PXt (.bool (mkN true (a / b + 1))) (.slice At nt ct))
      have HB7 := Lib.hid (below_set2 (HB6.out.trans (Bt.mono HB6.out.size)) (g := g3) (by omega) (.bool (mkN true (a / b + 1))) (.slice At nt ct))
      have ⟨y70, y71, _, _, _⟩ := PY7
      have ⟨b70, b71, _, _, _⟩ := PB7
      go_wp2_with fail
      generalize (wt.setCell ⟨g3, 0, none⟩ (.bool (mkN true (a / b + 1)))).setCell ⟨g3, 1, none⟩ (.slice At nt ct) = w7 at *
      refine (HS2.out w7 A5 n5 c5 HM7.out LB7.out).mono ?_
      rintro e w8 ⟨A8, n8, c8, rfl, hL8, hb8⟩
      have PY8 := PY7.via hb8
      have ⟨y80, y81, yf80, yf81, _⟩ := PY8
      have PQ9 := (PQ7.via hb8).far (h := g5) (by omega) (.bool (mkN true (b - a % b))) (.slice A8 n8 c8)
      have PR9 := (PR7.via hb8).far (h := g5) (by omega) (.bool (mkN true (b - a % b))) (.slice A8 n8 c8)
      have PX9 := (PX7.via hb8).far (h := g5) (by omega) (.bool (mkN true (b - a % b))) (.slice A8 n8 c8)
      have PY9 := PY8.set (.bool (mkN true (b - a % b))) (.slice A8 n8 c8)
      have HM9 := Lib.hid (hL8.setP PY8 (.bool (mkN true (b - a % b))) (.slice A8 n8 c8))
      have HL9 := Lib.hid ((HL7.out.via hb8).setP PY8 (.bool (mkN true (b - a % b))) (.slice A8 n8 c8))
      have HB9 := Lib.hid (below_set2 (HB7.out.trans (hb8.mono HB7.out.size)) (g := g5) (by omega) (.bool (mkN true (b - a % b))) (.slice A8 n8 c8))
      go_wp2_with fail
      generalize (w8.setCell ⟨g5, 0, none⟩ (.bool (mkN true (b - a % b)))).setCell ⟨g5, 1, none⟩ (.slice A8 n8 c8) = w9 at *
      have ⟨q90, q91, qf90, qf91, ql9⟩ := PQ9
      have ⟨r90, r91, rf90, rf91, rl9⟩ := PR9
      have ⟨x90, x91, xf90, xf91, xl9⟩ := PX9
      have ⟨y90, y91, yf90, yf91, yl9⟩ := PY9
      go_region
      all_goals
        go_wp2
        refine post_ww Tryd.results23 rfl rfl rfl ((PQ9.set _ _).far (by omega) _ _).drew ((PR9.far (by omega) _ _).set _ _).drew ⟨At, nt, ct, A8, n8, c8, rfl, ?_, ?_, ?_⟩
        · exact ((HL9.out.setP PQ9 _ _).setP (PR9.far (by omega) _ _) _ _).drew
        · exact ((HM9.out.setP PQ9 _ _).setP (PR9.far (by omega) _ _) _ _).drew
        · exact (below_set2 (below_set2 HB9.out (by omega) _ _) (by omega) _ _).drew
end Go.Proofs.YtkcdijhfiahibaaDoor

/- wide.Pow. -/
namespace Go.Proofs.YtkcdijhfiahibaaDoor
open Go.RowKit

theorem mul_rz (w : World) (A B : Option Addr) (n m ca cb : Nat) (x y : Int) {na nb : Bool} (hA : Lm w w.heap.size A n ca (digs x.natAbs)) (hB : Lm w w.heap.size B m cb (digs y.natAbs)) (hx : (digs x.natAbs).length ≤ 4096) (hy : (digs y.natAbs).length ≤ 4096) (ha : decide (x < 0) = na) (hb : decide (y < 0) = nb) :
    Calls Tryd.prog 20 #[.agg #[.bool na, .slice A n ca], .agg #[.bool nb, .slice B m cb]] w (RZ w (x * y)) := by
  subst ha hb
  have h := mul_ok w _ _ A B n m ca cb _ _ hA hB (chkB_z (digs_len.1 hx) (Nat.le_refl _) (digs_len.1 hy) (Nat.le_refl _))
  have e1 := rz_of w (decide (x < 0) != decide (y < 0)) (x.natAbs * y.natAbs) (z := x * y) (by rw [← toI_mul, toI_self, toI_self])
  rw [e1] at h
  exact h
/-- A number of at most 4096 limbs, or one that is too large. -/
theorem rz_cases {w : World} {z : Int} {e : Ending} {w' : World} (h : RZ w z e w') : ((digs z.natAbs).length ≤ 4096 ∧ RN w z e w') ∨ (4096 < (digs z.natAbs).length ∧ RW w false [] 16 e w') := by
  rcases Nat.lt_or_ge 4096 (digs z.natAbs).length with h1 | h1
  · right
    refine ⟨h1, ?_⟩
    unfold RZ mkN mkL mkE at h
    rw [decide_eq_false (by omega), if_neg (by omega), if_neg (by omega)] at h
    exact h
  · obtain ⟨k, hk⟩ : ∃ k, k = 4096 := ⟨_, rfl⟩
    exact .inl ⟨h1, rz_rn (k := k) (digs_len.1 (by omega)) (by omega) h⟩
theorem rz_big {w : World} {z : Int} (h1 : 4096 < (digs z.natAbs).length) : RZ w z = RW w false [] 16 := by
  unfold RZ mkN mkL mkE
  rw [decide_eq_false (by omega), if_neg (by omega), if_neg (by omega)]
  rfl
theorem rz_fit {w : World} {z : Int} (h1 : (digs z.natAbs).length ≤ 4096) : RZ w z = RW w (decide (z < 0)) (digs z.natAbs) 0 := by
  obtain ⟨k, hk⟩ : ∃ k, k = 4096 := ⟨_, rfl⟩
  have h2 := mkN_z (z := z) (k := k) (digs_len.1 (by omega)) (by omega)
  unfold RZ
  rw [h2.1, h2.2.1, h2.2.2]
theorem natAbs_pow_ (x : Int) (k : Nat) : (x ^ k).natAbs = x.natAbs ^ k := by
  induction k with
  | zero => simp
  | succ k ih => rw [Int.pow_succ, Nat.pow_succ, Int.natAbs_mul, ih]
/-- A power on the way is no longer than the last one. -/
theorem pow_way {x : Int} {a b : Nat} (h : a ≤ b) (hb : 4096 < (digs (x ^ a).natAbs).length) : 4096 < (digs (x ^ b).natAbs).length := by
  rw [natAbs_pow_] at hb ⊢
  rcases Nat.eq_zero_or_pos x.natAbs with h0 | h0
  · rw [h0] at hb
    have : (digs (0 ^ a)).length ≤ 1 := by
      refine digs_len.2 ?_
      rcases Nat.eq_zero_or_pos a with h1 | h1
      · subst h1; decide
      · rw [Nat.zero_pow h1]; decide
    omega
  · exact Nat.lt_of_lt_of_le hb (digs_mono (Nat.pow_le_pow_right h0 h))
theorem and_one (d : Nat) (h : d < 65536) : bits .and .i64 (d : Int) 1 = ((d % 2 : Nat) : Int) := by
  have e16 : (2 : Int) ^ 16 = 65536 := by decide
  have e1 : (2 : Int) ^ 1 = 2 := by decide
  have h1 := bits_mask .i64 16 (by decide) (fun n h0 h1 => by rw [e16] at h1; rw [IntKind.wrap_i64]; omega) 1 (by omega) (d : Int) (by omega) (by rw [e16]; omega)
  rw [e1] at h1
  have e2 : (2 : Int) - 1 = 1 := by decide
  rw [e2] at h1
  rw [h1]
  omega
theorem Pr.set1 {w : World} {g : Nat} {x y : Value} (p : Pr w g x y) (x' y' : Value) : Pr ((w.setCell ⟨g, 0, none⟩ x').setCell ⟨g, 1, none⟩ y') g x' y' := p.set x' y'

set_option maxRecDepth 100000 in
set_option maxHeartbeats 1000000 in
theorem pow_bad (w : World) (neg : Bool) (A : Option Addr) (n c : Nat) (xs : List Nat) (k : Int) (h : Lm w w.heap.size A n c xs) (hc : chk neg xs = 8) :
    Calls Tryd.prog 17 #[.agg #[.bool neg, .slice A n c], .int .i64 k] w (RW w false [] 8) := by
  have HH := Lib.hid h
  have HC := Lib.hid hc
  clear hc
  go_enter Tryd.func17, Tryd.ntmps17
  go_wp2_with fail
  refine (check_bad _ _ _ _ _ _ ((HH.out.box _).box _) HC.out).mono ?_
  rintro e w1 ⟨rfl, hb1⟩
  have ⟨hx0, hx1, hy0, hy1, hf0, hf1, hsz⟩ := box2 hb1
  go_wp2
  exact post_ws Tryd.results17 rfl rfl hy0 hy1 ⟨none, 0, 0, rfl, Lm.nil _ _, below_set2 (bbox (bbox hb1)) (by omega) _ _⟩

set_option maxRecDepth 100000 in
set_option maxHeartbeats 1000000 in
theorem pow_arg (w : World) (neg : Bool) (A : Option Addr) (n c : Nat) (xs : List Nat) (k : Int) (h : Lm w w.heap.size A n c xs) (hc : chk neg xs = 0) (hk : k < 0 ∨ 1000 < k) :
    Calls Tryd.prog 17 #[.agg #[.bool neg, .slice A n c], .int .i64 k] w (RW w false [] 2) := by
  have HH := Lib.hid h
  have HC := Lib.hid hc
  clear hc
  go_enter Tryd.func17, Tryd.ntmps17
  go_wp2_with fail
  refine (check_ok _ _ _ _ _ _ ((HH.out.box _).box _) HC.out).mono ?_
  rintro e w1 ⟨rfl, hb1⟩
  have ⟨hx0, hx1, hy0, hy1, hf0, hf1, hsz⟩ := box2 hb1
  rcases hk with hk | hk
  · go_wp2
    exact post_ws Tryd.results17 rfl rfl hy0 hy1 ⟨none, 0, 0, rfl, Lm.nil _ _, below_set2 (bbox (bbox hb1)) (by omega) _ _⟩
  · have hk2 : decide (k < 0) = false := by simp; omega
    go_wp2
    exact post_ws Tryd.results17 rfl rfl hy0 hy1 ⟨none, 0, 0, rfl, Lm.nil _ _, below_set2 (bbox (bbox hb1)) (by omega) _ _⟩

set_option maxRecDepth 100000 in
set_option maxHeartbeats 2000000 in
theorem pow_ok (w : World) (A : Option Addr) (n c k : Nat) (x : Int) {na : Bool} (h : Lm w w.heap.size A n c (digs x.natAbs)) (hx : (digs x.natAbs).length ≤ 4096) (hk : k ≤ 1000) (ha : decide (x < 0) = na) :
    Calls Tryd.prog 17 #[.agg #[.bool na, .slice A n c], .int .i64 (k : Int)] w (RZ w (x ^ k)) := by
  have HH := Lib.hid h
  have HX := Lib.hid hx
  have HN := Lib.hid ha
  have HC : Hid (chk na (digs x.natAbs) = 0) := by show _ = _; rw [← ha]; exact chk_z (digs_len.1 hx) (Nat.le_refl _)
  have hkd : decide ((k : Int) < 0) = false := decide_eq_false (by omega)
  have hkd2 : decide ((1000 : Int) < (k : Int)) = false := decide_eq_false (by omega)
  have hb10 : Lib.bitLen k ≤ 10 := Lib.bitLen_le k 10 (by omega) (by omega)
  have HB2 : Hid (k < 2 ^ Lib.bitLen k) := by
    show _ < _
    rcases Nat.eq_zero_or_pos k with h0 | h0
    · subst h0; exact Nat.pow_pos (by omega)
    · exact (bitLen_bounds (by omega) (by omega)).2.2
  clear h hx ha
  go_enter Tryd.func17, Tryd.ntmps17
  go_wp2_with fail
  refine (check_ok _ _ _ _ _ _ ((HH.out.box _).box _) HC.out).mono ?_
  rintro e w1 ⟨rfl, hb1⟩
  have P0 := Lib.hid (((Pr.new w _ rfl (.bool na) (.slice A n c) 24).alloc (.cells #[.bool false, .slice none 0 0] 24)).via hb1)
  have P1 := Lib.hid ((Pr.new (w.alloc (.cells #[.bool na, .slice A n c] 24)) (w.heap.size + 1) (by simp) (.bool false) (.slice none 0 0) 24).via hb1)
  have L1 := Lib.hid (((HH.out.box _).box _).via hb1)
  have B1 := Lib.hid (bbox (bbox hb1))
  clear hb1
  go_wp2_with fail
  refine (from_any _ 1 (by omega) (by omega)).mono ?_
  rintro e w2 ⟨A2, n2, c2, rfl, hL2, hb2⟩
  have P0' := Lib.hid (P0.out.via hb2)
  have P1' := Lib.hid (P1.out.via hb2)
  have L1' := Lib.hid (L1.out.via hb2)
  have B2 := Lib.hid (B1.out.trans (hb2.mono B1.out.size))
  have L2 := Lib.hid hL2
  clear hL2 hb2 P0 P1 L1 B1
  go_wp2_with fail
  refine (len_any _ _ (by omega) (by omega)).mono ?_
  rintro e w3 ⟨rfl, rfl⟩
  rw [show ((k : Int)).toNat = k from rfl]
  have P2 := Lib.hid (Pr.new w2 _ rfl (.bool false) (.slice A2 n2 c2) 24)
  have P0 := Lib.hid (P0'.out.alloc (.cells #[.bool false, .slice A2 n2 c2] 24))
  have P1 := Lib.hid (P1'.out.alloc (.cells #[.bool false, .slice A2 n2 c2] 24))
  have L1 := Lib.hid (L1'.out.box (.cells #[.bool false, .slice A2 n2 c2] 24))
  have L3 := Lib.hid (L2.out.box (.cells #[.bool false, .slice A2 n2 c2] 24))
  have B3 := Lib.hid (B2.out.alloc B2.out.size (.cells #[.bool false, .slice A2 n2 c2] 24))
  have hg7 : w.heap.size + 1 < w2.heap.size := P1'.out.lt
  clear P0' P1' L1' L2 B2
  generalize w2.alloc (.cells #[.bool false, .slice A2 n2 c2] 24) = W3 at *
  generalize w2.heap.size = g at *
  generalize Lib.bitLen k = bl at *
  go_wp2
  go_loopw [8, 9] (fun ev iv wr => ∃ (j : Nat) (er : Int) (ny : Bool) (A' : Option Addr) (n' c' : Nat), j ≤ bl ∧ iv = .int .i64 (j : Int) ∧ ev = .int .i64 er ∧ Pr wr g (.bool ny) (.slice A' n' c') ∧
      ((er = 0 ∧ Lm wr wr.heap.size A' n' c' (digs (x ^ (k / 2 ^ j)).natAbs) ∧ ny = decide (x ^ (k / 2 ^ j) < 0) ∧ (digs (x ^ (k / 2 ^ j)).natAbs).length ≤ 4096) ∨ (er = 16 ∧ ny = false ∧ Lm wr wr.heap.size A' n' c' [] ∧ 4096 < (digs (x ^ k).natAbs).length)) ∧
      Pr wr w.heap.size (.bool na) (.slice A n c) ∧ Pr wr (w.heap.size + 1) (.bool false) (.slice none 0 0) ∧ Lm wr wr.heap.size A n c (digs x.natAbs) ∧ Below w.heap.size w wr) (fun _ iv _ => (intOf iv).toNat)
  case atStart =>
    have e0 : k / 2 ^ bl = 0 := Nat.div_eq_of_lt HB2.out
    refine ⟨bl, 0, false, A2, n2, c2, Nat.le_refl _, rfl, rfl, P2.out, .inl ⟨rfl, ?_, ?_, ?_⟩, P0.out, P1.out, L1.out, B3.out⟩
    · rw [e0, Int.pow_zero]; exact L3.out
    · rw [e0, Int.pow_zero]; rfl
    · rw [e0, Int.pow_zero]; decide
  case round =>
    obtain ⟨j, er, ny, A', n', c', hj, rfl, rfl, hP, hS, hP0, hP1, hL, hB⟩ := hrel
    have HP := Lib.hid hP
    have HP0 := Lib.hid hP0
    have HP1 := Lib.hid hP1
    have HL := Lib.hid hL
    have HB := Lib.hid hB
    clear P0 P1 P2 L1 L3 B3 hP hP0 hP1 hL hB
    have ⟨p0, p1, _, _, _⟩ := HP.out
    have ⟨w0, w1, _, _, _⟩ := HP0.out
    have ⟨r0, r1, _, _, _⟩ := HP1.out
    rcases hS with ⟨rfl, hY, rfl, hyl⟩ | ⟨rfl, rfl, hY0, hbig⟩
    · have HY := Lib.hid hY
      clear hY
      rcases j with _ | j
      · rw [Nat.pow_zero, Nat.div_one] at HY hyl HP p0
        have HFit := Lib.hid (rz_fit (w := w) hyl)
        obtain ⟨ny, hny⟩ : ∃ b, decide (x ^ k < 0) = b := ⟨_, rfl⟩
        rw [hny] at HP HFit p0
        go_wp2
        exact post_ws Tryd.results17 rfl rfl r0 r1 (by rw [HFit.out]; exact ⟨A', n', c', rfl, HY.out.setP HP1.out _ _, below_set2 HB.out (by omega) _ _⟩)
      · obtain ⟨y, hy⟩ : ∃ y, x ^ (k / 2 ^ (j + 1)) = y := ⟨_, rfl⟩
        rw [hy] at HY HP hyl p0
        obtain ⟨ny, hny⟩ : ∃ b, decide (y < 0) = b := ⟨_, rfl⟩
        have HNy := Lib.hid hny
        have HYe := Lib.hid hy
        rw [hny] at HP p0
        clear hy hny
        go_wp2_with fail
        refine (mul_rz _ _ _ _ _ _ _ y y HY.out HY.out hyl hyl HNy.out HNy.out).mono ?_
        intro e w4 hr
        rcases rz_cases hr with ⟨hfit, hr2⟩ | ⟨hfit, hr2⟩
        · obtain ⟨A4, n4, c4, rfl, hL4, hb4⟩ := hr2
          have HQ := Lib.hid (HP.out.via hb4)
          have HQ0 := Lib.hid (HP0.out.via hb4)
          have HQ1 := Lib.hid (HP1.out.via hb4)
          have HM := Lib.hid (HL.out.via hb4)
          have HL4 := Lib.hid hL4
          have HB4 := Lib.hid (HB.out.trans (hb4.mono HB.out.size))
          have hj2 : k / 2 ^ j = 2 * (k / 2 ^ (j + 1)) + k / 2 ^ j % 2 := by rw [Nat.pow_succ, ← Nat.div_div_eq_div_mul]; omega
          have HYY : Hid (y * y = x ^ (2 * (k / 2 ^ (j + 1)))) := by show _ = _; rw [← HYe.out, ← Int.pow_add]; congr 1; omega
          have HJ2 := Lib.hid hj2
          clear hj2 hr hL4 hb4 p0 p1 w0 w1 r0 r1
          have ⟨p0, p1, f0, f1, _⟩ := HQ.out
          have ⟨w0, w1, _, _, _⟩ := HQ0.out
          have ⟨r0, r1, _, _, _⟩ := HQ1.out
          obtain ⟨d, hd⟩ : ∃ d, k / 2 ^ j = d := ⟨_, rfl⟩
          have hdq : (k : Int) / 2 ^ j = (d : Int) := by rw [cast_shr, hd]
          have hdk : d ≤ k := by rw [← hd]; exact Nat.div_le_self _ _
          have hj9 : j < 16 := by omega
          have HDd := Lib.hid hd
          clear hd
          have hand := and_one d (by omega)
          rcases Nat.mod_two_eq_zero_or_one d with hd2 | hd2
          · rw [hd2] at hand
            have hE : k / 2 ^ j = 2 * (k / 2 ^ (j + 1)) := by have := HJ2.out; have := HDd.out; omega
            have HE : Hid (y * y = x ^ (k / 2 ^ j)) := by show _ = _; rw [HYY.out, hE]
            have hand1 : ¬ bits .and .i64 (d : Int) 1 = 1 := by rw [hand]; decide
            clear hE hand
            have hfit' := hfit
            rw [HE.out] at hfit'
            have HF := Lib.hid hfit'
            clear hfit hfit'
            go_wp2
            go_roundw
            case rel =>
              refine ⟨j, 0, decide (y * y < 0), A4, n4, c4, by omega, rfl, rfl, HQ.out.set _ _, .inl ⟨rfl, ?_, by rw [HE.out], HF.out⟩, HQ0.out.far (by omega) _ _, HQ1.out.far (by omega) _ _, HM.out.setP HQ.out _ _, below_set2 HB4.out (by omega) _ _⟩
              rw [← HE.out]
              exact HL4.out.setP HQ.out _ _
            case measure => simp [intOf]
          · rw [hd2] at hand
            have hE : k / 2 ^ j = 2 * (k / 2 ^ (j + 1)) + 1 := by have := HJ2.out; have := HDd.out; omega
            have HE : Hid (y * y * x = x ^ (k / 2 ^ j)) := by show _ = _; rw [HYY.out, hE, Int.pow_succ]
            have hand1 : bits .and .i64 (d : Int) 1 = 1 := by rw [hand]; rfl
            clear hE hand
            obtain ⟨nyy, hnyy⟩ : ∃ b, decide (y * y < 0) = b := ⟨_, rfl⟩
            have HNyy := Lib.hid hnyy
            rw [hnyy]
            clear hnyy
            have HQ5 := Lib.hid (HQ.out.set (.bool nyy) (.slice A4 n4 c4))
            have HQ50 := Lib.hid (HQ0.out.far (h := g) (by omega) (.bool nyy) (.slice A4 n4 c4))
            have HQ51 := Lib.hid (HQ1.out.far (h := g) (by omega) (.bool nyy) (.slice A4 n4 c4))
            have HM5 := Lib.hid (HM.out.setP HQ.out (.bool nyy) (.slice A4 n4 c4))
            have HL5 := Lib.hid (HL4.out.setP HQ.out (.bool nyy) (.slice A4 n4 c4))
            have HB5 := Lib.hid (below_set2 HB4.out (g := g) (by omega) (.bool nyy) (.slice A4 n4 c4))
            have HFq := Lib.hid hfit
            clear hfit
            go_wp2_with fail
            refine (mul_rz _ _ _ _ _ _ _ (y * y) x HL5.out HM5.out HFq.out HX.out HNyy.out HN.out).mono ?_
            intro e w6 hr
            rcases rz_cases hr with ⟨hfit, hr2⟩ | ⟨hfit, hr2⟩
            · obtain ⟨A6, n6, c6, rfl, hL6, hb6⟩ := hr2
              have HQ6 := Lib.hid (HQ5.out.via hb6)
              have HQ60 := Lib.hid (HQ50.out.via hb6)
              have HQ61 := Lib.hid (HQ51.out.via hb6)
              have HM6 := Lib.hid (HM5.out.via hb6)
              have HL6 := Lib.hid hL6
              have HB6 := Lib.hid (HB5.out.trans (hb6.mono HB5.out.size))
              have HF := Lib.hid hfit
              clear hr hL6 hb6 hfit p0 p1 f0 f1 w0 w1 r0 r1
              have ⟨p0, p1, f0, f1, _⟩ := HQ6.out
              go_wp2
              go_roundw
              case rel =>
                refine ⟨j, 0, decide (y * y * x < 0), A6, n6, c6, by omega, rfl, rfl, HQ6.out.set _ _, .inl ⟨rfl, ?_, by rw [HE.out], by rw [← HE.out]; exact HF.out⟩, HQ60.out.far (by omega) _ _, HQ61.out.far (by omega) _ _, HM6.out.setP HQ6.out _ _, below_set2 HB6.out (by omega) _ _⟩
                rw [← HE.out]
                exact HL6.out.setP HQ6.out _ _
              case measure => simp [intOf]
            · obtain ⟨A6, n6, c6, rfl, hL6, hb6⟩ := hr2
              have HQ6 := Lib.hid (HQ5.out.via hb6)
              have HQ60 := Lib.hid (HQ50.out.via hb6)
              have HQ61 := Lib.hid (HQ51.out.via hb6)
              have HM6 := Lib.hid (HM5.out.via hb6)
              have HB6 := Lib.hid (HB5.out.trans (hb6.mono HB5.out.size))
              have HF : Hid (4096 < (digs (x ^ k).natAbs).length) := by
                show _ < _
                rw [HE.out] at hfit
                exact pow_way (Nat.div_le_self _ _) hfit
              have HL6 := Lib.hid hL6
              clear hr hL6 hb6 hfit p0 p1 f0 f1 w0 w1 r0 r1
              have ⟨p0, p1, f0, f1, _⟩ := HQ6.out
              go_wp2
              go_roundw
              case rel =>
                exact ⟨j, 16, false, A6, n6, c6, by omega, rfl, rfl, HQ6.out.set _ _, .inr ⟨rfl, rfl, HL6.out.setP HQ6.out _ _, HF.out⟩, HQ60.out.far (by omega) _ _, HQ61.out.far (by omega) _ _, HM6.out.setP HQ6.out _ _, below_set2 HB6.out (by omega) _ _⟩
              case measure => simp [intOf]
        · obtain ⟨A4, n4, c4, rfl, hL4, hb4⟩ := hr2
          have HQ := Lib.hid (HP.out.via hb4)
          have HQ0 := Lib.hid (HP0.out.via hb4)
          have HQ1 := Lib.hid (HP1.out.via hb4)
          have HM := Lib.hid (HL.out.via hb4)
          have HL4 := Lib.hid hL4
          have HB4 := Lib.hid (HB.out.trans (hb4.mono HB.out.size))
          have HF : Hid (4096 < (digs (x ^ k).natAbs).length) := by
            show _ < _
            have hYY : y * y = x ^ (2 * (k / 2 ^ (j + 1))) := by rw [← HYe.out, ← Int.pow_add]; congr 1; omega
            rw [hYY] at hfit
            refine pow_way ?_ hfit
            have h1 : 2 * (k / 2 ^ (j + 1)) = 2 * (k / 2 ^ j / 2) := by rw [Nat.pow_succ, ← Nat.div_div_eq_div_mul]
            have h2 : k / 2 ^ j ≤ k := Nat.div_le_self _ _
            omega
          clear hr hL4 hb4 hfit p0 p1 w0 w1 r0 r1
          have ⟨p0, p1, f0, f1, _⟩ := HQ.out
          obtain ⟨d, hd⟩ : ∃ d, k / 2 ^ j = d := ⟨_, rfl⟩
          have hdq : (k : Int) / 2 ^ j = (d : Int) := by rw [cast_shr, hd]
          have hdk : d ≤ k := by rw [← hd]; exact Nat.div_le_self _ _
          have hj9 : j < 16 := by omega
          clear hd
          have hand := and_one d (by omega)
          rcases Nat.mod_two_eq_zero_or_one d with hd2 | hd2
          · rw [hd2] at hand
            have hand1 : ¬ bits .and .i64 (d : Int) 1 = 1 := by rw [hand]; decide
            clear hand
            go_wp2
            go_roundw
            case rel =>
              exact ⟨j, 16, false, A4, n4, c4, by omega, rfl, rfl, HQ.out.set _ _, .inr ⟨rfl, rfl, HL4.out.setP HQ.out _ _, HF.out⟩, HQ0.out.far (by omega) _ _, HQ1.out.far (by omega) _ _, HM.out.setP HQ.out _ _, below_set2 HB4.out (by omega) _ _⟩
            case measure => simp [intOf]
          · rw [hd2] at hand
            have hand1 : bits .and .i64 (d : Int) 1 = 1 := by rw [hand]; rfl
            clear hand
            go_wp2
            go_roundw
            case rel =>
              exact ⟨j, 16, false, A4, n4, c4, by omega, rfl, rfl, HQ.out.set _ _, .inr ⟨rfl, rfl, HL4.out.setP HQ.out _ _, HF.out⟩, HQ0.out.far (by omega) _ _, HQ1.out.far (by omega) _ _, HM.out.setP HQ.out _ _, below_set2 HB4.out (by omega) _ _⟩
            case measure => simp [intOf]
    · have HFit := Lib.hid (rz_big (w := w) hbig)
      have HY0 := Lib.hid hY0
      clear hY0
      go_wp2
      all_goals exact post_ws Tryd.results17 rfl rfl r0 r1 (by rw [HFit.out]; exact ⟨A', n', c', rfl, HY0.out.setP HP1.out _ _, below_set2 HB.out (by omega) _ _⟩)
end Go.Proofs.YtkcdijhfiahibaaDoor

/- Root, power, shift, greatest common divisor and exact division, in whole numbers. -/
namespace Go.Proofs.YtkcdijhfiahibaaDoor
open Go.RowKit

theorem toI_scale (neg : Bool) (v m : Nat) : toI neg (v * m) = toI neg v * m := by
  unfold toI
  cases neg
  · simp
  · simp [Int.neg_mul]
theorem natAbs_two_pow (k : Nat) : ((2 : Int) ^ k).natAbs = 2 ^ k := by rw [natAbs_pow_]; rfl
theorem two_pow_cast (k : Nat) : (((2 : Nat) ^ k : Nat) : Int) = (2 : Int) ^ k := by simp
theorem two_lt8 (k : Nat) (hk : k ≤ 255) : 2 ^ k < 4294967296 ^ 8 :=
  Nat.lt_of_le_of_lt (Nat.pow_le_pow_right (by omega) hk) (by decide)
theorem sz_two (k : Nat) (hk : k ≤ 255) : Sz 8 ((2 : Int) ^ k) := by
  unfold Sz
  rw [natAbs_two_pow]
  exact two_lt8 k hk
section
variable (w : World) (A : Option Addr) (n c k : Nat) (x : Int) (hA : Lm w w.heap.size A n c (digs x.natAbs))
include hA
theorem sqrt_n (hx : Sz k x) (hk : k ≤ 2000) (h0 : 0 ≤ x) {na : Bool} (ha : decide (x < 0) = na) :
    Calls Tryd.prog 15 #[.agg #[.bool na, .slice A n c]] w fun e w' => ∃ r : Nat, IsRt x.natAbs r ∧ RN w (r : Int) e w' := by
  have hc := chk_z hx (show k ≤ 4096 by omega)
  subst ha
  rw [decide_eq_false (by omega)] at hc ⊢
  refine (sqrt_ok w A n c _ hA hc).mono fun e w' ⟨r, hr, A', n', c', he, hL, hb⟩ => ⟨r, hr, A', n', c', ?_, hL, hb⟩
  rw [decide_eq_false (show ¬ (r : Int) < 0 by omega)]
  exact he
theorem pow2_n (hx : x = 2) (hk : k ≤ 255) : Calls Tryd.prog 17 #[.agg #[.bool false, .slice A n c], .int .i64 (k : Int)] w (RN w ((2 : Int) ^ k)) := by
  subst hx
  exact (pow_ok w A n c k 2 hA (by decide) (by omega) rfl).mono fun e w' hr => rz_rn (sz_two k hk) (by omega) hr
theorem shup_n (j : Nat) (hx : Sz j x) (hj : j ≤ 2000) (hk : k ≤ 255) {na : Bool} (ha : decide (x < 0) = na) :
    Calls Tryd.prog 19 #[.agg #[.bool na, .slice A n c], .int .i64 (k : Int)] w (RN w (x * (2 : Int) ^ k)) := by
  have hc := chk_z hx (show j ≤ 4096 by omega)
  subst ha
  have h := shift_up w _ A n c _ k hA hc (by omega)
  have e1 := rz_of w (decide (x < 0)) (x.natAbs * 2 ^ k) (z := x * (2 : Int) ^ k) (by rw [toI_scale, toI_self, two_pow_cast])
  rw [e1] at h
  exact h.mono fun e w' hr => rz_rn (hx.mul (sz_two k hk)) (by omega) hr
theorem shdn_n (j : Nat) (z : Int) (hx : Sz j x) (hj : j ≤ 2000) (hz : z = -(k : Int)) (hk : k ≤ 255) (hT : TabD w) {na : Bool} (ha : decide (x < 0) = na) :
    Calls Tryd.prog 19 #[.agg #[.bool na, .slice A n c], .int .i64 z] w (RN w (x / (2 : Int) ^ k)) := by
  rcases Nat.eq_zero_or_pos k with h0 | h0
  · subst h0
    obtain rfl : z = ((0 : Nat) : Int) := by omega
    have h := shup_n w A n c 0 x hA j hx hj (by omega) ha
    rw [Int.pow_zero, Int.mul_one] at h
    rw [Int.pow_zero, Int.ediv_one]
    exact h
  have hc := chk_z hx (show j ≤ 4096 by omega)
  have hd : x.natAbs / 2 ^ k ≤ x.natAbs := Nat.div_le_self _ _
  have hxs : x.natAbs < 4294967296 ^ j := hx
  have hj1 : 4294967296 ^ (j + 1) = 4294967296 ^ j * 4294967296 := rfl
  have hP : 0 < 2 ^ k := Nat.pow_pos (by omega)
  have key : ∀ (v : Nat) (ng : Bool), toI ng v = x / (2 : Int) ^ k → v ≤ x.natAbs + 1 → ∀ e w', RW w (mkN ng v) (mkL v) (mkE v) e w' → RN w (x / (2 : Int) ^ k) e w' := by
    intro v ng e0 hv e w' hr
    rw [rz_of w ng v e0.symm] at hr
    refine rz_rn (k := j + 1) ?_ (by omega) hr
    unfold Sz
    rw [← e0, toI_abs, pow_succ_]
    have := pow_pos_ j
    omega
  by_cases hs : x < 0
  · rw [← ha, decide_eq_true hs] at *
    have hdm := Nat.div_add_mod x.natAbs (2 ^ k)
    have hml := Nat.mod_lt x.natAbs hP
    by_cases hr : x.natAbs % 2 ^ k = 0
    · refine (shift_down_even w A n c _ k z hA hc hz h0 (by omega) hT hr).mono fun e w' => key _ true ?_ (by omega) e w'
      refine ((Int.ediv_emod_unique (a := x) (b := (2 : Int) ^ k) (r := 0) (q := toI true (x.natAbs / 2 ^ k)) (by rw [← two_pow_cast]; omega)).2 ⟨?_, by omega, by rw [← two_pow_cast]; omega⟩).1.symm
      have e1 := toI_scale true (x.natAbs / 2 ^ k) (2 ^ k)
      rw [two_pow_cast] at e1
      rw [Int.mul_comm, ← e1, Nat.mul_comm]
      rw [hr] at hdm
      rw [show 2 ^ k * (x.natAbs / 2 ^ k) = x.natAbs by omega]
      unfold toI
      rw [if_pos rfl]
      omega
    · refine (shift_down_lost w A n c _ k z hA hc hz h0 (by omega) hT hr).mono fun e w' => key _ true ?_ (by omega) e w'
      refine ((Int.ediv_emod_unique (a := x) (b := (2 : Int) ^ k) (r := (2 : Int) ^ k - (x.natAbs % 2 ^ k : Nat)) (q := toI true (x.natAbs / 2 ^ k + 1)) (by rw [← two_pow_cast]; omega)).2 ⟨?_, by rw [← two_pow_cast]; omega, by rw [← two_pow_cast]; omega⟩).1.symm
      have e1 := toI_scale true (x.natAbs / 2 ^ k + 1) (2 ^ k)
      rw [two_pow_cast] at e1
      rw [Int.mul_comm, ← e1, Nat.mul_comm, Nat.mul_add, Nat.mul_one]
      rw [← two_pow_cast]
      unfold toI
      rw [if_pos rfl]
      omega
  · rw [← ha, decide_eq_false hs] at *
    refine (shift_down_pos w A n c _ k z hA hc hz h0 (by omega)).mono fun e w' => key _ false ?_ (by omega) e w'
    have e0 : x = (x.natAbs : Int) := by omega
    rw [← two_pow_cast]
    unfold toI
    rw [if_neg (by simp)]
    conv => rhs; rw [e0]
    simp
end
section
variable (w : World) (A B : Option Addr) (n m ca cb k : Nat) (x y : Int) (hA : Lm w w.heap.size A n ca (digs x.natAbs)) (hB : Lm w w.heap.size B m cb (digs y.natAbs)) (hx : Sz k x) (hy : Sz k y) (hk : k ≤ 2000)
include hA hB hx hy hk
theorem sz_gcd : Sz k (Nat.gcd x.natAbs y.natAbs : Int) := by
  have _ := hA; have _ := hB; have _ := hk
  unfold Sz at *
  rw [Int.natAbs_natCast]
  rcases Nat.eq_zero_or_pos x.natAbs with h0 | h0
  · rw [h0, Nat.gcd_zero_left]; exact hy
  · exact Nat.lt_of_le_of_lt (Nat.gcd_le_left _ h0) hx
theorem gcd_n {na nb : Bool} (ha : decide (x < 0) = na) (hb : decide (y < 0) = nb) : Calls Tryd.prog 21 #[.agg #[.bool na, .slice A n ca], .agg #[.bool nb, .slice B m cb]] w (RN w (Nat.gcd x.natAbs y.natAbs : Int)) := by
  have hz := sz_gcd w A B n m ca cb k x y hA hB hx hy hk
  subst ha hb
  have h := gcd_any w _ _ A B n m ca cb _ _ hA hB (chkB_z hx (by omega) hy (by omega)) (by rw [← hA.len]; exact Nat.le_trans hx.len (by omega)) (by rw [← hB.len]; exact Nat.le_trans hy.len (by omega))
  refine h.mono fun e w' hr => ?_
  have hr2 := rw_rn (neg := false) (Nat.le_trans hz.len (by omega)) hr
  exact hr2
/-- Exact division of the reference: the rest is 0. -/
theorem rdiv0_n {na nb : Bool} (ha : decide (x < 0) = na) (hb : decide (y < 0) = nb) (hy0 : 0 < y) (hd : y.natAbs ∣ x.natAbs) : Calls Tryd.prog 23 #[.agg #[.bool na, .slice A n ca], .agg #[.bool nb, .slice B m cb]] w
      (fun e w' => ∃ Aq nq cq Ar cr gq gr, e = .returned (.tuple #[.agg #[.bool gq, .slice Aq nq cq], .agg #[.bool gr, .slice Ar 0 cr], .int .i64 0]) ∧ Below w.heap.size w w') := by
  have hv := chkB_z hx (show k ≤ 4096 by omega) hy (show k ≤ 4096 by omega)
  rw [ha, hb] at hv
  have h0 : x.natAbs % y.natAbs = 0 := Nat.mod_eq_zero_of_dvd hd
  have hnb : nb = false := by rw [← hb]; exact decide_eq_false (by omega)
  subst hnb
  have fin : ∀ (n1 n2 : Bool) (l1 : List Nat) e w', RWW w n1 l1 n2 (digs (x.natAbs % y.natAbs)) 0 e w' → ∃ Aq nq cq Ar cr gq gr, e = .returned (.tuple #[.agg #[.bool gq, .slice Aq nq cq], .agg #[.bool gr, .slice Ar 0 cr], .int .i64 0]) ∧ Below w.heap.size w w' := by
    rintro n1 n2 l1 e w' ⟨Aq, nq, cq, Ar, nr, cr, he, _, hr, hb⟩
    rw [h0] at hr
    obtain rfl : nr = 0 := hr.len.symm
    exact ⟨Aq, nq, cq, Ar, cr, n1, n2, he, hb⟩
  cases na
  · exact (rdivmod_same w false false A B n m ca cb _ _ hA hB hv (by omega) rfl (decide (0 < x.natAbs % y.natAbs)) rfl).mono fun e w' h => fin _ _ _ e w' h
  · exact (rdivmod_exact w true false A B n m ca cb _ _ hA hB hv (by omega) (.inl ⟨rfl, rfl⟩) h0).mono fun e w' h => fin _ _ _ e w' h
end
/-- The quotient of RD2 for a positive divisor is the floor. -/
theorem rd2_floor {x y q r : Int} (e1 : x = q * y + r) (e2 : r.natAbs < y.natAbs) (e3 : r = 0 ∨ decide (r < 0) = decide (y < 0)) (hy : 0 < y) : q = x / y := by
  have hr : 0 ≤ r := by
    rcases e3 with h | h
    · omega
    · rw [decide_eq_false (show ¬ y < 0 by omega)] at h
      have := of_decide_eq_false h
      omega
  exact ((Int.ediv_emod_unique (a := x) (b := y) (r := r) (q := q) hy).2 ⟨by rw [Int.mul_comm]; omega, hr, by omega⟩).1.symm
end Go.Proofs.YtkcdijhfiahibaaDoor

/- The law WideDivision at any two numbers: the walk. -/
namespace Go.Proofs.YtkcdijhfiahibaaDoor
open Go.RowKit

theorem sameB_z {x y : Int} (h : x = y) : sameB (decide (x < 0)) (digs x.natAbs) (decide (y < 0)) (digs y.natAbs) = true := by subst h; exact sameB_self _ _
theorem rsame_n (w : World) (A B : Option Addr) (n m ca cb : Nat) (x y : Int) {na nb : Bool} (hA : Lm w w.heap.size A n ca (digs x.natAbs)) (hB : Lm w w.heap.size B m cb (digs y.natAbs)) (ha : decide (x < 0) = na) (hb : decide (y < 0) = nb) (h : x = y) :
    Calls Tryd.prog 13 #[.agg #[.bool na, .slice A n ca], .agg #[.bool nb, .slice B m cb]] w fun e w' => e = .returned (.bool true) ∧ Below w.heap.size w w' := by
  subst ha hb
  have e := rsame_any w (decide (x < 0)) (decide (y < 0)) A B n m ca cb _ _ hA hB
  rw [sameB_z h] at e
  exact e

set_option maxRecDepth 100000 in
set_option maxHeartbeats 1000000 in
theorem divn_long (w : World) (na nb : Bool) (A B : Option Addr) (n m ca cb : Nat) (xs ys : List Nat) (hA : Lm w w.heap.size A n ca xs) (hB : Lm w w.heap.size B m cb ys) (hD : TabD w) (hU : TabU w)
    (hl : ∀ W : World, Lm W W.heap.size A n ca xs → Lm W W.heap.size B m cb ys → Calls Tryd.prog 7 #[.int .i64 200, .agg #[.bool na, .slice A n ca], .agg #[.bool nb, .slice B m cb], .agg #[.bool nb, .slice B m cb]] W fun e w' => e = .returned (.bool true) ∧ Below W.heap.size W w') :
    Calls Tryd.prog 3 #[.agg #[.bool na, .slice A n ca], .agg #[.bool nb, .slice B m cb]] w fun e w' => e = .returned (.bool true) ∧ Below w.heap.size w w' := by
  have LA := Lib.hid hA
  have LB := Lib.hid hB
  have TD := Lib.hid hD
  have TU := Lib.hid hU
  have HL := Lib.hid hl
  have HB : Hid (Below w.heap.size w w) := Below.refl _ _
  clear hA hB hD hU hl
  go_enter Tryd.func3, Tryd.ntmps3
  go_wp2_with fail
  refine (alive_any _ ((TD.out.box _).box _) ((TU.out.box _).box _)).mono ?_
  rintro e w1 ⟨rfl, hb1⟩
  have QLA := Lib.hid (((LA.out.box _).box _).via hb1)
  have QLB := Lib.hid (((LB.out.box _).box _).via hb1)
  have QTD := Lib.hid (((TD.out.box _).box _).via hb1)
  have QTU := Lib.hid (((TU.out.box _).box _).via hb1)
  have QHB := Lib.hid (HB.out.trans ((bbox (bbox hb1)).mono HB.out.size))
  have ⟨N0, N1⟩ := boxes2 hb1
  have PA := Lib.hid N0
  have PB := Lib.hid N1
  clear N0 N1
  clear LA LB TD TU HB
  have LA := QLA
  clear QLA
  have LB := QLB
  clear QLB
  have TD := QTD
  clear QTD
  have TU := QTU
  clear QTU
  have HB := QHB
  clear QHB
  clear hb1
  have ⟨c0, c1, _, _, _⟩ := PA.out
  have ⟨c2, c3, _, _, _⟩ := PB.out
  go_wp2_with fail
  refine (HL.out _ LA.out LB.out).mono ?_
  rintro e w2 ⟨rfl, hb2⟩
  have QLA := Lib.hid (LA.out.via hb2)
  have QLB := Lib.hid (LB.out.via hb2)
  have QPA := Lib.hid (PA.out.via hb2)
  have QPB := Lib.hid (PB.out.via hb2)
  have QTD := Lib.hid (TD.out.via hb2)
  have QTU := Lib.hid (TU.out.via hb2)
  have QHB := Lib.hid (HB.out.trans (hb2.mono HB.out.size))
  clear LA LB PA PB TD TU HB
  have LA := QLA
  clear QLA
  have LB := QLB
  clear QLB
  have PA := QPA
  clear QPA
  have PB := QPB
  clear QPB
  have TD := QTD
  clear QTD
  have TU := QTU
  clear QTU
  have HB := QHB
  clear QHB
  clear c0 c1 c2 c3
  clear hb2
  go_wp2
  go_ret
  exact ⟨rfl, HB.out⟩

set_option maxRecDepth 100000 in
set_option maxHeartbeats 4000000 in
theorem divn_zero (w : World) (A B : Option Addr) (n m ca cb : Nat) (x y : Int) (hA : Lm w w.heap.size A n ca (digs x.natAbs)) (hB : Lm w w.heap.size B m cb (digs y.natAbs)) (hD : TabD w) (hU : TabU w)
    (hx : Sz 200 x) (hy : Sz 200 y) (hy0 : y = 0) :
    Calls Tryd.prog 3 #[.agg #[.bool (decide (x < 0)), .slice A n ca], .agg #[.bool (decide (y < 0)), .slice B m cb]] w fun e w' => e = .returned (.bool true) ∧ Below w.heap.size w w' := by
  have LA := Lib.hid hA
  have LB := Lib.hid hB
  have TD := Lib.hid hD
  have TU := Lib.hid hU
  have SX := Lib.hid hx
  have SY := Lib.hid hy
  have hn : n ≤ 200 := by rw [← hA.len]; exact hx.len
  have hm : m ≤ 200 := by rw [← hB.len]; exact hy.len
  have hac := hA.cap
  have hax := hA.max
  have hbc := hB.cap
  have hbx := hB.max
  obtain rfl : m = 0 := by rw [← hB.len, hy0]; rfl
  clear hy0
  have HB : Hid (Below w.heap.size w w) := Below.refl _ _
  clear hA hB hD hU hx hy
  obtain ⟨nx, hnx⟩ : ∃ b, decide (x < 0) = b := ⟨_, rfl⟩
  obtain ⟨ny, hny⟩ : ∃ b, decide (y < 0) = b := ⟨_, rfl⟩
  have HX := Lib.hid hnx
  have HY := Lib.hid hny
  rw [hnx, hny]
  clear hnx hny
  go_enter Tryd.func3, Tryd.ntmps3
  go_wp2_with fail
  refine (alive_any _ ((TD.out.box _).box _) ((TU.out.box _).box _)).mono ?_
  rintro e w1 ⟨rfl, hb1⟩
  have QLA := Lib.hid (((LA.out.box _).box _).via hb1)
  have QLB := Lib.hid (((LB.out.box _).box _).via hb1)
  have QTD := Lib.hid (((TD.out.box _).box _).via hb1)
  have QTU := Lib.hid (((TU.out.box _).box _).via hb1)
  have QHB := Lib.hid (HB.out.trans ((bbox (bbox hb1)).mono HB.out.size))
  have ⟨N0, N1⟩ := boxes2 hb1
  have PA := Lib.hid N0
  have PB := Lib.hid N1
  clear N0 N1
  clear LA LB TD TU HB
  have LA := QLA
  clear QLA
  have LB := QLB
  clear QLB
  have TD := QTD
  clear QTD
  have TU := QTU
  clear QTU
  have HB := QHB
  clear QHB
  clear hb1
  have ⟨c0, c1, _, _, _⟩ := PA.out
  have ⟨c2, c3, _, _, _⟩ := PB.out
  go_wp2_with fail
  refine (long_no _ _ _ _ _ _ _ n 0 0 _ _ _ _ _ _ 200 LA.out LB.out LB.out (by rw [← HX.out]; exact chk_z SX.out (by omega)) (by rw [← HY.out]; exact chk_z SY.out (by omega)) (by rw [← HY.out]; exact chk_z SY.out (by omega)) (by omega) (by omega) (by omega)).mono ?_
  rintro e w2 ⟨rfl, hb2⟩
  have QLA := Lib.hid (LA.out.via hb2)
  have QLB := Lib.hid (LB.out.via hb2)
  have QPA := Lib.hid (PA.out.via hb2)
  have QPB := Lib.hid (PB.out.via hb2)
  have QTD := Lib.hid (TD.out.via hb2)
  have QTU := Lib.hid (TU.out.via hb2)
  have QHB := Lib.hid (HB.out.trans (hb2.mono HB.out.size))
  clear LA LB PA PB TD TU HB
  have LA := QLA
  clear QLA
  have LB := QLB
  clear QLB
  have PA := QPA
  clear QPA
  have PB := QPB
  clear QPB
  have TD := QTD
  clear QTD
  have TU := QTU
  clear QTU
  have HB := QHB
  clear QHB
  clear c0 c1 c2 c3
  clear hb2
  have ⟨c0, c1, _, _, _⟩ := PA.out
  have ⟨c2, c3, _, _, _⟩ := PB.out
  go_wp2
  go_ret
  exact ⟨rfl, HB.out⟩

set_option maxRecDepth 100000 in
set_option maxHeartbeats 4000000 in
theorem divn_main (w : World) (A B : Option Addr) (n m ca cb : Nat) (x y : Int) (hA : Lm w w.heap.size A n ca (digs x.natAbs)) (hB : Lm w w.heap.size B m cb (digs y.natAbs)) (hD : TabD w) (hU : TabU w)
    (hx : Sz 200 x) (hy : Sz 200 y) (hy0 : y ≠ 0) :
    Calls Tryd.prog 3 #[.agg #[.bool (decide (x < 0)), .slice A n ca], .agg #[.bool (decide (y < 0)), .slice B m cb]] w fun e w' => e = .returned (.bool true) ∧ Below w.heap.size w w' := by
  have LA := Lib.hid hA
  have LB := Lib.hid hB
  have TD := Lib.hid hD
  have TU := Lib.hid hU
  have SX := Lib.hid hx
  have SY := Lib.hid hy
  have hn : n ≤ 200 := by rw [← hA.len]; exact hx.len
  have hm : m ≤ 200 := by rw [← hB.len]; exact hy.len
  have hac := hA.cap
  have hax := hA.max
  have hbc := hB.cap
  have hbx := hB.max
  have hm0 : 0 < m := by rw [← hB.len, digs_pos]; omega
  have hmz : ((m : Int) == 0) = false := by simp; omega
  have HB : Hid (Below w.heap.size w w) := Below.refl _ _
  clear hA hB hD hU hx hy
  obtain ⟨nx, hnx⟩ : ∃ b, decide (x < 0) = b := ⟨_, rfl⟩
  obtain ⟨ny, hny⟩ : ∃ b, decide (y < 0) = b := ⟨_, rfl⟩
  have HX := Lib.hid hnx
  have HY := Lib.hid hny
  rw [hnx, hny]
  clear hnx hny
  go_enter Tryd.func3, Tryd.ntmps3
  go_wp2_with fail
  refine (alive_any _ ((TD.out.box _).box _) ((TU.out.box _).box _)).mono ?_
  rintro e w1 ⟨rfl, hb1⟩
  have QLA := Lib.hid (((LA.out.box _).box _).via hb1)
  have QLB := Lib.hid (((LB.out.box _).box _).via hb1)
  have QTD := Lib.hid (((TD.out.box _).box _).via hb1)
  have QTU := Lib.hid (((TU.out.box _).box _).via hb1)
  have QHB := Lib.hid (HB.out.trans ((bbox (bbox hb1)).mono HB.out.size))
  have ⟨N0, N1⟩ := boxes2 hb1
  have PA := Lib.hid N0
  have PB := Lib.hid N1
  clear N0 N1
  clear LA LB TD TU HB
  have LA := QLA
  clear QLA
  have LB := QLB
  clear QLB
  have TD := QTD
  clear QTD
  have TU := QTU
  clear QTU
  have HB := QHB
  clear QHB
  clear hb1
  have ⟨c0, c1, _, _, _⟩ := PA.out
  have ⟨c2, c3, _, _, _⟩ := PB.out
  go_wp2_with fail
  refine (long_no _ _ _ _ _ _ _ n m m _ _ _ _ _ _ 200 LA.out LB.out LB.out (by rw [← HX.out]; exact chk_z SX.out (by omega)) (by rw [← HY.out]; exact chk_z SY.out (by omega)) (by rw [← HY.out]; exact chk_z SY.out (by omega)) (by omega) (by omega) (by omega)).mono ?_
  rintro e w2 ⟨rfl, hb2⟩
  have QLA := Lib.hid (LA.out.via hb2)
  have QLB := Lib.hid (LB.out.via hb2)
  have QPA := Lib.hid (PA.out.via hb2)
  have QPB := Lib.hid (PB.out.via hb2)
  have QTD := Lib.hid (TD.out.via hb2)
  have QTU := Lib.hid (TU.out.via hb2)
  have QHB := Lib.hid (HB.out.trans (hb2.mono HB.out.size))
  clear LA LB PA PB TD TU HB
  have LA := QLA
  clear QLA
  have LB := QLB
  clear QLB
  have PA := QPA
  clear QPA
  have PB := QPB
  clear QPB
  have TD := QTD
  clear QTD
  have TU := QTU
  clear QTU
  have HB := QHB
  clear QHB
  clear c0 c1 c2 c3
  clear hb2
  have ⟨c0, c1, _, _, _⟩ := PA.out
  have ⟨c2, c3, _, _, _⟩ := PB.out
  go_wp2_with fail
  refine (divmod_n _ _ _ _ _ _ _ 200 x y LA.out LB.out SX.out SY.out (by omega) hy0 HX.out HY.out).mono ?_
  rintro e w3 ⟨q, r, hq1, hq2, hq3, hq4, Aq, nq, cq, Ar, nr, cr, rfl, hLq, hLr, hb3⟩
  have QLA := Lib.hid (LA.out.via hb3)
  have QLB := Lib.hid (LB.out.via hb3)
  have QPA := Lib.hid (PA.out.via hb3)
  have QPB := Lib.hid (PB.out.via hb3)
  have QTD := Lib.hid (TD.out.via hb3)
  have QTU := Lib.hid (TU.out.via hb3)
  have QHB := Lib.hid (HB.out.trans (hb3.mono HB.out.size))
  clear LA LB PA PB TD TU HB
  have LA := QLA
  clear QLA
  have LB := QLB
  clear QLB
  have PA := QPA
  clear QPA
  have PB := QPB
  clear QPB
  have TD := QTD
  clear QTD
  have TU := QTU
  clear QTU
  have HB := QHB
  clear QHB
  have Lq := Lib.hid hLq
  have Lr := Lib.hid hLr
  have E1 := Lib.hid hq1
  have E2 := Lib.hid hq2
  have E3 := Lib.hid hq3
  have Sq : Hid (Sz 200 q) := Nat.lt_of_le_of_lt hq4 SX.out
  have Sr : Hid (Sz 200 r) := Nat.lt_trans hq2 SY.out
  clear hLq hLr hq1 hq2 hq3 hq4
  obtain ⟨gq, hgq⟩ : ∃ b, decide (q < 0) = b := ⟨_, rfl⟩
  obtain ⟨gr, hgr⟩ : ∃ b, decide (r < 0) = b := ⟨_, rfl⟩
  have Hq := Lib.hid hgq
  have Hr := Lib.hid hgr
  rw [hgq, hgr]
  clear hgq hgr
  clear c0 c1 c2 c3
  clear hb3
  go_wp2_with fail
  refine (rcheck_n _ _ _ _ 1500 (q) ((Lq.out.box _).box _) (Sq.out.mono (by omega)) (by omega) Hq.out).mono ?_
  rintro e w4 ⟨rfl, hb4⟩
  have QLA := Lib.hid (((LA.out.box _).box _).via hb4)
  have QLB := Lib.hid (((LB.out.box _).box _).via hb4)
  have QLq := Lib.hid (((Lq.out.box _).box _).via hb4)
  have QLr := Lib.hid (((Lr.out.box _).box _).via hb4)
  have QPA := Lib.hid (((PA.out.alloc _).alloc _).via hb4)
  have QPB := Lib.hid (((PB.out.alloc _).alloc _).via hb4)
  have QTD := Lib.hid (((TD.out.box _).box _).via hb4)
  have QTU := Lib.hid (((TU.out.box _).box _).via hb4)
  have QHB := Lib.hid (HB.out.trans ((bbox (bbox hb4)).mono HB.out.size))
  have ⟨N0, N1⟩ := boxes2 hb4
  have Pq := Lib.hid N0
  have Pr_ := Lib.hid N1
  clear N0 N1
  clear LA LB Lq Lr PA PB TD TU HB
  have LA := QLA
  clear QLA
  have LB := QLB
  clear QLB
  have Lq := QLq
  clear QLq
  have Lr := QLr
  clear QLr
  have PA := QPA
  clear QPA
  have PB := QPB
  clear QPB
  have TD := QTD
  clear QTD
  have TU := QTU
  clear QTU
  have HB := QHB
  clear QHB
  clear hb4
  have ⟨c0, c1, _, _, _⟩ := Pr_.out
  go_wp2_with fail
  refine (rcheck_n _ _ _ _ 1500 (r) Lr.out (Sr.out.mono (by omega)) (by omega) Hr.out).mono ?_
  rintro e w5 ⟨rfl, hb5⟩
  have QLA := Lib.hid (LA.out.via hb5)
  have QLB := Lib.hid (LB.out.via hb5)
  have QLq := Lib.hid (Lq.out.via hb5)
  have QLr := Lib.hid (Lr.out.via hb5)
  have QPA := Lib.hid (PA.out.via hb5)
  have QPB := Lib.hid (PB.out.via hb5)
  have QPq := Lib.hid (Pq.out.via hb5)
  have QPr_ := Lib.hid (Pr_.out.via hb5)
  have QTD := Lib.hid (TD.out.via hb5)
  have QTU := Lib.hid (TU.out.via hb5)
  have QHB := Lib.hid (HB.out.trans (hb5.mono HB.out.size))
  clear LA LB Lq Lr PA PB Pq Pr_ TD TU HB
  have LA := QLA
  clear QLA
  have LB := QLB
  clear QLB
  have Lq := QLq
  clear QLq
  have Lr := QLr
  clear QLr
  have PA := QPA
  clear QPA
  have PB := QPB
  clear QPB
  have Pq := QPq
  clear QPq
  have Pr_ := QPr_
  clear QPr_
  have TD := QTD
  clear QTD
  have TU := QTU
  clear QTU
  have HB := QHB
  clear QHB
  clear c0 c1
  clear hb5
  have ⟨c0, c1, _, _, _⟩ := Pq.out
  have ⟨c2, c3, _, _, _⟩ := PB.out
  go_wp2_with fail
  refine (rmul_n _ _ _ _ _ _ _ 1500 (q) (y) Lq.out LB.out (Sq.out.mono (by omega)) (SY.out.mono (by omega)) (by omega) Hq.out HY.out).mono ?_
  rintro e w6 ⟨Ap, np, cp, rfl, hp, hb6⟩
  have QLA := Lib.hid (LA.out.via hb6)
  have QLB := Lib.hid (LB.out.via hb6)
  have QLq := Lib.hid (Lq.out.via hb6)
  have QLr := Lib.hid (Lr.out.via hb6)
  have QPA := Lib.hid (PA.out.via hb6)
  have QPB := Lib.hid (PB.out.via hb6)
  have QPq := Lib.hid (Pq.out.via hb6)
  have QPr_ := Lib.hid (Pr_.out.via hb6)
  have QTD := Lib.hid (TD.out.via hb6)
  have QTU := Lib.hid (TU.out.via hb6)
  have QHB := Lib.hid (HB.out.trans (hb6.mono HB.out.size))
  clear LA LB Lq Lr PA PB Pq Pr_ TD TU HB
  have LA := QLA
  clear QLA
  have LB := QLB
  clear QLB
  have Lq := QLq
  clear QLq
  have Lr := QLr
  clear QLr
  have PA := QPA
  clear QPA
  have PB := QPB
  clear QPB
  have Pq := QPq
  clear QPq
  have Pr_ := QPr_
  clear QPr_
  have TD := QTD
  clear QTD
  have TU := QTU
  clear QTU
  have HB := QHB
  clear QHB
  have Lp := Lib.hid hp
  have sp : ∀ k, k = 200 + 200 → Sz k (q * y) := fun k h => h ▸ Sq.out.mul SY.out
  have Sp : Hid (Sz 400 (q * y)) := sp 400 rfl
  clear sp
  clear hp
  obtain ⟨gp, hgp⟩ : ∃ b, decide (q * y < 0) = b := ⟨_, rfl⟩
  have Hp := Lib.hid hgp
  rw [hgp]
  clear hgp
  clear c0 c1 c2 c3
  clear hb6
  have ⟨c0, c1, _, _, _⟩ := Pr_.out
  go_wp2_with fail
  refine (radd_n _ _ _ _ _ _ _ 1500 (q * y) (r) (Lp.out.box _) (Lr.out.box _) (Sp.out.mono (by omega)) (Sr.out.mono (by omega)) (by omega) Hp.out Hr.out).mono ?_
  rintro e w7 ⟨As, ns, cs, rfl, hs, hb7⟩
  have QLA := Lib.hid ((LA.out.box _).via hb7)
  have QLB := Lib.hid ((LB.out.box _).via hb7)
  have QLq := Lib.hid ((Lq.out.box _).via hb7)
  have QLr := Lib.hid ((Lr.out.box _).via hb7)
  have QLp := Lib.hid ((Lp.out.box _).via hb7)
  have QPA := Lib.hid ((PA.out.alloc _).via hb7)
  have QPB := Lib.hid ((PB.out.alloc _).via hb7)
  have QPq := Lib.hid ((Pq.out.alloc _).via hb7)
  have QPr_ := Lib.hid ((Pr_.out.alloc _).via hb7)
  have QTD := Lib.hid ((TD.out.box _).via hb7)
  have QTU := Lib.hid ((TU.out.box _).via hb7)
  have QHB := Lib.hid (HB.out.trans ((bbox hb7).mono HB.out.size))
  have Pp := Lib.hid ((Pr.new _ _ rfl _ _ _).via hb7)
  clear LA LB Lq Lr Lp PA PB Pq Pr_ TD TU HB
  have LA := QLA
  clear QLA
  have LB := QLB
  clear QLB
  have Lq := QLq
  clear QLq
  have Lr := QLr
  clear QLr
  have Lp := QLp
  clear QLp
  have PA := QPA
  clear QPA
  have PB := QPB
  clear QPB
  have Pq := QPq
  clear QPq
  have Pr_ := QPr_
  clear QPr_
  have TD := QTD
  clear QTD
  have TU := QTU
  clear QTU
  have HB := QHB
  clear QHB
  have Ls := Lib.hid hs
  have ss : ∀ k, k = 400 + 1 → Sz k (q * y + r) := fun k h => h ▸ Sp.out.add (Sr.out.mono (by omega))
  have Ss : Hid (Sz 401 (q * y + r)) := ss 401 rfl
  clear ss
  clear hs
  obtain ⟨gs, hgs⟩ : ∃ b, decide (q * y + r < 0) = b := ⟨_, rfl⟩
  have Hs := Lib.hid hgs
  rw [hgs]
  clear hgs
  clear c0 c1
  clear hb7
  have ⟨c0, c1, _, _, _⟩ := Pr_.out
  go_wp2_with fail
  refine (rabs_n _ _ _ _ 1500 (r) (Lr.out.box _) (Sr.out.mono (by omega)) (by omega) Hr.out).mono ?_
  rintro e w8 ⟨Au, nu, cu, rfl, hu, hb8⟩
  have QLA := Lib.hid ((LA.out.box _).via hb8)
  have QLB := Lib.hid ((LB.out.box _).via hb8)
  have QLq := Lib.hid ((Lq.out.box _).via hb8)
  have QLr := Lib.hid ((Lr.out.box _).via hb8)
  have QLp := Lib.hid ((Lp.out.box _).via hb8)
  have QLs := Lib.hid ((Ls.out.box _).via hb8)
  have QPA := Lib.hid ((PA.out.alloc _).via hb8)
  have QPB := Lib.hid ((PB.out.alloc _).via hb8)
  have QPq := Lib.hid ((Pq.out.alloc _).via hb8)
  have QPr_ := Lib.hid ((Pr_.out.alloc _).via hb8)
  have QPp := Lib.hid ((Pp.out.alloc _).via hb8)
  have QTD := Lib.hid ((TD.out.box _).via hb8)
  have QTU := Lib.hid ((TU.out.box _).via hb8)
  have QHB := Lib.hid (HB.out.trans ((bbox hb8).mono HB.out.size))
  have Ps := Lib.hid ((Pr.new _ _ rfl _ _ _).via hb8)
  clear LA LB Lq Lr Lp Ls PA PB Pq Pr_ Pp TD TU HB
  have LA := QLA
  clear QLA
  have LB := QLB
  clear QLB
  have Lq := QLq
  clear QLq
  have Lr := QLr
  clear QLr
  have Lp := QLp
  clear QLp
  have Ls := QLs
  clear QLs
  have PA := QPA
  clear QPA
  have PB := QPB
  clear QPB
  have Pq := QPq
  clear QPq
  have Pr_ := QPr_
  clear QPr_
  have Pp := QPp
  clear QPp
  have TD := QTD
  clear QTD
  have TU := QTU
  clear QTU
  have HB := QHB
  clear QHB
  have Lu := Lib.hid hu
  have Su : Hid (Sz 200 ((r.natAbs : Int))) := Sr.out.abs
  clear hu
  obtain ⟨gu, hgu⟩ : ∃ b, decide ((r.natAbs : Int) < 0) = b := ⟨_, rfl⟩
  have Hu := Lib.hid hgu
  rw [hgu]
  clear hgu
  clear c0 c1
  clear hb8
  have ⟨c0, c1, _, _, _⟩ := PB.out
  go_wp2_with fail
  refine (rabs_n _ _ _ _ 1500 (y) (LB.out.box _) (SY.out.mono (by omega)) (by omega) HY.out).mono ?_
  rintro e w9 ⟨Av, nv, cv, rfl, hv, hb9⟩
  have QLA := Lib.hid ((LA.out.box _).via hb9)
  have QLB := Lib.hid ((LB.out.box _).via hb9)
  have QLq := Lib.hid ((Lq.out.box _).via hb9)
  have QLr := Lib.hid ((Lr.out.box _).via hb9)
  have QLp := Lib.hid ((Lp.out.box _).via hb9)
  have QLs := Lib.hid ((Ls.out.box _).via hb9)
  have QLu := Lib.hid ((Lu.out.box _).via hb9)
  have QPA := Lib.hid ((PA.out.alloc _).via hb9)
  have QPB := Lib.hid ((PB.out.alloc _).via hb9)
  have QPq := Lib.hid ((Pq.out.alloc _).via hb9)
  have QPr_ := Lib.hid ((Pr_.out.alloc _).via hb9)
  have QPp := Lib.hid ((Pp.out.alloc _).via hb9)
  have QPs := Lib.hid ((Ps.out.alloc _).via hb9)
  have QTD := Lib.hid ((TD.out.box _).via hb9)
  have QTU := Lib.hid ((TU.out.box _).via hb9)
  have QHB := Lib.hid (HB.out.trans ((bbox hb9).mono HB.out.size))
  have Pu := Lib.hid ((Pr.new _ _ rfl _ _ _).via hb9)
  clear LA LB Lq Lr Lp Ls Lu PA PB Pq Pr_ Pp Ps TD TU HB
  have LA := QLA
  clear QLA
  have LB := QLB
  clear QLB
  have Lq := QLq
  clear QLq
  have Lr := QLr
  clear QLr
  have Lp := QLp
  clear QLp
  have Ls := QLs
  clear QLs
  have Lu := QLu
  clear QLu
  have PA := QPA
  clear QPA
  have PB := QPB
  clear QPB
  have Pq := QPq
  clear QPq
  have Pr_ := QPr_
  clear QPr_
  have Pp := QPp
  clear QPp
  have Ps := QPs
  clear QPs
  have TD := QTD
  clear QTD
  have TU := QTU
  clear QTU
  have HB := QHB
  clear QHB
  have Lv := Lib.hid hv
  have Sv : Hid (Sz 200 ((y.natAbs : Int))) := SY.out.abs
  clear hv
  obtain ⟨gv, hgv⟩ : ∃ b, decide ((y.natAbs : Int) < 0) = b := ⟨_, rfl⟩
  have Hv := Lib.hid hgv
  rw [hgv]
  clear hgv
  clear c0 c1
  clear hb9
  have ⟨c0, c1, _, _, _⟩ := Ps.out
  have ⟨c2, c3, _, _, _⟩ := PA.out
  go_wp2_with fail
  refine (rsame_n _ _ _ _ _ _ _ (q * y + r) (x) (Ls.out.box _) (LA.out.box _) Hs.out HX.out (E1.out.symm)).mono ?_
  rintro e w10 ⟨rfl, hb10⟩
  have QLA := Lib.hid ((LA.out.box _).via hb10)
  have QLB := Lib.hid ((LB.out.box _).via hb10)
  have QLq := Lib.hid ((Lq.out.box _).via hb10)
  have QLr := Lib.hid ((Lr.out.box _).via hb10)
  have QLp := Lib.hid ((Lp.out.box _).via hb10)
  have QLs := Lib.hid ((Ls.out.box _).via hb10)
  have QLu := Lib.hid ((Lu.out.box _).via hb10)
  have QLv := Lib.hid ((Lv.out.box _).via hb10)
  have QPA := Lib.hid ((PA.out.alloc _).via hb10)
  have QPB := Lib.hid ((PB.out.alloc _).via hb10)
  have QPq := Lib.hid ((Pq.out.alloc _).via hb10)
  have QPr_ := Lib.hid ((Pr_.out.alloc _).via hb10)
  have QPp := Lib.hid ((Pp.out.alloc _).via hb10)
  have QPs := Lib.hid ((Ps.out.alloc _).via hb10)
  have QPu := Lib.hid ((Pu.out.alloc _).via hb10)
  have QTD := Lib.hid ((TD.out.box _).via hb10)
  have QTU := Lib.hid ((TU.out.box _).via hb10)
  have QHB := Lib.hid (HB.out.trans ((bbox hb10).mono HB.out.size))
  have Pv := Lib.hid ((Pr.new _ _ rfl _ _ _).via hb10)
  clear LA LB Lq Lr Lp Ls Lu Lv PA PB Pq Pr_ Pp Ps Pu TD TU HB
  have LA := QLA
  clear QLA
  have LB := QLB
  clear QLB
  have Lq := QLq
  clear QLq
  have Lr := QLr
  clear QLr
  have Lp := QLp
  clear QLp
  have Ls := QLs
  clear QLs
  have Lu := QLu
  clear QLu
  have Lv := QLv
  clear QLv
  have PA := QPA
  clear QPA
  have PB := QPB
  clear QPB
  have Pq := QPq
  clear QPq
  have Pr_ := QPr_
  clear QPr_
  have Pp := QPp
  clear QPp
  have Ps := QPs
  clear QPs
  have Pu := QPu
  clear QPu
  have TD := QTD
  clear QTD
  have TU := QTU
  clear QTU
  have HB := QHB
  clear QHB
  clear c0 c1 c2 c3
  clear hb10
  have ⟨c0, c1, _, _, _⟩ := Pu.out
  have ⟨c2, c3, _, _, _⟩ := Pv.out
  go_wp2_with fail
  refine (rcompared_n _ _ _ _ _ _ _ 1500 _ _ Lu.out Lv.out (Su.out.mono (by omega)) (Sv.out.mono (by omega)) (by omega) Hu.out Hv.out).mono ?_
  rintro e w11 ⟨rfl, hb11⟩
  have QLA := Lib.hid (LA.out.via hb11)
  have QLB := Lib.hid (LB.out.via hb11)
  have QLq := Lib.hid (Lq.out.via hb11)
  have QLr := Lib.hid (Lr.out.via hb11)
  have QLp := Lib.hid (Lp.out.via hb11)
  have QLs := Lib.hid (Ls.out.via hb11)
  have QLu := Lib.hid (Lu.out.via hb11)
  have QLv := Lib.hid (Lv.out.via hb11)
  have QPA := Lib.hid (PA.out.via hb11)
  have QPB := Lib.hid (PB.out.via hb11)
  have QPq := Lib.hid (Pq.out.via hb11)
  have QPr_ := Lib.hid (Pr_.out.via hb11)
  have QPp := Lib.hid (Pp.out.via hb11)
  have QPs := Lib.hid (Ps.out.via hb11)
  have QPu := Lib.hid (Pu.out.via hb11)
  have QPv := Lib.hid (Pv.out.via hb11)
  have QTD := Lib.hid (TD.out.via hb11)
  have QTU := Lib.hid (TU.out.via hb11)
  have QHB := Lib.hid (HB.out.trans (hb11.mono HB.out.size))
  clear LA LB Lq Lr Lp Ls Lu Lv PA PB Pq Pr_ Pp Ps Pu Pv TD TU HB
  have LA := QLA
  clear QLA
  have LB := QLB
  clear QLB
  have Lq := QLq
  clear QLq
  have Lr := QLr
  clear QLr
  have Lp := QLp
  clear QLp
  have Ls := QLs
  clear QLs
  have Lu := QLu
  clear QLu
  have Lv := QLv
  clear QLv
  have PA := QPA
  clear QPA
  have PB := QPB
  clear QPB
  have Pq := QPq
  clear QPq
  have Pr_ := QPr_
  clear QPr_
  have Pp := QPp
  clear QPp
  have Ps := QPs
  clear QPs
  have Pu := QPu
  clear QPu
  have Pv := QPv
  clear QPv
  have TD := QTD
  clear QTD
  have TU := QTU
  clear QTU
  have HB := QHB
  clear QHB
  clear c0 c1 c2 c3
  clear hb11
  have HC : Hid (cmpZ (r.natAbs : Int) (y.natAbs : Int) = -1) := by show _ = _; have e := E2.out; unfold cmpZ; rw [if_pos (by omega)]
  rw [HC.out]
  have hrc := Lr.out.cap
  have hrx := Lr.out.max
  rcases E3.out with h0 | h0
  · obtain rfl : nr = 0 := by rw [← Lr.out.len, h0]; rfl
    clear h0
    have ⟨c0, c1, _, _, _⟩ := Pr_.out
    have ⟨c2, c3, _, _, _⟩ := PB.out
    go_wp2
    go_ret
    exact ⟨rfl, HB.out⟩
  · obtain rfl : gr = ny := by rw [← Hr.out, ← HY.out]; exact h0
    clear h0
    have ⟨c0, c1, _, _, _⟩ := Pr_.out
    have ⟨c2, c3, _, _, _⟩ := PB.out
    go_wp2
    all_goals (go_ret; exact ⟨rfl, HB.out⟩)
end Go.Proofs.YtkcdijhfiahibaaDoor

/- Two copies laid in new boxes, in whatever order. -/
namespace Go.Proofs.YtkcdijhfiahibaaDoor
open Go.RowKit

/-- Two slots point to copies of both numbers. -/
def TwinsAt (w2 : World) (na : Bool) (n : Nat) (xs : List Nat) (nb : Bool) (m : Nat) (ys : List Nat) (s5 s6 : Value) (wc : World) : Prop :=
  ∃ gx gy A' c' A'' c'', s5 = .pointer (some ⟨gx, 0, none⟩) ∧ s6 = .pointer (some ⟨gy, 0, none⟩) ∧ Pr wc gx (.bool na) (.slice A' n c') ∧ Pr wc gy (.bool nb) (.slice A'' m c'') ∧ Lm wc wc.heap.size A' n c' xs ∧ Lm wc wc.heap.size A'' m c'' ys ∧ Below w2.heap.size w2 wc

section
variable {w2 w4 : World} {na nb : Bool} {n m : Nat} {xs ys : List Nat} {A3 A4 : Option Addr} {c3 c4 : Nat} {t : TypeId}
theorem fin1 (hB : Below w2.heap.size w2 w4) (L3 : Lm w4 w4.heap.size A3 n c3 xs) (L4 : Lm w4 w4.heap.size A4 m c4 ys) :
    TwinsAt w2 na n xs nb m ys (.pointer (some ⟨w4.heap.size, 0, none⟩)) (.pointer (some ⟨w4.heap.size + 1, 0, none⟩)) ((w4.alloc (.cells #[.bool na, .slice A3 n c3] t)).alloc (.cells #[.bool nb, .slice A4 m c4] t)) :=
  ⟨_, _, A3, c3, A4, c4, rfl, rfl, (Pr.new w4 _ rfl _ _ t).alloc _, Pr.new (w4.alloc _) _ (by simp) _ _ t, (L3.box _).box _, (L4.box _).box _, (hB.alloc hB.size _).alloc (hB.alloc hB.size _).size _⟩
theorem fin2 (hB : Below w2.heap.size w2 w4) (L3 : Lm w4 w4.heap.size A3 n c3 xs) (L4 : Lm w4 w4.heap.size A4 m c4 ys) :
    TwinsAt w2 na n xs nb m ys (.pointer (some ⟨w4.heap.size + 1, 0, none⟩)) (.pointer (some ⟨w4.heap.size, 0, none⟩)) ((w4.alloc (.cells #[.bool nb, .slice A4 m c4] t)).alloc (.cells #[.bool na, .slice A3 n c3] t)) :=
  ⟨_, _, A3, c3, A4, c4, rfl, rfl, Pr.new (w4.alloc _) _ (by simp) _ _ t, (Pr.new w4 _ rfl _ _ t).alloc _, (L3.box _).box _, (L4.box _).box _, (hB.alloc hB.size _).alloc (hB.alloc hB.size _).size _⟩
theorem fin3 {g : Nat} (hB : Below w2.heap.size w2 w4) (L3 : Lm w4 w4.heap.size A3 n c3 xs) (L4 : Lm w4 w4.heap.size A4 m c4 ys) (P : Pr w4 g (.bool false) (.slice none 0 0)) (hg : w2.heap.size ≤ g) :
    TwinsAt w2 na n xs nb m ys (.pointer (some ⟨g, 0, none⟩)) (.pointer (some ⟨w4.heap.size, 0, none⟩)) (((w4.setCell ⟨g, 0, none⟩ (.bool na)).setCell ⟨g, 1, none⟩ (.slice A3 n c3)).alloc (.cells #[.bool nb, .slice A4 m c4] t)) :=
  ⟨_, _, A3, c3, A4, c4, rfl, rfl, (P.set _ _).alloc _, Pr.new _ _ (size_set2 _ _ _ _) _ _ t, (L3.setP P _ _).box _, (L4.setP P _ _).box _, (below_set2 hB hg _ _).alloc (below_set2 hB hg _ _).size _⟩
theorem fin4 {g : Nat} (hB : Below w2.heap.size w2 w4) (L3 : Lm w4 w4.heap.size A3 n c3 xs) (L4 : Lm w4 w4.heap.size A4 m c4 ys) (P : Pr w4 g (.bool false) (.slice none 0 0)) (hg : w2.heap.size ≤ g) :
    TwinsAt w2 na n xs nb m ys (.pointer (some ⟨w4.heap.size, 0, none⟩)) (.pointer (some ⟨g, 0, none⟩)) (((w4.setCell ⟨g, 0, none⟩ (.bool nb)).setCell ⟨g, 1, none⟩ (.slice A4 m c4)).alloc (.cells #[.bool na, .slice A3 n c3] t)) :=
  ⟨_, _, A3, c3, A4, c4, rfl, rfl, Pr.new _ _ (size_set2 _ _ _ _) _ _ t, (P.set _ _).alloc _, (L3.setP P _ _).box _, (L4.setP P _ _).box _, (below_set2 hB hg _ _).alloc (below_set2 hB hg _ _).size _⟩
theorem fin5 {g h : Nat} (hB : Below w2.heap.size w2 w4) (L3 : Lm w4 w4.heap.size A3 n c3 xs) (L4 : Lm w4 w4.heap.size A4 m c4 ys) (P : Pr w4 g (.bool false) (.slice none 0 0)) (Q : Pr w4 h (.bool false) (.slice none 0 0)) (hg : w2.heap.size ≤ g) (hh : w2.heap.size ≤ h) (hne : g ≠ h) :
    TwinsAt w2 na n xs nb m ys (.pointer (some ⟨g, 0, none⟩)) (.pointer (some ⟨h, 0, none⟩)) ((((w4.setCell ⟨g, 0, none⟩ (.bool na)).setCell ⟨g, 1, none⟩ (.slice A3 n c3)).setCell ⟨h, 0, none⟩ (.bool nb)).setCell ⟨h, 1, none⟩ (.slice A4 m c4)) :=
  have Q' := Q.far (h := g) (fun e => hne e.symm) (.bool na) (.slice A3 n c3)
  ⟨_, _, A3, c3, A4, c4, rfl, rfl, (P.set _ _).far hne _ _, Q'.set _ _, (L3.setP P _ _).setP Q' _ _, (L4.setP P _ _).setP Q' _ _, below_set2 (below_set2 hB hg _ _) hh _ _⟩
end
theorem b_one {w w' : World} {o : Obj} (h : Below (w.alloc o).heap.size (w.alloc o) w') : Below w.heap.size w w' := bbox h
theorem b_two {w w' : World} {o o' : Obj} (h : Below ((w.alloc o).alloc o').heap.size ((w.alloc o).alloc o') w') : Below w.heap.size w w' := bbox (bbox h)
theorem b_one_d {w w' : World} {o : Obj} (h : Below (w.alloc o).drew.heap.size (w.alloc o).drew w') : Below w.heap.size w w' :=
  ((Below.refl w.heap.size w).alloc (Nat.le_refl _) o).drew.trans (h.mono (((Below.refl w.heap.size w).alloc (Nat.le_refl _) o).drew.size))
theorem b_two_d {w w' : World} {o o' : Obj} (h : Below ((w.alloc o).alloc o').drew.heap.size ((w.alloc o).alloc o').drew w') : Below w.heap.size w w' :=
  have q := (((Below.refl w.heap.size w).alloc (Nat.le_refl _) o).alloc ((Below.refl w.heap.size w).alloc (Nat.le_refl _) o).size o').drew
  q.trans (h.mono q.size)
end Go.Proofs.YtkcdijhfiahibaaDoor

