/- Lemmas of several claims. -/
import Derived.Laws.MathBits
import Derived.Deep.DeepCutAuto
import Derived.Deep.CutBlock
import Derived.RegionTactic
import Derived.ChangeAlike
import Derived.Deep.RegionWith
import Derived.Laws.OwnMore
import Derived.Deep.QuietTactic
import Derived.BigQuiet
import Derived.Test.YtbplbbkmfbjkfaaGreatDoorFTexts4
/- The reference's digit. -/
namespace Go.Proofs.YtbplbbkmfbjkfaaGreatDoor
open Go.RowKit

theorem spl_get {cs M : List Nat} {off k : Nat} (h : off + M.length ≤ cs.length) (hk : k < M.length) : (spl cs off M)[off + k]?.getD 0 = M[k]?.getD 0 := by
  have hl : (cs.take off).length = off := by rw [List.length_take]; omega
  unfold spl
  rw [List.getElem?_append_right (by omega), hl, Nat.add_sub_cancel_left, List.getElem?_append_left hk]
theorem spl_seti {cs M : List Nat} {off k : Nat} (t : Nat) (h : off + M.length ≤ cs.length) (hk : k < M.length) : (spl cs off M).set (off + k) t = spl cs off (M.set k t) := by
  have hl : (cs.take off).length = off := by rw [List.length_take]; omega
  unfold spl
  rw [List.set_append_right _ _ (by omega), hl, Nat.add_sub_cancel_left, List.set_append_left _ _ hk, List.length_set]

set_option maxRecDepth 100000 in
set_option maxHeartbeats 4000000 in
theorem rdigit_any (w : World) (g off c n cb : Nat) (B : Option Addr) (cs ys : List Nat) (V : Nat) (hO : Ob w g cs) (hG : Good cs) (hB : Lm w g B n cb ys) (hn2 : 2 ≤ n) (hn9 : n ≤ 1000000000) (hc : n + 1 ≤ c) (hc9 : c ≤ 9223372036854775807)
    (hoff : off + n < cs.length) (hV : val ys = V) (hV0 : 0 < V) (h1 : 1 ≤ ys[n - 1]?.getD 0) (hle : cs[off + n]?.getD 0 ≤ ys[n - 1]?.getD 0)
    (hX : val ((cs.drop off).take (n + 1)) / V ≤ gs (ys[n - 1]?.getD 0) (ys[n - 2]?.getD 0) (cs[off + n]?.getD 0) (cs[off + (n - 1)]?.getD 0) (cs[off + (n - 2)]?.getD 0)) :
    Calls Tryz.prog 106 #[.slice (some ⟨g, off, none⟩) (n + 1) c, .slice B n cb] w fun e w' => e = .returned (.int .u32 ((val ((cs.drop off).take (n + 1)) / V : Nat) : Int)) ∧
      (∃ P, P.length = n + 1 ∧ Good P ∧ val P = val ((cs.drop off).take (n + 1)) % V ∧ Ob w' g (spl cs off P)) ∧ w.grownBy w' (some g) := by
  have hcap := hB.cap
  have hmax := hB.max
  have g1 := hB.good.get (n - 1)
  have g2 := hB.good.get (n - 2)
  have gh := hG.get (off + n)
  have gu1 := hG.get (off + (n - 1))
  have gu2 := hG.get (off + (n - 2))
  have ch := hO.cell (i := off + n) (by omega)
  have cu1 := hO.cell (i := off + (n - 1)) (by omega)
  have cu2 := hO.cell (i := off + (n - 2)) (by omega)
  have hgs := hO.lt
  have HO := Lib.hid hO
  have HG := Lib.hid hG
  have HB := Lib.hid hB
  have HV := Lib.hid hV
  have HOff := Lib.hid hoff
  obtain ⟨X, HXd⟩ : ∃ X, Hid (X = val ((cs.drop off).take (n + 1))) := ⟨_, rfl⟩
  rw [← HXd.out] at hX ⊢
  obtain ⟨bb, bo, rfl, hbb, cb1⟩ := hB.cell (k := n - 1) (by omega)
  obtain ⟨bb', bo', e, _, cb2⟩ := hB.cell (k := n - 2) (by omega)
  cases e
  clear hO hB hG hV
  generalize ys[n - 1]?.getD 0 = b1 at *
  generalize ys[n - 2]?.getD 0 = b2 at *
  generalize cs[off + n]?.getD 0 = h at *
  generalize cs[off + (n - 1)]?.getD 0 = u1 at *
  generalize cs[off + (n - 2)]?.getD 0 = u2 at *
  have i1 : ((n : Int) - 1).toNat = n - 1 := by omega
  have i2 : ((n : Int) - 2).toNat = n - 2 := by omega
  obtain ⟨hi, hhi⟩ : ∃ hi : Nat, hi = h * 4294967296 + u1 := ⟨_, rfl⟩
  have hq0' : (hi : Int) / (b1 : Int) = ((hi / b1 : Nat) : Int) := by rw [← Int.natCast_ediv]
  have hr0' : (hi : Int) % (b1 : Int) = ((hi % b1 : Nat) : Int) := by rw [← Int.natCast_emod]
  have hq0 : (hi : Int).tdiv (b1 : Int) = ((hi / b1 : Nat) : Int) := by rw [Int.tdiv_eq_ediv_of_nonneg (by omega), ← Int.natCast_ediv]
  have hr0 : (hi : Int).tmod (b1 : Int) = ((hi % b1 : Nat) : Int) := by rw [Int.tmod_eq_emod_of_nonneg (by omega), ← Int.natCast_emod]
  have hb0 : ¬ ((b1 : Int) = 0) := by omega
  have hdm := Nat.div_add_mod hi b1
  have hrl := Nat.mod_lt hi (show 0 < b1 by omega)
  have hD9 := Nat.div_le_self hi b1
  generalize hi / b1 = D0 at *
  generalize hi % b1 = R0 at *
  have hi9 : hi < 18446744073709551616 := by omega
  have hbit : IntKind.u64.wrap ((h : Int) * 4294967296 + (u1 : Int)) = (hi : Int) := by rw [IntKind.wrap_u64]; omega
  obtain ⟨Q, hQ⟩ : ∃ Q, Q = gs b1 b2 h u1 u2 := ⟨_, rfl⟩
  have hQ0 : Q ≤ D0 := by rw [hQ]; exact gs_start gu2 (by rw [← hhi]; exact hdm) hrl
  rw [← hQ] at hX
  have HI := Lib.hid hhi
  have HQ := Lib.hid hQ
  have HXq := Lib.hid hX
  clear hhi hQ hX
  go_enter Tryz.func106, Tryz.ntmps106
  go_wp2
  go_quiet (fail)
  go_wp2
  go_quiet (fail)
  go_upto_block 0 with (fail)
  go_cut [7] (fun s7 wx => ∃ D d : Nat, s7 = .int .u64 (D : Int) ∧ Q ≤ D ∧ D ≤ 4294967295 ∧ wx = w.drewN d)
  case first =>
    go_wp2
    go_loopw [7, 8] (fun x r wr => ∃ D R d : Nat, x = .int .u64 (D : Int) ∧ r = .int .u64 (R : Int) ∧ D * b1 + R = hi ∧ Q ≤ D ∧ wr = w.drewN d) (fun x _ _ => (intOf x).toNat)
    case atStart => exact ⟨D0, R0, _, rfl, rfl, by rw [Nat.mul_comm]; exact hdm, hQ0, drewN_add w _ _⟩
    case round =>
      obtain ⟨D, R, d, rfl, rfl, hDR, hQD, rfl⟩ := hrel
      have hDle : D ≤ hi := by
        have := Nat.le_mul_of_pos_right D (show 0 < b1 by omega)
        omega
      have hRle : R ≤ hi := by omega
      have HDR := Lib.hid hDR
      clear hDR
      by_cases hd : 4294967296 ≤ D
      · have hlt : Q < D := by rw [HQ.out]; exact gs_lt (by omega) (by rw [← HI.out]; exact HDR.out) (.inl (by omega))
        have HDM : Hid ((D - 1) * b1 + (R + b1) = D * b1 + R) := by show _ = _; rw [Nat.sub_mul, Nat.one_mul]; have := Nat.le_mul_of_pos_left b1 (show 0 < D by omega); omega
        have hRb : R + b1 ≤ hi := by have := HDM.out; have := HDR.out; omega
        have hdi : (4294967296 : Int) ≤ (D : Int) := by omega
        go_wp2_with fail
        go_quiet (fail)
        go_wp2
        all_goals
          first
          | (go_meet; exact ⟨D - 1, _, by go_num, by omega, by omega, by first | exact drewN_add w _ _ | rfl⟩)
          | (go_roundw
             case rel => exact ⟨D - 1, R + b1, _, by go_num, by go_num, by rw [← HDR.out]; exact HDM.out, by omega, rfl⟩
             case measure => simp [intOf]; omega)
      · have hdd : decide ((4294967296 : Int) ≤ (D : Int)) = false := by simp; omega
        by_cases hR : R < 4294967296
        · have hRi : (R : Int) < 4294967296 := by omega
          have hmul := mul_bd (show D < 4294967296 by omega) g2
          obtain ⟨T, hT⟩ : ∃ T : Nat, T = R * 4294967296 + u2 := ⟨_, rfl⟩
          have hbit2 : IntKind.u64.wrap ((R : Int) * 4294967296 + (u2 : Int)) = (T : Int) := by rw [IntKind.wrap_u64]; omega
          have HT := Lib.hid hT
          clear hT
          by_cases hp : T < D * b2
          · have hlt : Q < D := by rw [HQ.out]; exact gs_lt (by omega) (by rw [← HI.out]; exact HDR.out) (.inr (by rw [← HT.out]; exact hp))
            have HDM : Hid ((D - 1) * b1 + (R + b1) = D * b1 + R) := by show _ = _; rw [Nat.sub_mul, Nat.one_mul]; have := Nat.le_mul_of_pos_left b1 (show 0 < D by omega); omega
            have hRb : R + b1 ≤ hi := by have := HDM.out; have := HDR.out; omega
            have hpi : (T : Int) < (D : Int) * (b2 : Int) := by rw [← Int.natCast_mul]; omega
            clear hp
            by_cases hR2 : R + b1 < 4294967296
            case' pos => have hR2i : (R : Int) + (b1 : Int) < 4294967296 := by omega
            case' pos => have hR2d : decide ((4294967296 : Int) ≤ (R : Int) + (b1 : Int)) = false := by simp; omega
            case' neg => have hR2i : (4294967296 : Int) ≤ (R : Int) + (b1 : Int) := by omega
            all_goals have hD1i : (D : Int) - 1 < 4294967296 := by omega
            all_goals clear hR2
            all_goals
              go_wp2_with fail
              go_quiet (fail)
              go_wp2
            · go_meet
              exact ⟨D - 1, _, by go_num, by omega, by omega, by first | exact drewN_add w _ _ | rfl⟩
            · go_roundw
              case rel => exact ⟨D - 1, R + b1, _, by go_num, by go_num, by rw [← HDR.out]; exact HDM.out, by omega, rfl⟩
              case measure => simp [intOf]; omega
          · have hpd : decide ((T : Int) < (D : Int) * (b2 : Int)) = false := by rw [← Int.natCast_mul]; simp; omega
            go_wp2_with fail
            go_quiet (fail)
            go_wp2
            go_meet
            exact ⟨D, _, rfl, hQD, by omega, drewN_add w _ _⟩
        · have hRd : decide ((R : Int) < 4294967296) = false := by simp; omega
          go_wp2_with fail
          go_quiet (fail)
          go_wp2
          go_meet
          exact ⟨D, _, rfl, hQD, by omega, drewN_add w _ _⟩
  case rest =>
    obtain ⟨D, d, rfl, hQD, hDq, rfl⟩ := hcut
    clear hq0' hr0' hq0 hr0 hb0 hdm hrl hD9 hbit hQ0 hle i1 i2 ch cu1 cu2 cb1 cb2 gh gu1 gu2 g2 hi9 HI hoff
    have HXD : Hid (X / V ≤ D) := Nat.le_trans HXq.out hQD
    clear HXq hQD HQ
    have HCar := Lib.hid (fun k => sbK_carry (HG.out.drop off) HB.out.good (show D < 4294967296 by omega) k)
    go_wp2
    go_loopw [9, 10, 11] (fun bw cy i wr => ∃ k cc bw' : Nat, k ≤ n + 1 ∧ i = .int .i64 k ∧ cy = .int .u64 (cc : Int) ∧ bw = .int .i64 (bw' : Int) ∧ bw' ≤ 1 ∧ cc + bw' = (sbK (cs.drop off) ys D k).2 ∧ (n < k → cc = 0) ∧ Ob wr g (spl cs off (sbK (cs.drop off) ys D k).1) ∧ w.grownBy wr (some g)) (fun _ _ i _ => n + 1 - (intOf i).toNat)
    case atStart => exact ⟨0, 0, 0, Nat.zero_le _, rfl, rfl, rfl, Nat.zero_le _, rfl, fun _ => rfl, by show Ob _ g (spl cs off []); rw [spl_nil]; exact HO.out, grownBy_drewN (World.grownBy.refl w _) d⟩
    case round =>
      obtain ⟨k, cc, bw, hk, rfl, rfl, rfl, hbw, hcb, hcz, hOk, hgk⟩ := hrel
      by_cases hkn : k ≤ n
      · have hoff := HOff.out
        have hln := sbK_len (cs.drop off) ys D k
        have hct := hOk.cell (i := off + k) (by rw [spl_len (by omega)]; omega)
        have hat := spl_at (cs := cs) (off := off) (ts := (sbK (cs.drop off) ys D k).1) (by omega)
        rw [hln] at hat
        rw [hat] at hct
        have hfr := hOk.frozen (off + k)
        have hpg := HG.out.get (off + k)
        have hcl := HCar.out k
        have hyg := HB.out.good.get k
        have hmul := mul_bd (show D < 4294967296 by omega) hyg
        have HCb := Lib.hid hcb
        have HOk := Lib.hid hOk
        have HGk := Lib.hid hgk
        have HLn := Lib.hid hln
        have hcl2 : cc < 4294967296 := by omega
        clear hcb hOk hgk hln hat hcl hcz hoff
        have HFin : Hid (∀ (wz : World) (E bw2 : Nat), E = cc + ys[k]?.getD 0 * D → bw2 = (if cs[off + k]?.getD 0 < E % 4294967296 + bw then 1 else 0) → Ob wz g ((spl cs off (sbK (cs.drop off) ys D k).1).set (off + k) ((cs[off + k]?.getD 0 + 8589934592 - E % 4294967296 - bw) % 4294967296)) → w.grownBy wz (some g) →
            ∃ k' cc' bw' : Nat, k' ≤ n + 1 ∧ Value.int .i64 ((k : Int) + 1) = .int .i64 k' ∧ Value.int .u64 ((E : Int) / 4294967296) = .int .u64 (cc' : Int) ∧ Value.int .i64 (bw2 : Int) = .int .i64 (bw' : Int) ∧ bw' ≤ 1 ∧ cc' + bw' = (sbK (cs.drop off) ys D k').2 ∧ (n < k' → cc' = 0) ∧ Ob wz g (spl cs off (sbK (cs.drop off) ys D k').1) ∧ w.grownBy wz (some g)) := by
          intro wz E bw2 h1 h2 h3 h4
          have hst := dg_step (m := ys[k]?.getD 0 * D) HCb.out hbw hpg
          rw [← h1, ← h2] at hst
          have hdr : (cs.drop off)[k]?.getD 0 = cs[off + k]?.getD 0 := by rw [List.getElem?_drop]
          have e2 : (sbK (cs.drop off) ys D (k + 1)).2 = ((sbK (cs.drop off) ys D k).2 + ys[k]?.getD 0 * D) / 4294967296 + (if (cs.drop off)[k]?.getD 0 < ((sbK (cs.drop off) ys D k).2 + ys[k]?.getD 0 * D) % 4294967296 then 1 else 0) := rfl
          have e1 : (sbK (cs.drop off) ys D (k + 1)).1 = (sbK (cs.drop off) ys D k).1 ++ [((cs.drop off)[k]?.getD 0 + 4294967296 - ((sbK (cs.drop off) ys D k).2 + ys[k]?.getD 0 * D) % 4294967296) % 4294967296] := rfl
          rw [hdr] at e1 e2
          refine ⟨k + 1, E / 4294967296, bw2, by omega, by go_num, congrArg (Value.int IntKind.u64) (Int.natCast_ediv _ _).symm, rfl, by rw [h2]; split <;> omega, by rw [e2, hst.2], ?_, ?_, h4⟩
          · intro hlt
            have hz := getD_over (xs := ys) (k := k) (by rw [HB.out.len]; omega)
            rw [hz, Nat.zero_mul, Nat.add_zero] at h1
            rw [h1]
            exact Nat.div_eq_of_lt hcl2
          · have hs := spl_set (cs := cs) (off := off) (ts := (sbK (cs.drop off) ys D k).1) ((cs[off + k]?.getD 0 + 8589934592 - E % 4294967296 - bw) % 4294967296) (by have := HOff.out; rw [HLn.out]; omega)
            rw [HLn.out] at hs
            rw [e1, ← hst.1, ← hs]
            exact h3
        by_cases hkl : k < n
        · obtain ⟨b1', bo1', e1, _, hcy⟩ := (HB.out.grownLt HGk.out (Nat.le_of_lt hgs)).cell hkl
          cases e1
          obtain ⟨E, hE⟩ : ∃ E : Nat, E = cc + ys[k]?.getD 0 * D := ⟨_, rfl⟩
          rw [Nat.mul_comm] at hmul
          have hE9 : E < 18446744073709551616 := by omega
          have hEw : IntKind.u64.wrap ((cc : Int) + IntKind.u64.wrap ((D : Int) * ((ys[k]?.getD 0 : Nat) : Int))) = (E : Int) := by
            rw [← Int.natCast_mul, Nat.mul_comm, IntKind.wrap_u64, IntKind.wrap_u64]
            omega
          obtain ⟨m, hm⟩ : ∃ m, m = E % 4294967296 := ⟨_, rfl⟩
          have hand : bits .and .u64 (E : Int) 4294967295 = (m : Int) := by rw [and_low32 _ (by omega) (by omega), hm]; omega
          have hm9 : m < 4294967296 := by omega
          have HE := Lib.hid hE
          have HM := Lib.hid hm
          clear hE hmul hm
          by_cases hng : cs[off + k]?.getD 0 < m + bw
          · have hti : ((cs[off + k]?.getD 0 : Nat) : Int) - (m : Int) - (bw : Int) < 0 := by omega
            go_wp2
            go_roundw
            case rel =>
              have e3 : (((cs[off + k]?.getD 0 : Nat) : Int) - (m : Int) - (bw : Int) + 4294967296) = (((cs[off + k]?.getD 0 + 8589934592 - E % 4294967296 - bw) % 4294967296 : Nat) : Int) := by have := HM.out; omega
              rw [e3]
              exact HFin.out _ E 1 HE.out (by rw [if_pos (by have := HM.out; omega)]) (HOk.out.set_ (off + k) _) (grownBy_trans HGk.out (grownBy_setCellAt _ _ _ _))
            case measure => simp [intOf]; omega
          · have hti : 0 ≤ ((cs[off + k]?.getD 0 : Nat) : Int) - (m : Int) - (bw : Int) := by omega
            have htd : decide (((cs[off + k]?.getD 0 : Nat) : Int) - (m : Int) - (bw : Int) < 0) = false := by simp; omega
            go_wp2
            go_roundw
            case rel =>
              have e3 : (((cs[off + k]?.getD 0 : Nat) : Int) - (m : Int) - (bw : Int)) = (((cs[off + k]?.getD 0 + 8589934592 - E % 4294967296 - bw) % 4294967296 : Nat) : Int) := by have := HM.out; omega
              rw [e3]
              exact HFin.out _ E 0 HE.out (by rw [if_neg (by have := HM.out; omega)]) (HOk.out.set_ (off + k) _) (grownBy_trans HGk.out (grownBy_setCellAt _ _ _ _))
            case measure => simp [intOf]; omega
        · obtain rfl : k = n := by omega
          have hand : bits .and .u64 (cc : Int) 4294967295 = (cc : Int) := by rw [and_low32 _ (by omega) (by omega)]; omega
          have HZ : Hid (cc = cc + ys[k]?.getD 0 * D) := by
            show _ = _
            rw [getD_over (xs := ys) (k := k) (by rw [HB.out.len]; omega), Nat.zero_mul, Nat.add_zero]
          clear hmul
          by_cases hng : cs[off + k]?.getD 0 < cc + bw
          · have hti : ((cs[off + k]?.getD 0 : Nat) : Int) - (cc : Int) - (bw : Int) < 0 := by omega
            go_wp2
            go_roundw
            case rel =>
              have e3 : (((cs[off + k]?.getD 0 : Nat) : Int) - (cc : Int) - (bw : Int) + 4294967296) = (((cs[off + k]?.getD 0 + 8589934592 - cc % 4294967296 - bw) % 4294967296 : Nat) : Int) := by omega
              rw [e3]
              exact HFin.out _ cc 1 HZ.out (by rw [if_pos (by omega)]) (HOk.out.set_ (off + k) _) (grownBy_trans HGk.out (grownBy_setCellAt _ _ _ _))
            case measure => simp [intOf]
          · have hti : 0 ≤ ((cs[off + k]?.getD 0 : Nat) : Int) - (cc : Int) - (bw : Int) := by omega
            have htd : decide (((cs[off + k]?.getD 0 : Nat) : Int) - (cc : Int) - (bw : Int) < 0) = false := by simp; omega
            go_wp2
            go_roundw
            case rel =>
              have e3 : (((cs[off + k]?.getD 0 : Nat) : Int) - (cc : Int) - (bw : Int)) = (((cs[off + k]?.getD 0 + 8589934592 - cc % 4294967296 - bw) % 4294967296 : Nat) : Int) := by omega
              rw [e3]
              exact HFin.out _ cc 0 HZ.out (by rw [if_neg (by omega)]) (HOk.out.set_ (off + k) _) (grownBy_trans HGk.out (grownBy_setCellAt _ _ _ _))
            case measure => simp [intOf]
      · obtain rfl : k = n + 1 := by omega
        have hcc : cc = 0 := hcz (by omega)
        have HI3 : Hid (val (sbK (cs.drop off) ys D (n + 1)).1 + V * D = X + 4294967296 ^ (n + 1) * bw) := by
          show _ = _
          have e := sbK_val (xs := ys) (HG.out.drop off) D (n + 1)
          rw [List.take_of_length_le (by rw [HB.out.len]; omega), HV.out, ← HXd.out, ← hcb, hcc, Nat.zero_add] at e
          exact e
        have HOk := Lib.hid hOk
        have HGk := Lib.hid hgk
        have HLn := Lib.hid (sbK_len (cs.drop off) ys D (n + 1))
        have HTg := Lib.hid (sbK_good (cs.drop off) ys D (n + 1))
        clear hcb hcc hcz hOk hgk hkn hk
        go_wp2
        go_loopw [7, 9] (fun q bz wr' => ∃ (qq bb' : Nat) (T : List Nat), q = .int .u64 (qq : Int) ∧ bz = .int .i64 (bb' : Int) ∧ bb' ≤ 1 ∧ qq ≤ 4294967295 ∧ X / V ≤ qq ∧ T.length = n + 1 ∧ Good T ∧ val T + V * qq = X + 4294967296 ^ (n + 1) * bb' ∧ Ob wr' g (spl cs off T) ∧ w.grownBy wr' (some g)) (fun q _ _ => (intOf q).toNat)
        case atStart => exact ⟨D, bw, _, rfl, rfl, hbw, hDq, HXD.out, HLn.out, HTg.out, HI3.out, HOk.out, HGk.out⟩
        case round =>
          obtain ⟨qq, bb', T, rfl, rfl, hb1', hq9, hXq, hTl, hTG, hTv, hOT, hgT⟩ := hrel
          have HTl := Lib.hid hTl
          have HTG := Lib.hid hTG
          have HTv := Lib.hid hTv
          have HXq := Lib.hid hXq
          have HOT := Lib.hid hOT
          have HGT := Lib.hid hgT
          clear hTl hTG hTv hXq hOT hgT
          rcases Nat.eq_zero_or_pos bb' with h0 | h0
          · subst h0
            have HDn := Lib.hid (dg_done hV0 (by have e := HTv.out; rw [Nat.mul_zero, Nat.add_zero] at e; exact e) HXq.out)
            go_wp2
            go_ret
            exact ⟨ret_int (by rw [HDn.out.1]), ⟨T, HTl.out, HTG.out, HDn.out.2, HOT.out⟩, HGT.out⟩
          · obtain rfl : bb' = 1 := by omega
            have hTlt := val_lt HTG.out
            rw [HTl.out] at hTlt
            have hmo := dg_more hV0 (by have e := HTv.out; rw [Nat.mul_one] at e; exact e) hTlt
            have hq1 := hmo.1
            have HXq1 := Lib.hid hmo.2
            clear hmo hTlt
            go_wp2
            go_loopw [10, 13] (fun cy i wj => ∃ k : Nat, k ≤ n + 1 ∧ i = .int .i64 k ∧ cy = .int .u64 ((addK T ys k).2 : Nat) ∧ Ob wj g (spl cs off (spl T 0 (addK T ys k).1)) ∧ w.grownBy wj (some g)) (fun _ i _ => n + 1 - (intOf i).toNat)
            case atStart => exact ⟨0, Nat.zero_le _, rfl, rfl, by show Ob _ g (spl cs off (spl T 0 [])); rw [spl_nil]; exact HOT.out, HGT.out⟩
            case round =>
              obtain ⟨k, hk, rfl, rfl, hOj, hgj⟩ := hrel
              have HOj := Lib.hid hOj
              clear hOj
              have hcar := addK_carry HTG.out HB.out.good k
              have HAl := Lib.hid (addK_len T ys k)
              by_cases hkn : k ≤ n
              · have HMl : Hid ((spl T 0 (addK T ys k).1).length = n + 1) := by show _ = _; rw [spl_len (by rw [HAl.out, HTl.out]; omega), HTl.out]
                have hct := HOj.out.cell (i := off + k) (by have := HOff.out; rw [spl_len (by rw [HMl.out]; omega)]; omega)
                have hge : (spl cs off (spl T 0 (addK T ys k).1))[off + k]?.getD 0 = T[k]?.getD 0 := by
                  rw [spl_get (by have := HOff.out; rw [HMl.out]; omega) (by rw [HMl.out]; omega)]
                  have e := spl_at (cs := T) (off := 0) (ts := (addK T ys k).1) (by rw [HAl.out, HTl.out]; omega)
                  rw [HAl.out, Nat.zero_add] at e
                  exact e
                rw [hge] at hct
                have hfr := HOj.out.frozen (off + k)
                have hTg := HTG.out.get k
                have hyg := HB.out.good.get k
                have HFin : Hid (∀ (wz : World) (E : Int), E = (((addK T ys k).2 + (T[k]?.getD 0 + ys[k]?.getD 0) : Nat) : Int) → Ob wz g ((spl cs off (spl T 0 (addK T ys k).1)).set (off + k) (((addK T ys k).2 + (T[k]?.getD 0 + ys[k]?.getD 0)) % 4294967296)) → w.grownBy wz (some g) →
                    ∃ k' : Nat, k' ≤ n + 1 ∧ Value.int .i64 ((k : Int) + 1) = .int .i64 k' ∧ Value.int .u64 (E / 4294967296) = .int .u64 ((addK T ys k').2 : Nat) ∧ Ob wz g (spl cs off (spl T 0 (addK T ys k').1)) ∧ w.grownBy wz (some g)) := by
                  intro wz E h1 h2 h3
                  refine ⟨k + 1, by omega, by go_num, ?_, ?_, h3⟩
                  · rw [h1]
                    exact congrArg (Value.int IntKind.u64) (Int.natCast_ediv _ _).symm
                  · rw [spl_seti _ (by have := HOff.out; rw [HMl.out]; omega) (by rw [HMl.out]; omega)] at h2
                    have e := spl_set (cs := T) (off := 0) (ts := (addK T ys k).1) (((addK T ys k).2 + (T[k]?.getD 0 + ys[k]?.getD 0)) % 4294967296) (by rw [HAl.out, HTl.out]; omega)
                    rw [HAl.out, Nat.zero_add] at e
                    rw [e] at h2
                    exact h2
                clear hge
                by_cases hkl : k < n
                · obtain ⟨b1', bo1', e1, _, hcy⟩ := (HB.out.grownLt hgj (Nat.le_of_lt hgs)).cell hkl
                  cases e1
                  go_wp2
                  go_roundw
                  case rel =>
                    refine HFin.out _ _ (by omega) ?_ (grownBy_trans hgj (grownBy_setCellAt _ _ _ _))
                    have e := HOj.out.set_ (off + k) (((addK T ys k).2 + (T[k]?.getD 0 + ys[k]?.getD 0)) % 4294967296)
                    have e3 : ((((addK T ys k).2 + (T[k]?.getD 0 + ys[k]?.getD 0)) % 4294967296 : Nat) : Int) = (((addK T ys k).2 : Nat) + ((T[k]?.getD 0 : Nat) : Int) + ((ys[k]?.getD 0 : Nat) : Int)) % 4294967296 := by omega
                    rw [e3] at e
                    exact e
                  case measure => simp [intOf]; omega
                · obtain rfl : k = n := by omega
                  have HZ := Lib.hid (getD_over (xs := ys) (k := k) (by rw [HB.out.len]; omega))
                  go_wp2
                  go_roundw
                  case rel =>
                    have hz := HZ.out
                    refine HFin.out _ _ (by omega) ?_ (grownBy_trans hgj (grownBy_setCellAt _ _ _ _))
                    have e := HOj.out.set_ (off + k) (((addK T ys k).2 + (T[k]?.getD 0 + ys[k]?.getD 0)) % 4294967296)
                    have e3 : ((((addK T ys k).2 + (T[k]?.getD 0 + ys[k]?.getD 0)) % 4294967296 : Nat) : Int) = (((addK T ys k).2 : Nat) + ((T[k]?.getD 0 : Nat) : Int)) % 4294967296 := by omega
                    rw [e3] at e
                    exact e
                  case measure => simp [intOf]
              · obtain rfl : k = n + 1 := by omega
                have HE : Hid (spl T 0 (addK T ys (n + 1)).1 = (addK T ys (n + 1)).1) := by
                  show T.take 0 ++ ((addK T ys (n + 1)).1 ++ T.drop (0 + (addK T ys (n + 1)).1.length)) = _
                  rw [HAl.out, List.drop_of_length_le (by rw [HTl.out]; omega), List.append_nil]; rfl
                have HBk : Hid (val (addK T ys (n + 1)).1 + V * (qq - 1) = X + 4294967296 ^ (n + 1) * (1 - (addK T ys (n + 1)).2)) := by
                  refine dg_back hq1 (by have e := HTv.out; rw [Nat.mul_one] at e; exact e) ?_ hcar
                  rw [addK_val, List.take_of_length_le (by rw [HTl.out]; exact Nat.le_refl _), List.take_of_length_le (by rw [HB.out.len]; omega), HV.out]
                go_wp2
                go_roundw
                case rel =>
                  refine ⟨qq - 1, 1 - (addK T ys (n + 1)).2, (addK T ys (n + 1)).1, by go_num, by go_num, by omega, by omega, HXq1.out, HAl.out, addK_good _ _ _, HBk.out, ?_, hgj⟩
                  have e := HOj.out
                  rw [HE.out] at e
                  exact e
                case measure => simp [intOf]; omega
end Go.Proofs.YtbplbbkmfbjkfaaGreatDoor

/- The reference's over. -/
namespace Go.Proofs.YtbplbbkmfbjkfaaGreatDoor
open Go.RowKit

set_option maxRecDepth 100000 in
set_option maxHeartbeats 1000000 in
theorem rover_less (w : World) (A B : Option Addr) (n m ca cb b v : Nat) (xs : List Nat) (hA : Lm w w.heap.size A n ca xs) (hB : Lm w w.heap.size B m cb (digs b)) (hv : val xs = v) (hC : cmpL xs (digs b) = -1) (hlt : v < b) (hn9 : n ≤ 1000000) :
    Calls Tryz.prog 79 #[.slice A n ca, .slice B m cb] w (RD w (v / b) (v % b)) := by
  have HC := Lib.hid hC
  have HA := Lib.hid hA
  have HB := Lib.hid hB
  have HV := Lib.hid hv
  have hcB := hB.cap
  have hxB := hB.max
  rw [Nat.div_eq_of_lt hlt, Nat.mod_eq_of_lt hlt]
  clear hA hB hlt hv hC
  go_enter Tryz.func79, Tryz.ntmps79
  go_wp2_with fail
  refine (rcompare_any A B n m ca cb xs (digs b) w HA.out HB.out).mono ?_
  rintro e w1 ⟨he, d, rfl⟩
  rw [HC.out] at he
  subst he
  go_wp2_with fail
  refine (rtrim_any _ _ _ _ xs v (HA.out.drewN d) HV.out (by omega)).mono ?_
  rintro e w2 ⟨A2, c2, rfl, hL2, hb2⟩
  go_wp2
  go_ret2
  refine ⟨none, 0, A2, c2, rfl, Lm.nil _ _, hL2, (bdrewN (Below.refl w.heap.size w) d).trans hb2⟩

set_option maxRecDepth 100000 in
set_option maxHeartbeats 1000000 in
theorem rover_one (w : World) (A B : Option Addr) (n ca cb b v : Nat) (xs : List Nat) (hA : Lm w w.heap.size A n ca xs) (hB : Lm w w.heap.size B 1 cb (digs b)) (hv : val xs = v) (hC : 0 ≤ cmpL xs (digs b)) (hn9 : n ≤ 1000000) :
    Calls Tryz.prog 79 #[.slice A n ca, .slice B 1 cb] w (RD w (v / b) (v % b)) := by
  obtain ⟨z, hz, HC⟩ : ∃ z : Int, decide (z < 0) = false ∧ Hid (cmpL xs (digs b) = z) := ⟨_, by simp; omega, rfl⟩
  have hb0 : 0 < b := by rw [← digs_pos, hB.len]; omega
  have hbe : (digs b)[0]?.getD 0 = b := by
    have h1 := val_take_succ' (digs b) 0
    rw [List.take_of_length_le (by rw [hB.len]; omega), digs_val] at h1
    simpa [val_nil] using h1.symm
  have hb9 := hB.good.get 0
  obtain ⟨bb, bo, rfl, hbb, cb1⟩ := hB.cell (k := 0) (by omega)
  rw [hbe] at cb1 hb9
  rw [Nat.add_zero] at cb1
  have hcB := hB.cap
  have hxB := hB.max
  have HA := Lib.hid hA
  have HB := Lib.hid hB
  have HV := Lib.hid hv
  clear hA hB hbe hv hC
  go_enter Tryz.func79, Tryz.ntmps79
  go_wp2_with fail
  refine (rcompare_any A (some ⟨bb, bo, none⟩) n 1 ca cb xs (digs b) w HA.out HB.out).mono ?_
  rintro e w1 ⟨he, d, rfl⟩
  rw [HC.out] at he
  subst he
  go_wp2_with fail
  refine (rshort_any (w.drewN d) A n ca b xs v (HA.out.drewN d) (by omega) hb0 hb9 HV.out).mono ?_
  rintro e w2 ⟨Q, cq, R, cr, rfl, hQ, hR, hb2⟩
  go_wp2
  go_ret2
  exact ⟨Q, cq, R, cr, rfl, hQ, hR, (bdrewN (Below.refl w.heap.size w) d).trans hb2⟩

theorem up_aux {x s l : Nat} (l1 : 1 ≤ l) (l2 : 2 ^ (l - 1) ≤ x) (l3 : x < 2 ^ l) (h1 : 2 ^ 31 ≤ x * 2 ^ s) (h2 : x * 2 ^ s < 2 ^ 32) : s = 32 - l := by
  have m1 := Nat.mul_le_mul_right (2 ^ s) l2
  have m2 := (Nat.mul_lt_mul_right (a := 2 ^ s) (Nat.pow_pos (by decide))).2 l3
  have a1 := Nat.lt_of_le_of_lt m1 h2
  have a2 := Nat.lt_of_le_of_lt h1 m2
  rw [← Nat.pow_add] at a1 a2
  have b1 := (Nat.pow_lt_pow_iff_right (by decide : 1 < 2)).1 a1
  have b2 := (Nat.pow_lt_pow_iff_right (by decide : 1 < 2)).1 a2
  clear a1 a2 m1 m2 h1 h2 l2 l3
  omega
theorem up_of {x s : Nat} (h0 : x ≠ 0) (h : x < 4294967296) (h1 : 2147483648 ≤ x * 2 ^ s) (h2 : x * 2 ^ s < 4294967296) : s = 32 - Lib.bitLen x := by
  have hb := bitLen_bounds h0 h
  generalize Lib.bitLen x = l at hb ⊢
  exact up_aux hb.1 hb.2.1 hb.2.2 h1 h2
/-- A limb more than a number has is 0. -/
theorem take_dgs {ts : List Nat} {V m : Nat} (g : Good ts) (hl : ts.length = m + 1) (hv : val ts = V) (hV : (digs V).length = m) : ts.take m = digs V := by
  have h1 := val_short (xs := ts) (j := m) (by rw [hv]; exact digs_len.1 (Nat.le_of_eq hV))
  exact eq_of_val (g.take m) (digs_good V) (by rw [List.length_take, hl, hV]; omega) (by rw [h1.1, hv, digs_val])
theorem part_whole {rs : List Nat} {m k : Nat} (h : val (rs.drop k) = val ((rs.drop k).take m) + 4294967296 ^ m * rs[k + m]?.getD 0) : val ((rs.drop k).take (m + 1)) = val (rs.drop k) := by
  rw [val_take_succ', List.getElem?_drop]
  exact h.symm
theorem part_done2 {rs P : List Nat} {m k v : Nat} (hP : P.length = m + 1) (hk : k + m < rs.length) (hz : val (rs.drop (k + m + 1)) = 0) (hv : val P = v) :
    val ((spl rs k P).drop k) = v ∧ val (spl rs k P) = val (rs.take k) + 4294967296 ^ k * v := by
  have hl : (rs.take k).length = k := by rw [List.length_take]; omega
  have e : val (P ++ rs.drop (k + P.length)) = v := by
    have hz2 : val (rs.drop (k + P.length)) = 0 := by rw [hP, ← Nat.add_assoc]; exact hz
    rw [val_append, hv, hz2, Nat.mul_zero, Nat.add_zero]
  unfold spl
  constructor
  · rw [List.drop_append_of_le_length (by omega), List.drop_of_length_le (by omega), List.nil_append]
    exact e
  · rw [val_append, hl, e]
end Go.Proofs.YtbplbbkmfbjkfaaGreatDoor

/- The reference's over: long division. -/
namespace Go.Proofs.YtbplbbkmfbjkfaaGreatDoor
open Go.RowKit

theorem rleft_any (w : World) (A : Option Addr) (n c s : Nat) (xs : List Nat) (v : Nat) (hA : Lm w w.heap.size A n c xs) (hn : n ≤ 100000000) (hs32 : s < 32) (hv : val xs * 2 ^ s = v) :
    Calls Tryz.prog 105 #[.slice A n c, .int .u64 (s : Int)] w (RL w (n + 1) v) :=
  (rleft_own w A n c s xs v hA hn hs32 hv).mono fun e w' ⟨A, c, ts, he, hO, hG, hl, hv, hb⟩ => by
    obtain ⟨A', c', e3, hL⟩ := hO.lm hG
    rw [hl] at e3 hL
    cases e3
    exact ⟨A, c, ts, he, hL, hv, hb⟩

set_option maxRecDepth 100000 in
set_option maxHeartbeats 4000000 in
theorem rover_long (w : World) (A B : Option Addr) (n m ca cb a b : Nat) (hA : Lm w w.heap.size A n ca (digs a)) (hB : Lm w w.heap.size B m cb (digs b)) (hle : b ≤ a) (hm2 : 2 ≤ m) (hn9 : n ≤ 1000000) :
    Calls Tryz.prog 79 #[.slice A n ca, .slice B m cb] w (RD w (a / b) (a % b)) := by
  obtain ⟨z, hz, HC⟩ : ∃ z : Int, decide (z < 0) = false ∧ Hid (cmpL (digs a) (digs b) = z) := ⟨_, by rw [cmpL_norm (digs_good _) (digs_good _) (digs_norm _) (digs_norm _), digs_val, digs_val]; unfold cmpN; rw [if_neg (by omega)]; split <;> decide, rfl⟩
  have hcA := hA.cap
  have hxA := hA.max
  have hcB := hB.cap
  have hxB := hB.max
  have hlA := hA.len
  have hlB := hB.len
  have hmn : m ≤ n := by rw [← hlA, ← hlB]; exact digs_mono hle
  have hm1 : ((m : Int) == 1) = false := by simp; omega
  have hbp : 0 < b := digs_pos.1 (by omega)
  have gt := hB.good.get (m - 1)
  have htp := top_pos hbp
  rw [hlB] at htp
  obtain ⟨bb, bo, e, hbb, cb1⟩ := hB.cell (k := m - 1) (by omega)
  subst e
  have hf := up_facts hlB (by omega)
  have HF := Lib.hid hf
  have HLA := Lib.hid hlA
  have HLB := Lib.hid hlB
  have HA := Lib.hid hA
  have HB := Lib.hid hB
  have HLe := Lib.hid hle
  have i1 : ((m : Int) - 1).toNat = m - 1 := by omega
  obtain ⟨top, hto⟩ : ∃ top, top = (digs b)[m - 1]?.getD 0 := ⟨_, rfl⟩
  rw [← hto] at gt htp cb1
  have HTop := Lib.hid hto
  have ht0 : 0 < top := by omega
  clear hA hB hlA hlB hf hle hto htp
  go_enter Tryz.func79, Tryz.ntmps79
  go_wp2_with fail
  refine (rcompare_any A (some ⟨bb, bo, none⟩) n m ca cb (digs a) (digs b) w HA.out HB.out).mono ?_
  rintro e w1 ⟨he, d, rfl⟩
  rw [HC.out] at he
  subst he
  have HB0 : Hid (Below w.heap.size w (w.drewN d)) := bdrewN (Below.refl _ _) d
  have LA := Lib.hid (HA.out.drewN d)
  have LB := Lib.hid (HB.out.drewN d)
  have cb2 : (w.drewN d).cell? ⟨bb, bo + (m - 1), none⟩ = some (.int .u32 (top : Int)) := cb1
  have hsz : Hid ((w.drewN d).heap.size = w.heap.size) := (rfl : _ = _)
  generalize w.drewN d = w1 at *
  clear HA HB cb1
  go_wp2_with fail
  go_loop [7] (fun x => ∃ s : Nat, s ≤ 31 ∧ x = .int .u64 (s : Int) ∧ top * 2 ^ s < 4294967296) (fun x => 32 - (intOf x).toNat)
  case atStart => exact ⟨0, by omega, rfl, by rw [Nat.pow_zero, Nat.mul_one]; exact gt⟩
  case round =>
    obtain ⟨s, hs, rfl, hts⟩ := hrel
    obtain ⟨P, hP⟩ : ∃ P, P = top * 2 ^ s := ⟨_, rfl⟩
    have hw : IntKind.u32.wrap ((top : Int) * 2 ^ s) = (P : Int) := by
      rw [cast_shl, Nat.mul_comm, ← hP, IntKind.wrap_u32]
      omega
    have HP := Lib.hid hP
    rw [← hP] at hts
    clear hP
    by_cases hp : P < 2147483648
    · have hpi : (P : Int) < 2147483648 := by omega
      clear hp
      go_wp2
      go_round
      case rel => exact ⟨s + 1, by
        have e := HP.out
        rcases Nat.lt_or_ge s 31 with h | h
        · omega
        · obtain rfl : s = 31 := by omega
          have h5 := Nat.mul_le_mul_right (2 ^ 31) ht0
          omega, by go_num, by rw [Nat.pow_succ, ← Nat.mul_assoc, ← HP.out]; omega⟩
      case measure => simp [intOf]; omega
    · have hpi : (2147483648 : Int) ≤ (P : Int) := by omega
      have hpd : decide ((P : Int) < 2147483648) = false := by simp; omega
      have hup := up_of (x := top) (s := s) (by omega) gt (by rw [← HP.out]; omega) (by rw [← HP.out]; exact hts)
      rw [HTop.out] at hup
      have HF2 := HF.out
      rw [← hup] at HF2
      obtain ⟨V, hV⟩ : ∃ V, V = b * 2 ^ s := ⟨_, rfl⟩
      obtain ⟨U, hU⟩ : ∃ U, U = a * 2 ^ s := ⟨_, rfl⟩
      rw [← hV] at HF2
      have HVF := Lib.hid HF2
      have HUB : Hid (U < 2147483648 * 4294967296 ^ n) := by
        show _ < _
        have h1 := digs_len.1 (Nat.le_of_eq HLA.out)
        rw [hU, Nat.mul_comm]
        exact Nat.mul_lt_mul_of_le_of_lt (Nat.pow_le_pow_right (by omega) hs) h1 (by decide)
      have HDiv : Hid (U / V = a / b ∧ U % V = a % b * 2 ^ s) := by
        show _ ∧ _
        rw [hU, hV]
        exact ⟨Nat.mul_div_mul_right _ _ (Nat.pow_pos (by omega)), Nat.mul_mod_mul_right _ _ _⟩
      have HV : Hid (val (digs b) * 2 ^ s = V) := by show _ = _; rw [digs_val, hV]
      have HU : Hid (val (digs a) * 2 ^ s = U) := by show _ = _; rw [digs_val, hU]
      have hV0 : 0 < V := by rw [hV]; exact Nat.mul_pos hbp (Nat.pow_pos (by omega))
      have HVb := Lib.hid hV
      clear hup HF2 hV hU HP hp hts
      go_wp2_with fail
      clear hw hpi hpd
      refine (rleft_any w1 _ m cb s (digs b) V LB.out (by omega) (by omega) HV.out).mono ?_
      rintro e w2 ⟨A2, c2, ts, rfl, hL2, hv2, hb2⟩
      have HL2 := Lib.hid (hL2.take (Nat.le_succ m))
      have HT2 := Lib.hid (take_dgs hL2.good hL2.len hv2 HVF.out.2.2.1)
      have hcap2 := hL2.cap
      have hmax2 := hL2.max
      rw [HT2.out] at HL2
      have LA2 := Lib.hid (LA.out.via hb2)
      have HB2 := Lib.hid (HB0.out.trans (hb2.mono HB0.out.size))
      clear hL2 hv2 hb2
      go_wp2_with fail
      refine (rleft_own w2 A n ca s (digs a) U LA2.out (by omega) (by omega) HU.out).mono ?_
      rintro e w3 ⟨A3, c3, us, rfl, hO3, hG3, hl3, hv3, hb3⟩
      obtain ⟨A3', c3', e3, hL3⟩ := hO3.lm hG3
      have hcap3 := hL3.cap
      have hmax3 := hL3.max
      rw [hl3] at e3 hL3 hcap3
      cases e3
      obtain ⟨gu, rfl, -, hgu, hOb3⟩ := hO3.ob (by omega)
      have HX3 := Lib.hid (HL2.out.below hb3)
      have HB3 := Lib.hid (HB2.out.trans (hb3.mono HB2.out.size))
      have HO3 := Lib.hid hOb3
      have HG3 := Lib.hid hG3
      have HV3 := Lib.hid hv3
      have HL3l := Lib.hid hl3
      have hs3 := hOb3.lt
      clear hO3 hL3 hOb3 hG3 hv3 hl3 hb3
      have hmk2 := fun w => run_make_u32 ((n : Int) + 1 - (m : Int)) ((n : Int) + 1 - (m : Int)) (n + 1 - m) (by omega) (by omega) (by omega) w
      go_wp2_with fail
      clear hmk2
      go_loopw [11] (fun i wr => ∃ (k : Nat) (rs qs : List Nat), k ≤ n + 1 - m ∧ i = .int .i64 ((k : Int) - 1) ∧ Ob wr gu rs ∧ Good rs ∧ rs.length = n + 1 ∧ Ld wr w3.heap.size qs ∧ Good qs ∧ qs.length = n + 1 - m ∧
          val (rs.drop k) < V ∧ val rs + 4294967296 ^ k * (V * val (qs.drop k)) = U ∧ Below w2.heap.size w3 wr) (fun i _ => (intOf i + 1).toNat)
      case atStart =>
        refine ⟨n + 1 - m, us, zer (n + 1 - m), Nat.le_refl _, rfl, HO3.out.below ((Below.refl _ _).alloc (Nat.le_refl _) _) hs3, HG3.out, HL3l.out, Ld.new _ _, zer_good _, zer_len _, ?_, ?_, (Below.refl _ _).alloc (by omega) _⟩
        · rw [val_drop _ HG3.out, HV3.out]
          refine Nat.div_lt_of_lt_mul (Nat.lt_of_lt_of_le HUB.out ?_)
          have h5 := Nat.mul_le_mul_left (4294967296 ^ (n + 1 - m)) HVF.out.2.1
          rw [Nat.mul_left_comm, ← Nat.pow_add, show n + 1 - m + (m - 1) = n by omega] at h5
          exact h5
        · rw [HV3.out, List.drop_of_length_le (by rw [zer_len]; exact Nat.le_refl _)]
          simp [val_nil]
      case round =>
        obtain ⟨k, rs, qs, hk, rfl, hR, hGR, hlR, hQ, hGQ, hlQ, hI1, hI2, hb⟩ := hrel
        have HR := Lib.hid hR
        have HQ := Lib.hid hQ
        have HI1 := Lib.hid hI1
        have HI2 := Lib.hid hI2
        have HBl := Lib.hid hb
        have HGR := Lib.hid hGR
        have HGQ := Lib.hid hGQ
        have HlR := Lib.hid hlR
        have HlQ := Lib.hid hlQ
        have hgur := hR.lt
        clear hR hQ hI1 hI2 hb hGR hGQ hlR hlQ
        rcases k with _ | k
        · rw [show (((0 : Nat) : Int) - 1) = -1 from rfl]
          have hQe : Hid (val qs = a / b) := by
            show _ = _
            have h1 := HI1.out
            have h2 := HI2.out
            simp only [List.drop_zero, Nat.pow_zero, Nat.one_mul] at h1 h2
            rw [← HDiv.out.1, ← h2, Nat.add_mul_div_left _ _ hV0, Nat.div_eq_of_lt h1, Nat.zero_add]
          have hRv : Hid (val rs < V) := by have h1 := HI1.out; rw [List.drop_zero] at h1; exact h1
          have hRe : Hid (val rs = a % b * 2 ^ s) := by
            show _ = _
            have h2 := HI2.out
            simp only [List.drop_zero, Nat.pow_zero, Nat.one_mul] at h2
            rw [← HDiv.out.2, ← h2, Nat.add_mul_mod_self_left, Nat.mod_eq_of_lt hRv.out]
          have hRt : Hid (val (rs.take m) = a % b * 2 ^ s) := by
            show _ = _
            rw [← hRe.out]
            exact (val_short (Nat.lt_trans hRv.out (digs_len.1 (Nat.le_of_eq HVF.out.2.2.1)))).1
          have HLq : Hid (Lm wr wr.heap.size (some ⟨w3.heap.size, 0, none⟩) (n + 1 - m) (n + 1 - m) qs) := by
            have e := HQ.out.lm HGQ.out (off := 0) (n := n + 1 - m) (c := n + 1 - m) (by rw [HlQ.out]; omega) (Nat.le_refl _) (by omega)
            rwa [List.drop_zero, List.take_of_length_le (by rw [HlQ.out]; exact Nat.le_refl _)] at e
          have HLr : Hid (Lm wr wr.heap.size (some ⟨gu, 0, none⟩) m c3 (rs.take m)) := by
            have e := HR.out.lm HGR.out (off := 0) (n := m) (c := c3) (by rw [HlR.out]; omega) (by omega) (by omega)
            rwa [List.drop_zero] at e
          have HGt := Lib.hid (HGR.out.take m)
          have HSv : Hid (val (shrL s (rs.take m) m) = a % b) := by
            show _ = _
            rw [shrL_val HGt.out s (by omega) HLr.out.len, hRt.out, Nat.mul_div_cancel _ (Nat.pow_pos (by omega))]
          obtain ⟨r0, hr0⟩ : ∃ r0, r0 = rs.take m := ⟨_, rfl⟩
          rw [← hr0] at HLr HGt HSv
          clear hr0 hRt
          go_wp2
          go_loopw [13, 14] (fun u i wz => ∃ k : Nat, k ≤ m ∧ i = .int .i64 k ∧ Ow wz wr.heap.size u (shrL s r0 k) ∧ Below wr.heap.size wr wz) (fun _ i _ => m - (intOf i).toNat)
          case atStart => exact ⟨0, Nat.zero_le _, rfl, Ow.nil _ _, Below.refl _ _⟩
          case round =>
            obtain ⟨k, hk2, rfl, hO, hb⟩ := hrel
            have HO := Lib.hid hO
            have HBz := Lib.hid hb
            have HSl := Lib.hid (shrL_len s r0 k)
            clear hO hb
            by_cases hlt : k < m
            · obtain ⟨b1', bo1', e1, _, hcx⟩ := (HLr.out.below HBz.out).cell hlt
              cases e1
              have hxg := HGt.out.get k
              have hyg := HGt.out.get (k + 1)
              by_cases hlt2 : k + 1 < m
              · obtain ⟨b2', bo2', e2, _, hcy⟩ := (HLr.out.below HBz.out).cell hlt2
                cases e2
                rw [Nat.zero_add] at hcx hcy
                have HX : Hid ((((r0[k]?.getD 0 : Nat) : Int) + ((r0[k + 1]?.getD 0 : Nat) : Int) * 4294967296) / 2 ^ s % 4294967296 = (((r0[k]?.getD 0 + 4294967296 * r0[k + 1]?.getD 0) / 2 ^ s % 4294967296 : Nat) : Int)) := by
                  show _ = _
                  have e : ((r0[k]?.getD 0 : Nat) : Int) + ((r0[k + 1]?.getD 0 : Nat) : Int) * 4294967296 = ((r0[k]?.getD 0 + 4294967296 * r0[k + 1]?.getD 0 : Nat) : Int) := by omega
                  rw [e, cast_shr, Int.natCast_emod]
                  rfl
                go_wp2_with (at_builtin; refine wpList_append_u32 _ rfl _ _ rfl _ _ _ rfl HO.out _ ((r0[k]?.getD 0 + 4294967296 * r0[k + 1]?.getD 0) / 2 ^ s % 4294967296) 1 HX.out (by rw [HSl.out]; omega) HBz.out.size rfl ?_; intro u' w6 hO6 hg6)
                go_roundw
                case rel => exact ⟨k + 1, by omega, by go_num, hO6, HO.out.below HBz.out HBz.out.size hg6⟩
                case measure => simp [intOf]; omega
              · have HZ := Lib.hid (getD_over (xs := r0) (k := k + 1) (by rw [HLr.out.len]; omega))
                rw [Nat.zero_add] at hcx
                have HX : Hid (((r0[k]?.getD 0 : Nat) : Int) / 2 ^ s % 4294967296 = (((r0[k]?.getD 0 + 4294967296 * r0[k + 1]?.getD 0) / 2 ^ s % 4294967296 : Nat) : Int)) := by
                  show _ = _
                  rw [HZ.out, Nat.mul_zero, Nat.add_zero, cast_shr, Int.natCast_emod]
                  rfl
                have HY : Hid (((r0[k]?.getD 0 : Nat) : Int) / 2 ^ s = ((r0[k]?.getD 0 / 2 ^ s : Nat) : Int)) := cast_shr _ _
                have hy9 := Nat.div_le_self (r0[k]?.getD 0) (2 ^ s)
                have HW : Hid ((r0[k]?.getD 0 + 4294967296 * r0[k + 1]?.getD 0) / 2 ^ s % 4294967296 = r0[k]?.getD 0 / 2 ^ s) := by
                  show _ = _
                  rw [HZ.out, Nat.mul_zero, Nat.add_zero]
                  exact Nat.mod_eq_of_lt (by omega)
                have HWY : Hid (((r0[k]?.getD 0 : Nat) : Int) / 2 ^ s = (((r0[k]?.getD 0 + 4294967296 * r0[k + 1]?.getD 0) / 2 ^ s % 4294967296 : Nat) : Int)) := by show _ = _; rw [HW.out, HY.out]
                clear hy9
                go_wp2_with (at_builtin; refine wpList_append_u32 _ rfl _ _ rfl _ _ _ rfl HO.out _ ((r0[k]?.getD 0 + 4294967296 * r0[k + 1]?.getD 0) / 2 ^ s % 4294967296) 1 (by first | exact HX.out | exact HWY.out) (by rw [HSl.out]; omega) HBz.out.size rfl ?_; intro u' w6 hO6 hg6)
                go_roundw
                case rel => exact ⟨k + 1, by omega, by go_num, hO6, HO.out.below HBz.out HBz.out.size hg6⟩
                case measure => simp [intOf]; omega
            · obtain rfl : k = m := by omega
              have HGs : Hid (Good (shrL s r0 k)) := by
                show Good _
                rw [shrL_lims HGt.out s (by omega)]
                exact lims_good _ _
              obtain ⟨A7, c7, rfl, hL7⟩ := HO.out.lm HGs.out
              rw [HSl.out] at hL7 ⊢
              have HL7 := Lib.hid hL7
              have HLq7 := Lib.hid (HLq.out.via HBz.out)
              clear hL7
              go_wp2_with fail
              refine (rtrim_any _ _ _ _ _ (a / b) HLq7.out hQe.out (by omega)).mono ?_
              rintro e w8 ⟨A8, c8, rfl, hL8, hb8⟩
              have HL8 := Lib.hid hL8
              have HL78 := Lib.hid (HL7.out.via hb8)
              have HB8 := Lib.hid hb8
              clear hL8 hb8
              go_wp2_with fail
              refine (rtrim_any _ _ _ _ _ (a % b) HL78.out HSv.out (by omega)).mono ?_
              rintro e w9 ⟨A9, c9, rfl, hL9, hb9⟩
              go_wp2
              go_ret2
              have hs23 := HBl.out.size
              have hsz1 := HB3.out.size
              refine ⟨A8, c8, A9, c9, rfl, HL8.out.via hb9, hL9, ?_⟩
              have q1 := HB3.out.trans (HBl.out.mono HB2.out.size)
              have q2 := q1.trans (HBz.out.mono q1.size)
              have q3 := q2.trans (HB8.out.mono q2.size)
              exact q3.trans (hb9.mono q3.size)
        · have hkm : k + m < rs.length := by rw [HlR.out]; omega
          have HP := Lib.hid (part_facts HGR.out HVF.out.2.2.1 hm2 hkm HI1.out)
          have HW := Lib.hid (part_whole HP.out.1)
          have HLb : Hid (Lm wr gu A2 m c2 (digs V)) := (HX3.out.below HBl.out).mono hgu
          have hcut1 : ((k : Int) + 1 - 1) = (k : Int) := by omega
          go_wp2_with fail
          rw [show k + m + 1 - k = m + 1 by omega]
          refine (rdigit_any wr gu k (c3 - k) m c2 A2 rs (digs V) V HR.out HGR.out HLb.out hm2 (by omega) (by omega) (by omega) hkm (digs_val V) hV0 HP.out.2.2.2.2.1 HP.out.2.1 (by rw [HW.out]; exact HP.out.2.2.2.2.2.1)).mono ?_
          rw [HW.out]
          rintro e w5 ⟨rfl, ⟨P5, hPl, hPg, hPv, hO5⟩, hg5⟩
          have hgu3 : ¬ (w3.heap.size = gu) := by omega
          have hQ5 := HQ.out.grown hg5 (fun e => by injection e with e; omega)
          have hcq := hQ5.cell (i := k) (by rw [HlQ.out]; omega)
          have hfq := hQ5.frozen k
          have hD9 : val (rs.drop k) / V ≤ 4294967295 := Nat.le_trans HP.out.2.2.2.2.2.1 (gs_le _ _ _ _ _)
          have HPD := Lib.hid (part_done2 (rs := rs) (P := P5) (m := m) (k := k) hPl hkm HP.out.2.2.2.1 hPv)
          have HO5 := Lib.hid hO5
          have HG5 := Lib.hid hg5
          have HQ5 := Lib.hid hQ5
          have HPg := Lib.hid hPg
          have HPl := Lib.hid hPl
          have hml : val (rs.drop k) % V < V := Nat.mod_lt _ hV0
          clear hPl hPg hPv hO5 hg5 hQ5
          have HD9 := Lib.hid hD9
          clear hD9
          go_wp2
          go_roundw
          case rel =>
            refine ⟨k, _, _, by omega, rfl, HO5.out.grown (grownBy_setCellAt _ _ _ _) (fun e => by injection e with e; omega), spl_good HGR.out HPg.out, by rw [spl_len (by rw [HPl.out]; omega), HlR.out], HQ5.out.set_ k _, HGQ.out.set (by have := HD9.out; omega) k, by rw [List.length_set, HlQ.out], ?_, ?_, ?_⟩
            · rw [HPD.out.1]; exact hml
            · exact inv_step (by omega) rfl HI2.out HPD.out.2 (val_set_drop _ (by rw [HlQ.out]; omega))
            · exact (HBl.out.grown HG5.out (by have := HBl.out.size; omega) (fun b e => by injection e with e; omega)).setCell (p := ⟨w3.heap.size, k, none⟩) (by show w2.heap.size ≤ w3.heap.size; omega) _
          case measure => simp [intOf]

/-- over, by a divisor other than 0. -/
theorem rover_any (w : World) (A B : Option Addr) (n m ca cb a b : Nat) (hA : Lm w w.heap.size A n ca (digs a)) (hB : Lm w w.heap.size B m cb (digs b)) (hb : 0 < b) (hn9 : n ≤ 1000000) :
    Calls Tryz.prog 79 #[.slice A n ca, .slice B m cb] w (RD w (a / b) (a % b)) := by
  have hc := cmpL_norm (digs_good a) (digs_good b) (digs_norm a) (digs_norm b)
  rw [digs_val, digs_val] at hc
  rcases Nat.lt_or_ge a b with h | h
  · exact rover_less w A B n m ca cb b a _ hA hB (digs_val a) (by rw [hc]; exact cmpN_lt h) h hn9
  · have hm : 0 < m := by rw [← hB.len, digs_pos]; exact hb
    rcases Nat.lt_or_ge m 2 with h1 | h1
    · obtain rfl : m = 1 := by omega
      refine rover_one w A B n ca cb b a _ hA hB (digs_val a) ?_ hn9
      rw [hc]
      unfold cmpN
      rw [if_neg (by omega)]
      split <;> decide
    · exact rover_long w A B n m ca cb a b hA hB h h1 hn9
end Go.Proofs.YtbplbbkmfbjkfaaGreatDoor

/- planisphereref01.Text. -/
namespace Go.Proofs.YtbplbbkmfbjkfaaGreatDoor
open Go.RowKit

theorem padk_cons (k x : Nat) : padk (k + 1) x = UInt8.ofNat (48 + x / 10 ^ k % 10) :: padk k x := by
  induction k generalizing x with
  | zero => simp [padk]
  | succ k ih =>
    show padk (k + 1) (x / 10) ++ [UInt8.ofNat (48 + x % 10)] = _
    rw [ih]
    show _ = UInt8.ofNat (48 + x / 10 ^ (k + 1) % 10) :: (padk k (x / 10) ++ [UInt8.ofNat (48 + x % 10)])
    rw [Nat.div_div_eq_div_mul, Nat.pow_succ, Nat.mul_comm 10]
    rfl
theorem dec_padk : ∀ (k r : Nat), 10 ^ k ≤ r → r < 10 ^ (k + 1) → Lib.decDigits r = padk (k + 1) r := by
  intro k
  induction k with
  | zero =>
    intro r h1 h2
    rw [dec_small (by omega)]
    show _ = [] ++ [UInt8.ofNat (48 + r % 10)]
    rw [Nat.mod_eq_of_lt (show r < 10 by omega)]
    rfl
  | succ k ih =>
    intro r h1 h2
    have h3 : 10 ^ (k + 1) = 10 ^ k * 10 := Nat.pow_succ ..
    have h4 : 10 ^ (k + 1 + 1) = 10 ^ (k + 1) * 10 := Nat.pow_succ ..
    have h5 : 0 < 10 ^ k := Nat.pow_pos (by omega)
    rw [dec_big (by omega), ih (r / 10) (by omega) (by omega)]
    rfl
/-- The number that a slice of limbs reads as. -/
def rdN (w : World) : Value → Nat
  | .slice (some ad) n _ => val ((List.range n).map fun j => match w.cell? ⟨ad.block, ad.off + j, none⟩ with | some (.int _ z) => z.toNat | _ => 0)
  | _ => 0
theorem rdN_lm {w : World} {B n c v : Nat} {A : Option Addr} (h : Lm w B A n c (digs v)) : rdN w (.slice A n c) = v := by
  rw [← digs_val v]
  generalize digs v = xs at h
  rcases A with _ | ad
  · rcases Nat.eq_zero_or_pos n with h0 | h0
    · obtain rfl : xs = [] := List.eq_nil_of_length_eq_zero (by rw [h.len]; exact h0)
      rfl
    · obtain ⟨b, off, e, _⟩ := h.at_ h0
      cases e
  · show val _ = _
    congr 1
    refine List.ext_getElem? fun j => ?_
    by_cases hj : j < n
    · obtain ⟨b, off, e, _, hc⟩ := h.cell hj
      injection e with e
      subst e
      rw [List.getElem?_map, List.getElem?_range hj]
      show some (match w.cell? ⟨b, off + j, none⟩ with | some (.int _ z) => z.toNat | _ => 0) = _
      rw [hc, get_nat xs j (by rw [h.len]; exact hj)]
      rfl
    · rw [List.getElem?_eq_none (by simp; omega), List.getElem?_eq_none (by rw [h.len]; omega)]
/-- The digits of q ahead of a text. -/
def dcs (q : Nat) (s : List UInt8) : List UInt8 := if q = 0 then s else Lib.decDigits q ++ s
theorem dcs_step {q : Nat} (hq : 0 < q) (s : List UInt8) {i : Nat} (h9 : i ≤ 9) (h1 : 0 < q / 1000000000 → i = 9) (h2 : q / 1000000000 = 0 → q % 1000000000 / 10 ^ i = 0) (h3 : q / 1000000000 = 0 → 0 < i → 0 < q % 1000000000 / 10 ^ (i - 1)) :
    dcs q s = dcs (q / 1000000000) (padk i (q % 1000000000) ++ s) := by
  unfold dcs
  rw [if_neg (by omega)]
  rcases Nat.eq_zero_or_pos (q / 1000000000) with h | h
  · rw [if_pos h]
    have hr : q % 1000000000 = q := by omega
    rw [hr] at h2 h3 ⊢
    have hi : 0 < i := by
      refine Nat.pos_of_ne_zero fun e => ?_
      subst e
      have := h2 h
      simp at this
      omega
    obtain ⟨k, rfl⟩ : ∃ k, i = k + 1 := ⟨i - 1, by omega⟩
    have e1 : 10 ^ k ≤ q := by
      have e := h3 h hi
      rw [Nat.add_sub_cancel] at e
      exact (Nat.div_pos_iff.1 e).2
    have e2 : q < 10 ^ (k + 1) := by
      have e := h2 h
      exact Nat.lt_of_div_eq_zero (Nat.pow_pos (by omega)) e
    rw [dec_padk k q e1 e2]
  · rw [if_neg (by omega), h1 h, ← List.append_assoc, ← dec_pad 9 _ _ h (Nat.mod_lt _ (by omega))]
    congr 2
    omega
theorem dcs_len (q : Nat) (ss : List UInt8) : ss.length ≤ (dcs q ss).length := by
  unfold dcs
  split
  · exact Nat.le_refl _
  · rw [List.length_append]; omega
theorem dcs_v (v : Nat) : dcs v [] = if v = 0 then [] else Lib.decDigits v := by
  unfold dcs
  split
  · rfl
  · exact List.append_nil _
theorem digit_str {d : Nat} (h : d < 10) : (⟨#[48, 49, 50, 51, 52, 53, 54, 55, 56, 57]⟩ : ByteArray).extract d (d + 1) = ⟨[UInt8.ofNat (48 + d)].toArray⟩ := by
  rw [show (⟨#[48, 49, 50, 51, 52, 53, 54, 55, 56, 57]⟩ : ByteArray) = ⟨([48, 49, 50, 51, 52, 53, 54, 55, 56, 57] : List UInt8).toArray⟩ from rfl, Lib.extract_eq]
  match d, h with
  | 0, _ => rfl
  | 1, _ => rfl
  | 2, _ => rfl
  | 3, _ => rfl
  | 4, _ => rfl
  | 5, _ => rfl
  | 6, _ => rfl
  | 7, _ => rfl
  | 8, _ => rfl
  | 9, _ => rfl
theorem cat_str (a b : List UInt8) : (⟨a.toArray⟩ : ByteArray) ++ ⟨b.toArray⟩ = ⟨(a ++ b).toArray⟩ := by
  apply ByteArray.ext
  simp
theorem eq_str (a b : List UInt8) : ((⟨a.toArray⟩ : ByteArray).toList == (⟨b.toArray⟩ : ByteArray).toList) = decide (a = b) := by
  rw [Lib.toList_data, Lib.toList_data]
  by_cases h : a = b
  · subst h; simp
  · rw [decide_eq_false h]
    simpa using h

set_option maxRecDepth 100000 in
set_option maxHeartbeats 2000000 in
theorem rtext_ok (w : World) (neg : Bool) (A : Option Addr) (n c v : Nat) (h : Lm w w.heap.size A n c (digs v)) (hc : chk neg (digs v) = 0) :
    Calls Tryz.prog 26 #[.agg #[.bool neg, .slice A n c]] w fun e w' => e = .returned (.tuple #[.string ⟨(txt neg v).toArray⟩, .int .i64 0]) ∧ Below w.heap.size w w' := by
  have HH := Lib.hid h
  have HC := Lib.hid hc
  clear h hc
  go_enter Tryz.func26, Tryz.ntmps26
  have hcA := HH.out.cap
  have hxA := HH.out.max
  go_wp2_with fail
  refine (rcheck_ok _ _ _ _ _ _ (HH.out.box _) HC.out).mono ?_
  rintro e w1 ⟨rfl, hb1⟩
  have P1 := Lib.hid ((Pr.new w _ rfl (.bool neg) (.slice A n c) 24).via hb1)
  have H1 := Lib.hid ((HH.out.box _).via hb1)
  have B1 := Lib.hid (bbox hb1)
  clear hb1
  have hln := HH.out.len
  have hn4 : n ≤ 4096 := by rw [← hln]; exact (chk_ok.1 HC.out).1
  have ⟨c0, c1, _, _, _⟩ := P1.out
  go_wp2
  go_loopw [5, 6] (fun sv lv wr => ∃ (q : Nat) (ss : List UInt8) (A' : Option Addr) (c' : Nat), sv = .string ⟨ss.toArray⟩ ∧ lv = .slice A' (digs q).length c' ∧ Lm wr wr.heap.size A' (digs q).length c' (digs q) ∧ dcs q ss = dcs v [] ∧ q ≤ v ∧ Pr wr w.heap.size (.bool neg) (.slice A n c) ∧ Below w.heap.size w wr) (fun _ lv wr => rdN wr lv)
  case atStart => exact ⟨v, [], A, c, rfl, by rw [hln], by rw [hln]; exact H1.out, rfl, Nat.le_refl _, P1.out, B1.out⟩
  case round =>
    obtain ⟨q, ss, A', c', rfl, rfl, hL, hd, hqv, hP, hB⟩ := hrel
    have HL := Lib.hid hL
    have HD := Lib.hid hd
    have HP := Lib.hid hP
    have HB := Lib.hid hB
    have hcL := hL.cap
    have hxL := hL.max
    have hsl : ss.length ≤ 40970 := by
      have e1 := dcs_len q ss
      rw [hd, dcs_v] at e1
      by_cases hv0 : v = 0
      · rw [if_pos hv0] at e1; simp at e1; simp [e1]
      · rw [if_neg hv0] at e1
        have e2 := dec_short (v := v) (n := n) (Nat.le_of_eq hln) (by rw [← hln, digs_pos]; omega)
        omega
    have hsz : (⟨ss.toArray⟩ : ByteArray).size = ss.length := str_size ss
    clear hL hd hP hB c0 c1
    have ⟨c0, c1, _, _, _⟩ := HP.out
    rcases Nat.eq_zero_or_pos q with h0 | h0
    · subst h0
      have HS : Hid (ss = if v = 0 then [] else Lib.decDigits v) := by
        show _ = _
        rw [← dcs_v, ← HD.out]
        rfl
      have HE := Lib.hid (eq_str ss [])
      clear hqv
      rcases Nat.eq_zero_or_pos v with hv0 | hv0
      · subst hv0
        obtain rfl : ss = [] := by rw [HS.out, if_pos rfl]
        have HT : Hid (txt neg 0 = [48]) := by
          show _ = _
          obtain rfl : neg = false := by
            cases neg
            · rfl
            · exact absurd rfl ((chk_ok.1 HC.out).2.2 rfl)
          unfold txt
          rw [dec_small (by omega)]
          rfl
        rw [digs_zero]
        go_wp2
        go_ret2
        exact ⟨by rw [HT.out]; rfl, HB.out⟩
      · have HS2 : Hid (ss = Lib.decDigits v) := by show _ = _; rw [HS.out, if_neg (by omega)]
        have hne : decide (ss = []) = false := by
          rw [HS2.out]
          exact decide_eq_false (fun e => by have := Lib.nDigits_pos v; rw [← Lib.decDigits_length, e] at this; cases this)
        simp only [digs_zero, List.length_nil]
        have hne2 : (ss == []) = false := by simpa using hne
        have hne3 : ¬ ss = [] := by simpa using hne
        have hne4 : ss.isEmpty = false := by cases ss; exact absurd rfl hne3; rfl
        cases neg
        · go_wp2
          go_ret2
          exact ⟨by rw [HS2.out]; rfl, HB.out⟩
        · go_wp2
          go_ret2
          exact ⟨by rw [HS2.out]; rfl, HB.out⟩
    · have hq1 : 0 < (digs q).length := digs_pos.2 h0
      go_wp2_with fail
      refine (rshort_any _ _ _ _ 1000000000 (digs q) q HL.out (by have := digs_mono hqv; omega) (by omega) (by omega) (digs_val q)).mono ?_
      rintro e w2 ⟨Q, cq, R, cr, rfl, hQ, hR, hb2⟩
      have HQ := Lib.hid hQ
      have HR := Lib.hid hR
      have HP2 := Lib.hid (HP.out.via hb2)
      have HB2 := Lib.hid (HB.out.trans (hb2.mono HB.out.size))
      have hcQ := hQ.cap
      have hxQ := hQ.max
      have hcR := hR.cap
      have hxR := hR.max
      have hr9 := Nat.mod_lt q (show 0 < 1000000000 by omega)
      have hrl : (digs (q % 1000000000)).length ≤ 1 := digs_len.2 (by omega)
      have HDS := Lib.hid (fun i => dcs_step (q := q) h0 ss (i := i))
      have hQl : (0 < (digs (q / 1000000000)).length) = (0 < q / 1000000000) := propext digs_pos
      have HQ1 : Hid (q / 1000000000 < q) := Nat.div_lt_self h0 (by omega)
      clear hQ hR hb2 c0 c1
      obtain ⟨lq, hlq⟩ : ∃ lq, (digs (q / 1000000000)).length = lq := ⟨_, rfl⟩
      have HLQ : Hid (0 < lq ↔ 0 < q / 1000000000) := by show _ ↔ _; rw [← hlq]; exact digs_pos
      have HLq := Lib.hid hlq
      rw [hlq]
      have HR0 : Hid ((digs (q % 1000000000))[0]?.getD 0 = q % 1000000000) := by
        show _ = _
        have h1 := val_take_succ' (digs (q % 1000000000)) 0
        rw [List.take_of_length_le (by omega), digs_val] at h1
        simpa [val_nil] using h1.symm
      obtain ⟨r, hr⟩ : ∃ r, q % 1000000000 = r := ⟨_, rfl⟩
      rw [hr] at HR hr9 hrl HR0 hcR ⊢
      have HRr := Lib.hid hr
      clear hr hlq hQl
      rcases Nat.eq_zero_or_pos (digs r).length with hl0 | hl0
      · have hr0 : r = 0 := digs_nil.1 (List.eq_nil_of_length_eq_zero hl0)
        rw [hl0]
        go_wp2
        have HR0z : Hid ((Value.int IntKind.u32 0) = .int .u32 ((r / 10 ^ 0 : Nat) : Int)) := by show _ = _; rw [hr0]; rfl
        clear hl0 hr0 hrl
        go_loopw [9, 10, 11] (fun xv pv iv wq => ∃ i : Nat, i ≤ 9 ∧ xv = .int .u32 (r / 10 ^ i : Nat) ∧ pv = .string ⟨(padk i r).toArray⟩ ∧ iv = .int .i64 (i : Int) ∧ (lq = 0 → 0 < i → 0 < r / 10 ^ (i - 1)) ∧ wq = w2) (fun _ _ iv _ => 9 - (intOf iv).toNat)
        case atStart => exact ⟨0, Nat.zero_le _, HR0z.out, rfl, rfl, fun _ h => absurd h (by omega), rfl⟩
        case round =>
          obtain ⟨i, hi, rfl, rfl, rfl, hx, rfl⟩ := hrel
          have HX := Lib.hid hx
          clear hx
          have hd10 : r / 10 ^ i % 10 < 10 := Nat.mod_lt _ (by omega)
          have hxr : r / 10 ^ i ≤ r := Nat.div_le_self _ _
          have hpl : (⟨(padk i r).toArray⟩ : ByteArray).size = i := by rw [str_size, padk_len]
          have HPl := Lib.hid (padk_len i r)
          by_cases hcnd : i < 9 ∧ (0 < lq ∨ 0 < r / 10 ^ i)
          · have HNx : Hid (r / 10 ^ i / 10 = r / 10 ^ (i + 1)) := by show _ = _; rw [Nat.div_div_eq_div_mul, Nat.pow_succ]
            have HPn := Lib.hid (padk_cons i r)
            have HDg := Lib.hid (digit_str hd10)
            have HXn : Hid (lq = 0 → 0 < i + 1 → 0 < r / 10 ^ (i + 1 - 1)) := fun e _ => by rw [Nat.add_sub_cancel]; rcases hcnd.2 with h | h; omega; exact h
            obtain ⟨h9, hor⟩ := hcnd
            generalize r / 10 ^ i = x at *
            have h9i : (i : Int) < 9 := by omega
            clear h9
            rcases Nat.eq_zero_or_pos lq with hlq | hlq
            · have hxp : (0 : Int) < (x : Int) := by omega
              have hxd : decide ((0 : Int) < (x : Int)) = true := by simp; omega
              clear hor
              have hlz : decide ((0 : Int) < (lq : Int)) = false := by simp; omega
              go_wp2
              go_roundw
              case rel =>
                refine ⟨i + 1, by omega, by rw [← HNx.out]; go_num, ?_, by go_num, HXn.out, trivial⟩
                rw [HDg.out, cat_str, HPn.out]
                rfl
              case measure => simp [intOf]; omega

            · have hlz : (0 : Int) < (lq : Int) := by omega
              go_wp2
              go_roundw
              case rel =>
                refine ⟨i + 1, by omega, by rw [← HNx.out]; go_num, ?_, by go_num, HXn.out, trivial⟩
                rw [HDg.out, cat_str, HPn.out]
                rfl
              case measure => simp [intOf]; omega
          · have HEnd : Hid (dcs q ss = dcs (q / 1000000000) (padk i r ++ ss)) := by
              show _ = _
              have e := HDS.out i hi
              rw [HRr.out] at e
              refine e (fun h => ?_) (fun h => ?_) (fun h h2 => ?_)
              · refine Nat.le_antisymm hi (Nat.le_of_not_lt fun h9 => hcnd ⟨h9, .inl (HLQ.out.2 h)⟩)
              · by_cases h9 : i < 9
                · exact Nat.eq_zero_of_not_pos fun h3 => hcnd ⟨h9, .inr h3⟩
                · obtain rfl : i = 9 := by omega
                  exact Nat.div_eq_of_lt hr9
              · refine HX.out ?_ h2
                exact Nat.eq_zero_of_not_pos fun h3 => by have := HLQ.out.1 h3; omega
            have HCs := Lib.hid (cat_str (padk i r) ss)
            have hsz2 : i + ss.length < 1000000 := by omega
            by_cases h9 : i < 9
            · have hlz : lq = 0 := Nat.eq_zero_of_not_pos fun h => hcnd ⟨h9, .inl h⟩
              have hx0 : r / 10 ^ i = 0 := Nat.eq_zero_of_not_pos fun h => hcnd ⟨h9, .inr h⟩
              have h9i : (i : Int) < 9 := by omega
              rw [hx0]
              clear hcnd hx0
              have hlzd : decide ((0 : Int) < (lq : Int)) = false := by simp; omega
              go_wp2
              go_roundw
              case rel =>
                exact ⟨q / 1000000000, padk i r ++ ss, Q, cq, by rw [HCs.out], by rw [HLq.out], by rw [HLq.out]; first | exact HQ.out | (have e := HQ.out; rwa [HLq.out] at e), by rw [← HEnd.out]; exact HD.out, Nat.le_trans (Nat.le_of_lt HQ1.out) hqv, HP2.out, HB2.out⟩
              case measure =>
                have e1 := rdN_lm HQ.out
                rw [HLq.out] at e1
                rw [e1, rdN_lm HL.out]
                exact HQ1.out
            · have h9d : decide ((i : Int) < 9) = false := by simp; omega
              clear hcnd h9
              go_wp2
              go_roundw
              case rel =>
                exact ⟨q / 1000000000, padk i r ++ ss, Q, cq, by rw [HCs.out], by rw [HLq.out], by rw [HLq.out]; first | exact HQ.out | (have e := HQ.out; rwa [HLq.out] at e), by rw [← HEnd.out]; exact HD.out, Nat.le_trans (Nat.le_of_lt HQ1.out) hqv, HP2.out, HB2.out⟩
              case measure =>
                have e1 := rdN_lm HQ.out
                rw [HLq.out] at e1
                rw [e1, rdN_lm HL.out]
                exact HQ1.out

      · obtain ⟨rb, ro, rfl, hrb, hrc⟩ := HR.out.cell (k := 0) hl0
        rw [HR0.out, Nat.add_zero] at hrc
        go_wp2
        have HR0z : Hid ((Value.int IntKind.u32 (r : Int)) = .int .u32 ((r / 10 ^ 0 : Nat) : Int)) := by show _ = _; rw [Nat.pow_zero, Nat.div_one]
        clear hl0 hrl hrc hrb
        go_loopw [9, 10, 11] (fun xv pv iv wq => ∃ i : Nat, i ≤ 9 ∧ xv = .int .u32 (r / 10 ^ i : Nat) ∧ pv = .string ⟨(padk i r).toArray⟩ ∧ iv = .int .i64 (i : Int) ∧ (lq = 0 → 0 < i → 0 < r / 10 ^ (i - 1)) ∧ wq = w2) (fun _ _ iv _ => 9 - (intOf iv).toNat)
        case atStart => exact ⟨0, Nat.zero_le _, HR0z.out, rfl, rfl, fun _ h => absurd h (by omega), rfl⟩
        case round =>
          obtain ⟨i, hi, rfl, rfl, rfl, hx, rfl⟩ := hrel
          have HX := Lib.hid hx
          clear hx
          have hd10 : r / 10 ^ i % 10 < 10 := Nat.mod_lt _ (by omega)
          have hxr : r / 10 ^ i ≤ r := Nat.div_le_self _ _
          have hpl : (⟨(padk i r).toArray⟩ : ByteArray).size = i := by rw [str_size, padk_len]
          have HPl := Lib.hid (padk_len i r)
          by_cases hcnd : i < 9 ∧ (0 < lq ∨ 0 < r / 10 ^ i)
          · have HNx : Hid (r / 10 ^ i / 10 = r / 10 ^ (i + 1)) := by show _ = _; rw [Nat.div_div_eq_div_mul, Nat.pow_succ]
            have HPn := Lib.hid (padk_cons i r)
            have HDg := Lib.hid (digit_str hd10)
            have HXn : Hid (lq = 0 → 0 < i + 1 → 0 < r / 10 ^ (i + 1 - 1)) := fun e _ => by rw [Nat.add_sub_cancel]; rcases hcnd.2 with h | h; omega; exact h
            obtain ⟨h9, hor⟩ := hcnd
            generalize r / 10 ^ i = x at *
            have h9i : (i : Int) < 9 := by omega
            clear h9
            rcases Nat.eq_zero_or_pos lq with hlq | hlq
            · have hxp : (0 : Int) < (x : Int) := by omega
              have hxd : decide ((0 : Int) < (x : Int)) = true := by simp; omega
              clear hor
              have hlz : decide ((0 : Int) < (lq : Int)) = false := by simp; omega
              go_wp2
              go_roundw
              case rel =>
                refine ⟨i + 1, by omega, by rw [← HNx.out]; go_num, ?_, by go_num, HXn.out, trivial⟩
                rw [HDg.out, cat_str, HPn.out]
                rfl
              case measure => simp [intOf]; omega

            · have hlz : (0 : Int) < (lq : Int) := by omega
              go_wp2
              go_roundw
              case rel =>
                refine ⟨i + 1, by omega, by rw [← HNx.out]; go_num, ?_, by go_num, HXn.out, trivial⟩
                rw [HDg.out, cat_str, HPn.out]
                rfl
              case measure => simp [intOf]; omega
          · have HEnd : Hid (dcs q ss = dcs (q / 1000000000) (padk i r ++ ss)) := by
              show _ = _
              have e := HDS.out i hi
              rw [HRr.out] at e
              refine e (fun h => ?_) (fun h => ?_) (fun h h2 => ?_)
              · refine Nat.le_antisymm hi (Nat.le_of_not_lt fun h9 => hcnd ⟨h9, .inl (HLQ.out.2 h)⟩)
              · by_cases h9 : i < 9
                · exact Nat.eq_zero_of_not_pos fun h3 => hcnd ⟨h9, .inr h3⟩
                · obtain rfl : i = 9 := by omega
                  exact Nat.div_eq_of_lt hr9
              · refine HX.out ?_ h2
                exact Nat.eq_zero_of_not_pos fun h3 => by have := HLQ.out.1 h3; omega
            have HCs := Lib.hid (cat_str (padk i r) ss)
            have hsz2 : i + ss.length < 1000000 := by omega
            by_cases h9 : i < 9
            · have hlz : lq = 0 := Nat.eq_zero_of_not_pos fun h => hcnd ⟨h9, .inl h⟩
              have hx0 : r / 10 ^ i = 0 := Nat.eq_zero_of_not_pos fun h => hcnd ⟨h9, .inr h⟩
              have h9i : (i : Int) < 9 := by omega
              rw [hx0]
              clear hcnd hx0
              have hlzd : decide ((0 : Int) < (lq : Int)) = false := by simp; omega
              go_wp2
              go_roundw
              case rel =>
                exact ⟨q / 1000000000, padk i r ++ ss, Q, cq, by rw [HCs.out], by rw [HLq.out], by rw [HLq.out]; first | exact HQ.out | (have e := HQ.out; rwa [HLq.out] at e), by rw [← HEnd.out]; exact HD.out, Nat.le_trans (Nat.le_of_lt HQ1.out) hqv, HP2.out, HB2.out⟩
              case measure =>
                have e1 := rdN_lm HQ.out
                rw [HLq.out] at e1
                rw [e1, rdN_lm HL.out]
                exact HQ1.out
            · have h9d : decide ((i : Int) < 9) = false := by simp; omega
              clear hcnd h9
              go_wp2
              go_roundw
              case rel =>
                exact ⟨q / 1000000000, padk i r ++ ss, Q, cq, by rw [HCs.out], by rw [HLq.out], by rw [HLq.out]; first | exact HQ.out | (have e := HQ.out; rwa [HLq.out] at e), by rw [← HEnd.out]; exact HD.out, Nat.le_trans (Nat.le_of_lt HQ1.out) hqv, HP2.out, HB2.out⟩
              case measure =>
                have e1 := rdN_lm HQ.out
                rw [HLq.out] at e1
                rw [e1, rdN_lm HL.out]
                exact HQ1.out

end Go.Proofs.YtbplbbkmfbjkfaaGreatDoor

/- The reference's Gcd. -/
namespace Go.Proofs.YtbplbbkmfbjkfaaGreatDoor
open Go.RowKit

set_option maxRecDepth 100000 in
set_option maxHeartbeats 1000000 in
theorem rgcd_ok (w : World) (na nb : Bool) (A B : Option Addr) (n m ca cb a b : Nat) (hA : Lm w w.heap.size A n ca (digs a)) (hB : Lm w w.heap.size B m cb (digs b)) (hv : chkB na (digs a) nb (digs b) = 0) :
    Calls Tryz.prog 48 #[.agg #[.bool na, .slice A n ca], .agg #[.bool nb, .slice B m cb]] w (RW w (mkN false (Nat.gcd a b)) (mkL (Nat.gcd a b)) (mkE (Nat.gcd a b))) := by
  have h41 := (chk_ok.1 (chkB_ok.1 hv).1).1
  have h42 := (chk_ok.1 (chkB_ok.1 hv).2).1
  have HA := Lib.hid hA
  have HB := Lib.hid hB
  have HV := Lib.hid hv
  clear hv hA hB
  go_enter Tryz.func48, Tryz.ntmps48
  go_wp2_with fail
  refine (rboth_any _ _ _ _ _ _ _ _ _ _ _ (((HA.out.box _).box _).box _) (((HB.out.box _).box _).box _) 0 HV.out).mono ?_
  rintro e w1 ⟨rfl, hb1⟩
  have ⟨PA0, PB0, PR0⟩ := boxes3 w 24 24 24 (.bool na) (.slice A n ca) (.bool nb) (.slice B m cb) (.bool false) (.slice none 0 0)
  have PA := Lib.hid (PA0.via hb1)
  have PB := Lib.hid (PB0.via hb1)
  have PR := Lib.hid (PR0.via hb1)
  have LA := Lib.hid ((((HA.out.box _).box _).box _).via hb1)
  have LB := Lib.hid ((((HB.out.box _).box _).box _).via hb1)
  have HB0 := Lib.hid (bbox (bbox (bbox hb1)))
  clear PA0 PB0 PR0 hb1
  have ⟨a0, a1, _, _, _⟩ := PA.out
  have ⟨b0, b1, _, _, _⟩ := PB.out
  go_wp2
  go_quiet (fail)
  go_wp2
  go_loopw [6, 7] (fun xv yv wr => ∃ (p q n' m' c2 c3 : Nat) (A2 B3 : Option Addr), xv = .slice A2 n' c2 ∧ yv = .slice B3 m' c3 ∧ Lm wr wr.heap.size A2 n' c2 (digs p) ∧ Lm wr wr.heap.size B3 m' c3 (digs q) ∧ (digs p).length ≤ 4096 ∧ (digs q).length ≤ 4096 ∧ Nat.gcd p q = Nat.gcd a b ∧
      Pr wr (w.heap.size + 1 + 1) (.bool false) (.slice none 0 0) ∧ Below w.heap.size w wr) (fun _ yv wr => rdN wr yv)
  case atStart => exact ⟨a, b, n, m, ca, cb, A, B, rfl, rfl, LA.out.drewN nq, LB.out.drewN nq, h41, h42, rfl, PR.out.drewN nq, bdrewN HB0.out nq⟩
  case round =>
    obtain ⟨p, q, n', m', c2, c3, A2, B3, rfl, rfl, hp, hq, lp, lq, hg, hP, hB⟩ := hrel
    have Lp := Lib.hid hp
    have Lq := Lib.hid hq
    have HP := Lib.hid hP
    have HBl := Lib.hid hB
    have HG := Lib.hid hg
    have hn4 : n' ≤ 4096 := by rw [← hp.len]; exact lp
    have hm4 : m' ≤ 4096 := by rw [← hq.len]; exact lq
    have hcq := hq.cap
    have hxq := hq.max
    clear hp hq hP hB hg a0 a1 b0 b1
    rcases Nat.eq_zero_or_pos q with h0 | h0
    · subst h0
      obtain rfl : m' = 0 := Lq.out.len.symm
      have HG2 : Hid (val (digs p) = Nat.gcd a b) := by show _ = _; rw [digs_val, ← HG.out, Nat.gcd_zero_right]
      go_wp2_with fail
      refine (rmade_any _ _ _ _ _ _ (Nat.gcd a b) Lp.out HG2.out (by omega)).mono ?_
      rintro e w3 ⟨A3, n3, c3, rfl, hL3, hb3⟩
      have HP3 := Lib.hid (HP.out.via hb3)
      have HB3 := Lib.hid (HBl.out.trans (hb3.mono HBl.out.size))
      clear hb3
      have ⟨r0, r1, _, _, _⟩ := HP3.out
      go_wp2
      exact post_ws Tryz.results48 rfl rfl r0 r1 ⟨A3, n3, c3, rfl, hL3.setP HP3.out _ _, below_set2 HB3.out (by omega) _ _⟩
    · have hm : 0 < m' := by rw [← Lq.out.len, digs_pos]; exact h0
      have hml := Nat.mod_lt p h0
      have HM := Lib.hid hml
      clear hml
      go_wp2_with fail
      refine (rover_any _ _ _ _ _ _ _ p q Lp.out Lq.out h0 (by omega)).mono ?_
      rintro e w2 ⟨Q, cq, R, cr, rfl, hQ, hR, hb2⟩
      have HR := Lib.hid hR
      have HQ := Lib.hid (Lq.out.via hb2)
      have HP2 := Lib.hid (HP.out.via hb2)
      have HB2 := Lib.hid (HBl.out.trans (hb2.mono HBl.out.size))
      clear hR hQ hb2
      go_wp2
      go_roundw
      case rel =>
        refine ⟨q, p % q, m', _, c3, cr, B3, R, rfl, rfl, HQ.out, HR.out, lq, Nat.le_trans (digs_mono (Nat.le_of_lt HM.out)) lq, ?_, HP2.out, HB2.out⟩
        rw [← HG.out, Nat.gcd_comm p q, Nat.gcd_rec q p, Nat.gcd_comm]
      case measure =>
        rw [rdN_lm HR.out, rdN_lm Lq.out]
        exact HM.out
end Go.Proofs.YtbplbbkmfbjkfaaGreatDoor

/- Lehmer steps (Collins condition), in whole numbers. -/
namespace Go.Proofs.YtbplbbkmfbjkfaaGreatDoor
/-- The loop's state: the two numbers that are looked at (x, y), the factors of the last three numbers; a, b: the numbers themselves, of which X and Y are the highest digits. -/
structure Leh (X Y a b P s c x y A0 B0 A1 B1 A2 B2 : Int) : Prop where
  sq : s * s = 1
  hx : x = s * (A1 * X - B1 * Y)
  hy : y = -s * (A2 * X - B2 * Y)
  y0 : 0 ≤ y
  yx : y ≤ x
  xX : x ≤ X
  a0 : 0 ≤ A0
  b0 : 0 ≤ B0
  a1 : 0 ≤ A1
  b1 : 0 ≤ B1
  a2 : 0 ≤ A2
  b2 : 1 ≤ B2
  ab : A2 ≤ B2
  sm : A1 + A2 ≤ B1 + B2
  bb : B1 ≤ B2
  a1b : A1 ≤ B2
  det : B2 * x + B1 * y = X
  gcd : Int.gcd (s * (A1 * a - B1 * b)) (-s * (A2 * a - B2 * b)) = Int.gcd a b
  cm : -1 ≤ c
  sum : (c = -1 ∧ s * (A1 * a - B1 * b) = a ∧ -s * (A2 * a - B2 * b) = b) ∨ (0 ≤ c ∧ s * (A1 * a - B1 * b) + -s * (A2 * a - B2 * b) ≤ a)
  par : (s = 1 ∧ c % 2 = 1) ∨ (s = -1 ∧ c % 2 = 0)
  /-- what stands if the last step is taken -/
  tk : 0 ≤ c → 0 ≤ s * (A1 * a - B1 * b) ∧ s * (A1 * a - B1 * b) ≤ -s * (A0 * a - B0 * b) ∧ Int.gcd (-s * (A0 * a - B0 * b)) (s * (A1 * a - B1 * b)) = Int.gcd a b ∧
    A0 < 4294967296 ∧ B0 < 4294967296 ∧ A1 < 4294967296 ∧ B1 < 4294967296 ∧ (1 ≤ c → -s * (A0 * a - B0 * b) + s * (A1 * a - B1 * b) ≤ a)

theorem Leh.start {X Y a b P : Int} (h0 : 0 ≤ Y) (h1 : Y ≤ X) : Leh X Y a b P 1 (-1) X Y 0 0 1 0 0 1 := by
  refine ⟨by omega, by omega, by omega, h0, h1, by omega, by omega, by omega, by omega, by omega, by omega, by omega, by omega, by omega, by omega, by omega, by omega, ?_, by omega, .inl ⟨rfl, by omega, by omega⟩, .inl ⟨rfl, rfl⟩, fun h => absurd h (by omega)⟩
  rw [show (1 : Int) * (1 * a - 0 * b) = a from by omega, show (-1 : Int) * (0 * a - 1 * b) = b from by omega]

theorem gcd_step (u v q : Int) : Int.gcd v (u - q * v) = Int.gcd u v := by
  rw [Int.gcd_comm u v, Int.sub_eq_add_neg, ← Int.neg_mul]
  exact Int.gcd_add_mul_right_right v u (-q)

theorem leh_low {P m n a0 b0 t : Int} (s : Int) (hs : s * s = 1) (hm : 0 ≤ m) (hn : 0 ≤ n) (hmn : m ≤ n) (ha : 0 ≤ a0) (ha' : a0 ≤ P) (hb : 0 ≤ b0) (hb' : b0 ≤ P) (ht : n ≤ t) : 0 ≤ t * P + s * (m * a0 - n * b0) := by
  have hP : 0 ≤ P := by omega
  have e1 : m * a0 ≤ n * P := Int.le_trans (Int.mul_le_mul_of_nonneg_right hmn ha) (Int.mul_le_mul_of_nonneg_left ha' hn)
  have e2 : n * b0 ≤ n * P := Int.mul_le_mul_of_nonneg_left hb' hn
  have e3 : n * P ≤ t * P := Int.mul_le_mul_of_nonneg_right ht hP
  have e4 : 0 ≤ m * a0 := Int.mul_nonneg hm ha
  have e5 : 0 ≤ n * b0 := Int.mul_nonneg hn hb
  have e6 : s = 1 ∨ s = -1 := by
    have : (s - 1) * (s + 1) = 0 := by grind
    rcases Int.mul_eq_zero.1 this with h | h
    · left; omega
    · right; omega
  rcases e6 with rfl | rfl
  · omega
  · omega

theorem sq_lt {B x X : Int} (hB : 0 ≤ B) (hx : B ≤ x) (h : B * x ≤ X) (hX : X < 18446744073709551616) : B < 4294967296 := by
  refine Int.lt_of_not_ge fun h2 => ?_
  have e1 : (4294967296 : Int) * 4294967296 ≤ B * x := Int.mul_le_mul h2 (by omega) (by omega) hB
  omega

theorem Leh.step {X Y a b P s c x y A0 B0 A1 B1 A2 B2 ra rb q r : Int} (h : Leh X Y a b P s c x y A0 B0 A1 B1 A2 B2) (ha : a = X * P + ra) (hb : b = Y * P + rb) (ra0 : 0 ≤ ra) (raP : ra ≤ P) (rb0 : 0 ≤ rb) (rbP : rb ≤ P) (hX : X < 18446744073709551616)
    (hc1 : B2 ≤ y) (hc2 : B1 + B2 ≤ x - y) (hq : x = q * y + r) (hr0 : 0 ≤ r) (hr : r < y) :
    Leh X Y a b P (-s) (c + 1) y r A1 B1 A2 B2 (A1 + q * A2) (B1 + q * B2) ∧ 1 ≤ q ∧ B1 + q * B2 ≤ X ∧ A1 + q * A2 ≤ B1 + q * B2 ∧ q ≤ X ∧ q * y ≤ x ∧ q * A2 ≤ X ∧ q * B2 ≤ X := by
  have hy1 : 1 ≤ y := Int.le_trans h.b2 hc1
  have hq1 : 1 ≤ q := by
    refine Int.le_of_not_gt fun h2 => ?_
    have : q * y ≤ 0 := Int.mul_nonpos_of_nonpos_of_nonneg (by omega) (by omega)
    have := h.yx; have := h.b1; have := h.b2; omega
  have hqA : A2 ≤ q * A2 := by have := Int.mul_le_mul_of_nonneg_right hq1 h.a2; rwa [Int.one_mul] at this
  have hqB : B2 ≤ q * B2 := by have := Int.mul_le_mul_of_nonneg_right hq1 (show 0 ≤ B2 by have := h.b2; omega); rwa [Int.one_mul] at this
  have hqAB : (q - 1) * A2 ≤ (q - 1) * B2 := Int.mul_le_mul_of_nonneg_left h.ab (by omega)
  have hqAB' : q * A2 - A2 ≤ q * B2 - B2 := by rw [Int.sub_mul, Int.sub_mul] at hqAB; omega
  have hdet : (B1 + q * B2) * y + B2 * r = X := by
    have := h.det
    rw [hq] at this
    grind
  have hBr : 0 ≤ B2 * r := Int.mul_nonneg (by have := h.b2; omega) hr0
  have hB1q : B1 + q * B2 ≤ X := by
    have e1 : (B1 + q * B2) * 1 ≤ (B1 + q * B2) * y := Int.mul_le_mul_of_nonneg_left hy1 (by have := h.b1; have := h.b2; omega)
    omega
  have hqy : q * y ≤ x := by omega
  have hqX : q ≤ X := by
    have e1 : q * 1 ≤ q * y := Int.mul_le_mul_of_nonneg_left hy1 (by omega)
    have := h.xX
    omega
  have hv2 : 0 ≤ -s * (A2 * a - B2 * b) := by
    have e1 := leh_low (-s) (P := P) (m := A2) (n := B2) (a0 := ra) (b0 := rb) (t := y) (by have := h.sq; grind) h.a2 (by have := h.b2; omega) h.ab ra0 raP rb0 rbP hc1
    have e2 : -s * (A2 * a - B2 * b) = y * P + -s * (A2 * ra - B2 * rb) := by rw [h.hy, ha, hb]; grind
    rw [e2]; exact e1
  have hv12 : -s * (A2 * a - B2 * b) ≤ s * (A1 * a - B1 * b) := by
    have e1 := leh_low s (P := P) (m := A1 + A2) (n := B1 + B2) (a0 := ra) (b0 := rb) (t := x - y) h.sq (by have := h.a1; have := h.a2; omega) (by have := h.b1; have := h.b2; omega) h.sm ra0 raP rb0 rbP hc2
    have e2 : s * (A1 * a - B1 * b) - -s * (A2 * a - B2 * b) = (x - y) * P + s * ((A1 + A2) * ra - (B1 + B2) * rb) := by rw [h.hx, h.hy, ha, hb]; grind
    omega
  have hlin : - -s * ((A1 + q * A2) * a - (B1 + q * B2) * b) = s * (A1 * a - B1 * b) - q * (-s * (A2 * a - B2 * b)) := by grind
  have hqv : -s * (A2 * a - B2 * b) ≤ q * (-s * (A2 * a - B2 * b)) := by
    have := Int.mul_le_mul_of_nonneg_right hq1 hv2
    rwa [Int.one_mul] at this
  have hB2 : B2 < 4294967296 := by
    refine sq_lt (X := X) (x := x) (by have := h.b2; omega) (by have := h.yx; omega) ?_ hX
    have := h.det
    have e1 : 0 ≤ B1 * y := Int.mul_nonneg h.b1 h.y0
    omega
  have hsum : s * (A1 * a - B1 * b) + -s * (A2 * a - B2 * b) - q * (-s * (A2 * a - B2 * b)) ≤ a := by
    rcases h.sum with ⟨_, e1, e2⟩ | ⟨_, e1⟩ <;> omega
  refine ⟨⟨?_, ?_, ?_, hr0, by omega, by have := h.xX; have := h.yx; omega, h.a1, h.b1, h.a2, by have := h.b2; omega, ?_, by have := h.b1; have := h.b2; omega, ?_, ?_, ?_, ?_, ?_, ?_, by have := h.cm; omega, ?_, ?_, ?_⟩, hq1, hB1q, ?_, hqX, hqy, ?_, ?_⟩
  · have := h.sq; grind
  · have := h.hy; exact this
  · have e1 := h.hx
    have e2 := h.hy
    have : r = x - q * y := by omega
    rw [this, e1, e2]
    grind
  · have := h.a1; have := h.a2; omega
  · have := h.sm; omega
  · have := h.sm; have := h.ab; omega
  · have := h.b1; omega
  · have := h.ab; have := h.b1; omega
  · exact hdet
  · rw [hlin, gcd_step]; exact h.gcd
  · right
    refine ⟨by have := h.cm; omega, ?_⟩
    rw [hlin]
    omega
  · have := h.cm
    rcases h.par with ⟨e1, e2⟩ | ⟨e1, e2⟩
    · right; constructor <;> omega
    · left; constructor <;> omega
  · intro _
    rw [show - -s * (A1 * a - B1 * b) = s * (A1 * a - B1 * b) from by rw [Int.neg_neg]]
    have := h.a1b; have := h.bb; have := h.ab; have := h.cm
    refine ⟨hv2, hv12, h.gcd, by omega, by omega, by omega, hB2, fun h1 => ?_⟩
    rcases h.sum with ⟨e0, _, _⟩ | ⟨_, e1⟩
    · omega
    · omega
  · have := h.sm; have := h.ab; omega
  · have := h.ab; have := h.b1; have := h.a2; have := Int.mul_le_mul_of_nonneg_left h.ab (show 0 ≤ q by omega); omega
  · have := h.b1; omega
/-- The loop's state, in natural numbers. -/
def LehN (a b p : Nat) (s c : Int) (x y A0 B0 A1 B1 A2 B2 : Nat) : Prop := Leh ((a / p : Nat) : Int) ((b / p : Nat) : Int) (a : Int) (b : Int) (p : Int) s c (x : Int) (y : Int) (A0 : Int) (B0 : Int) (A1 : Int) (B1 : Int) (A2 : Int) (B2 : Int)
theorem LehN.start {a b p : Nat} (h : b ≤ a) : LehN a b p 1 (-1) (a / p) (b / p) 0 0 1 0 0 1 :=
  Leh.start (Int.natCast_nonneg _) (Int.ofNat_le.2 (Nat.div_le_div_right h))
theorem LehN.bd {a b p x y A0 B0 A1 B1 A2 B2 : Nat} {s c : Int} (h : LehN a b p s c x y A0 B0 A1 B1 A2 B2) (hX : a / p < 18446744073709551616) :
    x < 18446744073709551616 ∧ y ≤ x ∧ 1 ≤ B2 ∧ (1 ≤ y → B1 + B2 < 18446744073709551616) ∧ -1 ≤ c := by
  have h1 := h.xX
  have h2 := h.yx
  have h3 := h.b2
  refine ⟨by omega, by omega, by omega, fun hy => ?_, h.cm⟩
  have h4 := h.det
  rw [← Int.natCast_mul, ← Int.natCast_mul] at h4
  have h5 : B2 ≤ B2 * x := Nat.le_mul_of_pos_right _ (by omega)
  have h6 : B1 ≤ B1 * y := Nat.le_mul_of_pos_right _ (by omega)
  omega
theorem LehN.go {a b p x y A0 B0 A1 B1 A2 B2 : Nat} {s c : Int} (h : LehN a b p s c x y A0 B0 A1 B1 A2 B2) (hp : 0 < p) (hX : a / p < 18446744073709551616) (h1 : B2 ≤ y) (h2 : B1 + B2 ≤ x - y) :
    LehN a b p (-s) (c + 1) y (x % y) A1 B1 A2 B2 (A1 + x / y * A2) (B1 + x / y * B2) ∧ 1 ≤ x / y ∧ B1 + x / y * B2 < 18446744073709551616 ∧ A1 + x / y * A2 < 18446744073709551616 ∧ x / y * A2 < 18446744073709551616 ∧ x / y * B2 < 18446744073709551616 ∧
      x / y * y ≤ x ∧ x - x / y * y = x % y ∧ B2 < 4294967296 ∧ B2 ≤ x / y * B2 := by
  obtain ⟨b1, b2, b3, _, b5⟩ := h.bd hX
  have hy : 0 < y := by omega
  have hdm := Nat.div_add_mod x y
  have hml := Nat.mod_lt x hy
  have hdm' : x = x / y * y + x % y := by rw [Nat.mul_comm]; exact hdm.symm
  have e1 := Nat.div_add_mod a p
  have e2 := Nat.div_add_mod b p
  have e3 := Nat.mod_lt a hp
  have e4 := Nat.mod_lt b hp
  have key := Leh.step h (ra := ((a % p : Nat) : Int)) (rb := ((b % p : Nat) : Int)) (q := ((x / y : Nat) : Int)) (r := ((x % y : Nat) : Int))
    (by rw [← Int.natCast_mul, ← Int.natCast_add]; congr 1; rw [Nat.mul_comm]; exact e1.symm)
    (by rw [← Int.natCast_mul, ← Int.natCast_add]; congr 1; rw [Nat.mul_comm]; exact e2.symm)
    (by omega) (by omega) (by omega) (by omega) (by omega) (by omega) (by omega)
    (by rw [← Int.natCast_mul, ← Int.natCast_add]; congr 1)
    (by omega) (by omega)
  obtain ⟨k1, k2, k3, k4, k5, k6, k7, k8⟩ := key
  have hB : B2 < 4294967296 := by
    have := k1.tk (by omega)
    omega
  have hq : 1 ≤ x / y := by omega
  have hqB : B2 ≤ x / y * B2 := Nat.le_mul_of_pos_left _ (by omega)
  refine ⟨?_, hq, ?_, ?_, ?_, ?_, by omega, by omega, hB, hqB⟩
  · unfold LehN
    rw [Int.natCast_add, Int.natCast_mul, Int.natCast_add, Int.natCast_mul]
    exact k1
  · rw [← Int.natCast_mul, ← Int.natCast_add] at k3; omega
  · rw [← Int.natCast_mul, ← Int.natCast_add, ← Int.natCast_mul, ← Int.natCast_add] at k4
    rw [← Int.natCast_mul, ← Int.natCast_add] at k3
    omega
  · rw [← Int.natCast_mul] at k7; omega
  · rw [← Int.natCast_mul] at k8; omega
/-- What stands once steps are taken. -/
theorem leh_take {a b p x y A0 B0 A1 B1 A2 B2 : Nat} {s c : Int} (h : LehN a b p s c x y A0 B0 A1 B1 A2 B2) (hc : 0 < c) (hb : 0 < b) : ∃ u v : Nat, v ≤ u ∧ Nat.gcd u v = Nat.gcd a b ∧ u + v < a + b ∧ u ≤ a ∧
    A0 < 4294967296 ∧ B0 < 4294967296 ∧ A1 < 4294967296 ∧ B1 < 4294967296 ∧ (c % 2 = 0 → u + B0 * b = A0 * a ∧ v + A1 * a = B1 * b) ∧ (c % 2 = 1 → u + A0 * a = B0 * b ∧ v + B1 * b = A1 * a) := by
  obtain ⟨t1, t2, t3, t4, t5, t6, t7, t8⟩ := h.tk (by omega)
  have t9 := t8 (by omega)
  obtain ⟨u, hu⟩ := Int.eq_ofNat_of_zero_le (Int.le_trans t1 t2)
  obtain ⟨v, hv⟩ := Int.eq_ofNat_of_zero_le t1
  have hpar := h.par
  rw [hu, hv] at t3 t9 t2
  have t3' : Nat.gcd u v = Nat.gcd a b := t3
  refine ⟨u, v, by omega, t3', by omega, by omega, by omega, by omega, by omega, by omega, fun h0 => ?_, fun h0 => ?_⟩
  · rcases hpar with ⟨_, e⟩ | ⟨rfl, _⟩
    · omega
    · rw [← Int.natCast_mul, ← Int.natCast_mul] at hu hv
      omega
  · rcases hpar with ⟨rfl, _⟩ | ⟨_, e⟩
    · rw [← Int.natCast_mul, ← Int.natCast_mul] at hu hv
      omega
    · omega
end Go.Proofs.YtbplbbkmfbjkfaaGreatDoor

/- Differences of two products by a limb, limb by limb (blend), in whole numbers. -/
namespace Go.Proofs.YtbplbbkmfbjkfaaGreatDoor
/-- One limb of the difference p x - m y with c carried and t borrowed: the limb, what is carried, what is borrowed. -/
def blO (c t : Nat) : Nat := if t % 4294967296 ≤ c % 4294967296 then c % 4294967296 - t % 4294967296 else c % 4294967296 + 4294967296 - t % 4294967296
def blC (c : Nat) : Nat := c / 4294967296
def blT (c t : Nat) : Nat := t / 4294967296 + if t % 4294967296 ≤ c % 4294967296 then 0 else 1
theorem bl_eq (c t : Nat) : blO c t + 4294967296 * blC c + t = c + 4294967296 * blT c t := by
  unfold blO blC blT
  split <;> omega
theorem blO_lt (c t : Nat) : blO c t < 4294967296 := by unfold blO; split <;> omega
/-- The limbs, what is carried and what is borrowed behind k limbs. -/
def blK (p m : Nat) (xs ys : List Nat) : Nat → List Nat × Nat × Nat
  | 0 => ([], 0, 0)
  | k + 1 => ((blK p m xs ys k).1 ++ [blO ((blK p m xs ys k).2.1 + p * xs[k]?.getD 0) ((blK p m xs ys k).2.2 + m * ys[k]?.getD 0)], blC ((blK p m xs ys k).2.1 + p * xs[k]?.getD 0), blT ((blK p m xs ys k).2.1 + p * xs[k]?.getD 0) ((blK p m xs ys k).2.2 + m * ys[k]?.getD 0))
theorem blK_len (p m : Nat) (xs ys : List Nat) (k : Nat) : (blK p m xs ys k).1.length = k := by
  induction k with
  | zero => rfl
  | succ k ih => simp [blK, ih]
theorem blK_good (p m : Nat) (xs ys : List Nat) (k : Nat) : Good (blK p m xs ys k).1 := by
  induction k with
  | zero => exact Good.nil
  | succ k ih => exact ih.append (Good.nil.cons (blO_lt _ _))
theorem bl_mul {p x : Nat} (hp : p < 4294967296) (hx : x < 4294967296) : p * x ≤ 18446744065119617025 := by
  have := Nat.mul_le_mul (show p ≤ 4294967295 by omega) (show x ≤ 4294967295 by omega)
  omega
theorem blK_bd {p m : Nat} {xs ys : List Nat} (hp : p < 4294967296) (hm : m < 4294967296) (hx : Good xs) (hy : Good ys) (k : Nat) : (blK p m xs ys k).2.1 < 4294967296 ∧ (blK p m xs ys k).2.2 ≤ 4294967296 := by
  induction k with
  | zero => exact ⟨by show 0 < 4294967296; omega, by show 0 ≤ 4294967296; omega⟩
  | succ k ih =>
    have h1 := bl_mul hp (hx.get k)
    have h2 := bl_mul hm (hy.get k)
    obtain ⟨i1, i2⟩ := ih
    show blC _ < _ ∧ blT _ _ ≤ _
    generalize (blK p m xs ys k).2.1 = c at *
    generalize (blK p m xs ys k).2.2 = t at *
    generalize p * xs[k]?.getD 0 = u at *
    generalize m * ys[k]?.getD 0 = v at *
    unfold blC blT
    constructor
    · omega
    · split <;> omega
theorem blK_val (p m : Nat) (xs ys : List Nat) (k : Nat) : val (blK p m xs ys k).1 + 4294967296 ^ k * (blK p m xs ys k).2.1 + m * val (ys.take k) = p * val (xs.take k) + 4294967296 ^ k * (blK p m xs ys k).2.2 := by
  induction k with
  | zero => simp [blK, val_nil]
  | succ k ih =>
    have e1 : (blK p m xs ys (k + 1)).1 = (blK p m xs ys k).1 ++ [blO ((blK p m xs ys k).2.1 + p * xs[k]?.getD 0) ((blK p m xs ys k).2.2 + m * ys[k]?.getD 0)] := rfl
    have e2 : (blK p m xs ys (k + 1)).2.1 = blC ((blK p m xs ys k).2.1 + p * xs[k]?.getD 0) := rfl
    have e3 : (blK p m xs ys (k + 1)).2.2 = blT ((blK p m xs ys k).2.1 + p * xs[k]?.getD 0) ((blK p m xs ys k).2.2 + m * ys[k]?.getD 0) := rfl
    rw [e1, e2, e3, val_snoc, blK_len, val_take_succ', val_take_succ', pow_succ_]
    generalize (blK p m xs ys k).2.1 = c at *
    generalize (blK p m xs ys k).2.2 = t at *
    generalize xs[k]?.getD 0 = x at *
    generalize ys[k]?.getD 0 = y at *
    have h := bl_eq (c + p * x) (t + m * y)
    generalize blO (c + p * x) (t + m * y) = o at *
    generalize blC (c + p * x) = c' at *
    generalize blT (c + p * x) (t + m * y) = t' at *
    generalize val (blK p m xs ys k).1 = V at *
    generalize val (xs.take k) = X at *
    generalize val (ys.take k) = Y at *
    generalize 4294967296 ^ k = E at *
    have h2 : E * (o + 4294967296 * c' + (t + m * y)) = E * (c + p * x + 4294967296 * t') := by rw [h]
    grind
/-- Behind all limbs: the difference, if it is a number of as many limbs. -/
theorem bl_all {p m n D : Nat} {xs ys : List Nat} (hx : xs.length = n) (hy : ys.length = n) (hD : D < 4294967296 ^ n) (h : D + m * val ys = p * val xs) : val (blK p m xs ys n).1 = D := by
  have h1 := blK_val p m xs ys n
  rw [List.take_of_length_le (by omega), List.take_of_length_le (by omega)] at h1
  have h2 := val_lt (blK_good p m xs ys n)
  rw [blK_len] at h2
  generalize val (blK p m xs ys n).1 = V at *
  generalize (blK p m xs ys n).2.1 = c at *
  generalize (blK p m xs ys n).2.2 = t at *
  generalize 4294967296 ^ n = E at *
  have h3 : V + E * c = D + E * t := by omega
  rcases Nat.lt_trichotomy c t with h4 | h4 | h4
  · have h5 : E * (c + 1) ≤ E * t := Nat.mul_le_mul_left _ h4
    rw [Nat.mul_add] at h5
    omega
  · subst h4; omega
  · have h5 : E * (t + 1) ≤ E * c := Nat.mul_le_mul_left _ h4
    rw [Nat.mul_add] at h5
    omega
theorem bl_at {p m : Nat} {xs ys : List Nat} {j : Nat} : ((blK p m xs ys j).1 ++ xs.drop j)[j]?.getD 0 = xs[j]?.getD 0 := by
  rw [List.getElem?_append_right (by rw [blK_len]; exact Nat.le_refl _), blK_len, Nat.sub_self, List.getElem?_drop, Nat.add_zero]
theorem bl_set {p m : Nat} {xs ys : List Nat} {j : Nat} (hj : j < xs.length) :
    ((blK p m xs ys j).1 ++ xs.drop j).set j (blO ((blK p m xs ys j).2.1 + p * xs[j]?.getD 0) ((blK p m xs ys j).2.2 + m * ys[j]?.getD 0)) = (blK p m xs ys (j + 1)).1 ++ xs.drop (j + 1) := by
  rw [List.set_append_right _ _ (by rw [blK_len]; exact Nat.le_refl _), blK_len, Nat.sub_self, drop_cons_ _ j hj, List.set_cons_zero]
  show _ = ((blK p m xs ys j).1 ++ [_]) ++ _
  rw [List.append_assoc]
  rfl
end Go.Proofs.YtbplbbkmfbjkfaaGreatDoor

/- A block of the call's own that is known whole: any values; wide.blend's next. -/
namespace Go.Proofs.YtbplbbkmfbjkfaaGreatDoor
open Go.RowKit

/-- Block g is just the values vs, none frozen. -/
def Kd (w : World) (g : Nat) (t : TypeId) (vs : Array Value) : Prop := w.heap[g]? = some (.cells vs t (0, 0))
section
variable {w w' : World} {g : Nat} {t : TypeId} {vs : Array Value}
theorem Kd.lt (h : Kd w g t vs) : g < w.heap.size := (Array.getElem?_eq_some_iff.1 h).1
theorem Kd.cell (h : Kd w g t vs) (i : Nat) : w.cell? ⟨g, i, none⟩ = vs[i]? := cell_of_row w g i _ _ (0, 0) h
theorem Kd.frozen (h : Kd w g t vs) (i : Nat) : w.frozen? ⟨g, i, none⟩ = false := by
  unfold Kd at h
  simp [World.frozen?, h]
theorem Kd.set_ (h : Kd w g t vs) (i : Nat) (v : Value) : Kd (w.setCell ⟨g, i, none⟩ v) g t (vs.setIfInBounds i v) := by
  unfold Kd at h ⊢
  simp [World.setCell, Array.getElem?_modify, h]
theorem Kd.far (h : Kd w g t vs) {k i : Nat} (hk : k ≠ g) (v : Value) : Kd (w.setCell ⟨k, i, none⟩ v) g t vs := (Below.heap_setCell _ _ _ g (fun e => hk e.symm)).trans h
theorem Kd.grown (h : Kd w g t vs) {row : Option Nat} (hb : w.grownBy w' row) (hg : some g ≠ row) : Kd w' g t vs := (hb.block g h.lt hg).trans h
theorem Kd.below (h : Kd w g t vs) {B : Nat} (hb : Below B w w') (hg : g < B) : Kd w' g t vs := (hb.block g hg).trans h
theorem Kd.new (w : World) (k : Nat) (hk : w.heap.size = k) (vs : Array Value) (t : TypeId) : Kd (w.alloc (.cells vs t)) k t vs := by
  subst hk
  exact heap_alloc_new w _
theorem Kd.alloc (h : Kd w g t vs) (o : Obj) : Kd (w.alloc o) g t vs := (heap_alloc_old w o h.lt).trans h
theorem Kd.drew (h : Kd w g t vs) : Kd w.drew g t vs := h
theorem Kd.drewN (h : Kd w g t vs) (k : Nat) : Kd (w.drewN k) g t vs := h
end
theorem grown_drew {w w' : World} {r : Option Nat} (h : w.grownBy w' r) : w.grownBy w'.drew r := ⟨h.os, h.tape, h.output, h.size, h.block⟩
theorem grown_drewN {w w' : World} {r : Option Nat} (h : w.grownBy w' r) (k : Nat) : w.grownBy (w'.drewN k) r := ⟨h.os, h.tape, h.output, h.size, h.block⟩
/-- The four cells of a blend. -/
def blV (p m c s : Nat) : Array Value := #[.int .u64 (p : Int), .int .u64 (m : Int), .int .u64 (c : Int), .int .u64 (s : Int)]

set_option maxRecDepth 100000 in
set_option maxHeartbeats 4000000 in
theorem next_any (w : World) (g : Nat) (t : TypeId) (p m c s x y : Nat) (hK : Kd w g t (blV p m c s)) (hp : p < 4294967296) (hm : m < 4294967296) (hc : c < 4294967296) (hs : s ≤ 4294967296) (hx : x < 4294967296) (hy : y < 4294967296) :
    Calls Tryz.prog 128 #[.pointer (some ⟨g, 0, none⟩), .int .u64 (x : Int), .int .u64 (y : Int)] w fun e w' =>
      e = .returned (.int .u32 (blO (c + p * x) (s + m * y) : Nat)) ∧ Kd w' g t (blV p m (blC (c + p * x)) (blT (c + p * x) (s + m * y))) ∧ w.grownBy w' (some g) := by
  have h1 := bl_mul hp hx
  have h2 := bl_mul hm hy
  have hpx : (p : Int) * (x : Int) = ((p * x : Nat) : Int) := by rw [Int.natCast_mul]
  have hmy : (m : Int) * (y : Int) = ((m * y : Nat) : Int) := by rw [Int.natCast_mul]
  have c0 := hK.cell 0
  have c1 := hK.cell 1
  have c2 := hK.cell 2
  have c3 := hK.cell 3
  have f2 := hK.frozen 2
  have f3 := hK.frozen 3
  simp only [blV, List.getElem?_toArray, List.getElem?_cons_zero, List.getElem?_cons_succ] at c0 c1 c2 c3
  have HK := Lib.hid hK
  clear hK
  go_enter Tryz.func128, Tryz.ntmps128
  generalize hu : p * x = u at *
  generalize hv : m * y = v at *
  clear hu hv
  go_wp2
  go_region
  all_goals
    (try rw [show IntKind.u64.wrap ((c : Int) + IntKind.u64.wrap (u : Int)) = ((c + u : Nat) : Int) from by rw [IntKind.wrap_u64, IntKind.wrap_u64]; omega])
    (try rw [show (c : Int) + (u : Int) = ((c + u : Nat) : Int) from by omega])
    have HK2 : Hid (Kd (w.setCell ⟨g, 2, none⟩ (.int .u64 ((c + u : Nat) : Int))).drew g t (blV p m (c + u) s)) := HK.out.set_ 2 _
    have HG2 : Hid (w.grownBy (w.setCell ⟨g, 2, none⟩ (.int .u64 ((c + u : Nat) : Int))).drew (some g)) := grown_drew (grownBy_setCellAt w g 2 _)
    clear c0 c1 c2 c3 f2 f3
    generalize (w.setCell ⟨g, 2, none⟩ (.int .u64 ((c + u : Nat) : Int))).drew = W1 at *
    have c0 := HK2.out.cell 0
    have c1 := HK2.out.cell 1
    have c2 := HK2.out.cell 2
    have c3 := HK2.out.cell 3
    have f2 := HK2.out.frozen 2
    have f3 := HK2.out.frozen 3
    simp only [blV, List.getElem?_toArray, List.getElem?_cons_zero, List.getElem?_cons_succ] at c0 c1 c2 c3
    generalize hC : c + u = C at *
    go_wp2
    go_region
    all_goals
      (try rw [show IntKind.u64.wrap ((s : Int) + IntKind.u64.wrap (v : Int)) = ((s + v : Nat) : Int) from by rw [IntKind.wrap_u64, IntKind.wrap_u64]; omega])
      (try rw [show (s : Int) + (v : Int) = ((s + v : Nat) : Int) from by omega])
      have HK3 : Hid (Kd (W1.setCell ⟨g, 3, none⟩ (.int .u64 ((s + v : Nat) : Int))).drew g t (blV p m C (s + v))) := HK2.out.set_ 3 _
      have HG3 : Hid (w.grownBy (W1.setCell ⟨g, 3, none⟩ (.int .u64 ((s + v : Nat) : Int))).drew (some g)) := grown_drew (grownBy_trans HG2.out (grownBy_setCellAt W1 g 3 _))
      clear c0 c1 c2 c3 f2 f3 HK2 HG2
      generalize (W1.setCell ⟨g, 3, none⟩ (.int .u64 ((s + v : Nat) : Int))).drew = W2 at *
      have c0 := HK3.out.cell 0
      have c1 := HK3.out.cell 1
      have c2 := HK3.out.cell 2
      have c3 := HK3.out.cell 3
      have f2 := HK3.out.frozen 2
      have f3 := HK3.out.frozen 3
      simp only [blV, List.getElem?_toArray, List.getElem?_cons_zero, List.getElem?_cons_succ] at c0 c1 c2 c3
      generalize hS : s + v = S at *
      go_wp2
      go_quiet (fail)
      go_wp2
      rw [hC, hS]
      go_ret
      have eO : IntKind.u64.wrap ((C : Int) % 4294967296 - (S : Int) % 4294967296) % 4294967296 = ((blO C S : Nat) : Int) := by rw [IntKind.wrap_u64]; unfold blO; split <;> omega
      have key : ∀ z : Int, z = ((blT C S : Nat) : Int) → Kd (((W2.drewN nq).setCell ⟨g, 2, none⟩ (.int .u64 ((C : Int) / 4294967296))).setCell ⟨g, 3, none⟩ (.int .u64 z)) g t (blV p m (blC C) (blT C S)) := by
        rintro _ rfl
        exact ((show Kd (W2.drewN nq) g t (blV p m C S) from HK3.out).set_ 2 (.int .u64 ((C : Int) / 4294967296))).set_ 3 _
      refine ⟨congrArg Ending.returned (congrArg (Value.int IntKind.u32) eO), key _ (by simp only [IntKind.wrap_u64]; unfold blT; split <;> omega), grownBy_trans (grownBy_trans (grown_drewN HG3.out nq) (grownBy_setCellAt _ g 2 _)) (grownBy_setCellAt _ g 3 _)⟩
end Go.Proofs.YtbplbbkmfbjkfaaGreatDoor

/- wide.foresee: the steps of Euclid's rule that the highest digits determine. -/
namespace Go.Proofs.YtbplbbkmfbjkfaaGreatDoor
open Go.RowKit

/-- The five cells of steps. -/
def stV (c : Int) (A0 B0 A1 B1 : Nat) : Array Value := #[.int .i64 c, .int .u64 (A0 : Int), .int .u64 (B0 : Int), .int .u64 (A1 : Int), .int .u64 (B1 : Int)]
def fcV (A B : Nat) : Array Value := #[.int .u64 (A : Int), .int .u64 (B : Int)]
/-- What foresee returns: steps that the highest digits allow. -/
def RF (w : World) (a b : Nat) (e : Ending) (w' : World) : Prop := ∃ (c : Int) (A0 B0 A1 B1 : Nat), e = .returned (.agg #[.int .i64 c, .int .u64 (A0 : Int), .int .u64 (B0 : Int), .int .u64 (A1 : Int), .int .u64 (B1 : Int)]) ∧ c ≤ 4294967296 ∧
  (∃ (p : Nat) (s : Int) (x y A2 B2 : Nat), LehN a b p s c x y A0 B0 A1 B1 A2 B2) ∧ Below w.heap.size w w'

/-- The world behind an exchange of factors. -/
def xch (W : World) (g h : Nat) (a b d e f k : Value) : World := ((((((W.setCell ⟨g, 1, none⟩ a).setCell ⟨g, 2, none⟩ b).setCell ⟨g, 3, none⟩ d).setCell ⟨g, 4, none⟩ e).setCell ⟨h, 0, none⟩ f).setCell ⟨h, 1, none⟩ k).drew
section
variable {W : World} {g h : Nat} {t t' : TypeId} {c a b d e f k a0 b0 d0 e0 f0 k0 : Value}
theorem xch_g (H : Kd W g t #[c, a0, b0, d0, e0]) (hne : h ≠ g) : Kd (xch W g h a b d e f k) g t #[c, a, b, d, e] := by
  have h1 : Kd (W.setCell ⟨g, 1, none⟩ a) g t #[c, a, b0, d0, e0] := H.set_ 1 a
  have h2 : Kd ((W.setCell ⟨g, 1, none⟩ a).setCell ⟨g, 2, none⟩ b) g t #[c, a, b, d0, e0] := h1.set_ 2 b
  have h3 : Kd (((W.setCell ⟨g, 1, none⟩ a).setCell ⟨g, 2, none⟩ b).setCell ⟨g, 3, none⟩ d) g t #[c, a, b, d, e0] := h2.set_ 3 d
  have h4 : Kd ((((W.setCell ⟨g, 1, none⟩ a).setCell ⟨g, 2, none⟩ b).setCell ⟨g, 3, none⟩ d).setCell ⟨g, 4, none⟩ e) g t #[c, a, b, d, e] := h3.set_ 4 e
  exact ((h4.far (i := 0) hne f).far (i := 1) hne k).drew
theorem xch_h (H : Kd W h t' #[f0, k0]) (hne : h ≠ g) : Kd (xch W g h a b d e f k) h t' #[f, k] := by
  have h1 := (((H.far (i := 1) (Ne.symm hne) a).far (i := 2) (Ne.symm hne) b).far (i := 3) (Ne.symm hne) d).far (i := 4) (Ne.symm hne) e
  have h2 : Kd (((((W.setCell ⟨g, 1, none⟩ a).setCell ⟨g, 2, none⟩ b).setCell ⟨g, 3, none⟩ d).setCell ⟨g, 4, none⟩ e).setCell ⟨h, 0, none⟩ f) h t' #[f, k0] := h1.set_ 0 f
  have h3 : Kd ((((((W.setCell ⟨g, 1, none⟩ a).setCell ⟨g, 2, none⟩ b).setCell ⟨g, 3, none⟩ d).setCell ⟨g, 4, none⟩ e).setCell ⟨h, 0, none⟩ f).setCell ⟨h, 1, none⟩ k) h t' #[f, k] := h2.set_ 1 k
  exact h3.drew
theorem xch_r {r : Nat} {vs : Array Value} (H : Kd W r t vs) (h1 : g ≠ r) (h2 : h ≠ r) : Kd (xch W g h a b d e f k) r t vs :=
  ((((((H.far (i := 1) h1 a).far (i := 2) h1 b).far (i := 3) h1 d).far (i := 4) h1 e).far (i := 0) h2 f).far (i := 1) h2 k).drew
theorem xch_b {B : Nat} {w : World} (H : Below B w W) (h1 : B ≤ g) (h2 : B ≤ h) : Below B w (xch W g h a b d e f k) :=
  ((((((H.setCell (p := ⟨g, 1, none⟩) h1 a).setCell (p := ⟨g, 2, none⟩) h1 b).setCell (p := ⟨g, 3, none⟩) h1 d).setCell (p := ⟨g, 4, none⟩) h1 e).setCell (p := ⟨h, 0, none⟩) h2 f).setCell (p := ⟨h, 1, none⟩) h2 k).drew
end

theorem res_s {fn : Func} {r : Nat} (hr : fn.results = #[.cell r 129]) {tmps : Array Value} {w : World} {g : Nat} {c a b d e : Value} (ht : tmps.getD r undef = .pointer (some ⟨g, 0, none⟩))
    (h0 : w.cell? ⟨g, 0, none⟩ = some c) (h1 : w.cell? ⟨g, 1, none⟩ = some a) (h2 : w.cell? ⟨g, 2, none⟩ = some b) (h3 : w.cell? ⟨g, 3, none⟩ = some d) (h4 : w.cell? ⟨g, 4, none⟩ = some e) :
    (results fn tmps).run Tryz.prog w = .ok (.agg #[c, a, b, d, e]) w := by
  rw [Array.getD_eq_getD_getElem?] at ht
  simp [results, hr, go_sem, ht, h0, h1, h2, h3, h4]
theorem st_sets {W : World} {g : Nat} {t : TypeId} {c a b d e c0 a0 b0 d0 e0 : Value} (H : Kd W g t #[c0, a0, b0, d0, e0]) :
    Kd (((((W.setCell ⟨g, 0, none⟩ c).setCell ⟨g, 1, none⟩ a).setCell ⟨g, 2, none⟩ b).setCell ⟨g, 3, none⟩ d).setCell ⟨g, 4, none⟩ e) g t #[c, a, b, d, e] := by
  have h0 : Kd (W.setCell ⟨g, 0, none⟩ c) g t #[c, a0, b0, d0, e0] := H.set_ 0 c
  have h1 : Kd ((W.setCell ⟨g, 0, none⟩ c).setCell ⟨g, 1, none⟩ a) g t #[c, a, b0, d0, e0] := h0.set_ 1 a
  have h2 : Kd (((W.setCell ⟨g, 0, none⟩ c).setCell ⟨g, 1, none⟩ a).setCell ⟨g, 2, none⟩ b) g t #[c, a, b, d0, e0] := h1.set_ 2 b
  have h3 : Kd ((((W.setCell ⟨g, 0, none⟩ c).setCell ⟨g, 1, none⟩ a).setCell ⟨g, 2, none⟩ b).setCell ⟨g, 3, none⟩ d) g t #[c, a, b, d, e0] := h2.set_ 3 d
  exact h3.set_ 4 e
theorem st_setb {W w : World} {B g : Nat} {c a b d e : Value} (H : Below B w W) (h : B ≤ g) :
    Below B w (((((W.setCell ⟨g, 0, none⟩ c).setCell ⟨g, 1, none⟩ a).setCell ⟨g, 2, none⟩ b).setCell ⟨g, 3, none⟩ d).setCell ⟨g, 4, none⟩ e) :=
  ((((H.setCell (p := ⟨g, 0, none⟩) h c).setCell (p := ⟨g, 1, none⟩) h a).setCell (p := ⟨g, 2, none⟩) h b).setCell (p := ⟨g, 3, none⟩) h d).setCell (p := ⟨g, 4, none⟩) h e

set_option maxRecDepth 100000 in
set_option maxHeartbeats 4000000 in
theorem foresee_any (w : World) (A B : Option Addr) (n m ca cb a b : Nat) (hA : Lm w w.heap.size A n ca (digs a)) (hB : Lm w w.heap.size B m cb (digs b)) (hle : b ≤ a) (hm : 3 ≤ m) (hn : n ≤ 1000000) :
    Calls Tryz.prog 99 #[.slice A n ca, .slice B m cb] w (RF w a b) := by
  have hcA := hA.cap
  have hxA := hA.max
  have hcB := hB.cap
  have hxB := hB.max
  have hlA := hA.len
  have hb64 : 4294967296 ^ 2 ≤ b := by
    have := val_ge (digs_norm b) 2 (by rw [hB.len]; omega)
    rwa [digs_val] at this
  have ha0 : 0 < a := by
    have : (4294967296 : Nat) ^ 2 = 18446744073709551616 := by decide
    omega
  obtain ⟨hL0, hL1, hL2⟩ := lenS_pos ha0
  have hL9 : lenS (digs a) ≤ 32 * n := by
    refine lenS_le.2 ?_
    have := digs_len.1 (Nat.le_of_eq hlA)
    rwa [Nat.pow_mul]
  have hL64 : 64 < lenS (digs a) := by
    refine Nat.lt_of_not_le fun h => ?_
    have h1 := lenS_le.1 h
    have : (2 : Nat) ^ 64 = 4294967296 ^ 2 := by decide
    omega
  obtain ⟨k, hk⟩ : ∃ k, k = lenS (digs a) - 64 := ⟨_, rfl⟩
  have hkL : lenS (digs a) = k + 64 := by omega
  have hX : a / 2 ^ k < 18446744073709551616 := by
    refine Nat.div_lt_of_lt_mul ?_
    rw [show (18446744073709551616 : Nat) = 2 ^ 64 from rfl, ← Nat.pow_add, ← hkL]
    exact hL2
  have hY : b / 2 ^ k ≤ a / 2 ^ k := Nat.div_le_div_right hle
  have hk9 : k ≤ 32000000 := by omega
  have HWx : Hid (win a k = a / 2 ^ k) := Nat.mod_eq_of_lt hX
  have HWy : Hid (win b k = b / 2 ^ k) := Nat.mod_eq_of_lt (by omega)
  have HS : Hid (LehN a b (2 ^ k) 1 (-1) (a / 2 ^ k) (b / 2 ^ k) 0 0 1 0 0 1) := LehN.start hle
  have HP : Hid (0 < 2 ^ k) := Nat.pow_pos (by omega)
  have HX := Lib.hid hX
  have HA := Lib.hid hA
  have HB := Lib.hid hB
  generalize hXX : a / 2 ^ k = X at hX hY HWx HS
  generalize hYY : b / 2 ^ k = Y at hY HWy HS
  clear hA hB hL0 hL1 hL2 hb64 ha0 hlA hk hXX hYY
  go_enter Tryz.func99, Tryz.ntmps99
  go_wp2_with fail
  refine (length_any _ _ _ _ _ (HA.out.box _) (by omega)).mono ?_
  rintro e w1 ⟨rfl, rfl⟩
  rw [hkL]
  go_wp2_with fail
  refine (window_any _ A n ca (digs a) a k (HA.out.box _) (digs_val _) (by omega) (by omega)).mono ?_
  rintro e w1 ⟨rfl, d1, rfl⟩
  rw [show (Int.toNat (k : Int)) = k from rfl, HWx.out]
  go_wp2_with fail
  refine (window_any _ B m cb (digs b) b k ((HB.out.box _).drewN d1) (digs_val _) (by omega) (by omega)).mono ?_
  rintro e w1 ⟨rfl, d2, rfl⟩
  rw [show (Int.toNat (k : Int)) = k from rfl, HWy.out]
  go_wp2
  go_loopw [6, 7] (fun xv yv wr => ∃ (s c : Int) (x y A0 B0 A1 B1 A2 B2 : Nat), xv = .int .u64 (x : Int) ∧ yv = .int .u64 (y : Int) ∧ LehN a b (2 ^ k) s c x y A0 B0 A1 B1 A2 B2 ∧
      c ≤ B2 ∧ (0 ≤ c → 1 ≤ B1) ∧ c ≤ 4294967296 ∧ Kd wr w.heap.size 129 (stV 0 0 0 0 0) ∧ Kd wr (w.heap.size + 1) 129 (stV c A0 B0 A1 B1) ∧ Kd wr (w.heap.size + 1 + 1) 127 (fcV A2 B2) ∧ Below w.heap.size w wr) (fun _ y _ => (intOf y).toNat)
  case atStart =>
    refine ⟨1, -1, X, Y, 0, 0, 1, 0, 0, 1, rfl, rfl, HS.out, by omega, by omega, by omega, (((Kd.new w _ rfl _ _).drewN _).alloc _).alloc _, (Kd.new _ _ (by simp) _ _).alloc _, Kd.new _ _ (by simp) _ _, ?_⟩
    exact ((bdrewN ((Below.refl _ _).alloc (Nat.le_refl _) _) _).alloc (by simp) _).alloc (by simp; omega) _
  case round =>
    obtain ⟨s, c, x, y, A0, B0, A1, B1, A2, B2, rfl, rfl, hI, hcB, hcz, hc9, hR, hS, hN, hb⟩ := hrel
    obtain ⟨l1, l2, l3, l4, l5⟩ := hI.bd HX.out
    have s0 := hS.cell 0
    have s1 := hS.cell 1
    have s2 := hS.cell 2
    have s3 := hS.cell 3
    have s4 := hS.cell 4
    have n0 := hN.cell 0
    have n1 := hN.cell 1
    simp only [stV, fcV, List.getElem?_toArray, List.getElem?_cons_zero, List.getElem?_cons_succ] at s0 s1 s2 s3 s4 n0 n1
    have f1 := hS.frozen 1
    have f2 := hS.frozen 2
    have f3 := hS.frozen 3
    have f4 := hS.frozen 4
    have f0 := hS.frozen 0
    have fn0 := hN.frozen 0
    have fn1 := hN.frozen 1
    have ltS := hS.lt
    have ltN := hN.lt
    have HI := Lib.hid hI
    have HR := Lib.hid hR
    have HSt := Lib.hid hS
    have HN := Lib.hid hN
    have HBl := Lib.hid hb
    have HCz := Lib.hid hcz
    clear hI hR hS hN hb hcz
    by_cases h1 : B2 ≤ y
    · by_cases h2 : B1 + B2 ≤ x - y
      · obtain ⟨g0, g1, g2, g3, g4, g5, g6, g7, g8, g9⟩ := HI.out.go HP.out HX.out h1 h2
        have HI2 := Lib.hid g0
        clear g0
        have i1 : (B2 : Int) ≤ (y : Int) := by omega
        have i2 : (B1 : Int) + (B2 : Int) ≤ (x : Int) - (y : Int) := by omega
        have hs9 := l4 (by omega)
        have hyi : ¬ ((y : Int) = 0) := by omega
        have q0 : (x : Int) / (y : Int) = ((x / y : Nat) : Int) := by rw [← Int.natCast_ediv]
        have q1 : (x : Int).tdiv (y : Int) = ((x / y : Nat) : Int) := by rw [Int.tdiv_eq_ediv_of_nonneg (by omega), ← Int.natCast_ediv]
        have hrl := Nat.mod_lt x (show 0 < y by omega)
        have hq9 : x / y < 18446744073709551616 := Nat.lt_of_le_of_lt (Nat.div_le_self _ _) l1
        generalize x / y = q at *
        generalize x % y = r at *
        clear h1 h2 l4
        go_wp2
        have HN3 : Hid (Kd (wr.alloc (.cells #[.int .u64 ((A1 : Int) + (q : Int) * (A2 : Int)), .int .u64 ((B1 : Int) + (q : Int) * (B2 : Int))] 127)) wr.heap.size 127 (fcV (A1 + q * A2) (B1 + q * B2))) := by
          have e := Kd.new wr _ rfl #[.int .u64 ((A1 : Int) + (q : Int) * (A2 : Int)), .int .u64 ((B1 : Int) + (q : Int) * (B2 : Int))] 127
          have e2 : fcV (A1 + q * A2) (B1 + q * B2) = #[.int .u64 ((A1 : Int) + (q : Int) * (A2 : Int)), .int .u64 ((B1 : Int) + (q : Int) * (B2 : Int))] := by unfold fcV; rw [Int.natCast_add, Int.natCast_add, Int.natCast_mul, Int.natCast_mul]
          rw [e2]; exact e
        have HR1 := Lib.hid (HR.out.alloc (.cells #[.int .u64 ((A1 : Int) + (q : Int) * (A2 : Int)), .int .u64 ((B1 : Int) + (q : Int) * (B2 : Int))] 127))
        have HS1 := Lib.hid (HSt.out.alloc (.cells #[.int .u64 ((A1 : Int) + (q : Int) * (A2 : Int)), .int .u64 ((B1 : Int) + (q : Int) * (B2 : Int))] 127))
        have HN1 := Lib.hid (HN.out.alloc (.cells #[.int .u64 ((A1 : Int) + (q : Int) * (A2 : Int)), .int .u64 ((B1 : Int) + (q : Int) * (B2 : Int))] 127))
        have HB1 := Lib.hid (HBl.out.alloc HBl.out.size (.cells #[.int .u64 ((A1 : Int) + (q : Int) * (A2 : Int)), .int .u64 ((B1 : Int) + (q : Int) * (B2 : Int))] 127))
        clear s0 s1 s2 s3 s4 n0 n1 f0 f1 f2 f3 f4 fn0 fn1
        generalize wr.alloc (.cells #[.int .u64 ((A1 : Int) + (q : Int) * (A2 : Int)), .int .u64 ((B1 : Int) + (q : Int) * (B2 : Int))] 127) = W1 at *
        have s0 := HS1.out.cell 0
        have s1 := HS1.out.cell 1
        have s2 := HS1.out.cell 2
        have s3 := HS1.out.cell 3
        have s4 := HS1.out.cell 4
        have n0 := HN1.out.cell 0
        have n1 := HN1.out.cell 1
        have m0 := HN3.out.cell 0
        have m1 := HN3.out.cell 1
        simp only [stV, fcV, List.getElem?_toArray, List.getElem?_cons_zero, List.getElem?_cons_succ] at s0 s1 s2 s3 s4 n0 n1 m0 m1
        have f0 := HS1.out.frozen 0
        have f1 := HS1.out.frozen 1
        have f2 := HS1.out.frozen 2
        have f3 := HS1.out.frozen 3
        have f4 := HS1.out.frozen 4
        have fn0 := HN1.out.frozen 0
        have fn1 := HN1.out.frozen 1
        have HBB : Hid (B1 + B2 ≤ B1 + q * B2) := Nat.add_le_add_left g9 B1
        generalize A1 + q * A2 = A3 at *
        generalize B1 + q * B2 = B3 at *
        have ne1 : ¬ (w.heap.size + 1 = wr.heap.size) := by omega
        have ne2 : ¬ (w.heap.size + 1 + 1 = wr.heap.size) := by omega
        generalize wr.heap.size = gN at *
        clear q0 q1
        go_region
        rw [show ((((((W1.setCell ⟨w.heap.size + 1, 1, none⟩ (.int .u64 (A1 : Int))).setCell ⟨w.heap.size + 1, 2, none⟩ (.int .u64 (B1 : Int))).setCell ⟨w.heap.size + 1, 3, none⟩ (.int .u64 (A2 : Int))).setCell ⟨w.heap.size + 1, 4, none⟩ (.int .u64 (B2 : Int))).setCell ⟨w.heap.size + 1 + 1, 0, none⟩ (.int .u64 (A3 : Int))).setCell ⟨w.heap.size + 1 + 1, 1, none⟩ (.int .u64 (B3 : Int))).drew = (xch W1 (w.heap.size + 1) (w.heap.size + 1 + 1) (.int .u64 (A1 : Int)) (.int .u64 (B1 : Int)) (.int .u64 (A2 : Int)) (.int .u64 (B2 : Int)) (.int .u64 (A3 : Int)) (.int .u64 (B3 : Int))) from rfl]
        have HS2 : Hid (Kd (xch W1 (w.heap.size + 1) (w.heap.size + 1 + 1) (.int .u64 (A1 : Int)) (.int .u64 (B1 : Int)) (.int .u64 (A2 : Int)) (.int .u64 (B2 : Int)) (.int .u64 (A3 : Int)) (.int .u64 (B3 : Int))) (w.heap.size + 1) 129 (stV c A1 B1 A2 B2)) := xch_g HS1.out (by omega)
        have HN2 : Hid (Kd (xch W1 (w.heap.size + 1) (w.heap.size + 1 + 1) (.int .u64 (A1 : Int)) (.int .u64 (B1 : Int)) (.int .u64 (A2 : Int)) (.int .u64 (B2 : Int)) (.int .u64 (A3 : Int)) (.int .u64 (B3 : Int))) (w.heap.size + 1 + 1) 127 (fcV A3 B3)) := xch_h HN1.out (by omega)
        have HR2 : Hid (Kd (xch W1 (w.heap.size + 1) (w.heap.size + 1 + 1) (.int .u64 (A1 : Int)) (.int .u64 (B1 : Int)) (.int .u64 (A2 : Int)) (.int .u64 (B2 : Int)) (.int .u64 (A3 : Int)) (.int .u64 (B3 : Int))) w.heap.size 129 (stV 0 0 0 0 0)) := xch_r HR1.out (by omega) (by omega)
        have HB2 : Hid (Below w.heap.size w (xch W1 (w.heap.size + 1) (w.heap.size + 1 + 1) (.int .u64 (A1 : Int)) (.int .u64 (B1 : Int)) (.int .u64 (A2 : Int)) (.int .u64 (B2 : Int)) (.int .u64 (A3 : Int)) (.int .u64 (B3 : Int)))) := xch_b HB1.out (by omega) (by omega)
        clear s0 s1 s2 s3 s4 n0 n1 f0 f1 f2 f3 f4 fn0 fn1 m0 m1 HS1 HN1 HR1 HB1
        generalize (xch W1 (w.heap.size + 1) (w.heap.size + 1 + 1) (.int .u64 (A1 : Int)) (.int .u64 (B1 : Int)) (.int .u64 (A2 : Int)) (.int .u64 (B2 : Int)) (.int .u64 (A3 : Int)) (.int .u64 (B3 : Int))) = W2 at *
        have s0 := HS2.out.cell 0
        simp only [stV, List.getElem?_toArray, List.getElem?_cons_zero] at s0
        have f0 := HS2.out.frozen 0
        go_wp2
        go_roundw
        case rel =>
          have HCz' := HCz.out
          refine ⟨-s, c + 1, y, r, A1, B1, A2, B2, A3, B3, by go_num, by go_num, HI2.out, ?_, by omega, by omega, HR2.out.far (show w.heap.size + 1 ≠ w.heap.size by omega) _, HS2.out.set_ 0 _, HN2.out.far (show w.heap.size + 1 ≠ w.heap.size + 1 + 1 by omega) _, HB2.out.setCell (p := ⟨w.heap.size + 1, 0, none⟩) (show w.heap.size ≤ w.heap.size + 1 by omega) _⟩
          by_cases hz : 0 ≤ c
          · have := HCz' hz; have := HBB.out; omega
          · omega
        case measure => simp [intOf]; omega
      · have i1 : (B2 : Int) ≤ (y : Int) := by omega
        have hs9 := l4 (by omega)
        have i2 : decide ((B1 : Int) + (B2 : Int) ≤ (x : Int) - (y : Int)) = false := by simp; omega
        have hs9i : (B1 : Int) + (B2 : Int) < 18446744073709551616 := by omega
        have i3 : (0 : Int) ≤ (x : Int) - (y : Int) := by omega
        clear l4
        have r0 := HR.out.cell 0
        have r1 := HR.out.cell 1
        have r2 := HR.out.cell 2
        have r3 := HR.out.cell 3
        have r4 := HR.out.cell 4
        simp only [stV, List.getElem?_toArray, List.getElem?_cons_zero, List.getElem?_cons_succ] at r0 r1 r2 r3 r4
        have k0 := HR.out.frozen 0
        have k1 := HR.out.frozen 1
        have k2 := HR.out.frozen 2
        have k3 := HR.out.frozen 3
        have k4 := HR.out.frozen 4
        go_wp2
        all_goals first
          | omega
          | (have e := st_sets (c := .int .i64 c) (a := .int .u64 (A0 : Int)) (b := .int .u64 (B0 : Int)) (d := .int .u64 (A1 : Int)) (e := .int .u64 (B1 : Int)) HR.out
             exact bodyPost_ret (res_s Tryz.results99 rfl (e.cell 0) (e.cell 1) (e.cell 2) (e.cell 3) (e.cell 4)) rfl ⟨c, A0, B0, A1, B1, rfl, hc9, ⟨_, _, _, _, _, _, HI.out⟩, st_setb HBl.out (Nat.le_refl _)⟩)
    · have i1 : decide ((B2 : Int) ≤ (y : Int)) = false := by simp; omega
      clear l4
      have r0 := HR.out.cell 0
      have r1 := HR.out.cell 1
      have r2 := HR.out.cell 2
      have r3 := HR.out.cell 3
      have r4 := HR.out.cell 4
      simp only [stV, List.getElem?_toArray, List.getElem?_cons_zero, List.getElem?_cons_succ] at r0 r1 r2 r3 r4
      have k0 := HR.out.frozen 0
      have k1 := HR.out.frozen 1
      have k2 := HR.out.frozen 2
      have k3 := HR.out.frozen 3
      have k4 := HR.out.frozen 4
      go_wp2
      all_goals first
        | omega
        | (have e := st_sets (c := .int .i64 c) (a := .int .u64 (A0 : Int)) (b := .int .u64 (B0 : Int)) (d := .int .u64 (A1 : Int)) (e := .int .u64 (B1 : Int)) HR.out
           exact bodyPost_ret (res_s Tryz.results99 rfl (e.cell 0) (e.cell 1) (e.cell 2) (e.cell 3) (e.cell 4)) rfl ⟨c, A0, B0, A1, B1, rfl, hc9, ⟨_, _, _, _, _, _, HI.out⟩, st_setb HBl.out (Nat.le_refl _)⟩)
end Go.Proofs.YtbplbbkmfbjkfaaGreatDoor

/- steps.take: what two numbers become by Lehmer's steps. -/
namespace Go.Proofs.YtbplbbkmfbjkfaaGreatDoor
open Go.RowKit

/-- An append of one limb to a slice of the call's own: it lies where it lay, or in a new block. -/
theorem wpList_append_at (w : World) {ops : Array Oper} {rest : List Oper} {o : Oper} {a : Act} {Q : Exit → Act → World → Prop} (hgd : o.guard = none) (s x : Operand)
    (ho : o.op = .call { callee := .builtin .append, args := #[s, x], argTypes := #[22, 22] })
    (B : Nat) (g n c : Nat) (ts : List Nat) (hs : a.eval s = .slice (some ⟨g, 0, none⟩) n c) (hown : Ow w B (.slice (some ⟨g, 0, none⟩) n c) ts) (E : Int) (y cx : Nat) (hE : E = (y : Int)) (hlen : ts.length < 4000000000) (hn : n = ts.length) (hB : B ≤ w.heap.size)
    (hx : a.eval x = .slice (some ⟨w.heap.size, 0, none⟩) 1 cx)
    (h : ∀ g' c' w', Ow w' B (.slice (some ⟨g', 0, none⟩) (n + 1) c') (ts ++ [y]) → (w.alloc (.cells #[.int .u32 E] 79)).grownBy w' (some g) → (g' = g ∨ w.heap.size < g') → wpList Tryz.prog ops Q rest (a.put o.dst (.slice (some ⟨g', 0, none⟩) (n + 1) c')) w') :
    wpList Tryz.prog ops Q (o :: rest) a (w.alloc (.cells #[.int .u32 E] 79)) := by
  subst hE
  subst hn
  obtain ⟨i0, hi0, hz0, hz1, hz2⟩ := info_parts u32_info
  have hown1 : (w.alloc (.cells #[.int .u32 (y : Int)] 79)).ownsRow B 79 1 (.slice (some ⟨g, 0, none⟩) ts.length c) ts.length (ts.map u32c) := World.ownsRow.alloc hown _
  have hcell := cell_one_new w (.int .u32 (y : Int)) 79
  have hB1 : B ≤ (w.alloc (.cells #[.int .u32 (y : Int)] 79)).heap.size := by simp; omega
  have hsz : (w.alloc (.cells #[.int .u32 (y : Int)] 79)).heap.size = w.heap.size + 1 := by simp
  generalize w.alloc (.cells #[.int .u32 (y : Int)] 79) = W at *
  refine wpList_plain hgd fun K hK => ?_
  obtain ⟨v', w', hr, h2, h3, h4⟩ := run_append_own (P := Tryz.prog) W B 22 o.type 79 i0 (.int .u32 0) 1 4 slice_u32 hi0 hz0 hz1 hz2 rfl (by decide) _ ts.length _ hown1 ⟨w.heap.size, 0, none⟩ 1 cx [.int .u32 (y : Int)] rfl hcell (by simp [Value.oneCell']) (by simp only [maxLen]; omega) (by omega) hB1
  have hv : ∃ g' c', v' = .slice (some ⟨g', 0, none⟩) (ts.length + 1) c' ∧ (g' = g ∨ w.heap.size < g') := by
    rcases hown1.2 with ⟨e, _⟩ | ⟨g0, cap, cur, e, hbg, hg, hnc, hcm, hcs, htake⟩
    · cases e
    · injection e with e1 e2 e3
      injection e1 with e1
      injection e1 with e1
      subst e1 e3
      by_cases hroom : ts.length + 1 ≤ c
      · have hr2 := run_append_room (P := Tryz.prog) W 22 o.type 79 i0 slice_u32 hi0 g ts.length c cur hg ⟨w.heap.size, 0, none⟩ 1 cx [.int .u32 (y : Int)] (by rw [hz1]; rfl) hcell (by simp [Value.oneCell']) hroom (by rw [hz1, hcs]; simp; omega)
        rw [hr] at hr2
        injection hr2 with e _
        exact ⟨_, _, e, .inl rfl⟩
      · have hr2 := run_append_grow (P := Tryz.prog) W 22 o.type 79 i0 (.int .u32 0) slice_u32 hi0 hz0 ⟨g, 0, none⟩ ts.length c (ts.map u32c) (by rw [hz1]; simp) (hown1.cells (g := g) rfl) ⟨w.heap.size, 0, none⟩ 1 cx [.int .u32 (y : Int)] (by rw [hz1]; rfl) hcell (by omega) (by omega) (growslice_fits (by omega) (by rw [hz2]; omega))
        rw [hr] at hr2
        injection hr2 with e _
        exact ⟨_, _, e, .inr (by omega)⟩
  obtain ⟨g', c', rfl, hg'⟩ := hv
  unfold Oper.wp execOp
  simp only [ho, resolve, invoke, builtin, Sem.run_bind, Sem.run_pure, Result.andThen_ok, List.map_toArray, List.map_cons, List.map_nil, hs, hx, hr]
  refine hK _ _ (h g' c' w' ?_ h3 hg')
  have e : (ts ++ [y]).map u32c = ts.map u32c ++ [.int .u32 (y : Int)] := by rw [List.map_append]; rfl
  unfold Ow
  rw [e, List.length_append]
  exact h2
/-- A limb of a slice of the call's own. -/
theorem Ow.nlen {w : World} {B g n c : Nat} {ts : List Nat} (h : Ow w B (.slice (some ⟨g, 0, none⟩) n c) ts) : ts.length = n := by
  rcases h.2 with ⟨e, _⟩ | ⟨g0, cap, cur, e, _⟩
  · cases e
  · injection e with _ e _; exact e.symm
theorem Ow.at_ {w : World} {B g n c : Nat} {ts : List Nat} (h : Ow w B (.slice (some ⟨g, 0, none⟩) n c) ts) {j : Nat} (hj : j < n) : w.cell? ⟨g, j, none⟩ = some (.int .u32 (ts[j]?.getD 0 : Nat)) := by
  have e := h.nlen
  subst e
  have e := World.ownsRow.cellAt h j (by omega)
  rw [getD_map ts j hj] at e
  exact e
theorem Ow.fr {w : World} {B g n c : Nat} {ts : List Nat} (h : Ow w B (.slice (some ⟨g, 0, none⟩) n c) ts) (j : Nat) : w.frozen? ⟨g, j, none⟩ = false := by
  have e := h.nlen
  subst e
  exact World.ownsRow.frozenAt h j
theorem Ow.put {w : World} {B g n c : Nat} {ts : List Nat} (h : Ow w B (.slice (some ⟨g, 0, none⟩) n c) ts) (j t : Nat) : Ow (w.setCell ⟨g, j, none⟩ (.int .u32 (t : Int))) B (.slice (some ⟨g, 0, none⟩) n c) (ts.set j t) := by
  have e := h.nlen
  subst e
  have e := (World.ownsRow.stored h j (u32c t)).1
  rw [← List.map_set] at e
  unfold Ow
  rw [List.length_set]
  exact e
theorem Ow.lt {w : World} {B g n c : Nat} {ts : List Nat} (h : Ow w B (.slice (some ⟨g, 0, none⟩) n c) ts) : B ≤ g ∧ g < w.heap.size := World.ownsRow.lt h g rfl
theorem Ow.keep {w w' : World} {B g n c : Nat} {ts : List Nat} {row : Option Nat} (h : Ow w B (.slice (some ⟨g, 0, none⟩) n c) ts) (hg : w.grownBy w' row) (hne : some g ≠ row) : Ow w' B (.slice (some ⟨g, 0, none⟩) n c) ts :=
  World.ownsRow.kept h hg (.inr hne)
theorem Ow.far {w : World} {B g n c : Nat} {ts : List Nat} (h : Ow w B (.slice (some ⟨g, 0, none⟩) n c) ts) {k i : Nat} (hk : k ≠ g) (v : Value) : Ow (w.setCell ⟨k, i, none⟩ v) B (.slice (some ⟨g, 0, none⟩) n c) ts :=
  h.keep (grownBy_setCellAt w k i v) (fun e => by injection e with e; exact hk e.symm)
theorem Ow.drew {w : World} {B : Nat} {v : Value} {ts : List Nat} (h : Ow w B v ts) : Ow w.drew B v ts := h
theorem Ow.drewN {w : World} {B : Nat} {v : Value} {ts : List Nat} (h : Ow w B v ts) (k : Nat) : Ow (w.drewN k) B v ts := h
theorem take_digs' {cs : List Nat} (g : Good cs) {v : Nat} (hv : val cs = v) : cs.take (digs v).length = digs v := by
  have h1 := tr_digs g rfl
  have h2 := tr_len g rfl
  rw [h2] at h1
  rw [← hv]
  exact h1
/-- What take returns: two numbers, each the call's own, in two blocks. -/
def RT (w : World) (G u v : Nat) (e : Ending) (w' : World) : Prop := ∃ g1 c1 g2 c2, e = .returned (.tuple #[.slice (some ⟨g1, 0, none⟩) (digs u).length c1, .slice (some ⟨g2, 0, none⟩) (digs v).length c2]) ∧
  Ow w' G (.slice (some ⟨g1, 0, none⟩) (digs u).length c1) (digs u) ∧ Ow w' G (.slice (some ⟨g2, 0, none⟩) (digs v).length c2) (digs v) ∧ g1 ≠ g2 ∧ Below G w w'

set_option maxRecDepth 100000 in
set_option maxHeartbeats 1600000 in
theorem take_any (w : World) (G ga gb n m ca cb a b : Nat) (c : Int) (A0 B0 A1 B1 : Nat) (hA : Ow w G (.slice (some ⟨ga, 0, none⟩) n ca) (digs a)) (hB : Ow w G (.slice (some ⟨gb, 0, none⟩) m cb) (digs b)) (hne : ga ≠ gb) (hG : G ≤ w.heap.size)
    (hn : (digs a).length = n) (hm : (digs b).length = m) (hmn : m ≤ n) (hn9 : n ≤ 1000000) (hc0 : 0 ≤ c) (_ : c ≤ 4294967296) (ha0 : A0 < 4294967296) (hb0 : B0 < 4294967296) (ha1 : A1 < 4294967296) (hb1 : B1 < 4294967296) (u v : Nat) (hu9 : u < 4294967296 ^ n) (hv9 : v < 4294967296 ^ n)
    (he : c % 2 = 0 → u + B0 * b = A0 * a ∧ v + A1 * a = B1 * b) (ho : c % 2 = 1 → u + A0 * a = B0 * b ∧ v + B1 * b = A1 * a) :
    Calls Tryz.prog 100 #[.agg (stV c A0 B0 A1 B1), .slice (some ⟨ga, 0, none⟩) n ca, .slice (some ⟨gb, 0, none⟩) m cb] w (RT w G u v) := by
  have hga := (World.ownsRow.lt hA ga rfl).2
  have hgb := (World.ownsRow.lt hB gb rfl).2
  have HA := Lib.hid hA
  have HB := Lib.hid hB
  clear hA hB
  go_enter Tryz.func100, Tryz.ntmps100
  go_wp2
  go_loopw [2] (fun bv wr => ∃ g k cc : Nat, m ≤ k ∧ k ≤ n ∧ bv = .slice (some ⟨g, 0, none⟩) k cc ∧ Ow wr G (.slice (some ⟨g, 0, none⟩) k cc) (digs b ++ zer (k - m)) ∧ g ≠ ga ∧ g ≠ w.heap.size ∧ Ow wr G (.slice (some ⟨ga, 0, none⟩) n ca) (digs a) ∧
      Kd wr w.heap.size 129 (stV c A0 B0 A1 B1) ∧ Below G w wr) (fun bv _ => n - (match bv with | .slice _ k _ => k | _ => 0))
  case atStart => exact ⟨gb, m, cb, Nat.le_refl _, hmn, rfl, (HB.out.alloc _).eq (by rw [Nat.sub_self]; exact (List.append_nil _).symm), Ne.symm hne, by omega, HA.out.alloc _, Kd.new w _ rfl _ _, (Below.refl _ _).alloc hG _⟩
  case round =>
    obtain ⟨g, k, cc, hk1, hk2, rfl, hOb, hg1, hg2, hOa, hS, hb⟩ := hrel
    have HOb := Lib.hid hOb
    have HOa := Lib.hid hOa
    have HS := Lib.hid hS
    have HBl := Lib.hid hb
    have hwr := hS.lt
    have hgs := hb.size
    have hgar := (World.ownsRow.lt hOa ga rfl).2
    clear hOb hOa hS hb
    by_cases hlt : k < n
    · have hlen : (digs b ++ zer (k - m)).length = k := by rw [List.length_append, zer_len, hm]; omega
      go_wp2_with (at_builtin; refine wpList_append_at _ rfl _ _ rfl G g k cc _ rfl HOb.out 0 0 1 rfl (by omega) hlen.symm (by omega) rfl ?_; intro g' c' w1 hO1 hgr hgg)
      go_roundw
      case rel =>
        refine ⟨g', k + 1, c', by omega, by omega, rfl, hO1.eq ?_, by omega, by omega, World.ownsRow.kept (HOa.out.alloc _) hgr (.inr (by simp [Value.ownBlock]; omega)), (HS.out.alloc _).grown hgr (by intro e; injection e with e; omega), HOb.out.below HBl.out (by omega) hgr⟩
        rw [List.append_assoc, show k + 1 - m = (k - m) + 1 by omega]
        congr 1
        simp [zer, List.replicate_succ']
      case measure => simp; omega
    · obtain rfl : k = n := by omega
      have HVs : Hid (val (digs b ++ zer (k - m)) = b) := by
        show _ = _
        rw [val_append, digs_val, val_zero (xs := zer (k - m)) (fun x hx => (List.mem_replicate.1 hx).2)]
        rfl
      have HGs : Hid (Good (digs b ++ zer (k - m))) := (digs_good b).append (zer_good _)
      have hys : (digs b ++ zer (k - m)).length = k := HOb.out.nlen
      have HVa : Hid (val (digs a) = a) := digs_val a
      have HGa : Hid (Good (digs a)) := digs_good a
      generalize hYY : digs b ++ zer (k - m) = ys at *
      generalize hXX : digs a = xs at *
      have s0 := HS.out.cell 0
      have s1 := HS.out.cell 1
      have s2 := HS.out.cell 2
      have s3 := HS.out.cell 3
      have s4 := HS.out.cell 4
      simp only [stV, List.getElem?_toArray, List.getElem?_cons_zero, List.getElem?_cons_succ] at s0 s1 s2 s3 s4
      by_cases hp : c % 2 = 1
      · have hp2 : c.tmod 2 = 1 := by rw [Int.tmod_eq_emod_of_nonneg hc0]; exact hp
        have HEQ := Lib.hid (ho hp)
        clear hlt he ho
        go_wp2
        have HK1 : Hid (Kd ((wr.alloc (.cells #[.int .u64 (B0 : Int), .int .u64 (A0 : Int), .int .u64 0, .int .u64 0] 156)).alloc (.cells #[.int .u64 (A1 : Int), .int .u64 (B1 : Int), .int .u64 0, .int .u64 0] 156)) wr.heap.size 156 (blV B0 A0 0 0)) := (Kd.new wr _ rfl _ _).alloc _
        have HK2 : Hid (Kd ((wr.alloc (.cells #[.int .u64 (B0 : Int), .int .u64 (A0 : Int), .int .u64 0, .int .u64 0] 156)).alloc (.cells #[.int .u64 (A1 : Int), .int .u64 (B1 : Int), .int .u64 0, .int .u64 0] 156)) (wr.heap.size + 1) 156 (blV A1 B1 0 0)) := Kd.new _ _ (by simp) _ _
        have HO1 := Lib.hid ((HOb.out.alloc (.cells #[.int .u64 (B0 : Int), .int .u64 (A0 : Int), .int .u64 0, .int .u64 0] 156)).alloc (.cells #[.int .u64 (A1 : Int), .int .u64 (B1 : Int), .int .u64 0, .int .u64 0] 156))
        have HO2 := Lib.hid ((HOa.out.alloc (.cells #[.int .u64 (B0 : Int), .int .u64 (A0 : Int), .int .u64 0, .int .u64 0] 156)).alloc (.cells #[.int .u64 (A1 : Int), .int .u64 (B1 : Int), .int .u64 0, .int .u64 0] 156))
        have HB1 : Hid (Below G w ((wr.alloc (.cells #[.int .u64 (B0 : Int), .int .u64 (A0 : Int), .int .u64 0, .int .u64 0] 156)).alloc (.cells #[.int .u64 (A1 : Int), .int .u64 (B1 : Int), .int .u64 0, .int .u64 0] 156))) := (HBl.out.alloc (by omega) _).alloc (by simp; omega) _
        have hL1 := HOb.out.lt.2
        have hL2 := HOa.out.lt.2
        generalize ((wr.alloc (.cells #[.int .u64 (B0 : Int), .int .u64 (A0 : Int), .int .u64 0, .int .u64 0] 156)).alloc (.cells #[.int .u64 (A1 : Int), .int .u64 (B1 : Int), .int .u64 0, .int .u64 0] 156)) = W0 at *
        clear HOa HOb HBl HS s0 s1 s2 s3 s4
        generalize wr.heap.size = N at *
        go_loopw [57] (fun iv wq => ∃ j : Nat, j ≤ k ∧ iv = .int .i64 (j : Int) ∧ Ow wq G (.slice (some ⟨g, 0, none⟩) k cc) ((blK B0 A0 ys xs j).1 ++ ys.drop j) ∧ Ow wq G (.slice (some ⟨ga, 0, none⟩) k ca) ((blK A1 B1 xs ys j).1 ++ xs.drop j) ∧
            Kd wq N 156 (blV B0 A0 (blK B0 A0 ys xs j).2.1 (blK B0 A0 ys xs j).2.2) ∧ Kd wq (N + 1) 156 (blV A1 B1 (blK A1 B1 xs ys j).2.1 (blK A1 B1 xs ys j).2.2) ∧ Below G w wq) (fun iv _ => k - (intOf iv).toNat)
        case atStart => exact ⟨0, Nat.zero_le _, rfl, HO1.out, HO2.out, HK1.out, HK2.out, HB1.out⟩
        case round =>
          obtain ⟨j, hj, rfl, hU1, hU2, hQ1, hQ2, hb⟩ := hrel
          have HU1 := Lib.hid hU1
          have HU2 := Lib.hid hU2
          have HQ1 := Lib.hid hQ1
          have HQ2 := Lib.hid hQ2
          have HBq := Lib.hid hb
          clear hU1 hU2 hQ1 hQ2 hb HO1 HO2 HK1 HK2 HB1
          have hbd1 := blK_bd hb0 ha0 HGs.out HGa.out j
          have hbd2 := blK_bd ha1 hb1 HGa.out HGs.out j
          have hx9 := HGs.out.get j
          have hy9 := HGa.out.get j
          by_cases hlt : j < k
          · have hc1 := HU1.out.at_ hlt
            have hc2 := HU2.out.at_ hlt
            rw [bl_at] at hc1 hc2
            have HSt1 := Lib.hid (bl_set (p := B0) (m := A0) (xs := ys) (ys := xs) (j := j) (by rw [hys]; exact hlt))
            have HSt2 := Lib.hid (bl_set (p := A1) (m := B1) (xs := xs) (ys := ys) (j := j) (by rw [hn]; exact hlt))
            have HDa : Hid ((blK B0 A0 ys xs (j + 1)).2.1 = blC ((blK B0 A0 ys xs j).2.1 + B0 * ys[j]?.getD 0) ∧ (blK B0 A0 ys xs (j + 1)).2.2 = blT ((blK B0 A0 ys xs j).2.1 + B0 * ys[j]?.getD 0) ((blK B0 A0 ys xs j).2.2 + A0 * xs[j]?.getD 0)) := ⟨rfl, rfl⟩
            have HDb : Hid ((blK A1 B1 xs ys (j + 1)).2.1 = blC ((blK A1 B1 xs ys j).2.1 + A1 * xs[j]?.getD 0) ∧ (blK A1 B1 xs ys (j + 1)).2.2 = blT ((blK A1 B1 xs ys j).2.1 + A1 * xs[j]?.getD 0) ((blK A1 B1 xs ys j).2.2 + B1 * ys[j]?.getD 0)) := ⟨rfl, rfl⟩
            have HLt1 : Hid (g < N) := hL1
            have HLt2 : Hid (ga < N) := hL2
            have hqs := HQ2.out.lt
            generalize ys[j]?.getD 0 = x at *
            generalize xs[j]?.getD 0 = y at *
            generalize (blK B0 A0 ys xs j).2.1 = ka at *
            generalize (blK B0 A0 ys xs j).2.2 = sa at *
            generalize (blK A1 B1 xs ys j).2.1 = kb at *
            generalize (blK A1 B1 xs ys j).2.2 = sb at *
            go_wp2
            go_quiet (fail)
            go_wp2_with fail
            refine (next_any _ N _ B0 A0 ka sa x y (HQ1.out.drewN nq) hb0 ha0 hbd1.1 hbd1.2 hx9 hy9).mono ?_
            rintro e w1 ⟨rfl, hR1, hG1⟩
            have HR1 := Lib.hid hR1
            have HV1 := Lib.hid ((HU1.out.drewN nq).keep hG1 (fun e => by injection e with e; have := HLt1.out; omega))
            have HV2 := Lib.hid ((HU2.out.drewN nq).keep hG1 (fun e => by injection e with e; have := HLt2.out; omega))
            have HR2 := Lib.hid ((HQ2.out.drewN nq).grown hG1 (fun e => by injection e with e; omega))
            have hGN : G ≤ N := by have := HLt1.out; have := HU1.out.lt.1; omega
            have HBr := Lib.hid ((bdrewN HBq.out nq).grown hG1 (Nat.le_trans hG HBq.out.size) (fun b e => by injection e with e; omega))
            clear hR1 hG1 hc1 hc2
            have hc1 := HV1.out.at_ hlt
            have hf1 := HV1.out.fr j
            go_wp2_with fail
            have HN1 : Hid (N ≠ g) := by show _ ≠ _; have := HLt1.out; omega
            refine (next_any _ (N + 1) _ A1 B1 kb sb y x (HR2.out.far (i := j) (show g ≠ N + 1 by have := HLt1.out; omega) _) ha1 hb1 hbd2.1 hbd2.2 hy9 hx9).mono ?_
            rintro e w2 ⟨rfl, hR2, hG2⟩
            have HX1 := Lib.hid ((HV1.out.put j _).keep hG2 (fun e => by injection e with e; have := HLt1.out; omega))
            have HX2 := Lib.hid ((HV2.out.far (i := j) hg1 _).keep hG2 (fun e => by injection e with e; have := HLt2.out; omega))
            have HY1 := Lib.hid ((HR1.out.far (i := j) (Ne.symm HN1.out) _).grown hG2 (fun e => by injection e with e; omega))
            have HY2 := Lib.hid hR2
            have HBs := Lib.hid ((HBr.out.setCell (p := ⟨g, j, none⟩) HU1.out.lt.1 _).grown hG2 (by rw [World.size_setCell]; exact Nat.le_trans hG HBr.out.size) (fun b e => by injection e with e; omega))
            clear hR2 hG2 hc1 hf1
            have hc2 := HX2.out.at_ hlt
            have hf2 := HX2.out.fr j
            go_wp2
            go_roundw
            case rel =>
              have e1 := HX1.out.far (i := j) (Ne.symm hg1) (.int .u32 ((blO (kb + A1 * y) (sb + B1 * x) : Nat) : Int))
              have e2 := HX2.out.put j (blO (kb + A1 * y) (sb + B1 * x))
              rw [HSt1.out] at e1
              rw [HSt2.out] at e2
              refine ⟨j + 1, by omega, by go_num, e1, e2, ?_, ?_, HBs.out.setCell (p := ⟨ga, j, none⟩) HU2.out.lt.1 _⟩
              · have e3 := HY1.out.far (i := j) (show ga ≠ N by have := HLt2.out; omega) (.int .u32 ((blO (kb + A1 * y) (sb + B1 * x) : Nat) : Int))
                rw [← HDa.out.1, ← HDa.out.2] at e3
                exact e3
              · have e3 := HY2.out.far (i := j) (show ga ≠ N + 1 by have := HLt2.out; omega) (.int .u32 ((blO (kb + A1 * y) (sb + B1 * x) : Nat) : Int))
                rw [← HDb.out.1, ← HDb.out.2] at e3
                exact e3
            case measure => simp [intOf]; omega
          · obtain rfl : j = k := by omega
            have HE1 : Hid (val (blK B0 A0 ys xs j).1 = u) := bl_all hys hn hu9 (by rw [HVs.out, HVa.out]; exact HEQ.out.1)
            have HE2 : Hid (val (blK A1 B1 xs ys j).1 = v) := bl_all hn hys hv9 (by rw [HVs.out, HVa.out]; exact HEQ.out.2)
            have HM1 := Lib.hid (HU1.out.toLm ((blK_good _ _ _ _ _).append (HGs.out.drop _)))
            have HM2 := Lib.hid (HU2.out.toLm ((blK_good _ _ _ _ _).append (HGa.out.drop _)))
            have HD1 : Hid (ys.drop j = []) := List.drop_of_length_le (by rw [hys]; exact Nat.le_refl _)
            have HD2 : Hid (xs.drop j = []) := List.drop_of_length_le (by rw [hn]; exact Nat.le_refl _)
            rw [HD1.out, List.append_nil] at HM1 HU1
            rw [HD2.out, List.append_nil] at HM2 HU2
            go_wp2_with fail
            refine (trim_any _ _ _ _ _ _ u HM1.out HE1.out).mono ?_
            rintro e w1 ⟨rfl, rfl⟩
            go_wp2_with fail
            refine (trim_any _ _ _ _ _ _ v HM2.out HE2.out).mono ?_
            rintro e w1 ⟨rfl, rfl⟩
            go_wp2
            go_ret2
            have hl1 : (digs u).length ≤ j := digs_len.2 hu9
            have hl2 : (digs v).length ≤ j := digs_len.2 hv9
            refine ⟨_, _, _, _, rfl, (HU1.out.shrink hl1).eq (take_digs' (blK_good _ _ _ _ _) HE1.out), (HU2.out.shrink hl2).eq (take_digs' (blK_good _ _ _ _ _) HE2.out), hg1, HBq.out⟩
      · have hp2 : c % 2 = 0 := by omega
        have hp3 : c.tmod 2 = 0 := by rw [Int.tmod_eq_emod_of_nonneg hc0]; exact hp2
        have HEQ := Lib.hid (he hp2)
        clear hlt hp he ho
        go_wp2
        have HK1 : Hid (Kd ((wr.alloc (.cells #[.int .u64 (A0 : Int), .int .u64 (B0 : Int), .int .u64 0, .int .u64 0] 156)).alloc (.cells #[.int .u64 (B1 : Int), .int .u64 (A1 : Int), .int .u64 0, .int .u64 0] 156)) wr.heap.size 156 (blV A0 B0 0 0)) := (Kd.new wr _ rfl _ _).alloc _
        have HK2 : Hid (Kd ((wr.alloc (.cells #[.int .u64 (A0 : Int), .int .u64 (B0 : Int), .int .u64 0, .int .u64 0] 156)).alloc (.cells #[.int .u64 (B1 : Int), .int .u64 (A1 : Int), .int .u64 0, .int .u64 0] 156)) (wr.heap.size + 1) 156 (blV B1 A1 0 0)) := Kd.new _ _ (by simp) _ _
        have HO1 := Lib.hid ((HOa.out.alloc (.cells #[.int .u64 (A0 : Int), .int .u64 (B0 : Int), .int .u64 0, .int .u64 0] 156)).alloc (.cells #[.int .u64 (B1 : Int), .int .u64 (A1 : Int), .int .u64 0, .int .u64 0] 156))
        have HO2 := Lib.hid ((HOb.out.alloc (.cells #[.int .u64 (A0 : Int), .int .u64 (B0 : Int), .int .u64 0, .int .u64 0] 156)).alloc (.cells #[.int .u64 (B1 : Int), .int .u64 (A1 : Int), .int .u64 0, .int .u64 0] 156))
        have HB1 : Hid (Below G w ((wr.alloc (.cells #[.int .u64 (A0 : Int), .int .u64 (B0 : Int), .int .u64 0, .int .u64 0] 156)).alloc (.cells #[.int .u64 (B1 : Int), .int .u64 (A1 : Int), .int .u64 0, .int .u64 0] 156))) := (HBl.out.alloc (by omega) _).alloc (by simp; omega) _
        have hL1 := HOa.out.lt.2
        have hL2 := HOb.out.lt.2
        generalize ((wr.alloc (.cells #[.int .u64 (A0 : Int), .int .u64 (B0 : Int), .int .u64 0, .int .u64 0] 156)).alloc (.cells #[.int .u64 (B1 : Int), .int .u64 (A1 : Int), .int .u64 0, .int .u64 0] 156)) = W0 at *
        clear HOa HOb HBl HS s0 s1 s2 s3 s4
        generalize wr.heap.size = N at *
        go_loopw [57] (fun iv wq => ∃ j : Nat, j ≤ k ∧ iv = .int .i64 (j : Int) ∧ Ow wq G (.slice (some ⟨ga, 0, none⟩) k ca) ((blK A0 B0 xs ys j).1 ++ xs.drop j) ∧ Ow wq G (.slice (some ⟨g, 0, none⟩) k cc) ((blK B1 A1 ys xs j).1 ++ ys.drop j) ∧
            Kd wq N 156 (blV A0 B0 (blK A0 B0 xs ys j).2.1 (blK A0 B0 xs ys j).2.2) ∧ Kd wq (N + 1) 156 (blV B1 A1 (blK B1 A1 ys xs j).2.1 (blK B1 A1 ys xs j).2.2) ∧ Below G w wq) (fun iv _ => k - (intOf iv).toNat)
        case atStart => exact ⟨0, Nat.zero_le _, rfl, HO1.out, HO2.out, HK1.out, HK2.out, HB1.out⟩
        case round =>
          obtain ⟨j, hj, rfl, hU1, hU2, hQ1, hQ2, hb⟩ := hrel
          have HU1 := Lib.hid hU1
          have HU2 := Lib.hid hU2
          have HQ1 := Lib.hid hQ1
          have HQ2 := Lib.hid hQ2
          have HBq := Lib.hid hb
          clear hU1 hU2 hQ1 hQ2 hb HO1 HO2 HK1 HK2 HB1
          have hbd1 := blK_bd ha0 hb0 HGa.out HGs.out j
          have hbd2 := blK_bd hb1 ha1 HGs.out HGa.out j
          have hx9 := HGa.out.get j
          have hy9 := HGs.out.get j
          by_cases hlt : j < k
          · have hc1 := HU1.out.at_ hlt
            have hc2 := HU2.out.at_ hlt
            rw [bl_at] at hc1 hc2
            have HSt1 := Lib.hid (bl_set (p := A0) (m := B0) (xs := xs) (ys := ys) (j := j) (by rw [hn]; exact hlt))
            have HSt2 := Lib.hid (bl_set (p := B1) (m := A1) (xs := ys) (ys := xs) (j := j) (by rw [hys]; exact hlt))
            have HDa : Hid ((blK A0 B0 xs ys (j + 1)).2.1 = blC ((blK A0 B0 xs ys j).2.1 + A0 * xs[j]?.getD 0) ∧ (blK A0 B0 xs ys (j + 1)).2.2 = blT ((blK A0 B0 xs ys j).2.1 + A0 * xs[j]?.getD 0) ((blK A0 B0 xs ys j).2.2 + B0 * ys[j]?.getD 0)) := ⟨rfl, rfl⟩
            have HDb : Hid ((blK B1 A1 ys xs (j + 1)).2.1 = blC ((blK B1 A1 ys xs j).2.1 + B1 * ys[j]?.getD 0) ∧ (blK B1 A1 ys xs (j + 1)).2.2 = blT ((blK B1 A1 ys xs j).2.1 + B1 * ys[j]?.getD 0) ((blK B1 A1 ys xs j).2.2 + A1 * xs[j]?.getD 0)) := ⟨rfl, rfl⟩
            have HLt1 : Hid (ga < N) := hL1
            have HLt2 : Hid (g < N) := hL2
            have hqs := HQ2.out.lt
            generalize xs[j]?.getD 0 = x at *
            generalize ys[j]?.getD 0 = y at *
            generalize (blK A0 B0 xs ys j).2.1 = ka at *
            generalize (blK A0 B0 xs ys j).2.2 = sa at *
            generalize (blK B1 A1 ys xs j).2.1 = kb at *
            generalize (blK B1 A1 ys xs j).2.2 = sb at *
            go_wp2
            go_quiet (fail)
            go_wp2_with fail
            refine (next_any _ N _ A0 B0 ka sa x y (HQ1.out.drewN nq) ha0 hb0 hbd1.1 hbd1.2 hx9 hy9).mono ?_
            rintro e w1 ⟨rfl, hR1, hG1⟩
            have HR1 := Lib.hid hR1
            have HV1 := Lib.hid ((HU1.out.drewN nq).keep hG1 (fun e => by injection e with e; have := HLt1.out; omega))
            have HV2 := Lib.hid ((HU2.out.drewN nq).keep hG1 (fun e => by injection e with e; have := HLt2.out; omega))
            have HR2 := Lib.hid ((HQ2.out.drewN nq).grown hG1 (fun e => by injection e with e; omega))
            have hGN : G ≤ N := by have := HLt1.out; have := HU1.out.lt.1; omega
            have HBr := Lib.hid ((bdrewN HBq.out nq).grown hG1 (Nat.le_trans hG HBq.out.size) (fun b e => by injection e with e; omega))
            clear hR1 hG1 hc1 hc2
            have hc1 := HV1.out.at_ hlt
            have hf1 := HV1.out.fr j
            go_wp2_with fail
            have HN1 : Hid (N ≠ ga) := by show _ ≠ _; have := HLt1.out; omega
            refine (next_any _ (N + 1) _ B1 A1 kb sb y x (HR2.out.far (i := j) (show ga ≠ N + 1 by have := HLt1.out; omega) _) hb1 ha1 hbd2.1 hbd2.2 hy9 hx9).mono ?_
            rintro e w2 ⟨rfl, hR2, hG2⟩
            have HX1 := Lib.hid ((HV1.out.put j _).keep hG2 (fun e => by injection e with e; have := HLt1.out; omega))
            have HX2 := Lib.hid ((HV2.out.far (i := j) (Ne.symm hg1) _).keep hG2 (fun e => by injection e with e; have := HLt2.out; omega))
            have HY1 := Lib.hid ((HR1.out.far (i := j) (Ne.symm HN1.out) _).grown hG2 (fun e => by injection e with e; omega))
            have HY2 := Lib.hid hR2
            have HBs := Lib.hid ((HBr.out.setCell (p := ⟨ga, j, none⟩) HU1.out.lt.1 _).grown hG2 (by rw [World.size_setCell]; exact Nat.le_trans hG HBr.out.size) (fun b e => by injection e with e; omega))
            clear hR2 hG2 hc1 hf1
            have hc2 := HX2.out.at_ hlt
            have hf2 := HX2.out.fr j
            go_wp2
            go_roundw
            case rel =>
              have e1 := HX1.out.far (i := j) hg1 (.int .u32 ((blO (kb + B1 * y) (sb + A1 * x) : Nat) : Int))
              have e2 := HX2.out.put j (blO (kb + B1 * y) (sb + A1 * x))
              rw [HSt1.out] at e1
              rw [HSt2.out] at e2
              refine ⟨j + 1, by omega, by go_num, e1, e2, ?_, ?_, HBs.out.setCell (p := ⟨g, j, none⟩) HU2.out.lt.1 _⟩
              · have e3 := HY1.out.far (i := j) (show g ≠ N by have := HLt2.out; omega) (.int .u32 ((blO (kb + B1 * y) (sb + A1 * x) : Nat) : Int))
                rw [← HDa.out.1, ← HDa.out.2] at e3
                exact e3
              · have e3 := HY2.out.far (i := j) (show g ≠ N + 1 by have := HLt2.out; omega) (.int .u32 ((blO (kb + B1 * y) (sb + A1 * x) : Nat) : Int))
                rw [← HDb.out.1, ← HDb.out.2] at e3
                exact e3
            case measure => simp [intOf]; omega
          · obtain rfl : j = k := by omega
            have HE1 : Hid (val (blK A0 B0 xs ys j).1 = u) := bl_all hn hys hu9 (by rw [HVa.out, HVs.out]; exact HEQ.out.1)
            have HE2 : Hid (val (blK B1 A1 ys xs j).1 = v) := bl_all hys hn hv9 (by rw [HVa.out, HVs.out]; exact HEQ.out.2)
            have HM1 := Lib.hid (HU1.out.toLm ((blK_good _ _ _ _ _).append (HGa.out.drop _)))
            have HM2 := Lib.hid (HU2.out.toLm ((blK_good _ _ _ _ _).append (HGs.out.drop _)))
            have HD1 : Hid (xs.drop j = []) := List.drop_of_length_le (by rw [hn]; exact Nat.le_refl _)
            have HD2 : Hid (ys.drop j = []) := List.drop_of_length_le (by rw [hys]; exact Nat.le_refl _)
            rw [HD1.out, List.append_nil] at HM1 HU1
            rw [HD2.out, List.append_nil] at HM2 HU2
            go_wp2_with fail
            refine (trim_any _ _ _ _ _ _ u HM1.out HE1.out).mono ?_
            rintro e w1 ⟨rfl, rfl⟩
            go_wp2_with fail
            refine (trim_any _ _ _ _ _ _ v HM2.out HE2.out).mono ?_
            rintro e w1 ⟨rfl, rfl⟩
            go_wp2
            go_ret2
            have hl1 : (digs u).length ≤ j := digs_len.2 hu9
            have hl2 : (digs v).length ≤ j := digs_len.2 hv9
            refine ⟨_, _, _, _, rfl, (HU1.out.shrink hl1).eq (take_digs' (blK_good _ _ _ _ _) HE1.out), (HU2.out.shrink hl2).eq (take_digs' (blK_good _ _ _ _ _) HE2.out), (Ne.symm hg1), HBq.out⟩
end Go.Proofs.YtbplbbkmfbjkfaaGreatDoor

