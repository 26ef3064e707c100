/- The reference's digit. -/
import Derived.Test.YtdbilpmhejigpaaR13
import Derived.Test.YtdbilpmhejigpaaDgM
import Derived.Laws.MathBits
import Derived.Deep.DeepCutAuto
import Derived.Deep.CutBlock
namespace Go.Proofs.Ytdbilpmhejigpaa
open Go.RowKit

theorem spl_get {cs M : List Nat} {off k : Nat} (h : off + M.length ≤ cs.length) (hk : k < M.length) : (spl cs off M)[off + k]?.getD 0 = M[k]?.getD 0 := by
  have hl : (cs.take off).length = off := by rw [List.length_take]; omega
  unfold spl
  rw [List.getElem?_append_right (by omega), hl, Nat.add_sub_cancel_left, List.getElem?_append_left hk]
theorem spl_seti {cs M : List Nat} {off k : Nat} (t : Nat) (h : off + M.length ≤ cs.length) (hk : k < M.length) : (spl cs off M).set (off + k) t = spl cs off (M.set k t) := by
  have hl : (cs.take off).length = off := by rw [List.length_take]; omega
  unfold spl
  rw [List.set_append_right _ _ (by omega), hl, Nat.add_sub_cancel_left, List.set_append_left _ _ hk, List.length_set]

set_option maxRecDepth 100000 in
set_option maxHeartbeats 4000000 in
theorem rdigit_any (w : World) (g off c n cb : Nat) (B : Option Addr) (cs ys : List Nat) (V : Nat) (hO : Ob w g cs) (hG : Good cs) (hB : Lm w g B n cb ys) (hn2 : 2 ≤ n) (hn9 : n ≤ 1000000000) (hc : n + 1 ≤ c) (hc9 : c ≤ 9223372036854775807)
    (hoff : off + n < cs.length) (hV : val ys = V) (hV0 : 0 < V) (h1 : 1 ≤ ys[n - 1]?.getD 0) (hle : cs[off + n]?.getD 0 ≤ ys[n - 1]?.getD 0)
    (hX : val ((cs.drop off).take (n + 1)) / V ≤ gs (ys[n - 1]?.getD 0) (ys[n - 2]?.getD 0) (cs[off + n]?.getD 0) (cs[off + (n - 1)]?.getD 0) (cs[off + (n - 2)]?.getD 0)) :
    Calls Try.prog 63 #[.slice (some ⟨g, off, none⟩) (n + 1) c, .slice B n cb] w fun e w' => e = .returned (.int .u32 ((val ((cs.drop off).take (n + 1)) / V : Nat) : Int)) ∧
      (∃ P, P.length = n + 1 ∧ Good P ∧ val P = val ((cs.drop off).take (n + 1)) % V ∧ Ob w' g (spl cs off P)) ∧ w.grownBy w' (some g) := by
  have hcap := hB.cap
  have hmax := hB.max
  have g1 := hB.good.get (n - 1)
  have g2 := hB.good.get (n - 2)
  have gh := hG.get (off + n)
  have gu1 := hG.get (off + (n - 1))
  have gu2 := hG.get (off + (n - 2))
  have ch := hO.cell (i := off + n) (by omega)
  have cu1 := hO.cell (i := off + (n - 1)) (by omega)
  have cu2 := hO.cell (i := off + (n - 2)) (by omega)
  have hgs := hO.lt
  have HO := Lib.hid hO
  have HG := Lib.hid hG
  have HB := Lib.hid hB
  have HV := Lib.hid hV
  have HOff := Lib.hid hoff
  obtain ⟨X, HXd⟩ : ∃ X, Hid (X = val ((cs.drop off).take (n + 1))) := ⟨_, rfl⟩
  rw [← HXd.out] at hX ⊢
  obtain ⟨bb, bo, rfl, hbb, cb1⟩ := hB.cell (k := n - 1) (by omega)
  obtain ⟨bb', bo', e, _, cb2⟩ := hB.cell (k := n - 2) (by omega)
  cases e
  clear hO hB hG hV
  generalize ys[n - 1]?.getD 0 = b1 at *
  generalize ys[n - 2]?.getD 0 = b2 at *
  generalize cs[off + n]?.getD 0 = h at *
  generalize cs[off + (n - 1)]?.getD 0 = u1 at *
  generalize cs[off + (n - 2)]?.getD 0 = u2 at *
  have i1 : ((n : Int) - 1).toNat = n - 1 := by omega
  have i2 : ((n : Int) - 2).toNat = n - 2 := by omega
  obtain ⟨hi, hhi⟩ : ∃ hi : Nat, hi = h * 4294967296 + u1 := ⟨_, rfl⟩
  have hq0' : (hi : Int) / (b1 : Int) = ((hi / b1 : Nat) : Int) := by rw [← Int.natCast_ediv]
  have hr0' : (hi : Int) % (b1 : Int) = ((hi % b1 : Nat) : Int) := by rw [← Int.natCast_emod]
  have hq0 : (hi : Int).tdiv (b1 : Int) = ((hi / b1 : Nat) : Int) := by rw [Int.tdiv_eq_ediv_of_nonneg (by omega), ← Int.natCast_ediv]
  have hr0 : (hi : Int).tmod (b1 : Int) = ((hi % b1 : Nat) : Int) := by rw [Int.tmod_eq_emod_of_nonneg (by omega), ← Int.natCast_emod]
  have hb0 : ¬ ((b1 : Int) = 0) := by omega
  have hdm := Nat.div_add_mod hi b1
  have hrl := Nat.mod_lt hi (show 0 < b1 by omega)
  have hD9 := Nat.div_le_self hi b1
  generalize hi / b1 = D0 at *
  generalize hi % b1 = R0 at *
  have hi9 : hi < 18446744073709551616 := by omega
  have hbit : IntKind.u64.wrap ((h : Int) * 4294967296 + (u1 : Int)) = (hi : Int) := by rw [IntKind.wrap_u64]; omega
  obtain ⟨Q, hQ⟩ : ∃ Q, Q = gs b1 b2 h u1 u2 := ⟨_, rfl⟩
  have hQ0 : Q ≤ D0 := by rw [hQ]; exact gs_start gu2 (by rw [← hhi]; exact hdm) hrl
  rw [← hQ] at hX
  have HI := Lib.hid hhi
  have HQ := Lib.hid hQ
  have HXq := Lib.hid hX
  clear hhi hQ hX
  go_enter Try.func63, Try.ntmps63
  go_wp2
  go_quiet (fail)
  go_wp2
  go_quiet (fail)
  go_upto_block 0 with (fail)
  go_cut [7] (fun s7 wx => ∃ D d : Nat, s7 = .int .u64 (D : Int) ∧ Q ≤ D ∧ D ≤ 4294967295 ∧ wx = w.drewN d)
  case first =>
    go_wp2
    go_loopw [7, 8] (fun x r wr => ∃ D R d : Nat, x = .int .u64 (D : Int) ∧ r = .int .u64 (R : Int) ∧ D * b1 + R = hi ∧ Q ≤ D ∧ wr = w.drewN d) (fun x _ _ => (intOf x).toNat)
    case atStart => exact ⟨D0, R0, _, rfl, rfl, by rw [Nat.mul_comm]; exact hdm, hQ0, drewN_add w _ _⟩
    case round =>
      obtain ⟨D, R, d, rfl, rfl, hDR, hQD, rfl⟩ := hrel
      have hDle : D ≤ hi := by
        have := Nat.le_mul_of_pos_right D (show 0 < b1 by omega)
        omega
      have hRle : R ≤ hi := by omega
      have HDR := Lib.hid hDR
      clear hDR
      by_cases hd : 4294967296 ≤ D
      · have hlt : Q < D := by rw [HQ.out]; exact gs_lt (by omega) (by rw [← HI.out]; exact HDR.out) (.inl (by omega))
        have HDM : Hid ((D - 1) * b1 + (R + b1) = D * b1 + R) := by show _ = _; rw [Nat.sub_mul, Nat.one_mul]; have := Nat.le_mul_of_pos_left b1 (show 0 < D by omega); omega
        have hRb : R + b1 ≤ hi := by have := HDM.out; have := HDR.out; omega
        have hdi : (4294967296 : Int) ≤ (D : Int) := by omega
        go_wp2_with fail
        go_quiet (fail)
        go_wp2
        all_goals
          first
          | (go_meet; exact ⟨D - 1, _, by go_num, by omega, by omega, by first | exact drewN_add w _ _ | rfl⟩)
          | (go_roundw
             case rel => exact ⟨D - 1, R + b1, _, by go_num, by go_num, by rw [← HDR.out]; exact HDM.out, by omega, rfl⟩
             case measure => simp [intOf]; omega)
      · have hdd : decide ((4294967296 : Int) ≤ (D : Int)) = false := by simp; omega
        by_cases hR : R < 4294967296
        · have hRi : (R : Int) < 4294967296 := by omega
          have hmul := mul_bd (show D < 4294967296 by omega) g2
          obtain ⟨T, hT⟩ : ∃ T : Nat, T = R * 4294967296 + u2 := ⟨_, rfl⟩
          have hbit2 : IntKind.u64.wrap ((R : Int) * 4294967296 + (u2 : Int)) = (T : Int) := by rw [IntKind.wrap_u64]; omega
          have HT := Lib.hid hT
          clear hT
          by_cases hp : T < D * b2
          · have hlt : Q < D := by rw [HQ.out]; exact gs_lt (by omega) (by rw [← HI.out]; exact HDR.out) (.inr (by rw [← HT.out]; exact hp))
            have HDM : Hid ((D - 1) * b1 + (R + b1) = D * b1 + R) := by show _ = _; rw [Nat.sub_mul, Nat.one_mul]; have := Nat.le_mul_of_pos_left b1 (show 0 < D by omega); omega
            have hRb : R + b1 ≤ hi := by have := HDM.out; have := HDR.out; omega
            have hpi : (T : Int) < (D : Int) * (b2 : Int) := by rw [← Int.natCast_mul]; omega
            clear hp
            by_cases hR2 : R + b1 < 4294967296
            case' pos => have hR2i : (R : Int) + (b1 : Int) < 4294967296 := by omega
            case' pos => have hR2d : decide ((4294967296 : Int) ≤ (R : Int) + (b1 : Int)) = false := by simp; omega
            case' neg => have hR2i : (4294967296 : Int) ≤ (R : Int) + (b1 : Int) := by omega
            all_goals have hD1i : (D : Int) - 1 < 4294967296 := by omega
            all_goals clear hR2
            all_goals
              go_wp2_with fail
              go_quiet (fail)
              go_wp2
            · go_meet
              exact ⟨D - 1, _, by go_num, by omega, by omega, by first | exact drewN_add w _ _ | rfl⟩
            · go_roundw
              case rel => exact ⟨D - 1, R + b1, _, by go_num, by go_num, by rw [← HDR.out]; exact HDM.out, by omega, rfl⟩
              case measure => simp [intOf]; omega
          · have hpd : decide ((T : Int) < (D : Int) * (b2 : Int)) = false := by rw [← Int.natCast_mul]; simp; omega
            go_wp2_with fail
            go_quiet (fail)
            go_wp2
            go_meet
            exact ⟨D, _, rfl, hQD, by omega, drewN_add w _ _⟩
        · have hRd : decide ((R : Int) < 4294967296) = false := by simp; omega
          go_wp2_with fail
          go_quiet (fail)
          go_wp2
          go_meet
          exact ⟨D, _, rfl, hQD, by omega, drewN_add w _ _⟩
  case rest =>
    obtain ⟨D, d, rfl, hQD, hDq, rfl⟩ := hcut
    clear hq0' hr0' hq0 hr0 hb0 hdm hrl hD9 hbit hQ0 hle i1 i2 ch cu1 cu2 cb1 cb2 gh gu1 gu2 g2 hi9 HI hoff
    have HXD : Hid (X / V ≤ D) := Nat.le_trans HXq.out hQD
    clear HXq hQD HQ
    have HCar := Lib.hid (fun k => sbK_carry (HG.out.drop off) HB.out.good (show D < 4294967296 by omega) k)
    go_wp2
    go_loopw [9, 10, 11] (fun bw cy i wr => ∃ k cc bw' : Nat, k ≤ n + 1 ∧ i = .int .i64 k ∧ cy = .int .u64 (cc : Int) ∧ bw = .int .i64 (bw' : Int) ∧ bw' ≤ 1 ∧ cc + bw' = (sbK (cs.drop off) ys D k).2 ∧ (n < k → cc = 0) ∧ Ob wr g (spl cs off (sbK (cs.drop off) ys D k).1) ∧ w.grownBy wr (some g)) (fun _ _ i _ => n + 1 - (intOf i).toNat)
    case atStart => exact ⟨0, 0, 0, Nat.zero_le _, rfl, rfl, rfl, Nat.zero_le _, rfl, fun _ => rfl, by show Ob _ g (spl cs off []); rw [spl_nil]; exact HO.out, grownBy_drewN (World.grownBy.refl w _) d⟩
    case round =>
      obtain ⟨k, cc, bw, hk, rfl, rfl, rfl, hbw, hcb, hcz, hOk, hgk⟩ := hrel
      by_cases hkn : k ≤ n
      · have hoff := HOff.out
        have hln := sbK_len (cs.drop off) ys D k
        have hct := hOk.cell (i := off + k) (by rw [spl_len (by omega)]; omega)
        have hat := spl_at (cs := cs) (off := off) (ts := (sbK (cs.drop off) ys D k).1) (by omega)
        rw [hln] at hat
        rw [hat] at hct
        have hfr := hOk.frozen (off + k)
        have hpg := HG.out.get (off + k)
        have hcl := HCar.out k
        have hyg := HB.out.good.get k
        have hmul := mul_bd (show D < 4294967296 by omega) hyg
        have HCb := Lib.hid hcb
        have HOk := Lib.hid hOk
        have HGk := Lib.hid hgk
        have HLn := Lib.hid hln
        have hcl2 : cc < 4294967296 := by omega
        clear hcb hOk hgk hln hat hcl hcz hoff
        have HFin : Hid (∀ (wz : World) (E bw2 : Nat), E = cc + ys[k]?.getD 0 * D → bw2 = (if cs[off + k]?.getD 0 < E % 4294967296 + bw then 1 else 0) → Ob wz g ((spl cs off (sbK (cs.drop off) ys D k).1).set (off + k) ((cs[off + k]?.getD 0 + 8589934592 - E % 4294967296 - bw) % 4294967296)) → w.grownBy wz (some g) →
            ∃ k' cc' bw' : Nat, k' ≤ n + 1 ∧ Value.int .i64 ((k : Int) + 1) = .int .i64 k' ∧ Value.int .u64 ((E : Int) / 4294967296) = .int .u64 (cc' : Int) ∧ Value.int .i64 (bw2 : Int) = .int .i64 (bw' : Int) ∧ bw' ≤ 1 ∧ cc' + bw' = (sbK (cs.drop off) ys D k').2 ∧ (n < k' → cc' = 0) ∧ Ob wz g (spl cs off (sbK (cs.drop off) ys D k').1) ∧ w.grownBy wz (some g)) := by
          intro wz E bw2 h1 h2 h3 h4
          have hst := dg_step (m := ys[k]?.getD 0 * D) HCb.out hbw hpg
          rw [← h1, ← h2] at hst
          have hdr : (cs.drop off)[k]?.getD 0 = cs[off + k]?.getD 0 := by rw [List.getElem?_drop]
          have e2 : (sbK (cs.drop off) ys D (k + 1)).2 = ((sbK (cs.drop off) ys D k).2 + ys[k]?.getD 0 * D) / 4294967296 + (if (cs.drop off)[k]?.getD 0 < ((sbK (cs.drop off) ys D k).2 + ys[k]?.getD 0 * D) % 4294967296 then 1 else 0) := rfl
          have e1 : (sbK (cs.drop off) ys D (k + 1)).1 = (sbK (cs.drop off) ys D k).1 ++ [((cs.drop off)[k]?.getD 0 + 4294967296 - ((sbK (cs.drop off) ys D k).2 + ys[k]?.getD 0 * D) % 4294967296) % 4294967296] := rfl
          rw [hdr] at e1 e2
          refine ⟨k + 1, E / 4294967296, bw2, by omega, by go_num, congrArg (Value.int IntKind.u64) (Int.natCast_ediv _ _).symm, rfl, by rw [h2]; split <;> omega, by rw [e2, hst.2], ?_, ?_, h4⟩
          · intro hlt
            have hz := getD_over (xs := ys) (k := k) (by rw [HB.out.len]; omega)
            rw [hz, Nat.zero_mul, Nat.add_zero] at h1
            rw [h1]
            exact Nat.div_eq_of_lt hcl2
          · have hs := spl_set (cs := cs) (off := off) (ts := (sbK (cs.drop off) ys D k).1) ((cs[off + k]?.getD 0 + 8589934592 - E % 4294967296 - bw) % 4294967296) (by have := HOff.out; rw [HLn.out]; omega)
            rw [HLn.out] at hs
            rw [e1, ← hst.1, ← hs]
            exact h3
        by_cases hkl : k < n
        · obtain ⟨b1', bo1', e1, _, hcy⟩ := (HB.out.grownLt HGk.out (Nat.le_of_lt hgs)).cell hkl
          cases e1
          obtain ⟨E, hE⟩ : ∃ E : Nat, E = cc + ys[k]?.getD 0 * D := ⟨_, rfl⟩
          rw [Nat.mul_comm] at hmul
          have hE9 : E < 18446744073709551616 := by omega
          have hEw : IntKind.u64.wrap ((cc : Int) + IntKind.u64.wrap ((D : Int) * ((ys[k]?.getD 0 : Nat) : Int))) = (E : Int) := by
            rw [← Int.natCast_mul, Nat.mul_comm, IntKind.wrap_u64, IntKind.wrap_u64]
            omega
          obtain ⟨m, hm⟩ : ∃ m, m = E % 4294967296 := ⟨_, rfl⟩
          have hand : bits .and .u64 (E : Int) 4294967295 = (m : Int) := by rw [and_low32 _ (by omega) (by omega), hm]; omega
          have hm9 : m < 4294967296 := by omega
          have HE := Lib.hid hE
          have HM := Lib.hid hm
          clear hE hmul hm
          by_cases hng : cs[off + k]?.getD 0 < m + bw
          · have hti : ((cs[off + k]?.getD 0 : Nat) : Int) - (m : Int) - (bw : Int) < 0 := by omega
            go_wp2
            go_roundw
            case rel =>
              have e3 : (((cs[off + k]?.getD 0 : Nat) : Int) - (m : Int) - (bw : Int) + 4294967296) = (((cs[off + k]?.getD 0 + 8589934592 - E % 4294967296 - bw) % 4294967296 : Nat) : Int) := by have := HM.out; omega
              rw [e3]
              exact HFin.out _ E 1 HE.out (by rw [if_pos (by have := HM.out; omega)]) (HOk.out.set_ (off + k) _) (grownBy_trans HGk.out (grownBy_setCellAt _ _ _ _))
            case measure => simp [intOf]; omega
          · have hti : 0 ≤ ((cs[off + k]?.getD 0 : Nat) : Int) - (m : Int) - (bw : Int) := by omega
            have htd : decide (((cs[off + k]?.getD 0 : Nat) : Int) - (m : Int) - (bw : Int) < 0) = false := by simp; omega
            go_wp2
            go_roundw
            case rel =>
              have e3 : (((cs[off + k]?.getD 0 : Nat) : Int) - (m : Int) - (bw : Int)) = (((cs[off + k]?.getD 0 + 8589934592 - E % 4294967296 - bw) % 4294967296 : Nat) : Int) := by have := HM.out; omega
              rw [e3]
              exact HFin.out _ E 0 HE.out (by rw [if_neg (by have := HM.out; omega)]) (HOk.out.set_ (off + k) _) (grownBy_trans HGk.out (grownBy_setCellAt _ _ _ _))
            case measure => simp [intOf]; omega
        · obtain rfl : k = n := by omega
          have hand : bits .and .u64 (cc : Int) 4294967295 = (cc : Int) := by rw [and_low32 _ (by omega) (by omega)]; omega
          have HZ : Hid (cc = cc + ys[k]?.getD 0 * D) := by
            show _ = _
            rw [getD_over (xs := ys) (k := k) (by rw [HB.out.len]; omega), Nat.zero_mul, Nat.add_zero]
          clear hmul
          by_cases hng : cs[off + k]?.getD 0 < cc + bw
          · have hti : ((cs[off + k]?.getD 0 : Nat) : Int) - (cc : Int) - (bw : Int) < 0 := by omega
            go_wp2
            go_roundw
            case rel =>
              have e3 : (((cs[off + k]?.getD 0 : Nat) : Int) - (cc : Int) - (bw : Int) + 4294967296) = (((cs[off + k]?.getD 0 + 8589934592 - cc % 4294967296 - bw) % 4294967296 : Nat) : Int) := by omega
              rw [e3]
              exact HFin.out _ cc 1 HZ.out (by rw [if_pos (by omega)]) (HOk.out.set_ (off + k) _) (grownBy_trans HGk.out (grownBy_setCellAt _ _ _ _))
            case measure => simp [intOf]
          · have hti : 0 ≤ ((cs[off + k]?.getD 0 : Nat) : Int) - (cc : Int) - (bw : Int) := by omega
            have htd : decide (((cs[off + k]?.getD 0 : Nat) : Int) - (cc : Int) - (bw : Int) < 0) = false := by simp; omega
            go_wp2
            go_roundw
            case rel =>
              have e3 : (((cs[off + k]?.getD 0 : Nat) : Int) - (cc : Int) - (bw : Int)) = (((cs[off + k]?.getD 0 + 8589934592 - cc % 4294967296 - bw) % 4294967296 : Nat) : Int) := by omega
              rw [e3]
              exact HFin.out _ cc 0 HZ.out (by rw [if_neg (by omega)]) (HOk.out.set_ (off + k) _) (grownBy_trans HGk.out (grownBy_setCellAt _ _ _ _))
            case measure => simp [intOf]
      · obtain rfl : k = n + 1 := by omega
        have hcc : cc = 0 := hcz (by omega)
        have HI3 : Hid (val (sbK (cs.drop off) ys D (n + 1)).1 + V * D = X + 4294967296 ^ (n + 1) * bw) := by
          show _ = _
          have e := sbK_val (xs := ys) (HG.out.drop off) D (n + 1)
          rw [List.take_of_length_le (by rw [HB.out.len]; omega), HV.out, ← HXd.out, ← hcb, hcc, Nat.zero_add] at e
          exact e
        have HOk := Lib.hid hOk
        have HGk := Lib.hid hgk
        have HLn := Lib.hid (sbK_len (cs.drop off) ys D (n + 1))
        have HTg := Lib.hid (sbK_good (cs.drop off) ys D (n + 1))
        clear hcb hcc hcz hOk hgk hkn hk
        go_wp2
        go_loopw [7, 9] (fun q bz wr' => ∃ (qq bb' : Nat) (T : List Nat), q = .int .u64 (qq : Int) ∧ bz = .int .i64 (bb' : Int) ∧ bb' ≤ 1 ∧ qq ≤ 4294967295 ∧ X / V ≤ qq ∧ T.length = n + 1 ∧ Good T ∧ val T + V * qq = X + 4294967296 ^ (n + 1) * bb' ∧ Ob wr' g (spl cs off T) ∧ w.grownBy wr' (some g)) (fun q _ _ => (intOf q).toNat)
        case atStart => exact ⟨D, bw, _, rfl, rfl, hbw, hDq, HXD.out, HLn.out, HTg.out, HI3.out, HOk.out, HGk.out⟩
        case round =>
          obtain ⟨qq, bb', T, rfl, rfl, hb1', hq9, hXq, hTl, hTG, hTv, hOT, hgT⟩ := hrel
          have HTl := Lib.hid hTl
          have HTG := Lib.hid hTG
          have HTv := Lib.hid hTv
          have HXq := Lib.hid hXq
          have HOT := Lib.hid hOT
          have HGT := Lib.hid hgT
          clear hTl hTG hTv hXq hOT hgT
          rcases Nat.eq_zero_or_pos bb' with h0 | h0
          · subst h0
            have HDn := Lib.hid (dg_done hV0 (by have e := HTv.out; rw [Nat.mul_zero, Nat.add_zero] at e; exact e) HXq.out)
            go_wp2
            go_ret
            exact ⟨ret_int (by rw [HDn.out.1]), ⟨T, HTl.out, HTG.out, HDn.out.2, HOT.out⟩, HGT.out⟩
          · obtain rfl : bb' = 1 := by omega
            have hTlt := val_lt HTG.out
            rw [HTl.out] at hTlt
            have hmo := dg_more hV0 (by have e := HTv.out; rw [Nat.mul_one] at e; exact e) hTlt
            have hq1 := hmo.1
            have HXq1 := Lib.hid hmo.2
            clear hmo hTlt
            go_wp2
            go_loopw [10, 13] (fun cy i wj => ∃ k : Nat, k ≤ n + 1 ∧ i = .int .i64 k ∧ cy = .int .u64 ((addK T ys k).2 : Nat) ∧ Ob wj g (spl cs off (spl T 0 (addK T ys k).1)) ∧ w.grownBy wj (some g)) (fun _ i _ => n + 1 - (intOf i).toNat)
            case atStart => exact ⟨0, Nat.zero_le _, rfl, rfl, by show Ob _ g (spl cs off (spl T 0 [])); rw [spl_nil]; exact HOT.out, HGT.out⟩
            case round =>
              obtain ⟨k, hk, rfl, rfl, hOj, hgj⟩ := hrel
              have HOj := Lib.hid hOj
              clear hOj
              have hcar := addK_carry HTG.out HB.out.good k
              have HAl := Lib.hid (addK_len T ys k)
              by_cases hkn : k ≤ n
              · have HMl : Hid ((spl T 0 (addK T ys k).1).length = n + 1) := by show _ = _; rw [spl_len (by rw [HAl.out, HTl.out]; omega), HTl.out]
                have hct := HOj.out.cell (i := off + k) (by have := HOff.out; rw [spl_len (by rw [HMl.out]; omega)]; omega)
                have hge : (spl cs off (spl T 0 (addK T ys k).1))[off + k]?.getD 0 = T[k]?.getD 0 := by
                  rw [spl_get (by have := HOff.out; rw [HMl.out]; omega) (by rw [HMl.out]; omega)]
                  have e := spl_at (cs := T) (off := 0) (ts := (addK T ys k).1) (by rw [HAl.out, HTl.out]; omega)
                  rw [HAl.out, Nat.zero_add] at e
                  exact e
                rw [hge] at hct
                have hfr := HOj.out.frozen (off + k)
                have hTg := HTG.out.get k
                have hyg := HB.out.good.get k
                have HFin : Hid (∀ (wz : World) (E : Int), E = (((addK T ys k).2 + (T[k]?.getD 0 + ys[k]?.getD 0) : Nat) : Int) → Ob wz g ((spl cs off (spl T 0 (addK T ys k).1)).set (off + k) (((addK T ys k).2 + (T[k]?.getD 0 + ys[k]?.getD 0)) % 4294967296)) → w.grownBy wz (some g) →
                    ∃ k' : Nat, k' ≤ n + 1 ∧ Value.int .i64 ((k : Int) + 1) = .int .i64 k' ∧ Value.int .u64 (E / 4294967296) = .int .u64 ((addK T ys k').2 : Nat) ∧ Ob wz g (spl cs off (spl T 0 (addK T ys k').1)) ∧ w.grownBy wz (some g)) := by
                  intro wz E h1 h2 h3
                  refine ⟨k + 1, by omega, by go_num, ?_, ?_, h3⟩
                  · rw [h1]
                    exact congrArg (Value.int IntKind.u64) (Int.natCast_ediv _ _).symm
                  · rw [spl_seti _ (by have := HOff.out; rw [HMl.out]; omega) (by rw [HMl.out]; omega)] at h2
                    have e := spl_set (cs := T) (off := 0) (ts := (addK T ys k).1) (((addK T ys k).2 + (T[k]?.getD 0 + ys[k]?.getD 0)) % 4294967296) (by rw [HAl.out, HTl.out]; omega)
                    rw [HAl.out, Nat.zero_add] at e
                    rw [e] at h2
                    exact h2
                clear hge
                by_cases hkl : k < n
                · obtain ⟨b1', bo1', e1, _, hcy⟩ := (HB.out.grownLt hgj (Nat.le_of_lt hgs)).cell hkl
                  cases e1
                  go_wp2
                  go_roundw
                  case rel =>
                    refine HFin.out _ _ (by omega) ?_ (grownBy_trans hgj (grownBy_setCellAt _ _ _ _))
                    have e := HOj.out.set_ (off + k) (((addK T ys k).2 + (T[k]?.getD 0 + ys[k]?.getD 0)) % 4294967296)
                    have e3 : ((((addK T ys k).2 + (T[k]?.getD 0 + ys[k]?.getD 0)) % 4294967296 : Nat) : Int) = (((addK T ys k).2 : Nat) + ((T[k]?.getD 0 : Nat) : Int) + ((ys[k]?.getD 0 : Nat) : Int)) % 4294967296 := by omega
                    rw [e3] at e
                    exact e
                  case measure => simp [intOf]; omega
                · obtain rfl : k = n := by omega
                  have HZ := Lib.hid (getD_over (xs := ys) (k := k) (by rw [HB.out.len]; omega))
                  go_wp2
                  go_roundw
                  case rel =>
                    have hz := HZ.out
                    refine HFin.out _ _ (by omega) ?_ (grownBy_trans hgj (grownBy_setCellAt _ _ _ _))
                    have e := HOj.out.set_ (off + k) (((addK T ys k).2 + (T[k]?.getD 0 + ys[k]?.getD 0)) % 4294967296)
                    have e3 : ((((addK T ys k).2 + (T[k]?.getD 0 + ys[k]?.getD 0)) % 4294967296 : Nat) : Int) = (((addK T ys k).2 : Nat) + ((T[k]?.getD 0 : Nat) : Int)) % 4294967296 := by omega
                    rw [e3] at e
                    exact e
                  case measure => simp [intOf]
              · obtain rfl : k = n + 1 := by omega
                have HE : Hid (spl T 0 (addK T ys (n + 1)).1 = (addK T ys (n + 1)).1) := by
                  show T.take 0 ++ ((addK T ys (n + 1)).1 ++ T.drop (0 + (addK T ys (n + 1)).1.length)) = _
                  rw [HAl.out, List.drop_of_length_le (by rw [HTl.out]; omega), List.append_nil]; rfl
                have HBk : Hid (val (addK T ys (n + 1)).1 + V * (qq - 1) = X + 4294967296 ^ (n + 1) * (1 - (addK T ys (n + 1)).2)) := by
                  refine dg_back hq1 (by have e := HTv.out; rw [Nat.mul_one] at e; exact e) ?_ hcar
                  rw [addK_val, List.take_of_length_le (by rw [HTl.out]; exact Nat.le_refl _), List.take_of_length_le (by rw [HB.out.len]; omega), HV.out]
                go_wp2
                go_roundw
                case rel =>
                  refine ⟨qq - 1, 1 - (addK T ys (n + 1)).2, (addK T ys (n + 1)).1, by go_num, by go_num, by omega, by omega, HXq1.out, HAl.out, addK_good _ _ _, HBk.out, ?_, hgj⟩
                  have e := HOj.out
                  rw [HE.out] at e
                  exact e
                case measure => simp [intOf]; omega
end Go.Proofs.Ytdbilpmhejigpaa
