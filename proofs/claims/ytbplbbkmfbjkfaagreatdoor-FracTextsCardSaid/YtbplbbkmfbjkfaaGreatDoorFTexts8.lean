/- Lemmas of several claims. -/
import Derived.Deep.DeepCutAuto
import Derived.Shelf.Spec.TrailingZeros
import Derived.Deep.RegionLaw
import Derived.Laws.OwnMore
import Derived.Deep.RegionHeld3
import Derived.Shelf.Strconv.Atoi
import Derived.Shelf.Strings.Trim
import Derived.Test.YtbplbbkmfbjkfaaGreatDoorProg
import Derived.Lib.AtoiErrMem
import Derived.Test.YtbplbbkmfbjkfaaGreatDoorFTexts7
/- The reference of frac: ten, split, value. -/
namespace Go.Proofs.YtbplbbkmfbjkfaaGreatDoor
open Go.RowKit

/-- A call returns the number z. -/
def RNv (w : World) (z : Int) (e : Ending) (w' : World) : Prop := ∃ A n c, e = .returned (.agg #[.bool (decide (z < 0)), .slice A n c]) ∧ Lm w' w'.heap.size A n c (digs z.natAbs) ∧ Below w.heap.size w w'
def strLen : Value → Nat | .string s => s.size | _ => 0
theorem sz_ten2 (k : Nat) (hk : k ≤ 1000) : Sz 104 ((10 : Int) ^ k) := by
  show ((10 : Int) ^ k).natAbs < 4294967296 ^ 104
  rw [Int.natAbs_pow]
  exact Nat.lt_of_le_of_lt (Nat.pow_le_pow_right (by decide) hk) (by decide +kernel)
set_option maxRecDepth 100000 in
set_option maxHeartbeats 4000000 in
theorem rten_n (w : World) (k : Nat) (hk : k ≤ 1000) : Calls Tryz.prog 20 #[.int .i64 (k : Int)] w (RNv w ((10 : Int) ^ k)) := by
  have HT := Lib.hid (sz_ten2 k hk)
  go_enter Tryz.func20, Tryz.ntmps20
  have PR := Lib.hid (Pr.new w (w.heap.size) rfl (.bool false) (.slice none 0 0) 24)
  have BW : Hid (Below w.heap.size w (w.alloc (.cells #[.bool false, .slice none 0 0] 24))) := below_alloc (Below.refl _ _) _
  go_wp2_with fail
  generalize w.alloc (.cells #[.bool false, .slice none 0 0] 24) = W0 at *
  refine (rfrom_any _ 10 (by decide) (by decide)).mono ?_
  rintro e w1 ⟨A1, n1, c1, rfl, hL1, hb⟩
  replace PR := Lib.hid (PR.out.via hb)
  replace BW := Lib.hid (btr BW.out hb)
  have L1 := Lib.hid hL1
  clear hb hL1
  go_wp2_with fail
  refine ((rpow_ok _ A1 n1 c1 k 10 L1.out (by decide) hk (by decide)).mono fun e w' hr => rz_rn HT.out (by omega) hr).mono ?_
  rintro e w2 ⟨A2, n2, c2, rfl, hL2, hb⟩
  clear L1
  replace PR := Lib.hid (PR.out.via hb)
  replace BW := Lib.hid (btr BW.out hb)
  have L2 := Lib.hid hL2
  clear hb hL2
  obtain ⟨z2, hz2⟩ : ∃ b, decide ((10 : Int) ^ k < 0) = b := ⟨_, rfl⟩
  rw [hz2]
  have Hz2 := Lib.hid hz2
  clear hz2
  go_upto_region 2 with (fail)
  replace PR := Lib.hid (PR.out.alloc (.cells #[.bool z2, .slice A2 n2 c2] 24))
  replace L2 := Lib.hid (L2.out.box (.cells #[.bool z2, .slice A2 n2 c2] 24))
  have M2 := Lib.hid (Pr.new w2 _ rfl (.bool z2) (.slice A2 n2 c2) 24)
  replace BW := Lib.hid (below_alloc BW.out (.cells #[.bool z2, .slice A2 n2 c2] 24))
  generalize w2.alloc (.cells #[.bool z2, .slice A2 n2 c2] 24) = W2 at *
  generalize w2.heap.size = g2 at *
  have ⟨rM20, rM21, rM22, rM23, rM2l⟩ := M2.out
  have ⟨rPR0, rPR1, rPR2, rPR3, rPRl⟩ := PR.out
  go_wp2
  exact post_w1 Tryz.results20 rfl rfl (PR.out.set (.bool z2) (.slice A2 n2 c2)).c0 (PR.out.set (.bool z2) (.slice A2 n2 c2)).c1 ⟨A2, n2, c2, by rw [Hz2.out], L2.out.setP PR.out _ _, below_set2 BW.out (Nat.le_refl _) _ _⟩
set_option maxRecDepth 100000 in
set_option maxHeartbeats 4000000 in
theorem rsplit_any (w : World) (l : List UInt8) (hl : l.length ≤ 1000000) :
    Calls Tryz.prog 16 #[.string ⟨l.toArray⟩] w fun e w' => e = .returned (.tuple #[.string ⟨(dg l).toArray⟩, .string ⟨(dr l).toArray⟩]) ∧ Below w.heap.size w w' := by
  have hz := str_size l
  go_enter Tryz.func16, Tryz.ntmps16
  go_upto_block 0 with (fail)
  go_wp2
  go_loop [4] (fun a => ∃ i : Nat, i ≤ l.length ∧ a = .int .i64 i ∧ (l.take i).all isDig = true) (fun a => l.length - (intOf a).toNat)
  case atStart => exact ⟨0, Nat.zero_le _, rfl, rfl⟩
  case round =>
    obtain ⟨i, hi, rfl, hall⟩ := hrel
    have HAll := Lib.hid hall
    clear hall
    have hend : ((∀ h : i < l.length, isDig (l[i]'h) = false)) → Hid ((⟨l.toArray⟩ : ByteArray).extract 0 i = ⟨(dg l).toArray⟩ ∧ (⟨l.toArray⟩ : ByteArray).extract i l.length = ⟨(dr l).toArray⟩) := fun h => by
      have h1 := dg_cut l i HAll.out h
      rw [h1.1, h1.2]
      exact ⟨ext_take l i, ext_drop l i⟩
    have HEnd := Lib.hid hend
    clear hend
    by_cases hp : i < l.length
    · have hps2 : i < (⟨l.toArray⟩ : ByteArray).size := by rw [hz]; exact hp
      have hge := str_get l i hp hps2
      by_cases hd : isDig (l[i]'hp) = true
      · have HT : Hid ((l.take (i + 1)).all isDig = true) := by
          show _ = _
          rw [take_snoc_ l i hp, List.all_append, HAll.out, Bool.true_and]
          simp [hd]
        have hd2 : 48 ≤ (l[i]'hp).toNat ∧ (l[i]'hp).toNat ≤ 57 := by unfold isDig at hd; simpa using hd
        obtain ⟨hd3, hd4⟩ := hd2
        clear HEnd
        generalize (l[i]'hp) = x at *
        go_wp2
        exact ⟨⟨i + 1, by omega, by go_num, HT.out⟩, by simp [intOf]; omega⟩
      · have HC := HEnd.out fun _ => by simpa using hd
        have hd2 : (l[i]'hp).toNat < 48 ∨ 57 < (l[i]'hp).toNat := by
          unfold isDig at hd
          simp at hd
          omega
        clear HEnd
        generalize (l[i]'hp) = x at *
        rcases hd2 with hd3 | hd3
        · go_wp2
          go_region
          all_goals
            go_wp2
            go_ret2
            exact ⟨by rw [HC.out.1, HC.out.2]; rfl, (Below.refl _ _).drew⟩
        · have hd5 : ¬ (x.toNat : Int) < 48 := by omega
          have hd6 : (57 : Int) < (x.toNat : Int) := by omega
          go_wp2
          go_region
          all_goals
            go_wp2
            go_ret2
            exact ⟨by rw [HC.out.1, HC.out.2]; rfl, (Below.refl _ _).drew⟩
    · have HC := HEnd.out fun h => absurd h hp
      have hd4 : decide ((i : Int) < (l.length : Int)) = false := decide_eq_false (by omega)
      clear HEnd
      go_wp2
      go_region
      all_goals
        go_wp2
        go_ret2
        exact ⟨by rw [HC.out.1, HC.out.2]; rfl, (Below.refl _ _).drew⟩
theorem rval_parse (w : World) (t : List UInt8) (h1 : t.all isDig = true) (h2 : t = [48] ∨ (t ≠ [] ∧ t[0]?.getD 0 ≠ 48)) (hl : t.length ≤ 1000) :
    Calls Tryz.prog 42 #[.string ⟨t.toArray⟩] w (fun e w' => ∃ A n c, e = .returned (.tuple #[.agg #[.bool false, .slice A n c], .int .i64 0]) ∧ Lm w' w'.heap.size A n c (digs (decV t)) ∧ Below w.heap.size w w') := by
  have hm : minus t = (false, t) := minus_dig h1
  have hok : pOk t = true := by
    unfold pOk txtOk
    rw [hm, h1]
    rcases h2 with rfl | ⟨h2, h3⟩
    · rfl
    · simp [h2]
      right
      simpa using h3
  have hz : pZ t = (decV t : Int) := by unfold pZ; rw [hm]; rfl
  refine (rparse_n w t hok (by omega)).mono ?_
  rintro e w' ⟨A, n, c, rfl, hL, hb⟩
  rw [hz] at hL
  rw [hz, decide_eq_false (show ¬ ((decV t : Nat) : Int) < 0 by omega)]
  exact ⟨A, n, c, rfl, hL, hb⟩
theorem decV_zero (t : List UInt8) : decV (48 :: t) = decV t := rfl
set_option maxRecDepth 100000 in
set_option maxHeartbeats 4000000 in
theorem rvalue_n (w : World) (l : List UInt8) (ha : l.all isDig = true) (hne : l ≠ []) (hl : l.length ≤ 1000) : Calls Tryz.prog 17 #[.string ⟨l.toArray⟩] w (RNv w (decV l : Int)) := by
  have HA := Lib.hid ha
  have HNE := Lib.hid hne
  have HLL := Lib.hid hl
  clear ha hne hl
  go_enter Tryz.func17, Tryz.ntmps17
  have PR := Lib.hid (Pr.new w (w.heap.size) rfl (.bool false) (.slice none 0 0) 24)
  have BW : Hid (Below w.heap.size w (w.alloc (.cells #[.bool false, .slice none 0 0] 24))) := below_alloc (Below.refl _ _) _
  go_upto_block 0 with (fail)
  go_wp2
  generalize w.alloc (.cells #[.bool false, .slice none 0 0] 24) = W0 at *
  go_loop [0] (fun a => ∃ t : List UInt8, a = .string ⟨t.toArray⟩ ∧ t.all isDig = true ∧ t ≠ [] ∧ decV t = decV l ∧ t.length ≤ 1000) (fun a => strLen a)
  case atStart => exact ⟨l, rfl, HA.out, HNE.out, rfl, HLL.out⟩
  case round =>
    obtain ⟨T, rfl, hD, hN, hV, hT⟩ := hrel
    have HD := Lib.hid hD
    have HV := Lib.hid hV
    have HLT := Lib.hid hT
    clear hD hV HA HNE HLL
    have hz := str_size T
    obtain ⟨c, t, hct⟩ : ∃ c t, T = c :: t := List.exists_cons_of_ne_nil hN
    clear hN
    have hlen : T.length = t.length + 1 := by rw [hct]; rfl
    have hp0 : 0 < (⟨T.toArray⟩ : ByteArray).size := by rw [hz]; omega
    have hge : (⟨T.toArray⟩ : ByteArray)[0]'hp0 = c := by
      rw [str_get T 0 (by omega) hp0]
      subst hct
      rfl
    by_cases hlt : 1 < T.length
    · have hl1 : (1 : Int) < (T.length : Int) := by omega
      by_cases hc : c = 48
      · have HX : Hid ((⟨T.toArray⟩ : ByteArray).extract 1 T.length = ⟨t.toArray⟩) := by
          show _ = _
          rw [ext_drop, hct]
          rfl
        have HQ : Hid (t.all isDig = true ∧ t ≠ [] ∧ decV t = decV l) := by
          have h1 := HD.out
          have h2 := HV.out
          rw [hct, List.all_cons, Bool.and_eq_true] at h1
          rw [hct, hc, decV_zero] at h2
          exact ⟨h1.2, fun e => by rw [e] at hlen; simp at hlen; omega, h2⟩
        have hcn : c.toNat = 48 := by rw [hc]; rfl
        have HLn := Lib.hid hlen
        clear hct hc HD HV hlen
        go_wp2
        refine ⟨⟨t, by rw [← HX.out], HQ.out.1, HQ.out.2.1, HQ.out.2.2, by have := HLn.out; have := HLT.out; omega⟩, ?_⟩
        rw [HX.out]
        show (⟨t.toArray⟩ : ByteArray).size < (⟨T.toArray⟩ : ByteArray).size
        have := HLn.out
        rw [str_size, str_size]
        omega
      · have HZ : Hid (T = [48] ∨ (T ≠ [] ∧ T[0]?.getD 0 ≠ 48)) := .inr ⟨by rw [hct]; simp, by rw [hct]; simpa using hc⟩
        have hcn : (c.toNat : Int) ≠ 48 := fun e => hc (UInt8.toNat_inj.1 (by show c.toNat = 48; omega))
        have hcn2 : decide ((c.toNat : Int) = 48) = false := decide_eq_false hcn
        clear hct hc
        go_wp2_with fail
        refine (rval_parse _ T HD.out HZ.out HLT.out).mono ?_
        rintro e w1 ⟨A2, n2, c2, rfl, hL2, hb⟩
        replace PR := Lib.hid (PR.out.via hb)
        replace BW := Lib.hid (btr BW.out hb)
        have L2 := Lib.hid hL2
        clear hb hL2
        rw [HV.out] at L2
        go_upto_region 4 with (fail)
        replace PR := Lib.hid (PR.out.alloc (.cells #[.bool false, .slice A2 n2 c2] 24))
        replace L2 := Lib.hid (L2.out.box (.cells #[.bool false, .slice A2 n2 c2] 24))
        have M2 := Lib.hid (Pr.new w1 _ rfl (.bool false) (.slice A2 n2 c2) 24)
        replace BW := Lib.hid (below_alloc BW.out (.cells #[.bool false, .slice A2 n2 c2] 24))
        generalize w1.alloc (.cells #[.bool false, .slice A2 n2 c2] 24) = W1 at *
        generalize w1.heap.size = g1 at *
        have ⟨rM20, rM21, rM22, rM23, rM2l⟩ := M2.out
        have ⟨rPR0, rPR1, rPR2, rPR3, rPRl⟩ := PR.out
        go_wp2
        exact post_w1 Tryz.results17 rfl rfl (PR.out.set (.bool false) (.slice A2 n2 c2)).c0 (PR.out.set (.bool false) (.slice A2 n2 c2)).c1 ⟨A2, n2, c2, by rw [decide_eq_false (show ¬ ((decV l : Nat) : Int) < 0 by omega)], L2.out.setP PR.out _ _, below_set2 BW.out (Nat.le_refl _) _ _⟩
    · have hl1 : decide ((1 : Int) < (T.length : Int)) = false := decide_eq_false (by omega)
      have HZ : Hid (T = [48] ∨ (T ≠ [] ∧ T[0]?.getD 0 ≠ 48)) := by
        show _ ∨ _
        have ht : t = [] := List.eq_nil_of_length_eq_zero (by omega)
        by_cases hc : c = 48
        · exact .inl (by rw [hct, hc, ht])
        · exact .inr ⟨by rw [hct]; simp, by rw [hct]; simpa using hc⟩
      clear hct
      go_wp2_with fail
      refine (rval_parse _ T HD.out HZ.out HLT.out).mono ?_
      rintro e w1 ⟨A2, n2, c2, rfl, hL2, hb⟩
      replace PR := Lib.hid (PR.out.via hb)
      replace BW := Lib.hid (btr BW.out hb)
      have L2 := Lib.hid hL2
      clear hb hL2
      rw [HV.out] at L2
      go_upto_region 4 with (fail)
      replace PR := Lib.hid (PR.out.alloc (.cells #[.bool false, .slice A2 n2 c2] 24))
      replace L2 := Lib.hid (L2.out.box (.cells #[.bool false, .slice A2 n2 c2] 24))
      have M2 := Lib.hid (Pr.new w1 _ rfl (.bool false) (.slice A2 n2 c2) 24)
      replace BW := Lib.hid (below_alloc BW.out (.cells #[.bool false, .slice A2 n2 c2] 24))
      generalize w1.alloc (.cells #[.bool false, .slice A2 n2 c2] 24) = W1 at *
      generalize w1.heap.size = g1 at *
      have ⟨rM20, rM21, rM22, rM23, rM2l⟩ := M2.out
      have ⟨rPR0, rPR1, rPR2, rPR3, rPRl⟩ := PR.out
      go_wp2
      exact post_w1 Tryz.results17 rfl rfl (PR.out.set (.bool false) (.slice A2 n2 c2)).c0 (PR.out.set (.bool false) (.slice A2 n2 c2)).c1 ⟨A2, n2, c2, by rw [decide_eq_false (show ¬ ((decV l : Nat) : Int) < 0 by omega)], L2.out.setP PR.out _ _, below_set2 BW.out (Nat.le_refl _) _ _⟩
end Go.Proofs.YtbplbbkmfbjkfaaGreatDoor

/- Package frac: decimal, Decimal. -/
namespace Go.Proofs.YtbplbbkmfbjkfaaGreatDoor
open Go.RowKit

theorem ediv_abs {x P : Int} (hP : 0 < P) : (x / P).natAbs ≤ x.natAbs ∧ (x / P + 1).natAbs ≤ x.natAbs + 1 := by
  have h1 := Int.emod_add_mul_ediv x P
  have h2 := Int.emod_nonneg x (show P ≠ 0 by omega)
  have h3 := Int.emod_lt_of_pos x hP
  have h4 : (x / P).natAbs ≤ x.natAbs := by
    rcases Int.lt_or_le x 0 with h | h
    · have h5 : x / P < 0 := Int.ediv_neg_of_neg_of_pos h hP
      have h6 : x ≤ x / P := by
        have h7 : P * (x / P) ≤ 1 * (x / P) := Int.mul_le_mul_of_nonpos_right (by omega) (by omega)
        have h8 : 1 * (x / P) = x / P := Int.one_mul _
        have h9 : x - P < P * (x / P) := by omega
        rcases Int.lt_or_le (x / P) x with hc | hc
        · have ha : P * (x / P) ≤ P * (x - 1) := Int.mul_le_mul_of_nonneg_left (by omega) (by omega)
          have hb : P * (x - 1) = P * x - P := by rw [Int.mul_sub, Int.mul_one]
          have hd : P * x ≤ 1 * x := Int.mul_le_mul_of_nonpos_right (by omega) (by omega)
          omega
        · exact hc
      omega
    · have h5 := Int.ediv_nonneg h (Int.le_of_lt hP)
      have h6 := Int.ediv_le_self P h
      omega
  exact ⟨h4, by omega⟩
theorem rnd_sz {k : Nat} {x P : Int} (hx : Sz k x) (hP : 0 < P) : Sz (k + 1) (rndZ x P) := by
  have h1 := ediv_abs (x := x) hP
  have h2 : (rndZ x P).natAbs ≤ x.natAbs + 1 := by
    unfold rndZ
    split
    · omega
    · split
      · omega
      · exact h1.2
  have h3 : x.natAbs < 4294967296 ^ k := hx
  show (rndZ x P).natAbs < 4294967296 ^ (k + 1)
  have h4 : 4294967296 ^ (k + 1) = 4294967296 ^ k * 4294967296 := Nat.pow_succ ..
  have h5 : 0 < 4294967296 ^ k := Nat.pow_pos (by omega)
  omega
/-- The decimal text of x / P with d digits behind the point. -/
def decT (x P : Int) (d : Nat) : List UInt8 := (if rndZ (x * 10 ^ d) P < 0 then [45] else []) ++ ptd (Lib.decDigits (rndZ (x * 10 ^ d) P).natAbs) d
theorem decd_len {k : Nat} {z : Int} (h : Sz k z) (hk : k ≤ 2000) : (Lib.decDigits z.natAbs).length ≤ 30000 := by
  have h1 := txt_short (v := z.natAbs) (n := k + 1) false (by have := h.len; omega) (by omega)
  unfold txt at h1
  rw [if_neg (by simp), List.nil_append] at h1
  omega
theorem ptd_len {s : List UInt8} {k : Nat} (hs : s.length ≤ 30000) (hk : k ≤ 50) : (ptd s k).length ≤ 40000 := by
  unfold ptd
  split
  · omega
  · unfold pad0
    simp
    omega
theorem str_minus (l : List UInt8) : (⟨#[45]⟩ : ByteArray) ++ ⟨l.toArray⟩ = ⟨(45 :: l).toArray⟩ := by
  apply ByteArray.ext
  simp [ByteArray.data_append]

set_option maxRecDepth 100000 in
set_option maxHeartbeats 4000000 in
theorem decimal_n (w : World) (A B : Option Addr) (n m ca cb k d : Nat) (x P : Int) (hA : Lm w w.heap.size A n ca (digs x.natAbs)) (hB : Lm w w.heap.size B m cb (digs P.natAbs)) (hx : Sz k x) (hP : Sz k P) (hk : k ≤ 1500) (hk1 : 1 ≤ k) (hd : d ≤ 50) (hP0 : 0 < P) (hU : TabU w) {na : Bool} (ha : decide (x < 0) = na) :
    Calls Tryz.prog 29 #[fv na A n ca false B m cb, .int .i64 (d : Int)] w (RSs w ⟨(decT x P d).toArray⟩) := by
  obtain ⟨t, ht⟩ : ∃ t, decT x P d = t := ⟨_, rfl⟩
  rw [ht]
  have HT : Hid ((if rndZ (x * 10 ^ d) P < 0 then [45] else []) ++ ptd (Lib.decDigits (rndZ (x * 10 ^ d) P).natAbs) d = t) := ht
  clear ht
  have k1 : decide ((d : Int) < 0) = false := decide_eq_false (by omega)
  have k2 : decide ((50 : Int) < (d : Int)) = false := decide_eq_false (by omega)
  have HX := Lib.hid hx
  have HP := Lib.hid hP
  have HP0 := Lib.hid hP0
  have HNa := Lib.hid ha
  have HNb : Hid (decide (P < 0) = false) := decide_eq_false (by omega)
  have BW : Hid (Below w.heap.size w (w.alloc (.cells #[.bool na, .slice A n ca, .bool false, .slice B m cb] 42))) := below_alloc (Below.refl _ _) _
  have LA := Lib.hid (hA.via BW.out)
  have LB := Lib.hid (hB.via BW.out)
  have HU := Lib.hid hU
  have QF := Lib.hid (Qd.new w w.heap.size rfl (.bool na) (.slice A n ca) (.bool false) (.slice B m cb) 42)
  clear hA hB hx hP ha hU hP0
  go_enter Tryz.func29, Tryz.ntmps29
  go_wp2_with fail
  generalize w.alloc (.cells #[.bool na, .slice A n ca, .bool false, .slice B m cb] 42) = W0 at *
  have ⟨f0, f1, f2, f3, f4, f5, f6, f7, f8⟩ := QF.out
  have ⟨ff0, ff1, ff2, ff3, ff4, ff5, ff6, ff7, ff8⟩ := QF.out.drewN 1
  (try go_wp2_with fail)
  go_cut [] from 15 to 20 (fun wx => ∃ A5 n5 c5, Qd wx w.heap.size (.bool (decide (x * 10 ^ d < 0))) (.slice A5 n5 c5) (.bool false) (.slice B m cb) ∧ Lm wx wx.heap.size A5 n5 c5 (digs (x * 10 ^ d).natAbs) ∧ Lm wx wx.heap.size B m cb (digs P.natAbs) ∧ TabU wx ∧ Below w.heap.size w wx)
  case first =>
    go_region_with (first
     | (have _t := F0; go_at_call 58; refine (prod_n _ A A0 n n0 ca c0 (k + 126) _ _ (LA.out.via F0) L0 (HX.out.mono (by omega)) ((sz_ten _ (by omega)).mono (by omega)) (by omega) HNa.out rfl).mono ?_; rintro e v1 ⟨A5, n5, c5, rfl, L5, h1⟩; have F1 : Below W0.heap.size W0 v1 := btr F0 h1; have ⟨e0, e1, e2, e3, e4, e5, e6, e7, e8⟩ := QF.out.via F1)
     | (go_at_call 59; refine (power_n _ _ (by omega)).mono ?_; rintro e v0 ⟨A0, n0, c0, rfl, L0, h0⟩; have F0 : Below W0.heap.size W0 v0 := (by first | exact (Below.refl _ _).drew.trans h0 | exact h0); have ⟨d0, d1, d2, d3, d4, d5, d6, d7, d8⟩ := QF.out.via F0)
     | fail)
    all_goals
      go_wp2_with fail
      go_meet
      exact ⟨A5, n5, c5, (QF.out.via F1).lo _ _, L5.lo (QF.out.via F1) _ _, (LB.out.via F1).lo (QF.out.via F1) _ _, HU.out.via (below_set2 (btr BW.out F1) (Nat.le_refl _) _ _), below_set2 (btr BW.out F1) (Nat.le_refl _) _ _⟩
  case rest =>
    obtain ⟨A5, n5, c5, q5, l5, k5, t5, b5⟩ := hcut
    clear QF LA LB BW
    generalize wc = W7 at *
    have HXD : Hid (Sz (k + 126) (x * 10 ^ d)) := HX.out.mul (sz_ten _ (by omega))
    obtain ⟨np, hnp⟩ : ∃ b, decide (x * 10 ^ d < 0) = b := ⟨_, rfl⟩
    rw [hnp] at q5
    have HNp := Lib.hid hnp
    clear hnp
    have QF := Lib.hid q5
    have L5 := Lib.hid l5
    have K5 := Lib.hid k5
    have TU := Lib.hid t5
    have BX := Lib.hid b5
    have ⟨g0, g1, g2, g3, g4, g5, g6, g7, g8⟩ := q5
    clear q5 l5 k5 t5 b5
    go_wp2_with fail
    clear g0 g1 g2 g3 g4 g5 g6 g7 g8
    refine (round_n _ A5 B n5 m c5 cb (k + 126) (x * 10 ^ d) P L5.out K5.out HXD.out (HP.out.mono (by omega)) (by omega) (by omega) HNp.out HP0.out).mono ?_
    have HZ := Lib.hid (rnd_sz HXD.out HP0.out)
    generalize rndZ (x * 10 ^ d) P = z at *
    rintro e w1 ⟨A6, n6, c6, rfl, hL, hb⟩
    have L6 := Lib.hid hL
    replace TU := Lib.hid (TU.out.via hb)
    replace BX := Lib.hid (btr BX.out hb)
    clear hL hb QF L5 K5
    go_wp2_with fail
    refine (text_n _ A6 n6 c6 (k + 127) z L6.out HZ.out (by omega) TU.out rfl).mono ?_
    rintro e w2 ⟨rfl, hb⟩
    replace BX := Lib.hid (btr BX.out hb)
    clear hb L6 TU
    go_wp2_with fail
    refine (musts_ok _ _).mono ?_
    rintro e w3 ⟨rfl, rfl⟩
    go_wp2_with fail
    refine (cut_minus (tx z) _).mono ?_
    have hmt : minus (tx z) = (decide (z < 0), Lib.decDigits z.natAbs) := minus_txt _ _
    rw [hmt]
    rintro e w4 ⟨rfl, rfl⟩
    have hdl := decd_len HZ.out (by omega)
    go_wp2_with fail
    refine (pointed_any _ (Lib.decDigits z.natAbs) d (by omega) (by omega)).mono ?_
    rintro e w5 ⟨rfl, hb⟩
    have hpl := ptd_len hdl hd
    replace BX := Lib.hid (btr BX.out hb)
    clear hb
    generalize ptd (Lib.decDigits z.natAbs) d = T at *
    have hz := str_size T
    by_cases hn : z < 0
    · have hi : decide (z < 0) = true := decide_eq_true hn
      rw [hi]
      have HS : Hid (t = 45 :: T) := by show _ = _; rw [← HT.out, if_pos hn]; rfl
      go_wp2
      go_ret
      exact ⟨by rw [HS.out, ← str_minus]; rfl, BX.out⟩
    · have hi : decide (z < 0) = false := decide_eq_false hn
      rw [hi]
      have HS : Hid (t = T) := by show _ = _; rw [← HT.out, if_neg hn]; rfl
      go_wp2
      go_ret
      exact ⟨by rw [HS.out]; rfl, BX.out⟩
end Go.Proofs.YtbplbbkmfbjkfaaGreatDoor

/- The text of a fraction. -/
namespace Go.Proofs.YtbplbbkmfbjkfaaGreatDoor
open Go.RowKit

/-- The text of a fraction. -/
def ftx (p q : Int) : List UInt8 := if q = 1 then tx p else tx p ++ 47 :: tx q
end Go.Proofs.YtbplbbkmfbjkfaaGreatDoor

/- Package frac: text, Text. -/
namespace Go.Proofs.YtbplbbkmfbjkfaaGreatDoor
open Go.RowKit

theorem tx_len {k : Nat} {z : Int} (h : Sz k z) (hk : k ≤ 2000) : (tx z).length ≤ 30001 := by
  have h1 := decd_len h hk
  unfold tx txt
  rw [List.length_append]
  split
  · simp only [List.length_cons, List.length_nil]
    omega
  · simp only [List.length_nil]
    omega
theorem txt_slash (a b : List UInt8) : ((⟨a.toArray⟩ : ByteArray) ++ ⟨#[47]⟩) ++ ⟨b.toArray⟩ = ⟨(a ++ 47 :: b).toArray⟩ := by
  apply ByteArray.ext
  simp [ByteArray.data_append]
set_option maxRecDepth 100000 in
set_option maxHeartbeats 2000000 in
theorem changest_ok (w : World) (g0 ga : Nat) (f : FuncId) (na da : Bool) (A B : Option Addr) (n m ca cb : Nat) (xs ys : List Nat) (hf : Fb w g0 f) (qa : Qd w ga (.bool na) (.slice A n ca) (.bool da) (.slice B m cb)) (hA : Lm w w.heap.size A n ca xs) (hB : Lm w w.heap.size B m cb ys) (hv : fchk na xs da ys = 0) (t : ByteArray)
    (hcf : ∀ (u : Value) (W : World), (callFunc f #[u]).run Tryz.prog W = .ok (.enter f #[u]) W)
    (H : ∀ W, Below w.heap.size w W → Lm W W.heap.size A n ca xs → Lm W W.heap.size B m cb ys → Calls Tryz.prog f #[fv na A n ca da B m cb] W (RSs W t)) :
    Calls Tryz.prog 51 #[.pointer (some ⟨g0, 0, none⟩), .pointer (some ⟨ga, 0, none⟩)] w (RSs w t) := by
  have HF := Lib.hid hf
  have QA := Lib.hid qa
  have LA := Lib.hid hA
  have LB := Lib.hid hB
  have HV := Lib.hid hv
  have HH := Lib.hid H
  clear hA hB hv hf qa H
  go_enter Tryz.func51, Tryz.ntmps51
  have hg0 : g0 < w.heap.size := HF.out.lt
  have hga : ga < w.heap.size := QA.out.lt
  have HKS : Hid (∀ X : World, Below w.heap.size w X → X.cell? ⟨g0, 0, none⟩ = some (.func (.func f) #[] #[]) ∧ X.cell? ⟨ga, 0, none⟩ = some (.bool na) ∧ X.cell? ⟨ga, 1, none⟩ = some (.slice A n ca) ∧ X.cell? ⟨ga, 2, none⟩ = some (.bool da) ∧ X.cell? ⟨ga, 3, none⟩ = some (.slice B m cb)) := fun X h => ⟨(h.cell (p := ⟨g0, 0, none⟩) hg0).trans HF.out.c0, (QA.out.via h).c0, (QA.out.via h).c1, (QA.out.via h).c2, (QA.out.via h).c3⟩
  go_upto_region 1 with (fail)
  go_region_held3 (fun w' => w'.cell? ⟨g0, 0, none⟩ = some (.func (.func f) #[] #[]) ∧ w'.cell? ⟨ga, 0, none⟩ = some (.bool na) ∧ w'.cell? ⟨ga, 1, none⟩ = some (.slice A n ca) ∧ w'.cell? ⟨ga, 2, none⟩ = some (.bool da) ∧ w'.cell? ⟨ga, 3, none⟩ = some (.slice B m cb))
    (first | (refine HKS.out _ ?_; (repeat' (first | exact Be | exact Bc | exact (Below.refl _ _).drew | exact Below.refl _ _ | refine Below.setCell ?_ ?_ _)); all_goals (first | omega | (simp; done) | (simp; omega))))
    (first
     | (go_at_call 52; refine (known_ok _ na da A B n m ca cb xs ys (by first | exact LA.out.drew | exact LA.out) (by first | exact LB.out.drew | exact LB.out) HV.out).mono ?_; rintro e wc ⟨rfl, hbc⟩; have Bc : Below w.heap.size w wc := (by first | exact (Below.refl _ _).drew.trans hbc | exact hbc))
     | (refine (HH.out _ Bc (LA.out.via Bc) (LB.out.via Bc)).mono ?_; rintro e we ⟨rfl, hbe⟩; have Be : Below w.heap.size w we := btr Bc hbe)
     | fail)
  all_goals
    go_wp2
    go_ret
    exact ⟨rfl, Be⟩

set_option maxRecDepth 100000 in
set_option maxHeartbeats 2000000 in
theorem changest_g (w : World) (f : FuncId) (na da : Bool) (A B : Option Addr) (n m ca cb : Nat) (xs ys : List Nat) (hA : Lm w w.heap.size A n ca xs) (hB : Lm w w.heap.size B m cb ys) (t : ByteArray) (err : Int)
    (H : ∀ W g0 ga, Below w.heap.size w W → Fb W g0 f → Qd W ga (.bool na) (.slice A n ca) (.bool da) (.slice B m cb) → Lm W W.heap.size A n ca xs → Lm W W.heap.size B m cb ys → Calls Tryz.prog 50 #[.func (.func 51) #[] #[.pointer (some ⟨g0, 0, none⟩), .pointer (some ⟨ga, 0, none⟩)]] W (RSE W t err)) :
    Calls Tryz.prog 23 #[fv na A n ca da B m cb, .func (.func f) #[] #[]] w (RSE w t err) := by
  have hmf : ∀ (fn : Fn) (first cap : Array Value) (w : World), (Instr.makeFunc fn first cap).run Tryz.prog w = .ok (.func fn first cap) w := fun _ _ _ _ => rfl
  have HH := Lib.hid H
  have HA := Lib.hid hA
  have HB := Lib.hid hB
  clear H hA hB
  go_enter Tryz.func23, Tryz.ntmps23
  have QA := Lib.hid ((Qd.new w _ rfl (.bool na) (.slice A n ca) (.bool da) (.slice B m cb) 26).alloc (.cells #[.func (.func f) #[] #[]] 55))
  have QF : Hid (Fb ((w.alloc (.cells #[.bool na, .slice A n ca, .bool da, .slice B m cb] 26)).alloc (.cells #[.func (.func f) #[] #[]] 55)) (w.heap.size + 1) f) := ⟨by go_simp, by simp⟩
  have BW : Hid (Below w.heap.size w ((w.alloc (.cells #[.bool na, .slice A n ca, .bool da, .slice B m cb] 26)).alloc (.cells #[.func (.func f) #[] #[]] 55))) := below_alloc (below_alloc (Below.refl _ _) _) _
  have LA : Hid (Lm ((w.alloc (.cells #[.bool na, .slice A n ca, .bool da, .slice B m cb] 26)).alloc (.cells #[.func (.func f) #[] #[]] 55)) ((w.alloc (.cells #[.bool na, .slice A n ca, .bool da, .slice B m cb] 26)).alloc (.cells #[.func (.func f) #[] #[]] 55)).heap.size A n ca xs) := ((HA.out.box _).box _)
  have LB : Hid (Lm ((w.alloc (.cells #[.bool na, .slice A n ca, .bool da, .slice B m cb] 26)).alloc (.cells #[.func (.func f) #[] #[]] 55)) ((w.alloc (.cells #[.bool na, .slice A n ca, .bool da, .slice B m cb] 26)).alloc (.cells #[.func (.func f) #[] #[]] 55)).heap.size B m cb ys) := ((HB.out.box _).box _)
  clear HA HB
  go_wp2_with fail
  refine (HH.out _ (w.heap.size + 1) w.heap.size BW.out QF.out QA.out LA.out LB.out).mono ?_
  rintro e w1 ⟨rfl, hb⟩
  have BB := Lib.hid (btr BW.out hb)
  clear hb
  go_wp2
  go_returns
  exact ⟨rfl, BB.out⟩
set_option maxRecDepth 100000 in
set_option maxHeartbeats 4000000 in
theorem text_r (w : World) (A B : Option Addr) (n m ca cb k : Nat) (p q : Int) (hA : Lm w w.heap.size A n ca (digs p.natAbs)) (hB : Lm w w.heap.size B m cb (digs q.natAbs)) (hp : Sz k p) (hq : Sz k q) (hk : k ≤ 2000) (hq0 : 0 < q) (hU : TabU w) {na : Bool} (ha : decide (p < 0) = na) :
    Calls Tryz.prog 24 #[fv na A n ca false B m cb] w (RSs w ⟨(ftx p q).toArray⟩) := by
  have HP := Lib.hid hp
  have HQ := Lib.hid hq
  have HNa := Lib.hid ha
  have HNb : Hid (decide (q < 0) = false) := decide_eq_false (by omega)
  have QF := Lib.hid (Qd.new w w.heap.size rfl (.bool na) (.slice A n ca) (.bool false) (.slice B m cb) 42)
  have BX : Hid (Below w.heap.size w (w.alloc (.cells #[.bool na, .slice A n ca, .bool false, .slice B m cb] 42))) := below_alloc (Below.refl _ _) _
  have LA := Lib.hid (hA.via BX.out)
  have LB := Lib.hid (hB.via BX.out)
  have TU := Lib.hid (hU.via BX.out)
  clear hA hB hp hq ha hU
  go_enter Tryz.func24, Tryz.ntmps24
  go_wp2_with fail
  generalize w.alloc (.cells #[.bool na, .slice A n ca, .bool false, .slice B m cb] 42) = W0 at *
  have ⟨f0, f1, f2, f3, f4, f5, f6, f7, f8⟩ := QF.out
  go_wp2_with fail
  clear f0 f1 f2 f3 f4 f5 f6 f7 f8
  refine (text_n _ A n ca k p LA.out HP.out (by omega) TU.out HNa.out).mono ?_
  rintro e w1 ⟨rfl, hb⟩
  replace QF := Lib.hid (QF.out.via hb)
  replace LB := Lib.hid (LB.out.via hb)
  replace TU := Lib.hid (TU.out.via hb)
  replace BX := Lib.hid (btr BX.out hb)
  clear hb LA
  go_wp2_with fail
  refine (musts_ok _ _).mono ?_
  rintro e w2 ⟨rfl, rfl⟩
  by_cases hq1 : q = 1
  · have LB1 : Hid (Lm w1 w1.heap.size B m cb (digs 1)) := by
      show Lm _ _ _ _ _ _
      have := LB.out
      rw [hq1] at this
      exact this
    have HT : Hid (ftx p q = tx p) := by show _ = _; unfold ftx; rw [if_pos hq1]
    have ⟨f0, f1, f2, f3, f4, f5, f6, f7, f8⟩ := QF.out
    go_wp2_with fail
    clear f0 f1 f2 f3 f4 f5 f6 f7 f8
    refine (isOne_yes _ B m cb LB1.out).mono ?_
    rintro e w2 ⟨rfl, hb⟩
    go_wp2
    go_ret
    exact ⟨by rw [HT.out]; rfl, btr BX.out hb⟩
  · have HT : Hid (ftx p q = tx p ++ 47 :: tx q) := by show _ = _; unfold ftx; rw [if_neg hq1]
    have hsz1 : (⟨(tx p).toArray⟩ : ByteArray).size = (tx p).length := by simp [ByteArray.size]
    have hsz2 : (⟨(tx q).toArray⟩ : ByteArray).size = (tx q).length := by simp [ByteArray.size]
    have hl1 := tx_len HP.out hk
    have hl2 := tx_len HQ.out hk
    have hno : digs q.natAbs ≠ [1] := fun e => by
      have := congrArg val e
      rw [digs_val] at this
      have e2 : val [1] = 1 := rfl
      omega
    have ⟨f0, f1, f2, f3, f4, f5, f6, f7, f8⟩ := QF.out
    go_wp2_with fail
    clear f0 f1 f2 f3 f4 f5 f6 f7 f8
    refine (isOne_no _ false B m cb _ LB.out (.inr hno)).mono ?_
    rintro e w2 ⟨rfl, hb⟩
    replace QF := Lib.hid (QF.out.via hb)
    replace LB := Lib.hid (LB.out.via hb)
    replace TU := Lib.hid (TU.out.via hb)
    replace BX := Lib.hid (btr BX.out hb)
    clear hb
    have ⟨f0, f1, f2, f3, f4, f5, f6, f7, f8⟩ := QF.out
    go_wp2_with fail
    clear f0 f1 f2 f3 f4 f5 f6 f7 f8
    refine (text_n _ B m cb k q LB.out HQ.out (by omega) TU.out HNb.out).mono ?_
    rintro e w3 ⟨rfl, hb⟩
    replace BX := Lib.hid (btr BX.out hb)
    clear hb QF LB TU
    go_wp2_with fail
    refine (musts_ok _ _).mono ?_
    rintro e w4 ⟨rfl, rfl⟩
    go_wp2
    go_ret
    refine ⟨?_, BX.out⟩
    rw [HT.out, ← txt_slash]
    rfl
set_option maxRecDepth 100000 in
set_option maxHeartbeats 4000000 in
theorem ftext_g (w : World) (na da : Bool) (A B : Option Addr) (n m ca cb : Nat) (xs ys : List Nat) (hA : Lm w w.heap.size A n ca xs) (hB : Lm w w.heap.size B m cb ys) (t : ByteArray) (err : Int)
    (H : ∀ W, Below w.heap.size w W → Lm W W.heap.size A n ca xs → Lm W W.heap.size B m cb ys → Calls Tryz.prog 23 #[fv na A n ca da B m cb, .func (.func 24) #[] #[]] W (RSE W t err)) :
    Calls Tryz.prog 7 #[fv na A n ca da B m cb] w (RSE w t err) := by
  have HH := Lib.hid H
  have QF := Lib.hid (Qd.new w w.heap.size rfl (.bool na) (.slice A n ca) (.bool da) (.slice B m cb) 26)
  have BW : Hid (Below w.heap.size w (w.alloc (.cells #[.bool na, .slice A n ca, .bool da, .slice B m cb] 26))) := below_alloc (Below.refl _ _) _
  have LA := Lib.hid (hA.via BW.out)
  have LB := Lib.hid (hB.via BW.out)
  clear H hA hB
  go_enter Tryz.func7, Tryz.ntmps7
  go_upto_region 1 with (fail)
  generalize w.alloc (.cells #[.bool na, .slice A n ca, .bool da, .slice B m cb] 26) = W0 at *
  have ⟨f0, f1, f2, f3, f4, f5, f6, f7, f8⟩ := QF.out
  go_wp2_with fail
  refine (HH.out _ BW.out LA.out LB.out).mono ?_
  rintro e w1 ⟨rfl, hb⟩
  have BB := Lib.hid (btr BW.out hb)
  clear hb
  go_wp2
  go_returns
  exact ⟨rfl, BB.out⟩
theorem ftext_n (w : World) (A B : Option Addr) (n m ca cb k : Nat) (p q : Int) (hA : Lm w w.heap.size A n ca (digs p.natAbs)) (hB : Lm w w.heap.size B m cb (digs q.natAbs)) (hp : Sz k p) (hq : Sz k q) (hk : k ≤ 2000) (hq0 : 0 < q) (hU : TabU w) {na : Bool} (ha : decide (p < 0) = na) (hv : fchk na (digs p.natAbs) false (digs q.natAbs) = 0) :
    Calls Tryz.prog 7 #[fv na A n ca false B m cb] w (RSE w ⟨(ftx p q).toArray⟩ 0) := by
  have hcf2 : ∀ (u : Value) (W : World), (callFunc 24 #[u]).run Tryz.prog W = .ok (.enter 24 #[u]) W := fun u W => by go_simp
  have hcf3 : ∀ (u v : Value) (W : World), (callFunc 51 (#[] ++ #[u, v])).run Tryz.prog W = .ok (.enter 51 (#[] ++ #[u, v])) W := fun u v W => by go_simp
  exact ftext_g w na false A B n m ca cb _ _ hA hB _ 0 fun W bW h1 h2 => changest_g W 24 na false A B n m ca cb _ _ h1 h2 _ 0 fun W2 g0 ga b2 qf qa i1 i2 =>
    attempts_ok W2 51 #[] #[_, _] ⟨(ftx p q).toArray⟩ (hcf3 _ _) (changest_ok (Wai W2) g0 ga 24 na false A B n m ca cb _ _ (qf.via (wai_below W2)) (qa.via (wai_below W2)) (i1.via (wai_below W2)) (i2.via (wai_below W2)) hv ⟨(ftx p q).toArray⟩ hcf2 fun W3 b3 j1 j2 =>
      text_r W3 A B n m ca cb k p q j1 j2 hp hq hk hq0 (((hU.via bW).via b2).via (btr (wai_below W2) b3)) ha)
end Go.Proofs.YtbplbbkmfbjkfaaGreatDoor

/- bits.TrailingZeros32 and wide.zeros, over the library's table. -/
namespace Go.Proofs.YtbplbbkmfbjkfaaGreatDoor
open Go.RowKit

/-- The table of package bits lies in its variable. -/
def TabD (w : World) : Prop := ∀ j, j < 32 → w.cell? ⟨5, j, none⟩ = some (.int .u8 (Lib.deBruijn32tab.getD j 0))
theorem TabD.below {w w' : World} {B : Nat} (h : TabD w) (hb : Below B w w') (hB : 5 < B) : TabD w' := fun j hj => (hb.cell (p := ⟨5, j, none⟩) hB).trans (h j hj)
theorem TabD.lt {w : World} (h : TabD w) : 5 < w.heap.size := by
  refine Nat.lt_of_not_le fun hle => ?_
  have h0 := h 0 (by omega)
  have hn : w.heap[5]? = none := Array.getElem?_eq_none hle
  simp [World.cell?, hn] at h0
theorem TabD.via {w w' : World} (h : TabD w) (hb : Below w.heap.size w w') : TabD w' := h.below hb h.lt
theorem TabD.box {w : World} (h : TabD w) (o : Obj) : TabD (w.alloc o) := h.via ((Below.refl _ _).alloc (Nat.le_refl _) o)

/-- How many digits 0 the number v ends with. -/
def Zs (v t : Nat) : Prop := ∀ k, v % 2 ^ k = 0 ↔ k ≤ t
end Go.Proofs.YtbplbbkmfbjkfaaGreatDoor

/- wide.Shift. -/
namespace Go.Proofs.YtbplbbkmfbjkfaaGreatDoor
open Go.RowKit

end Go.Proofs.YtbplbbkmfbjkfaaGreatDoor

/- wide.Sqrt. -/
namespace Go.Proofs.YtbplbbkmfbjkfaaGreatDoor
open Go.RowKit

/-- A call returns the root of v as a number. -/
def RQ (w : World) (v : Nat) (e : Ending) (w' : World) : Prop := ∃ r, IsRt v r ∧ RW w false (digs r) 0 e w'
end Go.Proofs.YtbplbbkmfbjkfaaGreatDoor

/- Root, power, shift, greatest common divisor and exact division, in whole numbers. -/
namespace Go.Proofs.YtbplbbkmfbjkfaaGreatDoor
open Go.RowKit

section
variable (w : World) (A : Option Addr) (n c k : Nat) (x : Int) (hA : Lm w w.heap.size A n c (digs x.natAbs))
include hA
end
section
variable (w : World) (A B : Option Addr) (n m ca cb k : Nat) (x y : Int) (hA : Lm w w.heap.size A n ca (digs x.natAbs)) (hB : Lm w w.heap.size B m cb (digs y.natAbs)) (hx : Sz k x) (hy : Sz k y) (hk : k ≤ 2000)
include hA hB hx hy hk
end
end Go.Proofs.YtbplbbkmfbjkfaaGreatDoor

/- The reference Twin: a copy of a number. -/
namespace Go.Proofs.YtbplbbkmfbjkfaaGreatDoor
open Go.RowKit

end Go.Proofs.YtbplbbkmfbjkfaaGreatDoor

/- The reference's Shift: multiplication by a power of 2, or the floor of division by one. -/
namespace Go.Proofs.YtbplbbkmfbjkfaaGreatDoor
open Go.RowKit

/-- What a shift down makes of an absolute value. -/
def DWN (neg : Bool) (v j : Nat) : Nat := if neg = true ∧ 0 < v % 2 ^ j then v / 2 ^ j + 1 else v / 2 ^ j
end Go.Proofs.YtbplbbkmfbjkfaaGreatDoor

/- Shift and DivMod of the reference, and Int on both sides, in whole numbers. -/
namespace Go.Proofs.YtbplbbkmfbjkfaaGreatDoor
open Go.RowKit

theorem rdivmod_n (w : World) (A B : Option Addr) (n m ca cb k : Nat) (x y : Int) (hA : Lm w w.heap.size A n ca (digs x.natAbs)) (hB : Lm w w.heap.size B m cb (digs y.natAbs)) (hx : Sz k x) (hy : Sz k y) (hk : k ≤ 2000) (hy0 : y ≠ 0)
    {na nb : Bool} (ha : decide (x < 0) = na) (hb : decide (y < 0) = nb) :
    Calls Tryz.prog 49 #[.agg #[.bool na, .slice A n ca], .agg #[.bool nb, .slice B m cb]] w (RD2 w x y) := by
  have hv := chkB_z hx (show k ≤ 4096 by omega) hy (show k ≤ 4096 by omega)
  rw [ha, hb] at hv
  have hxl : (digs x.natAbs).length ≤ 4096 := Nat.le_trans hx.len (by omega)
  have hyl : (digs y.natAbs).length ≤ 4096 := Nat.le_trans hy.len (by omega)
  have hbp : 0 < y.natAbs := by omega
  have ex : toI na x.natAbs = x := by rw [← ha]; exact toI_self x
  have ey : toI nb y.natAbs = y := by rw [← hb]; exact toI_self y
  have hdm := Nat.div_add_mod x.natAbs y.natAbs
  have hml := Nat.mod_lt x.natAbs hbp
  have hdl := Nat.div_le_self x.natAbs y.natAbs
  have hm2 := Nat.mod_le x.natAbs y.natAbs
  have key : ∀ (s t : Bool), toI t y.natAbs = y → toI s (x.natAbs / y.natAbs) * y + toI (s != t) (x.natAbs % y.natAbs) = toI (s != t) x.natAbs := by
    intro s t ht
    have e := toI_mul s t (x.natAbs / y.natAbs) y.natAbs
    rw [ht] at e
    rw [e, toI_same rfl, Nat.mul_comm, hdm]
  by_cases hs : na = nb
  · refine (rdivmod_same w na nb A B n m ca cb _ _ hA hB hv hbp hs _ rfl).mono fun e w' h => rww_rd2 (Nat.le_trans (digs_mono hdl) hxl) (Nat.le_trans (digs_mono hm2) hxl) ?_ hml (.inr hb.symm) hdl h
    have h1 := key false nb ey
    subst hs
    rw [show (false != na) = na from by cases na <;> rfl, ex] at h1
    exact h1.symm
  · have hs2 : na = true ∧ nb = false ∨ na = false ∧ nb = true := by cases na <;> cases nb <;> simp_all
    have hnn : (true != nb) = na := by cases na <;> cases nb <;> simp_all
    have h1 := key true nb ey
    rw [hnn, ex] at h1
    rcases Nat.eq_zero_or_pos (x.natAbs % y.natAbs) with h0 | h0
    · refine (rdivmod_exact w na nb A B n m ca cb _ _ hA hB hv hbp hs2 h0).mono fun e w' h => rww_rd2 (Nat.le_trans (digs_mono hdl) hxl) (Nat.le_trans (digs_mono hm2) hxl) ?_ hml (.inl h0) hdl h
      exact h1.symm
    · have hq1 : x.natAbs / y.natAbs + 1 ≤ x.natAbs := by
        have h2 : 2 ≤ y.natAbs := by omega
        have h3 := Nat.mul_le_mul_right (x.natAbs / y.natAbs) h2
        omega
      refine (rdivmod_down w na nb A B n m ca cb _ _ hA hB hv hbp hs2 h0).mono fun e w' h => rww_rd2 (Nat.le_trans (digs_mono hq1) hxl) (Nat.le_trans (digs_mono (show y.natAbs - x.natAbs % y.natAbs ≤ y.natAbs by omega)) hyl) ?_ (by omega) (.inr hb.symm) hq1 h
      have h4 : toI true (x.natAbs / y.natAbs + 1) = toI true (x.natAbs / y.natAbs) - 1 := by unfold toI; simp; omega
      rw [h4, Int.sub_mul, Int.one_mul]
      have h5 : toI nb (y.natAbs - x.natAbs % y.natAbs) - y = toI na (x.natAbs % y.natAbs) := by
        rw [← ey, toI_abs]
        unfold toI
        cases na <;> cases nb <;> simp_all <;> omega
      omega
/-- What Int returns of the number z. -/
def i64V (z : Int) : Int := if -9223372036854775808 ≤ z ∧ z ≤ 9223372036854775807 then z else 0
def i64E (z : Int) : Int := if -9223372036854775808 ≤ z ∧ z ≤ 9223372036854775807 then 0 else 16
section
variable (w : World) (A : Option Addr) (n c k : Nat) (z : Int) (hA : Lm w w.heap.size A n c (digs z.natAbs)) (hz : Sz k z) (hk : k ≤ 2000)
include hA hz hk
end
end Go.Proofs.YtbplbbkmfbjkfaaGreatDoor

/- The reference of frac: product, added. -/
namespace Go.Proofs.YtbplbbkmfbjkfaaGreatDoor
open Go.RowKit

section
variable (w : World) (A B : Option Addr) (n m ca cb k : Nat) (x y : Int) (hA : Lm w w.heap.size A n ca (digs x.natAbs)) (hB : Lm w w.heap.size B m cb (digs y.natAbs)) (hx : Sz k x) (hy : Sz k y) (hk : k ≤ 2000)
include hA hB hx hy hk
theorem rsub_n {na nb : Bool} (ha : decide (x < 0) = na) (hb : decide (y < 0) = nb) : Calls Tryz.prog 63 #[.agg #[.bool na, .slice A n ca], .agg #[.bool nb, .slice B m cb]] w (RN w (x - y)) := by
  subst ha hb
  have h := rsub_ok w _ _ A B n m ca cb _ _ hA hB (chkB_z hx (by omega) hy (by omega))
  rw [toI_self, toI_self] at h
  exact h.mono fun e w' hr => rz_rn (hx.sub hy) (by omega) hr
end

set_option maxRecDepth 100000 in
set_option maxHeartbeats 4000000 in
theorem rprod_pos (w : World) (A B C D : Option Addr) (n m r s ca cb cc cd k : Nat) (x u P v : Int) (hA : Lm w w.heap.size A n ca (digs x.natAbs)) (hsx : Sz k x) {na : Bool} (hna : decide (x < 0) = na) (hC : Lm w w.heap.size C r cc (digs u.natAbs)) (hsu : Sz k u) {nc : Bool} (hnc : decide (u < 0) = nc) (hB : Lm w w.heap.size B m cb (digs P.natAbs)) (hsP : Sz k P) {nb : Bool} (hnb : decide (P < 0) = nb) (hD : Lm w w.heap.size D s cd (digs v.natAbs)) (hsv : Sz k v) {nd : Bool} (hnd : decide (v < 0) = nd) (hk : k ≤ 300) (hs : 0 < P * v) :
    Calls Tryz.prog 30 #[.agg #[.bool na, .slice A n ca], .agg #[.bool nc, .slice C r cc], .agg #[.bool nb, .slice B m cb], .agg #[.bool nd, .slice D s cd]] w (RFE w (x * u / dvr (x * u) (P * v)) (P * v / dvr (x * u) (P * v))) := by
  have HA := Lib.hid hA
  have Sx := Lib.hid hsx
  have Hna := Lib.hid hna
  have HC := Lib.hid hC
  have Su := Lib.hid hsu
  have Hnc := Lib.hid hnc
  have HB := Lib.hid hB
  have SP := Lib.hid hsP
  have Hnb := Lib.hid hnb
  have HD := Lib.hid hD
  have Sv := Lib.hid hsv
  have Hnd := Lib.hid hnd
  clear hA hsx hna hC hsu hnc hB hsP hnb hD hsv hnd
  have HS := Lib.hid hs
  clear hs
  go_enter Tryz.func30, Tryz.ntmps30
  have PA := Lib.hid (((((Pr.new w (w.heap.size) rfl (.bool na) (.slice A n ca) 24).alloc (.cells #[.bool nc, .slice C r cc] 24)).alloc (.cells #[.bool nb, .slice B m cb] 24)).alloc (.cells #[.bool nd, .slice D s cd] 24)).alloc (.cells #[.bool false, .slice none 0 0, .bool false, .slice none 0 0] 26))
  have PC := Lib.hid ((((Pr.new (w.alloc (.cells #[.bool na, .slice A n ca] 24)) (w.heap.size + 1) (by simp) (.bool nc) (.slice C r cc) 24).alloc (.cells #[.bool nb, .slice B m cb] 24)).alloc (.cells #[.bool nd, .slice D s cd] 24)).alloc (.cells #[.bool false, .slice none 0 0, .bool false, .slice none 0 0] 26))
  have PB := Lib.hid (((Pr.new ((w.alloc (.cells #[.bool na, .slice A n ca] 24)).alloc (.cells #[.bool nc, .slice C r cc] 24)) (w.heap.size + 1 + 1) (by simp) (.bool nb) (.slice B m cb) 24).alloc (.cells #[.bool nd, .slice D s cd] 24)).alloc (.cells #[.bool false, .slice none 0 0, .bool false, .slice none 0 0] 26))
  have PD := Lib.hid ((Pr.new (((w.alloc (.cells #[.bool na, .slice A n ca] 24)).alloc (.cells #[.bool nc, .slice C r cc] 24)).alloc (.cells #[.bool nb, .slice B m cb] 24)) (w.heap.size + 1 + 1 + 1) (by simp) (.bool nd) (.slice D s cd) 24).alloc (.cells #[.bool false, .slice none 0 0, .bool false, .slice none 0 0] 26))
  have QR := Lib.hid (Qd.new ((((w.alloc (.cells #[.bool na, .slice A n ca] 24)).alloc (.cells #[.bool nc, .slice C r cc] 24)).alloc (.cells #[.bool nb, .slice B m cb] 24)).alloc (.cells #[.bool nd, .slice D s cd] 24)) (w.heap.size + 1 + 1 + 1 + 1) (by simp) (.bool false) (.slice none 0 0) (.bool false) (.slice none 0 0) 26)
  have LA := Lib.hid (((((HA.out.box (.cells #[.bool na, .slice A n ca] 24)).box (.cells #[.bool nc, .slice C r cc] 24)).box (.cells #[.bool nb, .slice B m cb] 24)).box (.cells #[.bool nd, .slice D s cd] 24)).box (.cells #[.bool false, .slice none 0 0, .bool false, .slice none 0 0] 26))
  have LC := Lib.hid (((((HC.out.box (.cells #[.bool na, .slice A n ca] 24)).box (.cells #[.bool nc, .slice C r cc] 24)).box (.cells #[.bool nb, .slice B m cb] 24)).box (.cells #[.bool nd, .slice D s cd] 24)).box (.cells #[.bool false, .slice none 0 0, .bool false, .slice none 0 0] 26))
  have LB := Lib.hid (((((HB.out.box (.cells #[.bool na, .slice A n ca] 24)).box (.cells #[.bool nc, .slice C r cc] 24)).box (.cells #[.bool nb, .slice B m cb] 24)).box (.cells #[.bool nd, .slice D s cd] 24)).box (.cells #[.bool false, .slice none 0 0, .bool false, .slice none 0 0] 26))
  have LD := Lib.hid (((((HD.out.box (.cells #[.bool na, .slice A n ca] 24)).box (.cells #[.bool nc, .slice C r cc] 24)).box (.cells #[.bool nb, .slice B m cb] 24)).box (.cells #[.bool nd, .slice D s cd] 24)).box (.cells #[.bool false, .slice none 0 0, .bool false, .slice none 0 0] 26))
  have BW : Hid (Below w.heap.size w (((((w.alloc (.cells #[.bool na, .slice A n ca] 24)).alloc (.cells #[.bool nc, .slice C r cc] 24)).alloc (.cells #[.bool nb, .slice B m cb] 24)).alloc (.cells #[.bool nd, .slice D s cd] 24)).alloc (.cells #[.bool false, .slice none 0 0, .bool false, .slice none 0 0] 26))) := (below_alloc (below_alloc (below_alloc (below_alloc (below_alloc (Below.refl _ _) _) _) _) _) _)
  clear HA HC HB HD
  go_wp2_with fail
  generalize ((((w.alloc (.cells #[.bool na, .slice A n ca] 24)).alloc (.cells #[.bool nc, .slice C r cc] 24)).alloc (.cells #[.bool nb, .slice B m cb] 24)).alloc (.cells #[.bool nd, .slice D s cd] 24)).alloc (.cells #[.bool false, .slice none 0 0, .bool false, .slice none 0 0] 26) = W0 at *
  refine (rmul_n _ A C n r ca cc k x u LA.out LC.out Sx.out Su.out (by omega) Hna.out Hnc.out).mono ?_
  rintro e w1 ⟨A1, n1, c1, rfl, hL1, hb⟩
  clear PA
  clear PC
  clear LA
  clear LC
  replace PB := Lib.hid (PB.out.via hb)
  replace PD := Lib.hid (PD.out.via hb)
  replace QR := Lib.hid (QR.out.via hb)
  replace LB := Lib.hid (LB.out.via hb)
  replace LD := Lib.hid (LD.out.via hb)
  replace BW := Lib.hid (btr BW.out hb)
  have L1 := Lib.hid hL1
  clear hb hL1
  obtain ⟨z1, hz1⟩ : ∃ b, decide (x * u < 0) = b := ⟨_, rfl⟩
  rw [hz1]
  have Hz1 := Lib.hid hz1
  clear hz1
  have ⟨rPB0, rPB1, rPB2, rPB3, rPBl⟩ := PB.out
  have ⟨rPD0, rPD1, rPD2, rPD3, rPDl⟩ := PD.out
  go_wp2_with fail
  clear rPB0 rPB1 rPB2 rPB3 rPBl rPD0 rPD1 rPD2 rPD3 rPDl
  replace PB := Lib.hid (PB.out.alloc (.cells #[.bool z1, .slice A1 n1 c1] 24))
  replace PD := Lib.hid (PD.out.alloc (.cells #[.bool z1, .slice A1 n1 c1] 24))
  replace QR := Lib.hid (QR.out.alloc (.cells #[.bool z1, .slice A1 n1 c1] 24))
  replace LB := Lib.hid (LB.out.box (.cells #[.bool z1, .slice A1 n1 c1] 24))
  replace LD := Lib.hid (LD.out.box (.cells #[.bool z1, .slice A1 n1 c1] 24))
  replace L1 := Lib.hid (L1.out.box (.cells #[.bool z1, .slice A1 n1 c1] 24))
  have M1 := Lib.hid (Pr.new w1 _ rfl (.bool z1) (.slice A1 n1 c1) 24)
  replace BW := Lib.hid (below_alloc BW.out (.cells #[.bool z1, .slice A1 n1 c1] 24))
  generalize w1.alloc (.cells #[.bool z1, .slice A1 n1 c1] 24) = W1 at *
  generalize w1.heap.size = g1 at *
  refine (rmul_n _ B D m s cb cd k P v LB.out LD.out SP.out Sv.out (by omega) Hnb.out Hnd.out).mono ?_
  rintro e w2 ⟨A2, n2, c2, rfl, hL2, hb⟩
  clear PB
  clear PD
  clear LB
  clear LD
  replace QR := Lib.hid (QR.out.via hb)
  replace L1 := Lib.hid (L1.out.via hb)
  replace M1 := Lib.hid (M1.out.via hb)
  replace BW := Lib.hid (btr BW.out hb)
  have L2 := Lib.hid hL2
  clear hb hL2
  obtain ⟨z2, hz2⟩ : ∃ b, decide (P * v < 0) = b := ⟨_, rfl⟩
  rw [hz2]
  have Hz2 := Lib.hid hz2
  clear hz2
  have ⟨rM10, rM11, rM12, rM13, rM1l⟩ := M1.out
  go_wp2_with fail
  clear rM10 rM11 rM12 rM13 rM1l
  replace QR := Lib.hid (QR.out.alloc (.cells #[.bool z2, .slice A2 n2 c2] 24))
  replace L1 := Lib.hid (L1.out.box (.cells #[.bool z2, .slice A2 n2 c2] 24))
  replace M1 := Lib.hid (M1.out.alloc (.cells #[.bool z2, .slice A2 n2 c2] 24))
  replace L2 := Lib.hid (L2.out.box (.cells #[.bool z2, .slice A2 n2 c2] 24))
  have M2 := Lib.hid (Pr.new w2 _ rfl (.bool z2) (.slice A2 n2 c2) 24)
  replace BW := Lib.hid (below_alloc BW.out (.cells #[.bool z2, .slice A2 n2 c2] 24))
  generalize w2.alloc (.cells #[.bool z2, .slice A2 n2 c2] 24) = W2 at *
  generalize w2.heap.size = g2 at *
  refine (rreduced_pos _ A1 A2 n1 n2 c1 c2 (k + k) (x * u) (P * v) L1.out L2.out (Sx.out.mul Su.out) (SP.out.mul Sv.out) (by omega) Hz1.out Hz2.out HS.out).mono ?_
  rintro e w3 ⟨A5, n5, c5, A6, n6, c6, rfl, hL5, hL6, hb⟩
  clear M1
  clear M2
  clear L1
  clear L2
  replace QR := Lib.hid (QR.out.via hb)
  replace BW := Lib.hid (btr BW.out hb)
  have L5 := Lib.hid hL5
  have L6 := Lib.hid hL6
  clear hb hL5 hL6
  obtain ⟨z5, hz5⟩ : ∃ b, decide (x * u / dvr (x * u) (P * v) < 0) = b := ⟨_, rfl⟩
  rw [hz5]
  have Hz5 := Lib.hid hz5
  clear hz5
  obtain ⟨z6, hz6⟩ : ∃ b, decide (P * v / dvr (x * u) (P * v) < 0) = b := ⟨_, rfl⟩
  rw [hz6]
  have Hz6 := Lib.hid hz6
  clear hz6
  have ⟨rQR0, rQR1, rQR2, rQR3, rQR4, rQR5, rQR6, rQR7, rQRl⟩ := QR.out
  go_wp2
  exact post_f Tryz.results30 rfl rfl (QR.out.set (.bool z5) (.slice A5 n5 c5) (.bool z6) (.slice A6 n6 c6)) ⟨A5, n5, c5, A6, n6, c6, by rw [Hz5.out, Hz6.out]; rfl, L5.out.put4 QR.out _ _ _ _, L6.out.put4 QR.out _ _ _ _, below_put4 BW.out (by omega) _ _ _ _⟩

end Go.Proofs.YtbplbbkmfbjkfaaGreatDoor

/- The reference of frac: Round, Text of a valid fraction. -/
namespace Go.Proofs.YtbplbbkmfbjkfaaGreatDoor
open Go.RowKit

/-- A number in the box g, what was there kept. -/
def StW (w : World) (g : Nat) (z : Int) (wx : World) : Prop := ∃ A n c, Pr wx g (.bool (decide (z < 0))) (.slice A n c) ∧ Lm wx wx.heap.size A n c (digs z.natAbs) ∧ Below w.heap.size w wx
theorem stw_fin {w w2 : World} {g n0 c0 n c : Nat} {z : Int} {b : Bool} {A0 A : Option Addr} (hb : Below w.heap.size w w2) (hL : Lm w2 w2.heap.size A n c (digs z.natAbs)) (P : Pr w2 g (.bool b) (.slice A0 n0 c0)) (hg : w.heap.size ≤ g) :
    StW w g z ((w2.setCell ⟨g, 0, none⟩ (.bool (decide (z < 0)))).setCell ⟨g, 1, none⟩ (.slice A n c)) :=
  ⟨A, n, c, P.set _ _, hL.setP P _ _, below_set2 hb hg _ _⟩
set_option maxRecDepth 100000 in
set_option maxHeartbeats 8000000 in
theorem rround_n (w : World) (na : Bool) (A B : Option Addr) (n m ca cb k : Nat) (x P : Int) (hA : Lm w w.heap.size A n ca (digs x.natAbs)) (hB : Lm w w.heap.size B m cb (digs P.natAbs)) (hx : Sz k x) (hP : Sz k P) (hk : k ≤ 300) (ha : decide (x < 0) = na) (hP0 : 0 < P) (hv : fchk na (digs x.natAbs) false (digs P.natAbs) = 0) : Calls Tryz.prog 31 #[fv na A n ca false B m cb] w (RN w (rndZ x P)) := by
  have HA := Lib.hid hA
  have HB := Lib.hid hB
  have HX := Lib.hid hx
  have HP := Lib.hid hP
  have HNa := Lib.hid ha
  have H0 := Lib.hid hP0
  have HC := Lib.hid hv
  clear hA hB hx hP ha hP0 hv
  go_enter Tryz.func31, Tryz.ntmps31
  have QF := Lib.hid ((Qd.new w (w.heap.size) rfl (.bool na) (.slice A n ca) (.bool false) (.slice B m cb) 26).alloc (.cells #[.bool false, .slice none 0 0] 24))
  have QR := Lib.hid (Pr.new (w.alloc (.cells #[.bool na, .slice A n ca, .bool false, .slice B m cb] 26)) (w.heap.size + 1) (by simp) (.bool false) (.slice none 0 0) 24)
  have LA := Lib.hid ((HA.out.box (.cells #[.bool na, .slice A n ca, .bool false, .slice B m cb] 26)).box (.cells #[.bool false, .slice none 0 0] 24))
  have LB := Lib.hid ((HB.out.box (.cells #[.bool na, .slice A n ca, .bool false, .slice B m cb] 26)).box (.cells #[.bool false, .slice none 0 0] 24))
  have BW : Hid (Below w.heap.size w ((w.alloc (.cells #[.bool na, .slice A n ca, .bool false, .slice B m cb] 26)).alloc (.cells #[.bool false, .slice none 0 0] 24))) := (below_alloc (below_alloc (Below.refl _ _) _) _)
  clear HA HB
  go_wp2_with fail
  generalize (w.alloc (.cells #[.bool na, .slice A n ca, .bool false, .slice B m cb] 26)).alloc (.cells #[.bool false, .slice none 0 0] 24) = W0 at *
  refine (rfcheck_any _ na false A B n m ca cb _ _ LA.out LB.out).mono ?_
  rintro e w1 ⟨rfl, hb⟩
  replace QF := Lib.hid (QF.out.via hb)
  replace QR := Lib.hid (QR.out.via hb)
  replace LA := Lib.hid (LA.out.via hb)
  replace LB := Lib.hid (LB.out.via hb)
  replace BW := Lib.hid (btr BW.out hb)
  clear hb
  rw [HC.out]
  have ⟨rQF0, rQF1, rQF2, rQF3, rQF4, rQF5, rQF6, rQF7, rQFl⟩ := QF.out
  go_wp2_with fail
  clear rQF0 rQF1 rQF2 rQF3 rQF4 rQF5 rQF6 rQF7 rQFl
  refine (rdivmod_n _ A B n m ca cb k x P LA.out LB.out HX.out HP.out (by omega) (by have := H0.out; omega) HNa.out (decide_eq_false (by have := H0.out; omega))).mono ?_
  rintro e w2 ⟨q, r, h1, h2, h3, hqx, A1, n1, c1, A2, n2, c2, rfl, hL1, hL2, hb⟩
  clear LA
  replace QF := Lib.hid (QF.out.via hb)
  replace QR := Lib.hid (QR.out.via hb)
  replace LB := Lib.hid (LB.out.via hb)
  replace BW := Lib.hid (btr BW.out hb)
  have L1 := Lib.hid hL1
  have L2 := Lib.hid hL2
  clear hb hL1 hL2
  have HQ : Hid (q = x / P ∧ r = x % P) := flr_of H0.out h1 h2 h3
  have HRR : Hid (0 ≤ r ∧ r < P) := by
    have e := HQ.out.2
    have := Int.emod_nonneg x (show P ≠ 0 by have := H0.out; omega)
    have := Int.emod_lt_of_pos x H0.out
    show _ ∧ _
    omega
  have HSq : Hid (Sz k q) := by
    have := HX.out
    show _ < _
    unfold Sz at this
    omega
  have HSr : Hid (Sz k r) := by
    have := HP.out
    have := HRR.out
    show _ < _
    unfold Sz at *
    omega
  clear h1 h2 h3 hqx
  obtain ⟨np, hnp⟩ : ∃ b, decide (q < 0) = b := ⟨_, rfl⟩
  rw [hnp]
  have Hnp := Lib.hid hnp
  clear hnp
  obtain ⟨nr, hnr⟩ : ∃ b, decide (r < 0) = b := ⟨_, rfl⟩
  rw [hnr]
  have Hnr := Lib.hid hnr
  clear hnr
  go_upto_region 4 with (fail)
  have HNE : Hid (w.heap.size + 1 < w2.heap.size) := QR.out.lt
  replace QF := Lib.hid ((QF.out.alloc (.cells #[.bool np, .slice A1 n1 c1] 24)).alloc (.cells #[.bool nr, .slice A2 n2 c2] 24))
  replace QR := Lib.hid ((QR.out.alloc (.cells #[.bool np, .slice A1 n1 c1] 24)).alloc (.cells #[.bool nr, .slice A2 n2 c2] 24))
  replace LB := Lib.hid ((LB.out.box (.cells #[.bool np, .slice A1 n1 c1] 24)).box (.cells #[.bool nr, .slice A2 n2 c2] 24))
  replace L1 := Lib.hid ((L1.out.box (.cells #[.bool np, .slice A1 n1 c1] 24)).box (.cells #[.bool nr, .slice A2 n2 c2] 24))
  replace L2 := Lib.hid ((L2.out.box (.cells #[.bool np, .slice A1 n1 c1] 24)).box (.cells #[.bool nr, .slice A2 n2 c2] 24))
  have P3 := Lib.hid ((Pr.new w2 _ rfl (.bool np) (.slice A1 n1 c1) 24).alloc (.cells #[.bool nr, .slice A2 n2 c2] 24))
  have P4 := Lib.hid (Pr.new (w2.alloc (.cells #[.bool np, .slice A1 n1 c1] 24)) (w2.heap.size + 1) (by simp) (.bool nr) (.slice A2 n2 c2) 24)
  replace BW := Lib.hid (below_alloc (below_alloc BW.out (.cells #[.bool np, .slice A1 n1 c1] 24)) (.cells #[.bool nr, .slice A2 n2 c2] 24))
  generalize w2.heap.size = g4 at *
  generalize (w2.alloc (.cells #[.bool np, .slice A1 n1 c1] 24)).alloc (.cells #[.bool nr, .slice A2 n2 c2] 24) = V4 at *
  have ⟨rQF0, rQF1, rQF2, rQF3, rQF4, rQF5, rQF6, rQF7, rQFl⟩ := QF.out
  have ⟨rP40, rP41, rP42, rP43, rP4l⟩ := P4.out
  go_wp2_with fail
  clear rQF0 rQF1 rQF2 rQF3 rQF4 rQF5 rQF6 rQF7 rQFl rP40 rP41 rP42 rP43 rP4l
  refine (rsub_n _ B A2 m n2 cb c2 k P r LB.out L2.out HP.out HSr.out (by omega) (decide_eq_false (by have := H0.out; omega)) Hnr.out).mono ?_
  rintro e w3 ⟨A3, n3, c3, rfl, hL3, hb⟩
  clear LB
  clear QF
  replace QR := Lib.hid (QR.out.via hb)
  replace L1 := Lib.hid (L1.out.via hb)
  replace L2 := Lib.hid (L2.out.via hb)
  replace P3 := Lib.hid (P3.out.via hb)
  replace P4 := Lib.hid (P4.out.via hb)
  replace BW := Lib.hid (btr BW.out hb)
  have L3 := Lib.hid hL3
  clear hb hL3
  obtain ⟨nm, hnm⟩ : ∃ b, decide (P - r < 0) = b := ⟨_, rfl⟩
  rw [hnm]
  have Hnm := Lib.hid hnm
  clear hnm
  have ⟨rP40, rP41, rP42, rP43, rP4l⟩ := P4.out
  go_wp2_with fail
  clear rP40 rP41 rP42 rP43 rP4l
  replace QR := Lib.hid (QR.out.alloc (.cells #[.bool nm, .slice A3 n3 c3] 24))
  replace L1 := Lib.hid (L1.out.box (.cells #[.bool nm, .slice A3 n3 c3] 24))
  replace L2 := Lib.hid (L2.out.box (.cells #[.bool nm, .slice A3 n3 c3] 24))
  replace P3 := Lib.hid (P3.out.alloc (.cells #[.bool nm, .slice A3 n3 c3] 24))
  replace P4 := Lib.hid (P4.out.alloc (.cells #[.bool nm, .slice A3 n3 c3] 24))
  replace L3 := Lib.hid (L3.out.box (.cells #[.bool nm, .slice A3 n3 c3] 24))
  have P5 := Lib.hid (Pr.new w3 _ rfl (.bool nm) (.slice A3 n3 c3) 24)
  replace BW := Lib.hid (below_alloc BW.out (.cells #[.bool nm, .slice A3 n3 c3] 24))
  generalize w3.alloc (.cells #[.bool nm, .slice A3 n3 c3] 24) = W3 at *
  generalize w3.heap.size = g3 at *
  refine (rcompared_n _ A2 A3 n2 n3 c2 c3 (k + 1) r (P - r) L2.out L3.out (HSr.out.mono (by omega)) (HP.out.sub HSr.out) (by omega) Hnr.out Hnm.out).mono ?_
  rintro e w4 ⟨rfl, hb⟩
  clear L2
  clear L3
  clear P4
  clear P5
  replace QR := Lib.hid (QR.out.via hb)
  replace L1 := Lib.hid (L1.out.via hb)
  replace P3 := Lib.hid (P3.out.via hb)
  replace BW := Lib.hid (btr BW.out hb)
  clear hb
  obtain ⟨cz, hcz⟩ : ∃ c, cmpZ r (P - r) = c := ⟨_, rfl⟩
  rw [hcz]
  have HCz : Hid ((r < P - r → cz = -1) ∧ (r = P - r → cz = 0) ∧ (P - r < r → cz = 1)) := by
    show _ ∧ _ ∧ _
    rw [← hcz]
    unfold cmpZ
    refine ⟨fun h => ?_, fun h => ?_, fun h => ?_⟩ <;> (repeat' split) <;> omega
  clear hcz
  go_upto_region 8 with (fail)
  go_cut [10] (fun s10 wx => s10 = .bool (decide (q.natAbs % 2 = 1)) ∧ wx = w4)
  case first =>
    have hlen1 := L1.out.len
    have hdh := digs_head q.natAbs
    have ⟨p0, p1, _, _, _⟩ := P3.out
    by_cases hn1 : n1 = 0
    · have hq : q.natAbs % 2 = 0 := by
        rw [← hdh, List.eq_nil_of_length_eq_zero (hlen1.trans hn1)]
        rfl
      have HPar : Hid (decide (q.natAbs % 2 = 1) = false) := decide_eq_false (by omega)
      subst hn1
      clear hlen1 hdh hq
      go_wp2
      go_meet
      exact ⟨by rw [HPar.out], rfl⟩
    · have k3 : (0 : Int) < (n1 : Int) := by omega
      obtain ⟨b3, off3, hA3, hbb3, hck⟩ := L1.out.at_ (by omega)
      have hc0 := hck 0 (by omega)
      rw [Nat.add_zero] at hc0
      obtain ⟨y0, hy0⟩ : ∃ y0, (digs q.natAbs)[0]?.getD 0 = y0 := ⟨_, rfl⟩
      rw [hy0] at hc0 hdh
      have hcap3 := L1.out.cap
      have hmax3 := L1.out.max
      subst hA3
      clear hck hlen1 hy0
      by_cases hpar : q.natAbs % 2 = 1
      · have hy2 : (y0 : Int) % 2 = 1 := by omega
        have hy3 : ((y0 : Int) % 2 == 1) = true := by rw [hy2]; rfl
        have HPar : Hid (decide (q.natAbs % 2 = 1) = true) := decide_eq_true hpar
        clear hpar hdh
        go_wp2
        go_meet
        exact ⟨by rw [HPar.out], rfl⟩
      · have hy2 : (y0 : Int) % 2 = 0 := by omega
        have hy3 : ((y0 : Int) % 2 == 1) = false := by rw [hy2]; rfl
        have HPar : Hid (decide (q.natAbs % 2 = 1) = false) := decide_eq_false hpar
        clear hpar hdh
        go_wp2
        go_meet
        exact ⟨by rw [HPar.out], rfl⟩
  case rest =>
  obtain ⟨rfl, hwc⟩ := hcut
  generalize wc = V5 at *
  subst hwc
  rcases Int.lt_trichotomy r (P - r) with hlt | heq | hgt
  · obtain rfl : cz = -1 := HCz.out.1 hlt
    have HZ : Hid (rndZ x P = q) := by
      obtain ⟨e1, e2⟩ := HQ.out
      show _ = _
      unfold rndZ
      rw [← e2, ← e1, if_pos (by omega)]
    clear hlt HCz HRR H0 HQ
    have ⟨p0, p1, _, _, _⟩ := P3.out
    have ⟨q0, q1, f0, f1, ql⟩ := QR.out
    go_wp2
    have KS := QR.out.set (.bool np) (.slice A1 n1 c1)
    exact post_w Tryz.results31 rfl rfl KS.c0 KS.c1 ⟨A1, n1, c1, by rw [HZ.out, Hnp.out]; rfl, by rw [HZ.out]; exact L1.out.setP QR.out _ _, below_set2 BW.out (by omega) _ _⟩
  · obtain rfl : cz = 0 := HCz.out.2.1 heq
    by_cases hev : q.natAbs % 2 = 1
    · rw [decide_eq_true hev]
      have HZ : Hid (rndZ x P = q + 1) := by
        obtain ⟨e1, e2⟩ := HQ.out
        show _ = _
        unfold rndZ
        rw [← e2, ← e1, if_neg (by omega), if_neg (by omega)]
      clear heq hev HCz HRR H0 HQ
      go_upto_region 10 with (fail)
      have HKS : Hid (∀ X : World, Below V5.heap.size V5 X → X.cell? ⟨g4, 0, none⟩ = some (.bool np) ∧ X.cell? ⟨g4, 1, none⟩ = some (.slice A1 n1 c1)) := fun X h => ⟨(P3.out.via h).c0, (P3.out.via h).c1⟩
      obtain ⟨gr, hgr⟩ : ∃ gr, w.heap.size + 1 = gr := ⟨_, rfl⟩
      have HGR : Hid (w.heap.size ≤ gr) := by show _ ≤ _; omega
      rw [hgr] at QR HNE ⊢
      clear hgr
      go_cut [3] (fun s3 wx => s3 = .int .i64 0 ∧ StW w gr (q + 1) wx)
      case first =>
        go_region_held3 (fun X => X.cell? ⟨g4, 0, none⟩ = some (.bool np) ∧ X.cell? ⟨g4, 1, none⟩ = some (.slice A1 n1 c1))
          (first | exact HKS.out _ (Below.refl _ _) | exact HKS.out _ (Below.refl _ _).drew | exact HKS.out _ BB2 | exact HKS.out _ BB1 | exact ⟨((P3.out.via BB2).far (show g4 ≠ gr by have := HNE.out; omega) _ _).c0, ((P3.out.via BB2).far (show g4 ≠ gr by have := HNE.out; omega) _ _).c1⟩)
          (first
           | (have _t := BB1; go_at_call 65; refine (radd_n _ A1 A6 n1 n6 c1 c6 (k + 1) q 1 (L1.out.via BB1) hL6 (HSq.out.mono (by omega)) (Sz.mono (show Sz 1 (1 : Int) by unfold Sz; decide) (by omega)) (by omega) Hnp.out (by decide)).mono ?_; rintro e u2 ⟨A7, n7, c7, rfl, hL7, hh⟩; have B2 : Below u1.heap.size u1 u2 := (by first | with_reducible exact hh | with_reducible exact b_two hh | with_reducible exact b_one hh); have BB2 := btr BB1 B2; have S2 := BB2.size; have T2 := B2.size; (try (have P0 := P0.via B2)); (try (have D0a := D0a.via B2; have D0b := D0b.via B2)); (try (have P1 : (Qd u2 (u1.heap.size) (.bool false) (.slice none 0 0) (.bool false) (.slice none 0 0)) := (by with_reducible exact (Qd.new u1 (u1.heap.size) rfl (.bool false) (.slice none 0 0) (.bool false) (.slice none 0 0) 26).via hh); have l1 := P1.lt)); (try (have D1a : (Qd u2 (u1.heap.size) (.bool false) (.slice none 0 0) (.bool false) (.slice none 0 0)) := (by with_reducible exact ((Qd.new u1 (u1.heap.size) rfl (.bool false) (.slice none 0 0) (.bool false) (.slice none 0 0) 26).alloc (.cells #[.bool false, .slice none 0 0, .bool false, .slice none 0 0] 26)).via hh); have D1b : (Qd u2 (u1.heap.size + 1) (.bool false) (.slice none 0 0) (.bool false) (.slice none 0 0)) := (by with_reducible exact (Qd.new (u1.alloc (.cells #[.bool false, .slice none 0 0, .bool false, .slice none 0 0] 26)) (u1.heap.size + 1) (by simp) (.bool false) (.slice none 0 0) (.bool false) (.slice none 0 0) 26).via hh); have l1 := D1a.lt)); (try (have ⟨p00, p01, p02, p03, p04, p05, p06, p07, p0l⟩ := P0; have p0a0 := fun o => (P0.alloc o).c0; have p0a1 := fun o => (P0.alloc o).c1; have p0a2 := fun o => (P0.alloc o).c2; have p0a3 := fun o => (P0.alloc o).c3; have p0a4 := fun o => (P0.alloc o).f0; have p0a5 := fun o => (P0.alloc o).f1; have p0a6 := fun o => (P0.alloc o).f2; have p0a7 := fun o => (P0.alloc o).f3; have p0n1 := Nat.ne_of_lt p0l; have p0n2 := Nat.ne_of_gt p0l)); (try (have ⟨da0_0, da0_1, da0_2, da0_3, da0_4, da0_5, da0_6, da0_7, da0_l⟩ := D0a; have ⟨db0_0, db0_1, db0_2, db0_3, db0_4, db0_5, db0_6, db0_7, db0_l⟩ := D0b)); (try (have m01 : ¬ (V5.heap.size = u1.heap.size) := (by have := l0; have := l1; omega); have n01 : ¬ (u1.heap.size = V5.heap.size) := (by have := l0; have := l1; omega))); (try (have ⟨p10, p11, p12, p13, p14, p15, p16, p17, p1l⟩ := P1; have p1a0 := fun o => (P1.alloc o).c0; have p1a1 := fun o => (P1.alloc o).c1; have p1a2 := fun o => (P1.alloc o).c2; have p1a3 := fun o => (P1.alloc o).c3; have p1a4 := fun o => (P1.alloc o).f0; have p1a5 := fun o => (P1.alloc o).f1; have p1a6 := fun o => (P1.alloc o).f2; have p1a7 := fun o => (P1.alloc o).f3; have p1n1 := Nat.ne_of_lt p1l; have p1n2 := Nat.ne_of_gt p1l)); (try (have ⟨da1_0, da1_1, da1_2, da1_3, da1_4, da1_5, da1_6, da1_7, da1_l⟩ := D1a; have ⟨db1_0, db1_1, db1_2, db1_3, db1_4, db1_5, db1_6, db1_7, db1_l⟩ := D1b)); have ⟨q0, q1, f0, f1, ql⟩ := QR.out.via BB2)
           | (go_at_call 18; refine (rfrom_any _ 1 (by decide) (by decide)).mono ?_; rintro e u1 ⟨A6, n6, c6, rfl, hL6, hh⟩; have BB1 : Below V5.heap.size V5 u1 := (by first | with_reducible exact b_two_d hh | with_reducible exact b_one_d hh | exact (Below.refl _ _).drew.trans hh); have S1 := BB1.size; have T1 := BB1.size; (try (have P0 : (Qd u1 (V5.heap.size) (.bool false) (.slice none 0 0) (.bool false) (.slice none 0 0)) := (by with_reducible exact (Qd.new V5 (V5.heap.size) rfl (.bool false) (.slice none 0 0) (.bool false) (.slice none 0 0) 26).drew.via hh); have l0 := P0.lt)); (try (have D0a : (Qd u1 (V5.heap.size) (.bool false) (.slice none 0 0) (.bool false) (.slice none 0 0)) := (by with_reducible exact ((Qd.new V5 (V5.heap.size) rfl (.bool false) (.slice none 0 0) (.bool false) (.slice none 0 0) 26).alloc (.cells #[.bool false, .slice none 0 0, .bool false, .slice none 0 0] 26)).drew.via hh); have D0b : (Qd u1 (V5.heap.size + 1) (.bool false) (.slice none 0 0) (.bool false) (.slice none 0 0)) := (by with_reducible exact (Qd.new (V5.alloc (.cells #[.bool false, .slice none 0 0, .bool false, .slice none 0 0] 26)) (V5.heap.size + 1) (by simp) (.bool false) (.slice none 0 0) (.bool false) (.slice none 0 0) 26).drew.via hh); have l0 := D0a.lt)))
           | fail)
        all_goals
          go_wp2_with fail
          go_meet
          exact ⟨rfl, stw_fin (btr BW.out BB2) hL7 (QR.out.via BB2) HGR.out⟩
      case rest =>
        obtain ⟨rfl, A7, n7, c7, hP7, hL7, hb7⟩ := hcut
        go_wp2
        exact post_w Tryz.results31 rfl rfl hP7.c0 hP7.c1 ⟨A7, n7, c7, by rw [HZ.out]; rfl, by rw [HZ.out]; exact hL7, hb7⟩
    · rw [decide_eq_false hev]
      have HZ : Hid (rndZ x P = q) := by
        obtain ⟨e1, e2⟩ := HQ.out
        show _ = _
        unfold rndZ
        rw [← e2, ← e1, if_neg (by omega), if_pos (by omega)]
      clear heq hev HCz HRR H0 HQ
      have ⟨p0, p1, _, _, _⟩ := P3.out
      have ⟨q0, q1, f0, f1, ql⟩ := QR.out
      go_wp2
      have KS := QR.out.set (.bool np) (.slice A1 n1 c1)
      exact post_w Tryz.results31 rfl rfl KS.c0 KS.c1 ⟨A1, n1, c1, by rw [HZ.out, Hnp.out]; rfl, by rw [HZ.out]; exact L1.out.setP QR.out _ _, below_set2 BW.out (by omega) _ _⟩
  · obtain rfl : cz = 1 := HCz.out.2.2 hgt
    have HZ : Hid (rndZ x P = q + 1) := by
      obtain ⟨e1, e2⟩ := HQ.out
      show _ = _
      unfold rndZ
      rw [← e2, ← e1, if_neg (by omega), if_neg (by omega)]
    clear hgt HCz HRR H0 HQ
    go_upto_region 10 with (fail)
    have HKS : Hid (∀ X : World, Below V5.heap.size V5 X → X.cell? ⟨g4, 0, none⟩ = some (.bool np) ∧ X.cell? ⟨g4, 1, none⟩ = some (.slice A1 n1 c1)) := fun X h => ⟨(P3.out.via h).c0, (P3.out.via h).c1⟩
    obtain ⟨gr, hgr⟩ : ∃ gr, w.heap.size + 1 = gr := ⟨_, rfl⟩
    have HGR : Hid (w.heap.size ≤ gr) := by show _ ≤ _; omega
    rw [hgr] at QR HNE ⊢
    clear hgr
    go_cut [3] (fun s3 wx => s3 = .int .i64 0 ∧ StW w gr (q + 1) wx)
    case first =>
      go_region_held3 (fun X => X.cell? ⟨g4, 0, none⟩ = some (.bool np) ∧ X.cell? ⟨g4, 1, none⟩ = some (.slice A1 n1 c1))
        (first | exact HKS.out _ (Below.refl _ _) | exact HKS.out _ (Below.refl _ _).drew | exact HKS.out _ BB2 | exact HKS.out _ BB1 | exact ⟨((P3.out.via BB2).far (show g4 ≠ gr by have := HNE.out; omega) _ _).c0, ((P3.out.via BB2).far (show g4 ≠ gr by have := HNE.out; omega) _ _).c1⟩)
        (first
         | (have _t := BB1; go_at_call 65; refine (radd_n _ A1 A6 n1 n6 c1 c6 (k + 1) q 1 (L1.out.via BB1) hL6 (HSq.out.mono (by omega)) (Sz.mono (show Sz 1 (1 : Int) by unfold Sz; decide) (by omega)) (by omega) Hnp.out (by decide)).mono ?_; rintro e u2 ⟨A7, n7, c7, rfl, hL7, hh⟩; have B2 : Below u1.heap.size u1 u2 := (by first | with_reducible exact hh | with_reducible exact b_two hh | with_reducible exact b_one hh); have BB2 := btr BB1 B2; have S2 := BB2.size; have T2 := B2.size; (try (have P0 := P0.via B2)); (try (have D0a := D0a.via B2; have D0b := D0b.via B2)); (try (have P1 : (Qd u2 (u1.heap.size) (.bool false) (.slice none 0 0) (.bool false) (.slice none 0 0)) := (by with_reducible exact (Qd.new u1 (u1.heap.size) rfl (.bool false) (.slice none 0 0) (.bool false) (.slice none 0 0) 26).via hh); have l1 := P1.lt)); (try (have D1a : (Qd u2 (u1.heap.size) (.bool false) (.slice none 0 0) (.bool false) (.slice none 0 0)) := (by with_reducible exact ((Qd.new u1 (u1.heap.size) rfl (.bool false) (.slice none 0 0) (.bool false) (.slice none 0 0) 26).alloc (.cells #[.bool false, .slice none 0 0, .bool false, .slice none 0 0] 26)).via hh); have D1b : (Qd u2 (u1.heap.size + 1) (.bool false) (.slice none 0 0) (.bool false) (.slice none 0 0)) := (by with_reducible exact (Qd.new (u1.alloc (.cells #[.bool false, .slice none 0 0, .bool false, .slice none 0 0] 26)) (u1.heap.size + 1) (by simp) (.bool false) (.slice none 0 0) (.bool false) (.slice none 0 0) 26).via hh); have l1 := D1a.lt)); (try (have ⟨p00, p01, p02, p03, p04, p05, p06, p07, p0l⟩ := P0; have p0a0 := fun o => (P0.alloc o).c0; have p0a1 := fun o => (P0.alloc o).c1; have p0a2 := fun o => (P0.alloc o).c2; have p0a3 := fun o => (P0.alloc o).c3; have p0a4 := fun o => (P0.alloc o).f0; have p0a5 := fun o => (P0.alloc o).f1; have p0a6 := fun o => (P0.alloc o).f2; have p0a7 := fun o => (P0.alloc o).f3; have p0n1 := Nat.ne_of_lt p0l; have p0n2 := Nat.ne_of_gt p0l)); (try (have ⟨da0_0, da0_1, da0_2, da0_3, da0_4, da0_5, da0_6, da0_7, da0_l⟩ := D0a; have ⟨db0_0, db0_1, db0_2, db0_3, db0_4, db0_5, db0_6, db0_7, db0_l⟩ := D0b)); (try (have m01 : ¬ (V5.heap.size = u1.heap.size) := (by have := l0; have := l1; omega); have n01 : ¬ (u1.heap.size = V5.heap.size) := (by have := l0; have := l1; omega))); (try (have ⟨p10, p11, p12, p13, p14, p15, p16, p17, p1l⟩ := P1; have p1a0 := fun o => (P1.alloc o).c0; have p1a1 := fun o => (P1.alloc o).c1; have p1a2 := fun o => (P1.alloc o).c2; have p1a3 := fun o => (P1.alloc o).c3; have p1a4 := fun o => (P1.alloc o).f0; have p1a5 := fun o => (P1.alloc o).f1; have p1a6 := fun o => (P1.alloc o).f2; have p1a7 := fun o => (P1.alloc o).f3; have p1n1 := Nat.ne_of_lt p1l; have p1n2 := Nat.ne_of_gt p1l)); (try (have ⟨da1_0, da1_1, da1_2, da1_3, da1_4, da1_5, da1_6, da1_7, da1_l⟩ := D1a; have ⟨db1_0, db1_1, db1_2, db1_3, db1_4, db1_5, db1_6, db1_7, db1_l⟩ := D1b)); have ⟨q0, q1, f0, f1, ql⟩ := QR.out.via BB2)
         | (go_at_call 18; refine (rfrom_any _ 1 (by decide) (by decide)).mono ?_; rintro e u1 ⟨A6, n6, c6, rfl, hL6, hh⟩; have BB1 : Below V5.heap.size V5 u1 := (by first | with_reducible exact b_two_d hh | with_reducible exact b_one_d hh | exact (Below.refl _ _).drew.trans hh); have S1 := BB1.size; have T1 := BB1.size; (try (have P0 : (Qd u1 (V5.heap.size) (.bool false) (.slice none 0 0) (.bool false) (.slice none 0 0)) := (by with_reducible exact (Qd.new V5 (V5.heap.size) rfl (.bool false) (.slice none 0 0) (.bool false) (.slice none 0 0) 26).drew.via hh); have l0 := P0.lt)); (try (have D0a : (Qd u1 (V5.heap.size) (.bool false) (.slice none 0 0) (.bool false) (.slice none 0 0)) := (by with_reducible exact ((Qd.new V5 (V5.heap.size) rfl (.bool false) (.slice none 0 0) (.bool false) (.slice none 0 0) 26).alloc (.cells #[.bool false, .slice none 0 0, .bool false, .slice none 0 0] 26)).drew.via hh); have D0b : (Qd u1 (V5.heap.size + 1) (.bool false) (.slice none 0 0) (.bool false) (.slice none 0 0)) := (by with_reducible exact (Qd.new (V5.alloc (.cells #[.bool false, .slice none 0 0, .bool false, .slice none 0 0] 26)) (V5.heap.size + 1) (by simp) (.bool false) (.slice none 0 0) (.bool false) (.slice none 0 0) 26).drew.via hh); have l0 := D0a.lt)))
         | fail)
      all_goals
        go_wp2_with fail
        go_meet
        exact ⟨rfl, stw_fin (btr BW.out BB2) hL7 (QR.out.via BB2) HGR.out⟩
    case rest =>
      obtain ⟨rfl, A7, n7, c7, hP7, hL7, hb7⟩ := hcut
      go_wp2
      exact post_w Tryz.results31 rfl rfl hP7.c0 hP7.c1 ⟨A7, n7, c7, by rw [HZ.out]; rfl, by rw [HZ.out]; exact hL7, hb7⟩
theorem rsame_p (w : World) (A B : Option Addr) (n m ca cb : Nat) (x : Int) (hA : Lm w w.heap.size A n ca (digs x.natAbs)) (hB : Lm w w.heap.size B m cb (digs (1 : Int).natAbs)) (hx : 0 < x) :
    Calls Tryz.prog 27 #[.agg #[.bool false, .slice A n ca], .agg #[.bool false, .slice B m cb]] w fun e w' => e = .returned (.bool (decide (x = 1))) ∧ Below w.heap.size w w' := by
  have h := rsame_any w false false A B n m ca cb _ _ hA hB
  have e : sameB false (digs x.natAbs) false (digs (1 : Int).natAbs) = decide (x = 1) := by
    by_cases h1 : x = 1
    · rw [h1, sameB_self]
      rfl
    · rw [decide_eq_false h1]
      cases hs : sameB false (digs x.natAbs) false (digs (1 : Int).natAbs) with
      | false => rfl
      | true =>
        unfold sameB at hs
        rw [Bool.and_eq_true, beq_iff_eq, beq_iff_eq, cmpL_eq (digs_good _) (digs_good _)] at hs
        have e1 := congrArg val hs.2
        rw [digs_val, digs_val] at e1
        omega
  rw [e] at h
  exact h
theorem slash_eq (s t : List UInt8) : (⟨(s ++ 47 :: t).toArray⟩ : ByteArray) = ⟨s.toArray⟩ ++ ⟨#[47]⟩ ++ ⟨t.toArray⟩ := by
  apply ByteArray.ext
  simp [ByteArray.data_append]
set_option maxRecDepth 100000 in
set_option maxHeartbeats 8000000 in
theorem rftext_n (w : World) (na : Bool) (A B : Option Addr) (n m ca cb k : Nat) (x P : Int) (hA : Lm w w.heap.size A n ca (digs x.natAbs)) (hB : Lm w w.heap.size B m cb (digs P.natAbs)) (hx : Sz k x) (hP : Sz k P) (hk : k ≤ 300) (ha : decide (x < 0) = na) (hP0 : 0 < P) (hv : fchk na (digs x.natAbs) false (digs P.natAbs) = 0) :
    Calls Tryz.prog 8 #[fv na A n ca false B m cb] w fun e w' => e = .returned (.tuple #[.string ⟨(ftx x P).toArray⟩, .int .i64 0]) ∧ Below w.heap.size w w' := by
  have HA := Lib.hid hA
  have HB := Lib.hid hB
  have HX := Lib.hid hx
  have HP := Lib.hid hP
  have HNa := Lib.hid ha
  have H0 := Lib.hid hP0
  have HC := Lib.hid hv
  clear hA hB hx hP ha hP0 hv
  go_enter Tryz.func8, Tryz.ntmps8
  have QF := Lib.hid (Qd.new w (w.heap.size) rfl (.bool na) (.slice A n ca) (.bool false) (.slice B m cb) 26)
  have LA := Lib.hid (HA.out.box (.cells #[.bool na, .slice A n ca, .bool false, .slice B m cb] 26))
  have LB := Lib.hid (HB.out.box (.cells #[.bool na, .slice A n ca, .bool false, .slice B m cb] 26))
  have BW : Hid (Below w.heap.size w (w.alloc (.cells #[.bool na, .slice A n ca, .bool false, .slice B m cb] 26))) := (below_alloc (Below.refl _ _) _)
  clear HA HB
  go_wp2_with fail
  generalize w.alloc (.cells #[.bool na, .slice A n ca, .bool false, .slice B m cb] 26) = W0 at *
  refine (rfcheck_any _ na false A B n m ca cb _ _ LA.out LB.out).mono ?_
  rintro e w1 ⟨rfl, hb⟩
  replace QF := Lib.hid (QF.out.via hb)
  replace LA := Lib.hid (LA.out.via hb)
  replace LB := Lib.hid (LB.out.via hb)
  replace BW := Lib.hid (btr BW.out hb)
  clear hb
  rw [HC.out]
  have ⟨rQF0, rQF1, rQF2, rQF3, rQF4, rQF5, rQF6, rQF7, rQFl⟩ := QF.out
  go_wp2_with fail
  clear rQF0 rQF1 rQF2 rQF3 rQF4 rQF5 rQF6 rQF7 rQFl
  refine (rtext_n _ A n ca k x LA.out HX.out (by omega) HNa.out).mono ?_
  rintro e w2 ⟨rfl, hb⟩
  clear LA
  replace QF := Lib.hid (QF.out.via hb)
  replace LB := Lib.hid (LB.out.via hb)
  replace BW := Lib.hid (btr BW.out hb)
  clear hb
  go_upto_region 4 with (fail)
  have HKS : Hid (∀ X : World, Below w2.heap.size w2 X → X.cell? ⟨w.heap.size, 2, none⟩ = some (.bool false) ∧ X.cell? ⟨w.heap.size, 3, none⟩ = some (.slice B m cb)) := fun X h => ⟨(QF.out.via h).c2, (QF.out.via h).c3⟩
  go_cut [22] (fun s22 wx => s22 = .bool (decide (P = 1)) ∧ Below w2.heap.size w2 wx)
  case first =>
    go_region_held3 (fun X => X.cell? ⟨w.heap.size, 2, none⟩ = some (.bool false) ∧ X.cell? ⟨w.heap.size, 3, none⟩ = some (.slice B m cb))
      (first | exact HKS.out _ (Below.refl _ _) | exact HKS.out _ (Below.refl _ _).drew | exact HKS.out _ BB2 | exact HKS.out _ BB1)
      (first
       | (have _t := BB1; go_at_call 27; refine (rsame_p _ B A6 m n6 cb c6 P (LB.out.via BB1) hL6 H0.out).mono ?_; rintro e u2 ⟨rfl, hh⟩; have B2 : Below u1.heap.size u1 u2 := (by first | with_reducible exact hh | with_reducible exact b_two hh | with_reducible exact b_one hh); have BB2 := btr BB1 B2; have S2 := BB2.size; have T2 := B2.size; (try (have P0 := P0.via B2)); (try (have D0a := D0a.via B2; have D0b := D0b.via B2)); (try (have P1 : (Qd u2 (u1.heap.size) (.bool false) (.slice none 0 0) (.bool false) (.slice none 0 0)) := (by with_reducible exact (Qd.new u1 (u1.heap.size) rfl (.bool false) (.slice none 0 0) (.bool false) (.slice none 0 0) 26).via hh); have l1 := P1.lt)); (try (have D1a : (Qd u2 (u1.heap.size) (.bool false) (.slice none 0 0) (.bool false) (.slice none 0 0)) := (by with_reducible exact ((Qd.new u1 (u1.heap.size) rfl (.bool false) (.slice none 0 0) (.bool false) (.slice none 0 0) 26).alloc (.cells #[.bool false, .slice none 0 0, .bool false, .slice none 0 0] 26)).via hh); have D1b : (Qd u2 (u1.heap.size + 1) (.bool false) (.slice none 0 0) (.bool false) (.slice none 0 0)) := (by with_reducible exact (Qd.new (u1.alloc (.cells #[.bool false, .slice none 0 0, .bool false, .slice none 0 0] 26)) (u1.heap.size + 1) (by simp) (.bool false) (.slice none 0 0) (.bool false) (.slice none 0 0) 26).via hh); have l1 := D1a.lt)); (try (have ⟨p00, p01, p02, p03, p04, p05, p06, p07, p0l⟩ := P0; have p0a0 := fun o => (P0.alloc o).c0; have p0a1 := fun o => (P0.alloc o).c1; have p0a2 := fun o => (P0.alloc o).c2; have p0a3 := fun o => (P0.alloc o).c3; have p0a4 := fun o => (P0.alloc o).f0; have p0a5 := fun o => (P0.alloc o).f1; have p0a6 := fun o => (P0.alloc o).f2; have p0a7 := fun o => (P0.alloc o).f3; have p0n1 := Nat.ne_of_lt p0l; have p0n2 := Nat.ne_of_gt p0l)); (try (have ⟨da0_0, da0_1, da0_2, da0_3, da0_4, da0_5, da0_6, da0_7, da0_l⟩ := D0a; have ⟨db0_0, db0_1, db0_2, db0_3, db0_4, db0_5, db0_6, db0_7, db0_l⟩ := D0b)); (try (have m01 : ¬ (w2.heap.size = u1.heap.size) := (by have := l0; have := l1; omega); have n01 : ¬ (u1.heap.size = w2.heap.size) := (by have := l0; have := l1; omega))); (try (have ⟨p10, p11, p12, p13, p14, p15, p16, p17, p1l⟩ := P1; have p1a0 := fun o => (P1.alloc o).c0; have p1a1 := fun o => (P1.alloc o).c1; have p1a2 := fun o => (P1.alloc o).c2; have p1a3 := fun o => (P1.alloc o).c3; have p1a4 := fun o => (P1.alloc o).f0; have p1a5 := fun o => (P1.alloc o).f1; have p1a6 := fun o => (P1.alloc o).f2; have p1a7 := fun o => (P1.alloc o).f3; have p1n1 := Nat.ne_of_lt p1l; have p1n2 := Nat.ne_of_gt p1l)); (try (have ⟨da1_0, da1_1, da1_2, da1_3, da1_4, da1_5, da1_6, da1_7, da1_l⟩ := D1a; have ⟨db1_0, db1_1, db1_2, db1_3, db1_4, db1_5, db1_6, db1_7, db1_l⟩ := D1b)))
       | (go_at_call 18; refine (rfrom_any _ 1 (by decide) (by decide)).mono ?_; rintro e u1 ⟨A6, n6, c6, rfl, hL6, hh⟩; have BB1 : Below w2.heap.size w2 u1 := (by first | with_reducible exact b_two_d hh | with_reducible exact b_one_d hh | exact (Below.refl _ _).drew.trans hh); have S1 := BB1.size; have T1 := BB1.size; (try (have P0 : (Qd u1 (w2.heap.size) (.bool false) (.slice none 0 0) (.bool false) (.slice none 0 0)) := (by with_reducible exact (Qd.new w2 (w2.heap.size) rfl (.bool false) (.slice none 0 0) (.bool false) (.slice none 0 0) 26).drew.via hh); have l0 := P0.lt)); (try (have D0a : (Qd u1 (w2.heap.size) (.bool false) (.slice none 0 0) (.bool false) (.slice none 0 0)) := (by with_reducible exact ((Qd.new w2 (w2.heap.size) rfl (.bool false) (.slice none 0 0) (.bool false) (.slice none 0 0) 26).alloc (.cells #[.bool false, .slice none 0 0, .bool false, .slice none 0 0] 26)).drew.via hh); have D0b : (Qd u1 (w2.heap.size + 1) (.bool false) (.slice none 0 0) (.bool false) (.slice none 0 0)) := (by with_reducible exact (Qd.new (w2.alloc (.cells #[.bool false, .slice none 0 0, .bool false, .slice none 0 0] 26)) (w2.heap.size + 1) (by simp) (.bool false) (.slice none 0 0) (.bool false) (.slice none 0 0) 26).drew.via hh); have l0 := D0a.lt)))
       | fail)
    all_goals
      go_wp2_with fail
      go_meet
      exact ⟨rfl, BB2⟩
  case rest =>
  obtain ⟨rfl, hb⟩ := hcut
  clear HKS
  replace QF := Lib.hid (QF.out.via hb)
  replace LB := Lib.hid (LB.out.via hb)
  replace BW := Lib.hid (btr BW.out hb)
  clear hb
  generalize wc = V5 at *
  by_cases h1 : P = 1
  · rw [decide_eq_true h1]
    have HF : Hid (ftx x P = tx x) := if_pos h1
    clear h1
    go_wp2
    go_ret2
    exact ⟨by rw [HF.out]; rfl, BW.out⟩
  · rw [decide_eq_false h1]
    have HF : Hid (ftx x P = tx x ++ 47 :: tx P) := if_neg h1
    clear h1
    have hl1 : (txt (decide (x < 0)) x.natAbs).length ≤ 30001 := tx_len HX.out (by omega)
    have hl2 : (txt (decide (P < 0)) P.natAbs).length ≤ 30001 := tx_len HP.out (by omega)
    have hsz1 : (⟨(txt (decide (x < 0)) x.natAbs).toArray⟩ : ByteArray).size = (txt (decide (x < 0)) x.natAbs).length := by simp [ByteArray.size]
    have hsz2 : (⟨(txt (decide (P < 0)) P.natAbs).toArray⟩ : ByteArray).size = (txt (decide (P < 0)) P.natAbs).length := by simp [ByteArray.size]
    have ⟨rQF0, rQF1, rQF2, rQF3, rQF4, rQF5, rQF6, rQF7, rQFl⟩ := QF.out
    go_wp2_with fail
    clear rQF0 rQF1 rQF2 rQF3 rQF4 rQF5 rQF6 rQF7 rQFl
    refine (rtext_n _ B m cb k P LB.out HP.out (by omega) (decide_eq_false (by have := H0.out; omega))).mono ?_
    rintro e w3 ⟨rfl, hb⟩
    clear LB
    replace QF := Lib.hid (QF.out.via hb)
    replace BW := Lib.hid (btr BW.out hb)
    clear hb
    go_wp2
    go_ret2
    exact ⟨by rw [HF.out, slash_eq]; rfl, BW.out⟩
end Go.Proofs.YtbplbbkmfbjkfaaGreatDoor

/- Fractions in lowest terms and what they are worth: in whole numbers. -/
namespace Go.Proofs.YtbplbbkmfbjkfaaGreatDoor
open Go.RowKit

/-- p / q is in lowest terms, of at most k limbs each, and worth u / v. -/
structure FrV (k : Nat) (p q u v : Int) : Prop where
  pos : 0 < q
  eq : p * v = u * q
  ok : fchk (decide (p < 0)) (digs p.natAbs) false (digs q.natAbs) = 0
  sp : Sz k p
  sq : Sz k q
theorem FrV.mono {k l : Nat} {p q u v : Int} (h : FrV k p q u v) (hl : k ≤ l) : FrV l p q u v := ⟨h.pos, h.eq, h.ok, h.sp.mono hl, h.sq.mono hl⟩
theorem natAbs_le_mul {p g : Int} (hg : g ≠ 0) : p.natAbs ≤ (p * g).natAbs := by
  rw [Int.natAbs_mul]
  exact Nat.le_mul_of_pos_right _ (by omega)
theorem red_fr {k : Nat} {x y : Int} (hx : Sz k x) (hy : Sz k y) (hk : k ≤ 2000) (hy0 : y ≠ 0) : FrV k (x / dvr x y) (y / dvr x y) x y := by
  have hg := dvr_ne (x := x) hy0
  have e1 := dvr_left x y
  have e2 := dvr_right x y
  have hG : 0 < Nat.gcd x.natAbs y.natAbs := Nat.gcd_pos_of_pos_right _ (by omega)
  have hgn : (dvr x y).natAbs = Nat.gcd x.natAbs y.natAbs := by unfold dvr; split <;> omega
  have hgs : dvr x y < 0 ↔ y < 0 := by unfold dvr; split <;> omega
  generalize dvr x y = g at *
  generalize x / g = p at *
  generalize y / g = q at *
  have hq : 0 < q := by
    rcases Int.lt_trichotomy q 0 with h | h | h
    · exfalso
      by_cases hy : y < 0
      · have := Int.mul_pos_of_neg_of_neg h (hgs.2 hy); omega
      · have := Int.mul_neg_of_neg_of_pos h (show 0 < g by have := mt hgs.1 hy; omega); omega
    · subst h; omega
    · exact h
  have sp : Sz k p := by
    have h := natAbs_le_mul (p := p) hg
    rw [← e1] at h
    unfold Sz at *; omega
  have sq : Sz k q := by
    have h := natAbs_le_mul (p := q) hg
    rw [← e2] at h
    unfold Sz at *; omega
  refine ⟨hq, by rw [e2, e1]; grind, ?_, sp, sq⟩
  have hn : Nat.gcd p.natAbs q.natAbs = 1 := by
    have a1 : x.natAbs = p.natAbs * Nat.gcd x.natAbs y.natAbs := by rw [← hgn, ← Int.natAbs_mul, ← e1]
    have a2 : y.natAbs = q.natAbs * Nat.gcd x.natAbs y.natAbs := by rw [← hgn, ← Int.natAbs_mul, ← e2]
    generalize hGG : Nat.gcd x.natAbs y.natAbs = G at *
    have a3 : G = Nat.gcd p.natAbs q.natAbs * G := by
      conv => lhs; rw [← hGG, a1, a2, Nat.gcd_mul_right]
    exact Nat.eq_of_mul_eq_mul_right hG (by rw [Nat.one_mul]; exact a3.symm)
  have c1 := chk_z sp (show k ≤ 4096 by omega)
  have c2 := chk_z sq (show k ≤ 4096 by omega)
  rw [decide_eq_false (show ¬ q < 0 by omega)] at c2
  unfold fchk
  rw [if_pos ⟨c1, c2, rfl, fun e => by have := digs_nil.1 e; omega, by rw [digs_val, digs_val]; exact hn⟩]
theorem frv_to {k : Nat} {p q u v u' v' : Int} (h : FrV k p q u v) (hv : v ≠ 0) (e : u * v' = u' * v) : FrV k p q u' v' := by
  refine ⟨h.pos, ?_, h.ok, h.sp, h.sq⟩
  have h1 := h.eq
  refine Int.eq_of_mul_eq_mul_right hv ?_
  have a1 : p * v' * v = p * v * v' := by grind
  have a2 : u' * q * v = u' * v * q := by grind
  rw [a1, a2, h1, ← e]
  grind
end Go.Proofs.YtbplbbkmfbjkfaaGreatDoor

/- Package frac: the closures of join and change, where the fractions are valid. -/
namespace Go.Proofs.YtbplbbkmfbjkfaaGreatDoor
open Go.RowKit

end Go.Proofs.YtbplbbkmfbjkfaaGreatDoor

/- Package frac: negative. -/
namespace Go.Proofs.YtbplbbkmfbjkfaaGreatDoor
open Go.RowKit

end Go.Proofs.YtbplbbkmfbjkfaaGreatDoor

/- Package frac: join, and the functions of two fractions. -/
namespace Go.Proofs.YtbplbbkmfbjkfaaGreatDoor
open Go.RowKit

end Go.Proofs.YtbplbbkmfbjkfaaGreatDoor

/- Package frac: ratio.add, with differences. -/
namespace Go.Proofs.YtbplbbkmfbjkfaaGreatDoor
open Go.RowKit

end Go.Proofs.YtbplbbkmfbjkfaaGreatDoor

/- Package frac: plus and minus. -/
namespace Go.Proofs.YtbplbbkmfbjkfaaGreatDoor
open Go.RowKit

end Go.Proofs.YtbplbbkmfbjkfaaGreatDoor

/- The reference of frac: both, Add, Sub, Mul, Div, Neg, Cmp, Twin. -/
namespace Go.Proofs.YtbplbbkmfbjkfaaGreatDoor
open Go.RowKit

end Go.Proofs.YtbplbbkmfbjkfaaGreatDoor

/- The reference of frac: Cmp of valid fractions, Twin. -/
namespace Go.Proofs.YtbplbbkmfbjkfaaGreatDoor
open Go.RowKit

end Go.Proofs.YtbplbbkmfbjkfaaGreatDoor

/- Both sides: Add, Sub, Mul, Div, Neg, Cmp. -/
namespace Go.Proofs.YtbplbbkmfbjkfaaGreatDoor
open Go.RowKit

theorem fchk_cases (na : Bool) (xs : List Nat) (nb : Bool) (ys : List Nat) : fchk na xs nb ys = 0 ∨ fchk na xs nb ys = 8 := by
  unfold fchk
  split
  · exact .inl rfl
  · exact .inr rfl
theorem of_fchk {nn dn : Bool} {xs ys : List Nat} (h : fchk nn xs dn ys = 0) (gx : Good xs) (gy : Good ys) {k : Nat} (lx : xs.length ≤ k) (ly : ys.length ≤ k) :
    ∃ x P : Int, nn = decide (x < 0) ∧ xs = digs x.natAbs ∧ Sz k x ∧ dn = false ∧ ys = digs P.natAbs ∧ Sz k P ∧ 0 < P ∧ Nat.gcd x.natAbs P.natAbs = 1 := by
  unfold fchk at h
  split at h
  · rename_i hh
    obtain ⟨h1, h2, h3, h4, h5⟩ := hh
    obtain ⟨x, hx1, hx2, hx3⟩ := of_chk h1 gx lx
    obtain ⟨P, hP1, hP2, hP3⟩ := of_chk h2 gy ly
    have e0 : ¬ P < 0 := by rw [h3] at hP1; simpa using hP1.symm
    have e1 : P.natAbs ≠ 0 := by rw [hP2, Ne, digs_nil] at h4; exact h4
    refine ⟨x, P, hx1, hx2, hx3, h3, hP2, hP3, by omega, ?_⟩
    rw [hx2, hP2, digs_val, digs_val] at h5
    exact h5
  · cases h

end Go.Proofs.YtbplbbkmfbjkfaaGreatDoor

/- Both sides of Neg; the law FracReckons where a fraction is great. -/
namespace Go.Proofs.YtbplbbkmfbjkfaaGreatDoor
open Go.RowKit

end Go.Proofs.YtbplbbkmfbjkfaaGreatDoor

/- Package frac: Add, Sub, Mul, Div, Cmp, Neg, Of, Floor, Ceil, Round at valid fractions, by what these are worth. -/
namespace Go.Proofs.YtbplbbkmfbjkfaaGreatDoor
open Go.RowKit

/-- A fraction in lowest terms that is worth u / v, by its numbers' limbs. -/
def Fw (w : World) (k : Nat) (u v : Int) (z : Bool) (A : Option Addr) (n c : Nat) (B : Option Addr) (m cb : Nat) : Prop := ∃ p q, decide (p < 0) = z ∧ FrV k p q u v ∧ Lm w w.heap.size A n c (digs p.natAbs) ∧ Lm w w.heap.size B m cb (digs q.natAbs)
/-- A call returns such a fraction without an error. -/
def RFw (w : World) (k : Nat) (u v : Int) (e : Ending) (w' : World) : Prop := ∃ z A n c B m cb, e = .returned (.tuple #[fv z A n c false B m cb, .int .i64 0]) ∧ Fw w' k u v z A n c B m cb ∧ Below w.heap.size w w'
section
variable {w w' : World} {k : Nat} {u v : Int} {z : Bool} {A : Option Addr} {n c : Nat} {B : Option Addr} {m cb : Nat}
theorem Fw.via (h : Fw w k u v z A n c B m cb) (hb : Below w.heap.size w w') : Fw w' k u v z A n c B m cb := by
  obtain ⟨p, q, h1, h2, h3, h4⟩ := h
  exact ⟨p, q, h1, h2, h3.via hb, h4.via hb⟩
theorem Fw.alloc (h : Fw w k u v z A n c B m cb) (o : Obj) : Fw (w.alloc o) k u v z A n c B m cb := h.via ((Below.refl _ _).alloc (Nat.le_refl _) o)
theorem Fw.drew (h : Fw w k u v z A n c B m cb) : Fw w.drew k u v z A n c B m cb := h.via (Below.refl _ _).drew
theorem Fw.mono {l : Nat} (h : Fw w k u v z A n c B m cb) (hl : k ≤ l) : Fw w l u v z A n c B m cb := by
  obtain ⟨p, q, h1, h2, h3, h4⟩ := h
  exact ⟨p, q, h1, h2.mono hl, h3, h4⟩
theorem Fw.to (h : Fw w k u v z A n c B m cb) (hv : v ≠ 0) {u' v' : Int} (e : u * v' = u' * v) : Fw w k u' v' z A n c B m cb := by
  obtain ⟨p, q, h1, h2, h3, h4⟩ := h
  exact ⟨p, q, h1, frv_to h2 hv e, h3, h4⟩
theorem Fw.put4 (h : Fw w k u v z A n c B m cb) {g n0 c0 n1 c1 : Nat} {b b' : Bool} {A0 A1 : Option Addr} (p : Qd w g (.bool b) (.slice A0 n0 c0) (.bool b') (.slice A1 n1 c1)) (y0 y1 y2 y3 : Value) : Fw (Proofs.YtbplbbkmfbjkfaaGreatDoor.put4 w g y0 y1 y2 y3) k u v z A n c B m cb := by
  obtain ⟨p1, q1, h1, h2, h3, h4⟩ := h
  exact ⟨p1, q1, h1, h2, h3.put4 p _ _ _ _, h4.put4 p _ _ _ _⟩
theorem rfe_rfw {p q : Int} (h : FrV k p q u v) {e : Ending} (hr : RFE w p q e w') : RFw w k u v e w' := by
  obtain ⟨A, n, c, B, m, cb, he, h1, h2, h3⟩ := hr
  refine ⟨decide (p < 0), A, n, c, B, m, cb, ?_, ⟨p, q, rfl, h, h1, h2⟩, h3⟩
  rw [he, decide_eq_false (show ¬ q < 0 by have := h.pos; omega)]
end
theorem fr_gcd {k : Nat} {p q u v : Int} (h : FrV k p q u v) : Nat.gcd p.natAbs q.natAbs = 1 := by
  have h1 := h.ok
  unfold fchk at h1
  split at h1
  · rename_i hh
    have := hh.2.2.2.2
    rw [digs_val, digs_val] at this
    exact this
  · cases h1
/-- Two fractions in lowest terms that are worth the same are the same. -/
theorem frv_uniq {k l : Nat} {p q r s u v a b : Int} (h1 : FrV k p q u v) (h2 : FrV l r s a b) (hv : v ≠ 0) (hb : b ≠ 0) (e : u * b = a * v) : p = r ∧ q = s := by
  have g1 := fr_gcd h1
  have g2 := fr_gcd h2
  have e1 : p * s = r * q := by
    have a1 := h1.eq
    have a2 := h2.eq
    refine Int.eq_of_mul_eq_mul_right (a := v * b) (Int.mul_ne_zero hv hb) ?_
    have x1 : p * s * (v * b) = p * v * (s * b) := by grind
    have x2 : r * q * (v * b) = r * b * (q * v) := by grind
    rw [x1, x2, a1, a2]
    have x3 : u * q * (s * b) = u * b * (q * s) := by grind
    have x4 : a * s * (q * v) = a * v * (q * s) := by grind
    rw [x3, x4, e]
  have hq := h1.pos
  have hs := h2.pos
  have n1 : p.natAbs * s.natAbs = r.natAbs * q.natAbs := by rw [← Int.natAbs_mul, ← Int.natAbs_mul, e1]
  have d1 : q.natAbs ∣ s.natAbs := by
    have : q.natAbs ∣ p.natAbs * s.natAbs := by rw [n1]; exact Nat.dvd_mul_left _ _
    exact (Nat.Coprime.dvd_of_dvd_mul_left (Nat.Coprime.symm g1) this)
  have d2 : s.natAbs ∣ q.natAbs := by
    have : s.natAbs ∣ r.natAbs * q.natAbs := by rw [← n1]; exact Nat.dvd_mul_left _ _
    exact (Nat.Coprime.dvd_of_dvd_mul_left (Nat.Coprime.symm g2) this)
  have n2 : q.natAbs = s.natAbs := Nat.dvd_antisymm d1 d2
  have e2 : q = s := by omega
  subst e2
  exact ⟨Int.eq_of_mul_eq_mul_right (by omega) e1, rfl⟩
end Go.Proofs.YtbplbbkmfbjkfaaGreatDoor

/- Law 02: part, same, whole. -/
namespace Go.Proofs.YtbplbbkmfbjkfaaGreatDoor
open Go.RowKit

/-- A call returns a fraction in lowest terms that is worth u / v. -/
def RFp (w : World) (k : Nat) (u v : Int) (e : Ending) (w' : World) : Prop := ∃ z A n c B m cb, e = .returned (fv z A n c false B m cb) ∧ Fw w' k u v z A n c B m cb ∧ Below w.heap.size w w'
/-- A call returns a bool. -/
def RBw (w : World) (b : Bool) (e : Ending) (w' : World) : Prop := e = .returned (.bool b) ∧ Below w.heap.size w w'
end Go.Proofs.YtbplbbkmfbjkfaaGreatDoor

/- Law 02: long; Same of two fractions that are worth the same. -/
namespace Go.Proofs.YtbplbbkmfbjkfaaGreatDoor
open Go.RowKit

end Go.Proofs.YtbplbbkmfbjkfaaGreatDoor

/- The reference of frac at valid fractions, by what these are worth: Check, Few, Sub, Mul, Cmp, Reduced. -/
namespace Go.Proofs.YtbplbbkmfbjkfaaGreatDoor
open Go.RowKit

/-- The sign of a fraction put out. -/
theorem Fw.abs {w : World} {k : Nat} {u v : Int} {z : Bool} {A B : Option Addr} {n c m cb : Nat} (h : Fw w k u v z A n c B m cb) (hv : 0 < v) : Fw w k (u.natAbs : Int) v false A n c B m cb := by
  obtain ⟨p, q, h1, f, h3, h4⟩ := h
  have hq := f.pos
  have e : ((p.natAbs : Nat) : Int).natAbs = p.natAbs := by omega
  refine ⟨(p.natAbs : Int), q, decide_eq_false (by omega), ⟨f.pos, ?_, ?_, ?_, f.sq⟩, by rw [e]; exact h3, h4⟩
  · have := congrArg Int.natAbs f.eq
    rw [Int.natAbs_mul, Int.natAbs_mul] at this
    have h7 : ((p.natAbs * v.natAbs : Nat) : Int) = ((u.natAbs * q.natAbs : Nat) : Int) := by rw [this]
    rw [Int.natCast_mul, Int.natCast_mul, show ((v.natAbs : Nat) : Int) = v by omega, show ((q.natAbs : Nat) : Int) = q by omega] at h7
    exact h7
  · have h8 := f.ok
    rw [e, decide_eq_false (show ¬ (((p.natAbs : Nat) : Int) < 0) by omega)]
    unfold fchk at h8 ⊢
    split at h8
    · rename_i hh
      refine if_pos ⟨?_, hh.2⟩
      have h9 := hh.1
      exact chk_ok.2 ⟨(chk_ok.1 h9).1, (chk_ok.1 h9).2.1, fun hh => absurd hh (by decide)⟩
    · cases h8
  · exact (show Sz k ((p.natAbs : Nat) : Int) by have := f.sp; unfold Sz at *; omega)
theorem Qd.sgn {w : World} {g : Nat} {x0 x1 x2 x3 : Value} (p : Qd w g x0 x1 x2 x3) (y : Value) : Qd (w.setCell ⟨g, 0, none⟩ y) g y x1 x2 x3 := by
  have h0 := p.c0; have h1 := p.c1; have h2 := p.c2; have h3 := p.c3; have f0 := p.f0; have f1 := p.f1; have f2 := p.f2; have f3 := p.f3; have hl := p.lt
  exact ⟨by go_simp, by go_simp, by go_simp, by go_simp, by simpa using f0, by simpa using f1, by simpa using f2, by simpa using f3, by simpa [World.size_setCell] using hl⟩
theorem Fw.sgn {w : World} {k : Nat} {u v : Int} {z : Bool} {A B : Option Addr} {n c m cb : Nat} (h : Fw w k u v z A n c B m cb) {g : Nat} {b b' : Bool} {A0 A1 : Option Addr} {n0 c0 n1 c1 : Nat} (p : Qd w g (.bool b) (.slice A0 n0 c0) (.bool b') (.slice A1 n1 c1)) (y : Value) : Fw (w.setCell ⟨g, 0, none⟩ y) k u v z A n c B m cb := by
  obtain ⟨p1, q1, h1, h2, h3, h4⟩ := h
  exact ⟨p1, q1, h1, h2, h3.setv p.c0 (fun _ hh => by cases hh) y, h4.setv p.c0 (fun _ hh => by cases hh) y⟩
/-- A box with a valid fraction. -/
def Fq (w : World) (g k : Nat) (u v : Int) : Prop := ∃ z A n c B m cb, Qd w g (.bool z) (.slice A n c) (.bool false) (.slice B m cb) ∧ Fw w k u v z A n c B m cb
def FqO (W : World) (k : Nat) (u v : Int) (sx : Value) (wx : World) : Prop := ∃ g, sx = .pointer (some ⟨g, 0, none⟩) ∧ Fq wx g k u v ∧ W.heap.size ≤ g ∧ Below W.heap.size W wx
section
variable {W w4 : World} {k : Nat} {u v : Int} {z : Bool} {A B : Option Addr} {n c m d : Nat} {t : TypeId}
theorem qfin1 (hB : Below W.heap.size W w4) (X : Fw w4 k u v z A n c B m d) : FqO W k u v (.pointer (some ⟨w4.heap.size, 0, none⟩)) (w4.alloc (.cells #[.bool z, .slice A n c, .bool false, .slice B m d] t)) :=
  ⟨_, rfl, ⟨_, _, _, _, _, _, _, Qd.new w4 _ rfl _ _ _ _ t, X.alloc _⟩, hB.size, hB.alloc hB.size _⟩
theorem qfin2 {g : Nat} (hB : Below W.heap.size W w4) (X : Fw w4 k u v z A n c B m d) (P : Qd w4 g (.bool false) (.slice none 0 0) (.bool false) (.slice none 0 0)) (hg : W.heap.size ≤ g) :
    FqO W k u v (.pointer (some ⟨g, 0, none⟩)) (Proofs.YtbplbbkmfbjkfaaGreatDoor.put4 w4 g (.bool z) (.slice A n c) (.bool false) (.slice B m d)) :=
  ⟨_, rfl, ⟨_, _, _, _, _, _, _, P.set _ _ _ _, X.put4 P _ _ _ _⟩, hg, below_put4 hB hg _ _ _ _⟩
end
end Go.Proofs.YtbplbbkmfbjkfaaGreatDoor

/- The reference of frac: Decimal of a valid fraction. -/
namespace Go.Proofs.YtbplbbkmfbjkfaaGreatDoor
open Go.RowKit

theorem sz_tenD (d : Nat) (hd : d ≤ 50) : Sz 6 ((10 : Int) ^ d) := by
  show ((10 : Int) ^ d).natAbs < 4294967296 ^ 6
  rw [Int.natAbs_pow]
  exact Nat.lt_of_le_of_lt (Nat.pow_le_pow_right (by decide) hd) (by decide)
theorem rnd_eq {a b c d : Int} (hb : 0 < b) (hd : 0 < d) (h : a * d = c * b) : rndZ a b = rndZ c d := by
  have a1 := Int.emod_add_mul_ediv a b
  have a2 := Int.emod_nonneg a (show b ≠ 0 by omega)
  have a3 := Int.emod_lt_of_pos a hb
  have c1 := Int.emod_add_mul_ediv c d
  have c2 := Int.emod_nonneg c (show d ≠ 0 by omega)
  have c3 := Int.emod_lt_of_pos c hd
  have hq : a / b = c / d := by
    have e1 : (a / b) * (b * d) + (a % b) * d = (c / d) * (b * d) + (c % d) * b := by
      have : a * d = (a % b + b * (a / b)) * d := by rw [a1]
      have : c * b = (c % d + d * (c / d)) * b := by rw [c1]
      grind
    have hbd : 0 < b * d := Int.mul_pos hb hd
    have r1 : (a % b) * d < b * d := Int.mul_lt_mul_of_pos_right a3 hd
    have r2 : (c % d) * b < b * d := by rw [Int.mul_comm b d]; exact Int.mul_lt_mul_of_pos_right c3 hb
    have r3 : 0 ≤ (a % b) * d := Int.mul_nonneg a2 (by omega)
    have r4 : 0 ≤ (c % d) * b := Int.mul_nonneg c2 (by omega)
    generalize a / b = p at *
    generalize c / d = q at *
    generalize b * d = t at *
    generalize a % b * d = u at *
    generalize c % d * b = v at *
    rcases Int.lt_trichotomy p q with h1 | h1 | h1
    · have h2 : (p + 1) * t ≤ q * t := Int.mul_le_mul_of_nonneg_right (by omega) (by omega)
      rw [Int.add_mul, Int.one_mul] at h2
      omega
    · exact h1
    · have h2 : (q + 1) * t ≤ p * t := Int.mul_le_mul_of_nonneg_right (by omega) (by omega)
      rw [Int.add_mul, Int.one_mul] at h2
      omega
  have hr : (a % b) * d = (c % d) * b := by
    have : a * d = (a % b + b * (a / b)) * d := by rw [a1]
    have : c * b = (c % d + d * (c / d)) * b := by rw [c1]
    rw [hq] at *
    grind
  have k1 : (2 * (a % b) < b) ↔ (2 * (c % d) < d) := by
    constructor
    · intro h1
      refine Int.lt_of_mul_lt_mul_right (a := b) ?_ (by omega)
      have : 2 * (a % b) * d < b * d := Int.mul_lt_mul_of_pos_right h1 hd
      grind
    · intro h1
      refine Int.lt_of_mul_lt_mul_right (a := d) ?_ (by omega)
      have : 2 * (c % d) * b < d * b := Int.mul_lt_mul_of_pos_right h1 hb
      grind
  have k2 : (2 * (a % b) = b) ↔ (2 * (c % d) = d) := by
    constructor
    · intro h1
      refine Int.eq_of_mul_eq_mul_right (a := b) (by omega) ?_
      have : 2 * (a % b) * d = b * d := by rw [h1]
      grind
    · intro h1
      refine Int.eq_of_mul_eq_mul_right (a := d) (by omega) ?_
      have : 2 * (c % d) * b = d * b := by rw [h1]
      grind
  unfold rndZ
  rw [hq]
  simp only [k1, k2]
theorem rten_p (w : World) (d : Nat) (hd : d ≤ 50) {T : Int} (e : (10 : Int) ^ d = T) (hT : 0 < T) : Calls Tryz.prog 20 #[.int .i64 (d : Int)] w (fun e w' => ∃ A n c, e = .returned (.agg #[.bool false, .slice A n c]) ∧ Lm w' w'.heap.size A n c (digs T.natAbs) ∧ Below w.heap.size w w') := by
  have h := rten_n w d (by omega)
  rw [e] at h
  refine h.mono ?_
  rintro e2 w' ⟨A, n, c, rfl, hL, hb⟩
  rw [decide_eq_false (show ¬ T < 0 by omega)]
  exact ⟨A, n, c, rfl, hL, hb⟩
theorem rprod_dec (w : World) (A B C D : Option Addr) (n m r s ca cb cc cd : Nat) (x T P : Int) {na : Bool} (hA : Lm w w.heap.size A n ca (digs x.natAbs)) (hC : Lm w w.heap.size C r cc (digs T.natAbs)) (hB : Lm w w.heap.size B m cb (digs P.natAbs)) (hD : Lm w w.heap.size D s cd (digs (1 : Int).natAbs))
    (hx : Sz 130 x) (hT : Sz 130 T) (hP : Sz 130 P) (ha : decide (x < 0) = na) (hT0 : 0 < T) (hP0 : 0 < P) :
    Calls Tryz.prog 30 #[.agg #[.bool na, .slice A n ca], .agg #[.bool false, .slice C r cc], .agg #[.bool false, .slice B m cb], .agg #[.bool false, .slice D s cd]] w (RFw w 260 (x * T) P) := by
  have h1 : Sz 130 (1 : Int) := Sz.mono (show Sz 1 (1 : Int) by unfold Sz; decide) (by omega)
  have h0 : 0 < P * 1 := by omega
  have hf := frv_to (red_fr (k := 260) (x := x * T) (y := P * 1) ((hx.mul hT).mono (by omega)) ((hP.mul h1).mono (by omega)) (by omega) (by omega)) (by omega) (u' := x * T) (v' := P) (by rw [Int.mul_one])
  exact (rprod_pos w A B C D n m r s ca cb cc cd 130 x T P 1 hA hx ha hC hT (decide_eq_false (by omega)) hB hP (decide_eq_false (by omega)) hD h1 (by decide) (by omega) h0).mono fun e w' h => rfe_rfw hf h
theorem dec_eq (mn T : List UInt8) (a : Nat) : ((⟨mn.toArray⟩ : ByteArray) ++ (⟨T.toArray⟩ : ByteArray).extract 0 a ++ ⟨#[46]⟩ ++ (⟨T.toArray⟩ : ByteArray).extract a T.length) = ⟨(mn ++ (T.take a ++ 46 :: T.drop a)).toArray⟩ := by
  apply ByteArray.ext
  simp [ByteArray.data_append, ByteArray.data_extract]
  exact List.take_of_length_le (by simp)
theorem dec_eq0 (mn T : List UInt8) : ((⟨mn.toArray⟩ : ByteArray) ++ (⟨T.toArray⟩ : ByteArray)) = ⟨(mn ++ T).toArray⟩ := by
  apply ByteArray.ext
  simp [ByteArray.data_append]
theorem decd_ne (u : Nat) : Lib.decDigits u ≠ [] := by
  rcases Nat.eq_zero_or_pos u with h | h
  · subst h
    rw [dec_small (by omega)]
    simp
  · exact (dec_head u h).1
theorem cons48 (T : List UInt8) : ((⟨#[48]⟩ : ByteArray) ++ ⟨T.toArray⟩) = ⟨(48 :: T).toArray⟩ := by
  apply ByteArray.ext
  simp [ByteArray.data_append]
set_option maxRecDepth 100000 in
set_option maxHeartbeats 8000000 in
theorem rdecimal_n (w : World) (na : Bool) (A B : Option Addr) (n m ca cb : Nat) (x P : Int) (hA : Lm w w.heap.size A n ca (digs x.natAbs)) (hB : Lm w w.heap.size B m cb (digs P.natAbs)) (hx : Sz 130 x) (hP : Sz 130 P) (ha : decide (x < 0) = na) (hP0 : 0 < P) (hv : fchk na (digs x.natAbs) false (digs P.natAbs) = 0) (d : Nat) (hd5 : d ≤ 50) :
    Calls Tryz.prog 10 #[fv na A n ca false B m cb, .int .i64 (d : Int)] w fun e w' => e = .returned (.tuple #[.string ⟨(decT x P d).toArray⟩, .int .i64 0]) ∧ Below w.heap.size w w' := by
  have hT := sz_tenD d hd5
  have hT0 : 0 < (10 : Int) ^ d := Int.pow_pos (by decide)
  have hSr : Sz 261 (rndZ (x * 10 ^ d) P) := rnd_sz (k := 260) ((hx.mul (hT.mono (show 6 ≤ 130 by omega))).mono (by omega)) hP0
  have HD : Hid (decT x P d = (if rndZ (x * 10 ^ d) P < 0 then [45] else []) ++ ptd (Lib.decDigits (rndZ (x * 10 ^ d) P).natAbs) d) := rfl
  obtain ⟨T, hTd⟩ : ∃ T, (10 : Int) ^ d = T := ⟨_, rfl⟩
  rw [hTd] at hT hT0 hSr HD
  obtain ⟨r, hr⟩ : ∃ r, rndZ (x * T) P = r := ⟨_, rfl⟩
  rw [hr] at hSr HD
  have HT : Hid (Sz 130 T) := hT.mono (by omega)
  have HT0 := Lib.hid hT0
  have HTd := Lib.hid hTd
  have HSr := Lib.hid hSr
  have HR := Lib.hid hr
  have HSa : Hid (Sz 261 ((r.natAbs : Nat) : Int)) := by
    show Sz 261 _
    unfold Sz at *
    omega
  have HTX : Hid (txt (decide (((r.natAbs : Nat) : Int) < 0)) ((r.natAbs : Nat) : Int).natAbs = Lib.decDigits r.natAbs) := by
    show _ = _
    rw [decide_eq_false (by omega), Int.natAbs_natCast]
    rfl
  have HSL : Hid (1 ≤ (Lib.decDigits r.natAbs).length ∧ (Lib.decDigits r.natAbs).length ≤ 30000) :=
    ⟨List.length_pos_iff.2 (decd_ne r.natAbs), decd_len hSr (by omega)⟩
  have hd1 : ¬ (d : Int) < 0 := by omega
  have hd2 : ¬ (50 : Int) < (d : Int) := by omega
  clear hT hT0 hTd hSr hr
  have HA := Lib.hid hA
  have HB := Lib.hid hB
  have HX := Lib.hid hx
  have HP := Lib.hid hP
  have HNa := Lib.hid ha
  have H0 := Lib.hid hP0
  have HC := Lib.hid hv
  clear hA hB hx hP ha hP0 hv
  go_enter Tryz.func10, Tryz.ntmps10
  have QF := Lib.hid (Qd.new w (w.heap.size) rfl (.bool na) (.slice A n ca) (.bool false) (.slice B m cb) 26)
  have LA := Lib.hid (HA.out.box (.cells #[.bool na, .slice A n ca, .bool false, .slice B m cb] 26))
  have LB := Lib.hid (HB.out.box (.cells #[.bool na, .slice A n ca, .bool false, .slice B m cb] 26))
  have BW : Hid (Below w.heap.size w (w.alloc (.cells #[.bool na, .slice A n ca, .bool false, .slice B m cb] 26))) := (below_alloc (Below.refl _ _) _)
  clear HA HB
  go_wp2_with fail
  generalize w.alloc (.cells #[.bool na, .slice A n ca, .bool false, .slice B m cb] 26) = W0 at *
  refine (rfcheck_any _ na false A B n m ca cb _ _ LA.out LB.out).mono ?_
  rintro e w1 ⟨rfl, hb⟩
  replace QF := Lib.hid (QF.out.via hb)
  replace LA := Lib.hid (LA.out.via hb)
  replace LB := Lib.hid (LB.out.via hb)
  replace BW := Lib.hid (btr BW.out hb)
  clear hb
  rw [HC.out]
  go_upto_region 5 with (fail)
  have HKS : Hid (∀ X : World, Below w1.heap.size w1 X → X.cell? ⟨w.heap.size, 0, none⟩ = some (.bool na) ∧ X.cell? ⟨w.heap.size, 1, none⟩ = some (.slice A n ca) ∧ X.cell? ⟨w.heap.size, 2, none⟩ = some (.bool false) ∧ X.cell? ⟨w.heap.size, 3, none⟩ = some (.slice B m cb)) := fun X h => ⟨(QF.out.via h).c0, (QF.out.via h).c1, (QF.out.via h).c2, (QF.out.via h).c3⟩
  go_cut [6, 7] (fun sx s7 wx => s7 = .int .i64 0 ∧ FqO w1 260 (x * T) P sx wx)
  case first =>
    go_region_held3 (fun X => X.cell? ⟨w.heap.size, 0, none⟩ = some (.bool na) ∧ X.cell? ⟨w.heap.size, 1, none⟩ = some (.slice A n ca) ∧ X.cell? ⟨w.heap.size, 2, none⟩ = some (.bool false) ∧ X.cell? ⟨w.heap.size, 3, none⟩ = some (.slice B m cb))
      (first | (refine HKS.out _ ?_; (repeat' (first | with_reducible exact BB3 | with_reducible exact BB2 | with_reducible exact BB1 | with_reducible exact (Below.refl _ _).drew | with_reducible exact Below.refl _ _ | with_reducible refine Below.drew ?_ | with_reducible refine Below.setCell ?_ ?_ _ | with_reducible refine Below.alloc ?_ ?_ _)); all_goals (first | omega | exact Nat.le_refl _ | exact S3 | exact S2 | exact S1 | (simp; done) | (simp; omega))))
      (first
       | (have _t := BB2; go_at_call 30; refine (rprod_dec _ A B A4 A5 n m n4 n5 ca cb c4 c5 x T P (by first | with_reducible exact LA.out.via BB2 | with_reducible exact (LA.out.via BB2).box _ | with_reducible exact ((LA.out.via BB2).box _).box _) (by first | with_reducible exact hL4.via B2 | with_reducible exact (hL4.via B2).box _ | with_reducible exact ((hL4.via B2).box _).box _) (by first | with_reducible exact LB.out.via BB2 | with_reducible exact (LB.out.via BB2).box _ | with_reducible exact ((LB.out.via BB2).box _).box _) (by first | with_reducible exact hL5 | with_reducible exact hL5.box _ | with_reducible exact (hL5.box _).box _) HX.out HT.out HP.out HNa.out HT0.out H0.out).mono ?_; rintro e u3 ⟨z6, A6, n6, c6, B6, m6, d6, rfl, hX6, hh⟩; have B3 : Below u2.heap.size u2 u3 := (by first | with_reducible exact hh | with_reducible exact b_two hh | with_reducible exact b_one hh); have BB3 := btr BB2 B3; have S3 := BB3.size; have T3 := B3.size; (try (have P0 := P0.via B3)); (try (have D0a := D0a.via B3; have D0b := D0b.via B3)); (try (have P1 := P1.via B3)); (try (have D1a := D1a.via B3; have D1b := D1b.via B3)); have X6 : Fw u3 260 (x * T) P z6 A6 n6 c6 B6 m6 d6 := hX6; (try (have P2 : (Qd u3 (u2.heap.size) (.bool false) (.slice none 0 0) (.bool false) (.slice none 0 0)) := (by with_reducible exact (Qd.new u2 (u2.heap.size) rfl (.bool false) (.slice none 0 0) (.bool false) (.slice none 0 0) 26).via hh); have l2 := P2.lt)); (try (have D2a : (Qd u3 (u2.heap.size) (.bool false) (.slice none 0 0) (.bool false) (.slice none 0 0)) := (by with_reducible exact ((Qd.new u2 (u2.heap.size) rfl (.bool false) (.slice none 0 0) (.bool false) (.slice none 0 0) 26).alloc (.cells #[.bool false, .slice none 0 0, .bool false, .slice none 0 0] 26)).via hh); have D2b : (Qd u3 (u2.heap.size + 1) (.bool false) (.slice none 0 0) (.bool false) (.slice none 0 0)) := (by with_reducible exact (Qd.new (u2.alloc (.cells #[.bool false, .slice none 0 0, .bool false, .slice none 0 0] 26)) (u2.heap.size + 1) (by simp) (.bool false) (.slice none 0 0) (.bool false) (.slice none 0 0) 26).via hh); have l2 := D2a.lt)); (try (have ⟨p00, p01, p02, p03, p04, p05, p06, p07, p0l⟩ := P0; have p0a0 := fun o => (P0.alloc o).c0; have p0a1 := fun o => (P0.alloc o).c1; have p0a2 := fun o => (P0.alloc o).c2; have p0a3 := fun o => (P0.alloc o).c3; have p0a4 := fun o => (P0.alloc o).f0; have p0a5 := fun o => (P0.alloc o).f1; have p0a6 := fun o => (P0.alloc o).f2; have p0a7 := fun o => (P0.alloc o).f3; have p0n1 := Nat.ne_of_lt p0l; have p0n2 := Nat.ne_of_gt p0l)); (try (have ⟨da0_0, da0_1, da0_2, da0_3, da0_4, da0_5, da0_6, da0_7, da0_l⟩ := D0a; have ⟨db0_0, db0_1, db0_2, db0_3, db0_4, db0_5, db0_6, db0_7, db0_l⟩ := D0b)); (try (have m01 : ¬ (w1.heap.size = u1.heap.size) := (by have := l0; have := l1; omega); have n01 : ¬ (u1.heap.size = w1.heap.size) := (by have := l0; have := l1; omega))); (try (have m02 : ¬ (w1.heap.size = u2.heap.size) := (by have := l0; have := l2; omega); have n02 : ¬ (u2.heap.size = w1.heap.size) := (by have := l0; have := l2; omega))); (try (have ⟨p10, p11, p12, p13, p14, p15, p16, p17, p1l⟩ := P1; have p1a0 := fun o => (P1.alloc o).c0; have p1a1 := fun o => (P1.alloc o).c1; have p1a2 := fun o => (P1.alloc o).c2; have p1a3 := fun o => (P1.alloc o).c3; have p1a4 := fun o => (P1.alloc o).f0; have p1a5 := fun o => (P1.alloc o).f1; have p1a6 := fun o => (P1.alloc o).f2; have p1a7 := fun o => (P1.alloc o).f3; have p1n1 := Nat.ne_of_lt p1l; have p1n2 := Nat.ne_of_gt p1l)); (try (have ⟨da1_0, da1_1, da1_2, da1_3, da1_4, da1_5, da1_6, da1_7, da1_l⟩ := D1a; have ⟨db1_0, db1_1, db1_2, db1_3, db1_4, db1_5, db1_6, db1_7, db1_l⟩ := D1b)); (try (have m12 : ¬ (u1.heap.size = u2.heap.size) := (by have := l1; have := l2; omega); have n12 : ¬ (u2.heap.size = u1.heap.size) := (by have := l1; have := l2; omega))); (try (have ⟨p20, p21, p22, p23, p24, p25, p26, p27, p2l⟩ := P2; have p2a0 := fun o => (P2.alloc o).c0; have p2a1 := fun o => (P2.alloc o).c1; have p2a2 := fun o => (P2.alloc o).c2; have p2a3 := fun o => (P2.alloc o).c3; have p2a4 := fun o => (P2.alloc o).f0; have p2a5 := fun o => (P2.alloc o).f1; have p2a6 := fun o => (P2.alloc o).f2; have p2a7 := fun o => (P2.alloc o).f3; have p2n1 := Nat.ne_of_lt p2l; have p2n2 := Nat.ne_of_gt p2l)); (try (have ⟨da2_0, da2_1, da2_2, da2_3, da2_4, da2_5, da2_6, da2_7, da2_l⟩ := D2a; have ⟨db2_0, db2_1, db2_2, db2_3, db2_4, db2_5, db2_6, db2_7, db2_l⟩ := D2b)))
       | (have _t := BB1; go_at_call 18; refine (rfrom_any _ 1 (by decide) (by decide)).mono ?_; rintro e u2 ⟨A5, n5, c5, rfl, hL5, hh⟩; have B2 : Below u1.heap.size u1 u2 := (by first | with_reducible exact hh | with_reducible exact b_two hh | with_reducible exact b_one hh); have BB2 := btr BB1 B2; have S2 := BB2.size; have T2 := B2.size; (try (have P0 := P0.via B2)); (try (have D0a := D0a.via B2; have D0b := D0b.via B2)); (try (have P1 : (Qd u2 (u1.heap.size) (.bool false) (.slice none 0 0) (.bool false) (.slice none 0 0)) := (by with_reducible exact (Qd.new u1 (u1.heap.size) rfl (.bool false) (.slice none 0 0) (.bool false) (.slice none 0 0) 26).via hh); have l1 := P1.lt)); (try (have D1a : (Qd u2 (u1.heap.size) (.bool false) (.slice none 0 0) (.bool false) (.slice none 0 0)) := (by with_reducible exact ((Qd.new u1 (u1.heap.size) rfl (.bool false) (.slice none 0 0) (.bool false) (.slice none 0 0) 26).alloc (.cells #[.bool false, .slice none 0 0, .bool false, .slice none 0 0] 26)).via hh); have D1b : (Qd u2 (u1.heap.size + 1) (.bool false) (.slice none 0 0) (.bool false) (.slice none 0 0)) := (by with_reducible exact (Qd.new (u1.alloc (.cells #[.bool false, .slice none 0 0, .bool false, .slice none 0 0] 26)) (u1.heap.size + 1) (by simp) (.bool false) (.slice none 0 0) (.bool false) (.slice none 0 0) 26).via hh); have l1 := D1a.lt)))
       | (go_at_call 20; refine (rten_p _ d hd5 HTd.out HT0.out).mono ?_; rintro e u1 ⟨A4, n4, c4, rfl, hL4, hh⟩; have BB1 : Below w1.heap.size w1 u1 := (by first | with_reducible exact b_two_d hh | with_reducible exact b_one_d hh | exact (Below.refl _ _).drew.trans hh); have S1 := BB1.size; have T1 := BB1.size; (try (have P0 : (Qd u1 (w1.heap.size) (.bool false) (.slice none 0 0) (.bool false) (.slice none 0 0)) := (by with_reducible exact (Qd.new w1 (w1.heap.size) rfl (.bool false) (.slice none 0 0) (.bool false) (.slice none 0 0) 26).drew.via hh); have l0 := P0.lt)); (try (have D0a : (Qd u1 (w1.heap.size) (.bool false) (.slice none 0 0) (.bool false) (.slice none 0 0)) := (by with_reducible exact ((Qd.new w1 (w1.heap.size) rfl (.bool false) (.slice none 0 0) (.bool false) (.slice none 0 0) 26).alloc (.cells #[.bool false, .slice none 0 0, .bool false, .slice none 0 0] 26)).drew.via hh); have D0b : (Qd u1 (w1.heap.size + 1) (.bool false) (.slice none 0 0) (.bool false) (.slice none 0 0)) := (by with_reducible exact (Qd.new (w1.alloc (.cells #[.bool false, .slice none 0 0, .bool false, .slice none 0 0] 26)) (w1.heap.size + 1) (by simp) (.bool false) (.slice none 0 0) (.bool false) (.slice none 0 0) 26).drew.via hh); have l0 := D0a.lt)))
       | fail)
    all_goals
      go_wp2_with fail
      go_meet
      (try rw [pt4_eq])
      first
      | (refine ⟨rfl, ?_⟩; with_reducible exact qfin1 BB3 X6)
      | (refine ⟨rfl, ?_⟩; with_reducible exact qfin2 BB3 X6 P0 (Nat.le_refl _))
      | (refine ⟨rfl, ?_⟩; with_reducible exact qfin2 BB3 X6 P1 S1)
      | (refine ⟨rfl, ?_⟩; with_reducible exact qfin2 BB3 X6 P2 S2)
  case rest =>
  obtain ⟨rfl, g6, rfl, ⟨z6, A6, n6, c6, B6, m6, d6, hQ, X6, Y6, e6, f6, hL6, hM6⟩, -, hb⟩ := hcut
  clear HKS QF LA LB
  replace BW := Lib.hid (btr BW.out hb)
  have Q6 := Lib.hid hQ
  have L6 := Lib.hid hL6
  have M6 := Lib.hid hM6
  have F6 := Lib.hid f6
  have E6 := Lib.hid e6
  have HRn : Hid (rndZ X6 Y6 = r) := (rnd_eq f6.pos H0.out f6.eq).trans HR.out
  clear hb hQ hL6 hM6 f6 e6 HC HX HP HNa HR HT HTd HT0 H0
  generalize wc = V6 at *
  have ⟨rQ60, rQ61, rQ62, rQ63, rQ64, rQ65, rQ66, rQ67, rQ6l⟩ := Q6.out
  go_wp2_with fail
  clear rQ60 rQ61 rQ62 rQ63 rQ64 rQ65 rQ66 rQ67 rQ6l
  refine (rround_n _ z6 A6 B6 n6 m6 c6 d6 260 X6 Y6 L6.out M6.out F6.out.sp F6.out.sq (by omega) E6.out F6.out.pos (by rw [← E6.out]; exact F6.out.ok)).mono ?_
  rintro e w2 ⟨A8, n8, c8, rfl, hL8, hb⟩
  clear Q6
  clear L6
  clear M6
  replace BW := Lib.hid (btr BW.out hb)
  have L8 := Lib.hid hL8
  clear hb hL8
  rw [HRn.out] at L8 ⊢
  clear HRn F6 E6
  obtain ⟨z8, hz8⟩ : ∃ b, decide (r < 0) = b := ⟨_, rfl⟩
  rw [hz8]
  have Hz8 := Lib.hid hz8
  clear hz8
  have HG8 : Hid (w.heap.size ≤ w2.heap.size) := BW.out.size
  go_upto_region 9 with (fail)
  replace L8 := Lib.hid (L8.out.box (.cells #[.bool z8, .slice A8 n8 c8] 24))
  have P8 := Lib.hid (Pr.new w2 _ rfl (.bool z8) (.slice A8 n8 c8) 24)
  replace BW := Lib.hid (below_alloc BW.out (.cells #[.bool z8, .slice A8 n8 c8] 24))
  generalize w2.alloc (.cells #[.bool z8, .slice A8 n8 c8] 24) = W8 at *
  generalize w2.heap.size = g8 at *
  cases z8 with
  | true =>
    have HDT : Hid (decT x P d = [45] ++ ptd (Lib.decDigits r.natAbs) d) := by
      have h1 : r < 0 := by have := Hz8.out; simpa using this
      show _ = _
      rw [HD.out, if_pos (by omega)]
    clear HD
    have ⟨rP80, rP81, rP82, rP83, rP8l⟩ := P8.out
    go_wp2_with fail
    clear rP80 rP81 rP82 rP83 rP8l
    refine (rabs_n _ A8 n8 c8 261 r L8.out HSr.out (by omega) Hz8.out).mono ?_
    rintro e w21 ⟨A9, n9, c9, rfl, hL9, hb⟩
    clear L8
    replace P8 := Lib.hid (P8.out.via hb)
    replace BW := Lib.hid (btr BW.out hb)
    have L9 := Lib.hid hL9
    clear hb hL9
    rw [decide_eq_false (show ¬ ((r.natAbs : Nat) : Int) < 0 by omega)]
    have ⟨rP80, rP81, rP82, rP83, rP8l⟩ := P8.out
    go_upto_region 15 with (fail)
    clear rP80 rP81 rP82 rP83 rP8l
    replace L9 := Lib.hid (L9.out.setP P8.out (.bool false) (.slice A9 n9 c9))
    replace P8 := Lib.hid (P8.out.set (.bool false) (.slice A9 n9 c9))
    replace BW := Lib.hid (below_set2 BW.out HG8.out (.bool false) (.slice A9 n9 c9))
    generalize (w21.setCell ⟨g8, 0, none⟩ (.bool false)).setCell ⟨g8, 1, none⟩ (.slice A9 n9 c9) = V9 at *
    have ⟨rP80, rP81, rP82, rP83, rP8l⟩ := P8.out
    go_wp2_with fail
    clear rP80 rP81 rP82 rP83 rP8l
    refine (rtext_n _ A9 n9 c9 261 (r.natAbs : Int) L9.out HSa.out (by omega) (decide_eq_false (by omega))).mono ?_
    rintro e w22 ⟨rfl, hb⟩
    clear L9
    clear P8
    replace BW := Lib.hid (btr BW.out hb)
    clear hb
    rw [HTX.out]
    obtain ⟨s, hs⟩ : ∃ s, Lib.decDigits r.natAbs = s := ⟨_, rfl⟩
    rw [hs] at HDT HSL ⊢
    have hs1 := HSL.out.1
    have hs2 := HSL.out.2
    clear hs HTX HSL
    go_wp2
    go_loop [10] (fun a => ∃ j : Nat, j ≤ d + 1 - s.length ∧ a = .string ⟨(List.replicate j 48 ++ s).toArray⟩) (fun a => d + 1 - strLen a)
    case atStart => exact ⟨0, Nat.zero_le _, rfl⟩
    case round =>
      obtain ⟨j, hj, rfl⟩ := hrel
      have hT : (List.replicate j (48 : UInt8) ++ s).length = j + s.length := by rw [List.length_append, List.length_replicate]
      by_cases hlt : j < d + 1 - s.length
      · have HN : Hid (48 :: (List.replicate j (48 : UInt8) ++ s) = List.replicate (j + 1) 48 ++ s) := rfl
        have HNL : Hid ((List.replicate (j + 1) (48 : UInt8) ++ s).length = j + 1 + s.length) := by show _ = _; rw [List.length_append, List.length_replicate]
        obtain ⟨T, hTT⟩ : ∃ T, List.replicate j (48 : UInt8) ++ s = T := ⟨_, rfl⟩
        rw [hTT] at HN hT ⊢
        clear hTT
        have hsT : (⟨T.toArray⟩ : ByteArray).size = T.length := by simp [ByteArray.size]
        have hle : (T.length : Int) ≤ (d : Int) := by omega
        have HsT := Lib.hid hsT
        have HTl := Lib.hid hT
        go_wp2
        refine ⟨⟨j + 1, by omega, ?_⟩, ?_⟩
        · rw [← HN.out, cons48]
        · rw [cons48]
          show d + 1 - (⟨(48 :: T).toArray⟩ : ByteArray).size < d + 1 - (⟨T.toArray⟩ : ByteArray).size
          have := HTl.out
          rw [str_size, str_size, List.length_cons]
          omega
      · have HT : Hid (List.replicate j 48 ++ s = pad0 s d) := by
          show _ = _
          unfold pad0
          rw [show j = d + 1 - s.length by omega]
        have hP : d < (pad0 s d).length := by unfold pad0; rw [List.length_append, List.length_replicate]; omega
        have hP2 : (pad0 s d).length ≤ 2000000 := by unfold pad0; rw [List.length_append, List.length_replicate]; omega
        rw [HT.out] at hT ⊢
        clear HT
        by_cases hd0 : d = 0
        · have HR : Hid (pad0 s d = ptd s d) := by
            show _ = _
            unfold pad0 ptd
            rw [if_pos hd0, show d + 1 - s.length = 0 by omega]
            rfl
          have k1 : (d : Int) = 0 := by omega
          have k3 : ¬ ((pad0 s d).length : Int) ≤ (d : Int) := by omega
          have hsT : (⟨(pad0 s d).toArray⟩ : ByteArray).size = (pad0 s d).length := by simp [ByteArray.size]
          clear hT
          generalize pad0 s d = T at *
          subst hd0
          have k4 : ¬ T.length = 0 := by omega
          have k5 : ¬ T = [] := fun e => k4 (by rw [e]; rfl)
          go_wp2
          go_ret2
          exact ⟨by rw [HDT.out, ← HR.out, ← dec_eq0]; rfl, BW.out⟩
        · have k1 : ¬ (d : Int) = 0 := by omega
          have k2 : ((d : Int) == 0) = false := by simp [hd0]
          have HR : Hid (ptd s d = (pad0 s d).take ((pad0 s d).length - d) ++ 46 :: (pad0 s d).drop ((pad0 s d).length - d)) := by
            show _ = _
            unfold ptd
            rw [if_neg hd0]
          clear hT
          generalize pad0 s d = T at *
          have k3 : ¬ (T.length : Int) ≤ (d : Int) := by omega
          have hsT : (⟨T.toArray⟩ : ByteArray).size = T.length := by simp [ByteArray.size]
          go_wp2
          go_region
          all_goals
            go_wp2
            go_ret2
            exact ⟨by rw [HDT.out, HR.out, ← dec_eq]; rfl, BW.out.drew⟩
  | false =>
    have HDT : Hid (decT x P d = [] ++ ptd (Lib.decDigits r.natAbs) d) := by
      have h1 : r ≥ 0 := by have := Hz8.out; simpa using this
      show _ = _
      rw [HD.out, if_neg (by omega)]
    clear HD
    have ⟨rP80, rP81, rP82, rP83, rP8l⟩ := P8.out
    go_wp2_with fail
    clear rP80 rP81 rP82 rP83 rP8l
    refine (rabs_n _ A8 n8 c8 261 r L8.out HSr.out (by omega) Hz8.out).mono ?_
    rintro e w21 ⟨A9, n9, c9, rfl, hL9, hb⟩
    clear L8
    replace P8 := Lib.hid (P8.out.via hb)
    replace BW := Lib.hid (btr BW.out hb)
    have L9 := Lib.hid hL9
    clear hb hL9
    rw [decide_eq_false (show ¬ ((r.natAbs : Nat) : Int) < 0 by omega)]
    have ⟨rP80, rP81, rP82, rP83, rP8l⟩ := P8.out
    go_upto_region 15 with (fail)
    clear rP80 rP81 rP82 rP83 rP8l
    replace L9 := Lib.hid (L9.out.setP P8.out (.bool false) (.slice A9 n9 c9))
    replace P8 := Lib.hid (P8.out.set (.bool false) (.slice A9 n9 c9))
    replace BW := Lib.hid (below_set2 BW.out HG8.out (.bool false) (.slice A9 n9 c9))
    generalize (w21.setCell ⟨g8, 0, none⟩ (.bool false)).setCell ⟨g8, 1, none⟩ (.slice A9 n9 c9) = V9 at *
    have ⟨rP80, rP81, rP82, rP83, rP8l⟩ := P8.out
    go_wp2_with fail
    clear rP80 rP81 rP82 rP83 rP8l
    refine (rtext_n _ A9 n9 c9 261 (r.natAbs : Int) L9.out HSa.out (by omega) (decide_eq_false (by omega))).mono ?_
    rintro e w22 ⟨rfl, hb⟩
    clear L9
    clear P8
    replace BW := Lib.hid (btr BW.out hb)
    clear hb
    rw [HTX.out]
    obtain ⟨s, hs⟩ : ∃ s, Lib.decDigits r.natAbs = s := ⟨_, rfl⟩
    rw [hs] at HDT HSL ⊢
    have hs1 := HSL.out.1
    have hs2 := HSL.out.2
    clear hs HTX HSL
    go_wp2
    go_loop [10] (fun a => ∃ j : Nat, j ≤ d + 1 - s.length ∧ a = .string ⟨(List.replicate j 48 ++ s).toArray⟩) (fun a => d + 1 - strLen a)
    case atStart => exact ⟨0, Nat.zero_le _, rfl⟩
    case round =>
      obtain ⟨j, hj, rfl⟩ := hrel
      have hT : (List.replicate j (48 : UInt8) ++ s).length = j + s.length := by rw [List.length_append, List.length_replicate]
      by_cases hlt : j < d + 1 - s.length
      · have HN : Hid (48 :: (List.replicate j (48 : UInt8) ++ s) = List.replicate (j + 1) 48 ++ s) := rfl
        have HNL : Hid ((List.replicate (j + 1) (48 : UInt8) ++ s).length = j + 1 + s.length) := by show _ = _; rw [List.length_append, List.length_replicate]
        obtain ⟨T, hTT⟩ : ∃ T, List.replicate j (48 : UInt8) ++ s = T := ⟨_, rfl⟩
        rw [hTT] at HN hT ⊢
        clear hTT
        have hsT : (⟨T.toArray⟩ : ByteArray).size = T.length := by simp [ByteArray.size]
        have hle : (T.length : Int) ≤ (d : Int) := by omega
        have HsT := Lib.hid hsT
        have HTl := Lib.hid hT
        go_wp2
        refine ⟨⟨j + 1, by omega, ?_⟩, ?_⟩
        · rw [← HN.out, cons48]
        · rw [cons48]
          show d + 1 - (⟨(48 :: T).toArray⟩ : ByteArray).size < d + 1 - (⟨T.toArray⟩ : ByteArray).size
          have := HTl.out
          rw [str_size, str_size, List.length_cons]
          omega
      · have HT : Hid (List.replicate j 48 ++ s = pad0 s d) := by
          show _ = _
          unfold pad0
          rw [show j = d + 1 - s.length by omega]
        have hP : d < (pad0 s d).length := by unfold pad0; rw [List.length_append, List.length_replicate]; omega
        have hP2 : (pad0 s d).length ≤ 2000000 := by unfold pad0; rw [List.length_append, List.length_replicate]; omega
        rw [HT.out] at hT ⊢
        clear HT
        by_cases hd0 : d = 0
        · have HR : Hid (pad0 s d = ptd s d) := by
            show _ = _
            unfold pad0 ptd
            rw [if_pos hd0, show d + 1 - s.length = 0 by omega]
            rfl
          have k1 : (d : Int) = 0 := by omega
          have k3 : ¬ ((pad0 s d).length : Int) ≤ (d : Int) := by omega
          have hsT : (⟨(pad0 s d).toArray⟩ : ByteArray).size = (pad0 s d).length := by simp [ByteArray.size]
          clear hT
          generalize pad0 s d = T at *
          subst hd0
          have k4 : ¬ T.length = 0 := by omega
          have k5 : ¬ T = [] := fun e => k4 (by rw [e]; rfl)
          go_wp2
          go_ret2
          exact ⟨by rw [HDT.out, ← HR.out, ← dec_eq0]; rfl, BW.out⟩
        · have k1 : ¬ (d : Int) = 0 := by omega
          have k2 : ((d : Int) == 0) = false := by simp [hd0]
          have HR : Hid (ptd s d = (pad0 s d).take ((pad0 s d).length - d) ++ 46 :: (pad0 s d).drop ((pad0 s d).length - d)) := by
            show _ = _
            unfold ptd
            rw [if_neg hd0]
          clear hT
          generalize pad0 s d = T at *
          have k3 : ¬ (T.length : Int) ≤ (d : Int) := by omega
          have hsT : (⟨T.toArray⟩ : ByteArray).size = T.length := by simp [ByteArray.size]
          go_wp2
          go_region
          all_goals
            go_wp2
            go_ret2
            exact ⟨by rw [HDT.out, HR.out, ← dec_eq]; rfl, BW.out.drew⟩
end Go.Proofs.YtbplbbkmfbjkfaaGreatDoor

/- Texts of numerals: how great their numbers can be. -/
namespace Go.Proofs.YtbplbbkmfbjkfaaGreatDoor
open Go.RowKit

theorem ten_nonneg (k : Nat) : (0 : Int) ≤ 10 ^ k := Int.le_of_lt (Int.pow_pos (by omega))
theorem scl_sz {p q P Q : Int} {l r : List UInt8} (hp : 0 ≤ p) (hq : 0 ≤ q) (h1 : Sz 300 p) (h2 : Sz 300 q) (h : scl p q l = some (P, Q, r)) : 0 ≤ P ∧ 0 ≤ Q ∧ Sz 426 P ∧ Sz 426 Q := by
  unfold scl at h
  by_cases hc : dg (sk 45 l).2 = [] ∨ 3 < (dg (sk 45 l).2).length
  · rw [if_pos hc] at h
    cases h
  · rw [if_neg hc] at h
    have hk : decV (dg (sk 45 l).2) ≤ 999 := dec3 (dg_all _) (by
      rcases Nat.lt_or_ge 3 (dg (sk 45 l).2).length with hh | hh
      · exact absurd (.inr hh) hc
      · exact hh)
    generalize decV (dg (sk 45 l).2) = k at *
    by_cases hs : (sk 45 l).1 = true
    · rw [if_pos hs] at h
      injection h with h
      injection h with e1 h
      injection h with e2 e3
      subst e1 e2
      exact ⟨hp, Int.mul_nonneg hq (ten_nonneg _), h1.mono (by omega), h2.mul (sz_ten _ hk)⟩
    · rw [if_neg hs] at h
      injection h with h
      injection h with e1 h
      injection h with e2 e3
      subst e1 e2
      exact ⟨Int.mul_nonneg hp (ten_nonneg _), hq, h1.mul (sz_ten _ hk), h2.mono (by omega)⟩
theorem tl_sz {p q P Q : Int} {l r : List UInt8} (hp : 0 ≤ p) (hq : 0 ≤ q) (h1 : Sz 300 p) (h2 : Sz 300 q) (h : tl p q l = some (P, Q, r)) : 0 ≤ P ∧ 0 ≤ Q ∧ Sz 426 P ∧ Sz 426 Q := by
  unfold tl at h
  by_cases hs : (sk 101 l).1 = true
  · rw [if_pos hs] at h
    exact scl_sz hp hq h1 h2 h
  · rw [if_neg hs] at h
    injection h with h
    injection h with e1 h
    injection h with e2 e3
    subst e1 e2
    exact ⟨hp, hq, h1.mono (by omega), h2.mono (by omega)⟩
theorem nat_nonneg (n : Nat) : (0 : Int) ≤ (n : Int) := Int.natCast_nonneg n
theorem uns_sz {P Q : Int} {l r : List UInt8} (hl : l.length ≤ 200) (h : uns l = some (P, Q, r)) : 0 ≤ P ∧ 0 ≤ Q ∧ Sz 426 P ∧ Sz 426 Q := by
  have a1 := dgr_len l
  have a2 := sk_len 47 (dr l)
  have a3 := sk_len 46 (dr l)
  have a4 := dgr_len (sk 47 (dr l)).2
  have a5 := dgr_len (sk 46 (dr l)).2
  have b1 := dg_all l
  have b2 := dg_all (sk 47 (dr l)).2
  have b3 := dg_all (sk 46 (dr l)).2
  unfold uns at h
  by_cases h0 : dg l = []
  · rw [if_pos h0] at h
    cases h
  · rw [if_neg h0] at h
    by_cases h1 : (sk 47 (dr l)).1 = true
    · rw [if_pos h1] at h
      by_cases h2 : dg (sk 47 (dr l)).2 = []
      · rw [if_pos h2] at h
        cases h
      · rw [if_neg h2] at h
        injection h with h
        injection h with e1 h
        injection h with e2 e3
        subst e1 e2
        exact ⟨nat_nonneg _, nat_nonneg _, (sz_dec b1 (by omega)).mono (by omega), (sz_dec b2 (by omega)).mono (by omega)⟩
    · rw [if_neg h1] at h
      by_cases h2 : (sk 46 (dr l)).1 = true
      · rw [if_pos h2] at h
        by_cases h3 : dg (sk 46 (dr l)).2 = []
        · rw [if_pos h3] at h
          cases h
        · rw [if_neg h3] at h
          refine tl_sz (nat_nonneg _) (ten_nonneg _) ((sz_dec ?_ ?_).mono (by omega)) ((sz_ten _ (by omega)).mono (by omega)) h
          · rw [List.all_append, b1, b3]
            rfl
          · rw [List.length_append]
            omega
      · rw [if_neg h2] at h
        refine tl_sz (nat_nonneg _) (ten_nonneg _) ((sz_dec ?_ ?_).mono (by omega)) ((sz_ten _ (by simp)).mono (by omega)) h
        · rw [List.append_nil]
          exact b1
        · rw [List.append_nil]
          omega
theorem nml_sz {P Q : Int} {l : List UInt8} (h : nml l = some (P, Q)) : l.length ≤ 200 ∧ 0 ≤ Q ∧ Sz 426 P ∧ Sz 426 Q := by
  unfold nml at h
  by_cases h0 : 200 < l.length
  · rw [if_pos h0] at h
    cases h
  · rw [if_neg h0] at h
    have hl : (sk 45 l).2.length ≤ 200 := Nat.le_trans (sk_len 45 l) (by omega)
    cases hu : uns (sk 45 l).2 with
    | none =>
      rw [hu] at h
      cases h
    | some t =>
      obtain ⟨p, q, r⟩ := t
      have hs := uns_sz hl hu
      rw [hu] at h
      cases r with
      | cons a t => cases h
      | nil =>
        have e : (if (sk 45 l).1 = true then -p else p, q) = (P, Q) := Option.some.inj h
        injection e with e1 e2
        subst e1 e2
        refine ⟨by omega, hs.2.1, ?_, hs.2.2.2⟩
        split
        · exact hs.2.2.1.neg
        · exact hs.2.2.1
end Go.Proofs.YtbplbbkmfbjkfaaGreatDoor

/- The library's contracts of strings.TrimLeft and strconv.Atoi, laid at this translation in plain words by the kit's command. -/
namespace Go.Proofs.YtbplbbkmfbjkfaaGreatDoor
open Go.Shelf
def sh2_lays161_ren : Go.Shelf.Ren := ⟨fun | 161 => 95 | 231 => 117 | 227 => 118 | 233 => 119 | 235 => 120 | 228 => 142 | 197 => 143 | 151 => 144 | 260 => 163 | 152 => 164 | 137 => 172 | 119 => 173 | 224 => 174 | 225 => 175 | 217 => 179 | 266 => 181 | n => n, fun | 9 => 9 | 4 => 4 | 3 => 3 | 5 => 5 | 117 => 146 | 116 => 145 | 0 => 0 | 124 => 149 | 105 => 166 | 21 => 21 | 119 => 194 | 46 => 80 | 139 => 197 | 138 => 196 | n => n, fun | 3 => 3 | 4 => 4 | n => n⟩
theorem sh2_lays161 : Go.Proofs.Lays.n161 Tryz.prog sh2_lays161_ren := {
  mixed := by kernel_rfl
  f119 := Tryz.func173.trans (congrArg some (by kernel_rfl))
  f137 := Tryz.func172.trans (congrArg some (by kernel_rfl))
  f151 := Tryz.func144.trans (congrArg some (by kernel_rfl))
  f152 := Tryz.func164.trans (congrArg some (by kernel_rfl))
  f161 := Tryz.func95.trans (congrArg some (by kernel_rfl))
  f197 := Tryz.func143.trans (congrArg some (by kernel_rfl))
  f217 := Tryz.func179.trans (congrArg some (by kernel_rfl))
  f224 := Tryz.func174.trans (congrArg some (by kernel_rfl))
  f225 := Tryz.func175.trans (congrArg some (by kernel_rfl))
  f227 := Tryz.func118.trans (congrArg some (by kernel_rfl))
  f228 := Tryz.func142.trans (congrArg some (by kernel_rfl))
  f231 := Tryz.func117.trans (congrArg some (by kernel_rfl))
  f233 := Tryz.func119.trans (congrArg some (by kernel_rfl))
  f235 := Tryz.func120.trans (congrArg some (by kernel_rfl))
  f260 := Tryz.func163.trans (congrArg some (by kernel_rfl))
  f266 := Tryz.func181.trans (congrArg some (by kernel_rfl))
  t0 := Tryz.underlying0
  a0 := Tryz.isAgg0
  z0 := Tryz.sizeOf0
  v0 := Tryz.zeroValue0
  t3 := Tryz.underlying3
  a3 := Tryz.isAgg3
  z3 := Tryz.sizeOf3
  v3 := Tryz.zeroValue3
  t4 := Tryz.underlying4
  a4 := Tryz.isAgg4
  z4 := Tryz.sizeOf4
  v4 := Tryz.zeroValue4
  t5 := Tryz.underlying5
  a5 := Tryz.isAgg5
  z5 := Tryz.sizeOf5
  v5 := Tryz.zeroValue5
  t9 := Tryz.underlying9
  a9 := Tryz.isAgg9
  z9 := Tryz.sizeOf9
  v9 := Tryz.zeroValue9
  t21 := Tryz.underlying21
  a21 := Tryz.isAgg21
  z21 := Tryz.sizeOf21
  v21 := Tryz.zeroValue21
  t46 := Tryz.underlying80
  a46 := Tryz.isAgg80
  z46 := Tryz.sizeOf80
  v46 := Tryz.zeroValue80
  t105 := Tryz.underlying166
  a105 := Tryz.isAgg166
  z105 := Tryz.sizeOf166
  v105 := Tryz.zeroValue166
  t116 := Tryz.underlying145
  a116 := Tryz.isAgg145
  z116 := Tryz.sizeOf145
  t117 := Tryz.underlying146
  a117 := Tryz.isAgg146
  z117 := Tryz.sizeOf146
  v117 := Tryz.zeroValue146
  t119 := Tryz.underlying194
  a119 := Tryz.isAgg194
  z119 := Tryz.sizeOf194
  t124 := Tryz.underlying149
  a124 := Tryz.isAgg149
  z124 := Tryz.sizeOf149
  v124 := Tryz.zeroValue149
  t138 := Tryz.underlying196
  a138 := Tryz.isAgg196
  z138 := Tryz.sizeOf196
  v138 := Tryz.zeroValue196
  t139 := Tryz.underlying197
  a139 := Tryz.isAgg197
  z139 := Tryz.sizeOf197
  v139 := Tryz.zeroValue197
  g3 := by kernel_rfl
  g4 := by kernel_rfl }
open Go.RowKit in
theorem sh2_strings_TrimLeft_one (s : ByteArray) (c : UInt8) (hc : c.toNat < 128) (w : World) :
    Calls Tryz.prog 95 #[.string s, .string ⟨#[c]⟩] w fun e w' => e = .returned (.string ⟨(Lib.trimLeftB s.data.toList c).toArray⟩) ∧ w' = w := Any.strings_TrimLeft_one sh2_lays161 s c hc w
def sh2_lays172_ren : Go.Shelf.Ren := ⟨fun | 172 => 97 | 244 => 123 | 245 => 124 | 247 => 146 | 279 => 147 | 280 => 148 | 281 => 149 | 282 => 150 | 287 => 165 | 316 => 166 | 171 => 168 | 205 => 167 | 321 => 176 | 322 => 177 | 243 => 178 | 246 => 180 | 283 => 133 | 284 => 134 | 285 => 135 | 286 => 136 | 129 => 140 | 317 => 159 | 318 => 160 | 319 => 161 | 320 => 162 | 337 => 170 | 338 => 171 | n => n, fun | 9 => 9 | 3 => 3 | 75 => 123 | 76 => 124 | 4 => 4 | 5 => 5 | 167 => 170 | 37 => 111 | 0 => 0 | 85 => 171 | 2 => 2 | 168 => 173 | 53 => 77 | 175 => 187 | 46 => 80 | 210 => 191 | 127 => 202 | 145 => 205 | 143 => 203 | 21 => 21 | 171 => 158 | 173 => 161 | 212 => 184 | 51 => 79 | 20 => 20 | 213 => 185 | 232 => 206 | 233 => 207 | 80 => 56 | n => n, fun | 15 => 1 | 16 => 2 | 17 => 0 | 18 => 5 | 19 => 6 | n => n⟩
theorem sh2_lays172 : Go.Proofs.Lays.n172 Tryz.prog sh2_lays172_ren := {
  mixed := by kernel_rfl
  f129 := Tryz.func140.trans (congrArg some (by kernel_rfl))
  f171 := Tryz.func168.trans (congrArg some (by kernel_rfl))
  f172 := Tryz.func97.trans (congrArg some (by kernel_rfl))
  f205 := Tryz.func167.trans (congrArg some (by kernel_rfl))
  f243 := Tryz.func178.trans (congrArg some (by kernel_rfl))
  f244 := Tryz.func123.trans (congrArg some (by kernel_rfl))
  f245 := Tryz.func124.trans (congrArg some (by kernel_rfl))
  f246 := Tryz.func180.trans (congrArg some (by kernel_rfl))
  f247 := Tryz.func146.trans (congrArg some (by kernel_rfl))
  f279 := Tryz.func147.trans (congrArg some (by kernel_rfl))
  f280 := Tryz.func148.trans (congrArg some (by kernel_rfl))
  f281 := Tryz.func149.trans (congrArg some (by kernel_rfl))
  f282 := Tryz.func150.trans (congrArg some (by kernel_rfl))
  f283 := Tryz.func133.trans (congrArg some (by kernel_rfl))
  f284 := Tryz.func134.trans (congrArg some (by kernel_rfl))
  f285 := Tryz.func135.trans (congrArg some (by kernel_rfl))
  f286 := Tryz.func136.trans (congrArg some (by kernel_rfl))
  f287 := Tryz.func165.trans (congrArg some (by kernel_rfl))
  f316 := Tryz.func166.trans (congrArg some (by kernel_rfl))
  f317 := Tryz.func159.trans (congrArg some (by kernel_rfl))
  f318 := Tryz.func160.trans (congrArg some (by kernel_rfl))
  f319 := Tryz.func161.trans (congrArg some (by kernel_rfl))
  f320 := Tryz.func162.trans (congrArg some (by kernel_rfl))
  f321 := Tryz.func176.trans (congrArg some (by kernel_rfl))
  f322 := Tryz.func177.trans (congrArg some (by kernel_rfl))
  f337 := Tryz.func170.trans (congrArg some (by kernel_rfl))
  f338 := Tryz.func171.trans (congrArg some (by kernel_rfl))
  t0 := Tryz.underlying0
  a0 := Tryz.isAgg0
  z0 := Tryz.sizeOf0
  v0 := Tryz.zeroValue0
  t2 := Tryz.underlying2
  a2 := Tryz.isAgg2
  z2 := Tryz.sizeOf2
  v2 := Tryz.zeroValue2
  t3 := Tryz.underlying3
  a3 := Tryz.isAgg3
  z3 := Tryz.sizeOf3
  v3 := Tryz.zeroValue3
  t4 := Tryz.underlying4
  a4 := Tryz.isAgg4
  z4 := Tryz.sizeOf4
  v4 := Tryz.zeroValue4
  t5 := Tryz.underlying5
  a5 := Tryz.isAgg5
  z5 := Tryz.sizeOf5
  v5 := Tryz.zeroValue5
  t9 := Tryz.underlying9
  a9 := Tryz.isAgg9
  z9 := Tryz.sizeOf9
  v9 := Tryz.zeroValue9
  t20 := Tryz.underlying20
  a20 := Tryz.isAgg20
  z20 := Tryz.sizeOf20
  v20 := Tryz.zeroValue20
  t21 := Tryz.underlying21
  a21 := Tryz.isAgg21
  z21 := Tryz.sizeOf21
  v21 := Tryz.zeroValue21
  t37 := Tryz.underlying111
  a37 := Tryz.isAgg111
  z37 := Tryz.sizeOf111
  v37 := Tryz.zeroValue111
  t46 := Tryz.underlying80
  a46 := Tryz.isAgg80
  z46 := Tryz.sizeOf80
  v46 := Tryz.zeroValue80
  t51 := Tryz.underlying79
  a51 := Tryz.isAgg79
  z51 := Tryz.sizeOf79
  v51 := Tryz.zeroValue79
  t53 := Tryz.underlying77
  a53 := Tryz.isAgg77
  z53 := Tryz.sizeOf77
  v53 := Tryz.zeroValue77
  t75 := Tryz.underlying123
  a75 := Tryz.isAgg123
  z75 := Tryz.sizeOf123
  v75 := Tryz.zeroValue123
  t76 := Tryz.underlying124
  a76 := Tryz.isAgg124
  z76 := Tryz.sizeOf124
  v76 := Tryz.zeroValue124
  t85 := Tryz.underlying171
  a85 := Tryz.isAgg171
  z85 := Tryz.sizeOf171
  v85 := Tryz.zeroValue171
  t127 := Tryz.underlying202
  a127 := Tryz.isAgg202
  z127 := Tryz.sizeOf202
  v127 := Tryz.zeroValue202
  t143 := Tryz.underlying203
  a143 := Tryz.isAgg203
  z143 := Tryz.sizeOf203
  v143 := Tryz.zeroValue203
  t145 := Tryz.underlying205
  a145 := Tryz.isAgg205
  z145 := Tryz.sizeOf205
  v145 := Tryz.zeroValue205
  t167 := Tryz.underlying170
  a167 := Tryz.isAgg170
  z167 := Tryz.sizeOf170
  v167 := Tryz.zeroValue170
  t168 := Tryz.underlying173
  a168 := Tryz.isAgg173
  z168 := Tryz.sizeOf173
  v168 := Tryz.zeroValue173
  t171 := Tryz.underlying158
  a171 := Tryz.isAgg158
  z171 := Tryz.sizeOf158
  v171 := Tryz.zeroValue158
  t173 := Tryz.underlying161
  a173 := Tryz.isAgg161
  z173 := Tryz.sizeOf161
  v173 := Tryz.zeroValue161
  t175 := Tryz.underlying187
  a175 := Tryz.isAgg187
  z175 := Tryz.sizeOf187
  v175 := Tryz.zeroValue187
  t210 := Tryz.underlying191
  a210 := Tryz.isAgg191
  z210 := Tryz.sizeOf191
  v210 := Tryz.zeroValue191
  t212 := Tryz.underlying184
  a212 := Tryz.isAgg184
  z212 := Tryz.sizeOf184
  v212 := Tryz.zeroValue184
  t213 := Tryz.underlying185
  a213 := Tryz.isAgg185
  z213 := Tryz.sizeOf185
  t232 := Tryz.underlying206
  a232 := Tryz.isAgg206
  z232 := Tryz.sizeOf206
  v232 := Tryz.zeroValue206
  t233 := Tryz.underlying207
  a233 := Tryz.isAgg207
  z233 := Tryz.sizeOf207
  v233 := Tryz.zeroValue207
  g15 := by kernel_rfl
  g16 := by kernel_rfl
  g17 := by kernel_rfl
  g18 := by kernel_rfl
  g19 := by kernel_rfl }
open Go.RowKit in
theorem sh2_strconv_Atoi (s : ByteArray) (n : Int) (hl : s.size ≤ 18) (h : Lib.atoi s.data.toList = some n) (w : World) :
    Calls Tryz.prog 97 #[.string s] w fun e w' => e = .returned (.tuple #[.int .i64 n, .nilIface]) ∧ ∃ t, w' = Lib.bytesWorld w 5 t := Any.strconv_Atoi sh2_lays172 s n hl h w
end Go.Proofs.YtbplbbkmfbjkfaaGreatDoor

/- Package frac: the reader of numerals: number. -/
namespace Go.Proofs.YtbplbbkmfbjkfaaGreatDoor
open Go.RowKit

theorem trim_zeros (l : List UInt8) (w : World) : Calls Tryz.prog 95 #[.string ⟨l.toArray⟩, .string ⟨#[48]⟩] w fun e w' => e = .returned (.string ⟨(l.dropWhile (· == 48)).toArray⟩) ∧ w' = w := sh2_strings_TrimLeft_one ⟨l.toArray⟩ 48 (by decide) w
theorem atoi_any (w : World) (l : List UInt8) (n : Int) (hl : l.length ≤ 18) (h : Lib.atoi l = some n) : Calls Tryz.prog 97 #[.string ⟨l.toArray⟩] w fun e w' => e = .returned (.tuple #[.int .i64 n, .nilIface]) ∧ Below w.heap.size w w' := by
  refine (sh2_strconv_Atoi ⟨l.toArray⟩ n (by rw [str_size]; exact hl) h w).mono ?_
  rintro e w' ⟨rfl, t, rfl⟩
  exact ⟨rfl, Lib.bytesWorld_below w _ t⟩
set_option maxRecDepth 100000 in
set_option maxHeartbeats 1000000 in
theorem number_any (w : World) (l : List UInt8) (h : l.all isDig = true) (hl : l.length ≤ 400) :
    Calls Tryz.prog 67 #[.string ⟨l.toArray⟩] w (RVz w (decV l : Int)) := by
  have QR := Lib.hid (Pr.new w _ rfl (.bool false) (.slice none 0 0) 24)
  have BW : Hid (Below w.heap.size w (w.alloc (.cells #[.bool false, .slice none 0 0] 24))) := below_alloc (Below.refl _ _) _
  have hlen : (l.dropWhile (· == 48)).length ≤ 400 := Nat.le_trans (List.dropWhile_sublist _ |>.length_le) hl
  have HL := Lib.hid h
  clear h
  go_enter Tryz.func67, Tryz.ntmps67
  go_wp2_with fail
  refine (trim_zeros l _).mono ?_
  rintro e w1 ⟨rfl, rfl⟩
  by_cases h0 : l.dropWhile (· == 48) = []
  · have HV := Lib.hid (zeros_nil h0)
    rw [h0]
    go_wp2
    exact post_w1 Tryz.results67 rfl rfl QR.out.c0 QR.out.c1 ⟨none, 0, 0, by rw [HV.out]; rfl, by rw [HV.out]; exact Lm.nil _ _, BW.out⟩
  · have HZ := Lib.hid (zeros_pz HL.out h0)
    have HV := Lib.hid h0
    have e0 : (l.dropWhile (· == 48)).isEmpty = false := by simpa using h0
    clear h0
    generalize l.dropWhile (· == 48) = T at *
    go_wp2_with fail
    refine (parse_n _ T HZ.out.1 (by omega)).mono ?_
    rw [HZ.out.2]
    rintro e w2 ⟨A2, n2, c2, rfl, hL2, hb⟩
    have L2 := Lib.hid hL2
    replace QR := Lib.hid (QR.out.via hb)
    replace BW := Lib.hid (btr BW.out hb)
    obtain ⟨np, hnp⟩ : ∃ b, decide ((decV l : Int) < 0) = b := ⟨_, rfl⟩
    rw [hnp]
    have HNp := Lib.hid hnp
    clear hb hL2 hnp
    go_wp2_with fail
    refine (must_ok _ _ _ _ _).mono ?_
    rintro e w3 ⟨rfl, hb⟩
    replace L2 := Lib.hid (L2.out.via hb)
    replace QR := Lib.hid (QR.out.via hb)
    replace BW := Lib.hid (btr BW.out hb)
    clear hb
    have ⟨q0, q1, f0, f1, ql⟩ := QR.out
    go_wp2
    have KS := QR.out.set (.bool np) (.slice A2 n2 c2)
    exact post_w1 Tryz.results67 rfl rfl KS.c0 KS.c1 ⟨A2, n2, c2, by rw [HNp.out], L2.out.setP QR.out _ _, below_set2 BW.out (Nat.le_refl _) _ _⟩
end Go.Proofs.YtbplbbkmfbjkfaaGreatDoor

/- Package frac: the reader of numerals: scaled. -/
namespace Go.Proofs.YtbplbbkmfbjkfaaGreatDoor
open Go.RowKit

/-- A ratio is read, or there is no numeral. -/
def RUn (w : World) (g : Nat) (o : Option (Int × Int × List UInt8)) (e : Ending) (w' : World) : Prop := match o with
  | none => e = Pan 12 ∧ Bex w.heap.size g w w'
  | some (p, q, r) => ∃ A n c B m c', e = .returned (fv (decide (p < 0)) A n c (decide (q < 0)) B m c') ∧ Lm w' w'.heap.size A n c (digs p.natAbs) ∧ Lm w' w'.heap.size B m c' (digs q.natAbs) ∧ Sb w' g r ∧ Bex w.heap.size g w w'

set_option maxRecDepth 100000 in
set_option maxHeartbeats 4000000 in
theorem scaled_any (w : World) (g : Nat) (l : List UInt8) (A B : Option Addr) (n m ca cb : Nat) (p q : Int) (hs : Sb w g l) (hl : l.length ≤ 300) (hA : Lm w w.heap.size A n ca (digs p.natAbs)) (hB : Lm w w.heap.size B m cb (digs q.natAbs)) (hp : Sz 300 p) (hq : Sz 300 q) {na nb : Bool} (ha : decide (p < 0) = na) (hb : decide (q < 0) = nb) :
    Calls Tryz.prog 68 #[.pointer (some ⟨g, 0, none⟩), fv na A n ca nb B m cb] w (RUn w g (scl p q l)) := by
  have hg := hs.lt
  have hz := str_size (dg (sk 45 l).2)
  have HP := Lib.hid hp
  have HQ := Lib.hid hq
  have HNa := Lib.hid ha
  have HNb := Lib.hid hb
  have hlk := sk_len 45 l
  obtain ⟨o, ho⟩ : ∃ o, scl p q l = o := ⟨_, rfl⟩
  rw [ho]
  have HO := Lib.hid ho
  have LA := Lib.hid ((hA.box (.cells #[.bool na, .slice A n ca, .bool nb, .slice B m cb] 42)).box (.cells #[.bool false, .slice none 0 0, .bool false, .slice none 0 0] 42))
  have LB := Lib.hid ((hB.box (.cells #[.bool na, .slice A n ca, .bool nb, .slice B m cb] 42)).box (.cells #[.bool false, .slice none 0 0, .bool false, .slice none 0 0] 42))
  have QF := Lib.hid ((Qd.new w w.heap.size rfl (.bool na) (.slice A n ca) (.bool nb) (.slice B m cb) 42).alloc (.cells #[.bool false, .slice none 0 0, .bool false, .slice none 0 0] 42))
  have QR := Lib.hid (Qd.new (w.alloc (.cells #[.bool na, .slice A n ca, .bool nb, .slice B m cb] 42)) (w.heap.size + 1) (by simp) (.bool false) (.slice none 0 0) (.bool false) (.slice none 0 0) 42)
  have BW : Below w.heap.size w ((w.alloc (.cells #[.bool na, .slice A n ca, .bool nb, .slice B m cb] 42)).alloc (.cells #[.bool false, .slice none 0 0, .bool false, .slice none 0 0] 42)) := below_alloc (below_alloc (Below.refl _ _) _) _
  have SB := Lib.hid (hs.via BW)
  have BX : Hid (Bex w.heap.size g w _) := Bex.of BW
  clear BW hs hA hB hp hq ha hb ho
  go_enter Tryz.func68, Tryz.ntmps68
  go_wp2_with fail
  generalize (w.alloc (.cells #[.bool na, .slice A n ca, .bool nb, .slice B m cb] 42)).alloc (.cells #[.bool false, .slice none 0 0, .bool false, .slice none 0 0] 42) = W0 at *
  go_wp2_with fail
  refine (skip_any _ _ 45 l SB.out).mono ?_
  rintro e w1 ⟨rfl, hs, hb⟩
  replace LA := Lib.hid (LA.out.bex SB.out hb)
  replace LB := Lib.hid (LB.out.bex SB.out hb)
  replace QF := Lib.hid (QF.out.bex hb (by omega))
  replace QR := Lib.hid (QR.out.bex hb (by omega))
  replace SB := Lib.hid hs
  replace BX := Lib.hid (BX.out.next hb)
  clear hs hb
  go_wp2_with fail
  refine (digits_any _ _ (sk 45 l).2 SB.out (by omega)).mono ?_
  intro e w2 hr
  unfold RDg at hr
  by_cases hd2 : dg (sk 45 l).2 = []
  · rw [if_pos hd2] at hr
    obtain ⟨rfl, hb⟩ := hr
    replace BX := Lib.hid (BX.out.next hb)
    unfold Pan
    have e : o = none := by rw [← HO.out]; unfold scl; rw [if_pos (.inl hd2)]
    rw [e]
    exact ⟨rfl, rfl, BX.out⟩
  · rw [if_neg hd2] at hr
    obtain ⟨rfl, hs, hb⟩ := hr
    replace LA := Lib.hid (LA.out.bex SB.out hb)
    replace LB := Lib.hid (LB.out.bex SB.out hb)
    replace QF := Lib.hid (QF.out.bex hb (by omega))
    replace QR := Lib.hid (QR.out.bex hb (by omega))
    replace SB := Lib.hid hs
    replace BX := Lib.hid (BX.out.next hb)
    clear hs hb
    have HD2 := Lib.hid (dg_all (sk 45 l).2)
    have hx2 := dgr_len (sk 45 l).2
    by_cases h3 : 3 < (dg (sk 45 l).2).length
    · have h3i : (3 : Int) < ((dg (sk 45 l).2).length : Int) := by omega
      go_wp2_with fail
      have e : o = none := by rw [← HO.out]; unfold scl; rw [if_pos (.inr h3)]
      rw [e]
      go_wp2
      exact ⟨rfl, rfl, BX.out⟩
    · have h3i : decide ((3 : Int) < ((dg (sk 45 l).2).length : Int)) = false := decide_eq_false (by omega)
      have HK : Hid (decV (dg (sk 45 l).2) ≤ 999) := dec3 HD2.out (by omega)
      have HA := Lib.hid (atoi_dec HD2.out hd2)
      have hd18 : (dg (sk 45 l).2).length ≤ 18 := by omega
      have HC := Lib.hid (show ¬ (dg (sk 45 l).2 = [] ∨ 3 < (dg (sk 45 l).2).length) from fun h => h.elim hd2 h3)
      go_wp2_with fail
      refine (atoi_any _ _ _ hd18 HA.out).mono ?_
      rintro e w3 ⟨rfl, hb⟩
      replace LA := Lib.hid (LA.out.via hb)
      replace LB := Lib.hid (LB.out.via hb)
      replace QF := Lib.hid (QF.out.via hb)
      replace QR := Lib.hid (QR.out.via hb)
      replace SB := Lib.hid (SB.out.via hb)
      replace BX := Lib.hid (BX.out.nextB hb)
      clear hb
      cases hsg : (sk 45 l).1 with
      | true =>
        have HS : Hid (o = some (p, q * 10 ^ decV (dg (sk 45 l).2), dr (sk 45 l).2)) := by
          show _ = _
          rw [← HO.out]; unfold scl; rw [if_neg HC.out, if_pos hsg]
        clear HO
        generalize decV (dg (sk 45 l).2) = k at *
        go_wp2_with fail
        have ⟨f0, f1, f2, f3, f4, f5, f6, f7, f8⟩ := QF.out
        have ⟨ff0, ff1, ff2, ff3, ff4, ff5, ff6, ff7, ff8⟩ := QF.out.drewN 1
        (try go_wp2_with fail)
        go_cut [] from 23 to 28 (fun wx => ∃ A5 n5 c5, Qd wx w.heap.size (.bool na) (.slice A n ca) (.bool (decide (q * 10 ^ k < 0))) (.slice A5 n5 c5) ∧ Lm wx wx.heap.size A5 n5 c5 (digs (q * 10 ^ k).natAbs) ∧ Lm wx wx.heap.size A n ca (digs p.natAbs) ∧ Sb wx g (dr (sk 45 l).2) ∧ Qd wx (w.heap.size + 1) (.bool false) (.slice none 0 0) (.bool false) (.slice none 0 0) ∧ Bex w.heap.size g w wx)
        case first =>
          go_region_with (first
           | (have _t := F0; go_at_call 58; refine (prod_n _ B A0 m n0 cb c0 400 _ _ (LB.out.via F0) L0 (HQ.out.mono (by omega)) ((sz_ten _ HK.out).mono (by omega)) (by omega) HNb.out rfl).mono ?_; rintro e v1 ⟨A5, n5, c5, rfl, L5, h1⟩; have F1 : Below w3.heap.size w3 v1 := btr F0 h1; have ⟨e0, e1, e2, e3, e4, e5, e6, e7, e8⟩ := QF.out.via F1)
           | (go_at_call 59; refine (power_n _ _ HK.out).mono ?_; rintro e v0 ⟨A0, n0, c0, rfl, L0, h0⟩; have F0 : Below w3.heap.size w3 v0 := (by first | exact (Below.refl _ _).drew.trans h0 | exact h0); have ⟨d0, d1, d2, d3, d4, d5, d6, d7, d8⟩ := QF.out.via F0)
           | fail)
          all_goals
            go_wp2_with fail
            go_meet
            exact ⟨A5, n5, c5, (QF.out.via F1).hi _ _, L5.hi (QF.out.via F1) _ _, (LA.out.via F1).hi (QF.out.via F1) _ _, ((SB.out.via F1).farS (by omega) _ _).farS (by omega) _ _, ((QR.out.via F1).far1 (by omega) _ _).far1 (by omega) _ _, ((BX.out.nextB F1).setN (by omega) _ _).setN (by omega) _ _⟩
        case rest =>
          obtain ⟨A5, n5, c5, q5, l5, k5, s5, rq, b5⟩ := hcut
          clear QF QR LA LB SB BX
          generalize wc = W7 at *
          obtain ⟨np, hnp⟩ : ∃ b, decide (q * 10 ^ k < 0) = b := ⟨_, rfl⟩
          rw [hnp] at q5
          have HNp := Lib.hid hnp
          clear hnp
          have ⟨f0, f1, f2, f3, f4, f5, f6, f7, f8⟩ := q5
          have ⟨r0, r1, r2, r3, r4, r5, r6, r7, r8⟩ := rq
          go_wp2
          exact post_r1 Tryz.results68 rfl rfl (rq.set (.bool na) (.slice A n ca) (.bool np) (.slice A5 n5 c5)) (by rw [HS.out]; exact ⟨A, n, ca, A5, n5, c5, by rw [HNa.out, HNp.out], k5.put4 rq _ _ _ _, l5.put4 rq _ _ _ _, s5.put4 (by omega) _ _ _ _, b5.put4 (by omega) _ _ _ _⟩)
      | false =>
        have HS : Hid (o = some (p * 10 ^ decV (dg (sk 45 l).2), q, dr (sk 45 l).2)) := by
          show _ = _
          rw [← HO.out]; unfold scl; rw [if_neg HC.out, if_neg (by rw [hsg]; simp)]
        clear HO
        generalize decV (dg (sk 45 l).2) = k at *
        go_wp2_with fail
        have ⟨f0, f1, f2, f3, f4, f5, f6, f7, f8⟩ := QF.out
        have ⟨ff0, ff1, ff2, ff3, ff4, ff5, ff6, ff7, ff8⟩ := QF.out.drewN 1
        (try go_wp2_with fail)
        go_cut [] from 29 to 34 (fun wx => ∃ A5 n5 c5, Qd wx w.heap.size (.bool (decide (p * 10 ^ k < 0))) (.slice A5 n5 c5) (.bool nb) (.slice B m cb) ∧ Lm wx wx.heap.size A5 n5 c5 (digs (p * 10 ^ k).natAbs) ∧ Lm wx wx.heap.size B m cb (digs q.natAbs) ∧ Sb wx g (dr (sk 45 l).2) ∧ Qd wx (w.heap.size + 1) (.bool false) (.slice none 0 0) (.bool false) (.slice none 0 0) ∧ Bex w.heap.size g w wx)
        case first =>
          go_region_with (first
           | (have _t := F0; go_at_call 58; refine (prod_n _ A A0 n n0 ca c0 400 _ _ (LA.out.via F0) L0 (HP.out.mono (by omega)) ((sz_ten _ HK.out).mono (by omega)) (by omega) HNa.out rfl).mono ?_; rintro e v1 ⟨A5, n5, c5, rfl, L5, h1⟩; have F1 : Below w3.heap.size w3 v1 := btr F0 h1; have ⟨e0, e1, e2, e3, e4, e5, e6, e7, e8⟩ := QF.out.via F1)
           | (go_at_call 59; refine (power_n _ _ HK.out).mono ?_; rintro e v0 ⟨A0, n0, c0, rfl, L0, h0⟩; have F0 : Below w3.heap.size w3 v0 := (by first | exact (Below.refl _ _).drew.trans h0 | exact h0); have ⟨d0, d1, d2, d3, d4, d5, d6, d7, d8⟩ := QF.out.via F0)
           | fail)
          all_goals
            go_wp2_with fail
            go_meet
            exact ⟨A5, n5, c5, (QF.out.via F1).lo _ _, L5.lo (QF.out.via F1) _ _, (LB.out.via F1).lo (QF.out.via F1) _ _, ((SB.out.via F1).farS (by omega) _ _).farS (by omega) _ _, ((QR.out.via F1).far1 (by omega) _ _).far1 (by omega) _ _, ((BX.out.nextB F1).setN (by omega) _ _).setN (by omega) _ _⟩
        case rest =>
          obtain ⟨A5, n5, c5, q5, l5, k5, s5, rq, b5⟩ := hcut
          clear QF QR LA LB SB BX
          generalize wc = W7 at *
          obtain ⟨np, hnp⟩ : ∃ b, decide (p * 10 ^ k < 0) = b := ⟨_, rfl⟩
          rw [hnp] at q5
          have HNp := Lib.hid hnp
          clear hnp
          have ⟨f0, f1, f2, f3, f4, f5, f6, f7, f8⟩ := q5
          have ⟨r0, r1, r2, r3, r4, r5, r6, r7, r8⟩ := rq
          go_wp2
          exact post_r1 Tryz.results68 rfl rfl (rq.set (.bool np) (.slice A5 n5 c5) (.bool nb) (.slice B m cb)) (by rw [HS.out]; exact ⟨A5, n5, c5, B, m, cb, by rw [HNb.out, HNp.out], l5.put4 rq _ _ _ _, k5.put4 rq _ _ _ _, s5.put4 (by omega) _ _ _ _, b5.put4 (by omega) _ _ _ _⟩)
end Go.Proofs.YtbplbbkmfbjkfaaGreatDoor

