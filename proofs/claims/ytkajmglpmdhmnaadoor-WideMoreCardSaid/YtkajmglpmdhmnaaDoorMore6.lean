
/-
  For any two numbers a and b, any shift k and any exponent n the law WideMore returns true: Gcd, Shift, Pow and Sqrt of package wide return what the reference returns, number and error, whether the numbers are valid or not. Conditions: none beyond the statement's own (numbers of 301 to 4096 limbs and of more than 4106 limbs make the law return true at once); the library's table of de Bruijn holds what its initialiser lays (the card ties it to the program's text).
-/
import Derived.Laws.BitsLemmas
import Derived.Deep.RegionLaw
import Derived.Laws.OwnMore
import Derived.Deep.RegionHeld3
import Derived.Deep.DeepCutAuto
import Derived.Test.YtkajmglpmdhmnaaDoorTie
import Derived.Test.YtkajmglpmdhmnaaDoorCards
import Derived.Test.YtkajmglpmdhmnaaDoorMore5
/- wide.Parse: the number with a text. -/
namespace Go.Proofs.YtkajmglpmdhmnaaDoor
open Go.RowKit

/-- Whether bytes are the text of a number. -/
def pOk (l : List UInt8) : Bool := txtOk (minus l).2 && !((minus l).1 && decide ((minus l).2 = [48]))
theorem txtOk_all {l : List UInt8} (h : txtOk l = true) : l.all isDig = true := by
  unfold txtOk at h
  rw [Bool.and_eq_true] at h
  exact h.1
theorem eq_zero_text (t : List UInt8) : ((⟨t.toArray⟩ : ByteArray).toList == (⟨#[48]⟩ : ByteArray).toList) = decide (t = [48]) := by
  rw [Lib.toList_data, Lib.toList_data]
  by_cases h : t = [48]
  · subst h; rfl
  · rw [decide_eq_false h]
    simpa using h

theorem boxes1 {w w1 : World} {t0 : TypeId} {a0 a1 : Value} (hb : Below (w.alloc (.cells #[a0, a1] t0)).heap.size (w.alloc (.cells #[a0, a1] t0)) w1) : Pr w1 w.heap.size a0 a1 := (Pr.new w _ rfl a0 a1 t0).via hb

set_option maxRecDepth 100000 in
set_option maxHeartbeats 1000000 in
theorem parse_good (w : World) (l : List UInt8) (neg : Bool) (t : List UInt8) (hm : minus l = (neg, t)) (hO : txtOk t = true) (hN : neg = true → t ≠ [48]) (hl : t.length ≤ 39457) :
    Calls Tryd.prog 23 #[.string ⟨l.toArray⟩] w (RW w (mkN neg (decV t)) (mkL (decV t)) (mkE (decV t))) := by
  have hcut := cut_minus l
  rw [hm] at hcut
  have HC := Lib.hid hcut
  have HO := Lib.hid hO
  have HS := Lib.hid (str_size t)
  have HN := Lib.hid hN
  clear hcut hO hm hN
  go_enter Tryd.func23, Tryd.ntmps23
  cases neg with
  | false =>
    go_wp2_with (first
      | (go_at_call 55; refine (HC.out _).mono ?_; rintro e w' ⟨rfl, rfl⟩)
      | (go_at_call 56; refine (istext_any _ t (by omega)).mono ?_; rintro e w1 ⟨rfl, hb1⟩; rw [HO.out]; have P1 := boxes1 hb1; obtain ⟨c0, c1, f0, f1, lt1⟩ := P1; have HB1 := Lib.hid hb1; clear hb1)
      | (go_at_call 57; refine (read_any _ t (txtOk_all HO.out) (by omega)).mono ?_; rintro e w2 ⟨A, c, rfl, hL, hb2⟩; have P2 := Lib.hid (Pr.via ⟨c0, c1, f0, f1, lt1⟩ hb2); have HL := Lib.hid hL; have HB2 := Lib.hid hb2; clear hL hb2 c0 c1 f0 f1 lt1)
      | (go_at_call 31; refine (made_any _ _ _ _ _ _ HL.out).mono ?_; rintro e w3 ⟨A3, n3, c3, rfl, hL3, hb3⟩; obtain ⟨c0, c1, f0, f1, lt1⟩ := P2.out.via hb3; have HL3 := Lib.hid hL3; have HB3 := Lib.hid hb3; clear hL3 hb3)
      | fail)
    have P3 : Pr w3 w.heap.size (.bool false) (.slice none 0 0) := ⟨c0, c1, f0, f1, lt1⟩
    exact post_ws Tryd.results23 rfl rfl P3.c0 P3.c1 ⟨A3, n3, c3, rfl, HL3.out.setP P3 _ _,
      below_set2 (((bbox HB1.out).trans (HB2.out.mono (bbox HB1.out).size)).trans (HB3.out.mono (Nat.le_trans (bbox HB1.out).size HB2.out.size))) (by omega) _ _⟩
  | true =>
    have hz2 : (t == [48]) = false := by simpa using HN.out rfl
    go_wp2_with (first
      | (go_at_call 55; refine (HC.out _).mono ?_; rintro e w' ⟨rfl, rfl⟩)
      | (go_at_call 56; refine (istext_any _ t (by omega)).mono ?_; rintro e w1 ⟨rfl, hb1⟩; rw [HO.out]; have P1 := boxes1 hb1; obtain ⟨c0, c1, f0, f1, lt1⟩ := P1; have HB1 := Lib.hid hb1; clear hb1)
      | (go_at_call 57; refine (read_any _ t (txtOk_all HO.out) (by omega)).mono ?_; rintro e w2 ⟨A, c, rfl, hL, hb2⟩; have P2 := Lib.hid (Pr.via ⟨c0, c1, f0, f1, lt1⟩ hb2); have HL := Lib.hid hL; have HB2 := Lib.hid hb2; clear hL hb2 c0 c1 f0 f1 lt1)
      | (go_at_call 31; refine (made_any _ _ _ _ _ _ HL.out).mono ?_; rintro e w3 ⟨A3, n3, c3, rfl, hL3, hb3⟩; obtain ⟨c0, c1, f0, f1, lt1⟩ := P2.out.via hb3; have HL3 := Lib.hid hL3; have HB3 := Lib.hid hb3; clear hL3 hb3)
      | fail)
    have P3 : Pr w3 w.heap.size (.bool false) (.slice none 0 0) := ⟨c0, c1, f0, f1, lt1⟩
    exact post_ws Tryd.results23 rfl rfl P3.c0 P3.c1 ⟨A3, n3, c3, rfl, HL3.out.setP P3 _ _,
      below_set2 (((bbox HB1.out).trans (HB2.out.mono (bbox HB1.out).size)).trans (HB3.out.mono (Nat.le_trans (bbox HB1.out).size HB2.out.size))) (by omega) _ _⟩

set_option maxRecDepth 100000 in
set_option maxHeartbeats 1000000 in
theorem parse_form (w : World) (l : List UInt8) (neg : Bool) (t : List UInt8) (hm : minus l = (neg, t)) (hO : txtOk t = false) (hl : t.length ≤ 1000000000000) :
    Calls Tryd.prog 23 #[.string ⟨l.toArray⟩] w (RW w false [] 12) := by
  have hcut := cut_minus l
  rw [hm] at hcut
  have HC := Lib.hid hcut
  have HO := Lib.hid hO
  clear hcut hO hm
  go_enter Tryd.func23, Tryd.ntmps23
  go_wp2_with (first
    | (go_at_call 55; refine (HC.out _).mono ?_; rintro e w' ⟨rfl, rfl⟩)
    | (go_at_call 56; refine (istext_any _ t (by omega)).mono ?_; rintro e w1 ⟨rfl, hb1⟩; rw [HO.out]; have P1 := boxes1 hb1; obtain ⟨c0, c1, f0, f1, lt1⟩ := P1; have HB1 := Lib.hid hb1; clear hb1)
    | fail)
  exact post_ws Tryd.results23 rfl rfl c0 c1 ⟨none, 0, 0, rfl, Lm.nil _ _, below_set2 (bbox HB1.out) (by omega) _ _⟩

set_option maxRecDepth 100000 in
set_option maxHeartbeats 1000000 in
theorem parse_zero (w : World) (l : List UInt8) (hm : minus l = (true, [48])) :
    Calls Tryd.prog 23 #[.string ⟨l.toArray⟩] w (RW w false [] 12) := by
  have hcut := cut_minus l
  rw [hm] at hcut
  have HC := Lib.hid hcut
  have HO : Hid (txtOk [48] = true) := by show _ = _; decide
  clear hcut hm
  go_enter Tryd.func23, Tryd.ntmps23
  go_wp2_with (first
    | (go_at_call 55; refine (HC.out _).mono ?_; rintro e w' ⟨rfl, rfl⟩)
    | (go_at_call 56; refine (istext_any _ [48] (by simp)).mono ?_; rintro e w1 ⟨rfl, hb1⟩; rw [HO.out]; have P1 := boxes1 hb1; obtain ⟨c0, c1, f0, f1, lt1⟩ := P1; have HB1 := Lib.hid hb1; clear hb1)
    | fail)
  exact post_ws Tryd.results23 rfl rfl c0 c1 ⟨none, 0, 0, rfl, Lm.nil _ _, below_set2 (bbox HB1.out) (by omega) _ _⟩

/-- Whether bytes are the text of a number. -/
theorem parse_ok (w : World) (l : List UInt8) (h : pOk l = true) (hl : l.length ≤ 39457) :
    Calls Tryd.prog 23 #[.string ⟨l.toArray⟩] w (RW w (mkN (minus l).1 (decV (minus l).2)) (mkL (decV (minus l).2)) (mkE (decV (minus l).2))) := by
  unfold pOk at h
  rw [Bool.and_eq_true, Bool.not_eq_true'] at h
  refine parse_good w l _ _ rfl h.1 (fun e e2 => ?_) (Nat.le_trans (minus_len l) hl)
  have h2 := h.2
  rw [e, e2] at h2
  cases h2
theorem parse_bad (w : World) (l : List UInt8) (h : pOk l = false) (hl : l.length ≤ 1000000000000) :
    Calls Tryd.prog 23 #[.string ⟨l.toArray⟩] w (RW w false [] 12) := by
  unfold pOk at h
  cases h1 : txtOk (minus l).2 with
  | false => exact parse_form w l _ _ rfl h1 (Nat.le_trans (minus_len l) hl)
  | true =>
    rw [h1, Bool.true_and, Bool.not_eq_false', Bool.and_eq_true, decide_eq_true_eq] at h
    exact parse_zero w l (by rw [← h.1, ← h.2])
end Go.Proofs.YtkajmglpmdhmnaaDoor

/- Arithmetic on numbers of known size, in whole numbers. -/
namespace Go.Proofs.YtkajmglpmdhmnaaDoor
open Go.RowKit

/-- A whole number's size in limbs. -/
def Sz (k : Nat) (z : Int) : Prop := z.natAbs < 4294967296 ^ k
theorem Sz.mono {k l : Nat} {z : Int} (h : Sz k z) (hl : k ≤ l) : Sz l z := Nat.lt_of_lt_of_le h (pow_mono_ hl)
theorem Sz.len {k : Nat} {z : Int} (h : Sz k z) : (digs z.natAbs).length ≤ k := digs_len.2 h
theorem Sz.of_len {k : Nat} {z : Int} (h : (digs z.natAbs).length ≤ k) : Sz k z := digs_len.1 h
theorem Sz.add {k : Nat} {x y : Int} (hx : Sz k x) (hy : Sz k y) : Sz (k + 1) (x + y) := by
  unfold Sz at *
  rw [pow_succ_]
  omega
theorem Sz.neg {k : Nat} {x : Int} (hx : Sz k x) : Sz k (-x) := by unfold Sz at *; omega
theorem Sz.sub {k : Nat} {x y : Int} (hx : Sz k x) (hy : Sz k y) : Sz (k + 1) (x - y) := by
  unfold Sz at *
  rw [pow_succ_]
  omega
theorem Sz.mul {k l : Nat} {x y : Int} (hx : Sz k x) (hy : Sz l y) : Sz (k + l) (x * y) := by
  unfold Sz at *
  rw [Int.natAbs_mul, pow_add_]
  exact Nat.mul_lt_mul_of_lt_of_le hx (Nat.le_of_lt hy) (pow_pos_ _)
theorem Sz.abs {k : Nat} {x : Int} (hx : Sz k x) : Sz k (x.natAbs : Int) := hx
theorem toI_self (z : Int) : toI (decide (z < 0)) z.natAbs = z := by
  unfold toI
  by_cases h : z < 0
  · rw [if_pos (by simpa using h)]; omega
  · rw [if_neg (by simpa using h)]; omega
theorem chk_z {z : Int} {k : Nat} (h : Sz k z) (hk : k ≤ 4096) : chk (decide (z < 0)) (digs z.natAbs) = 0 :=
  chk_ok.2 ⟨Nat.le_trans h.len hk, digs_norm _, fun hn e => by have h1 := digs_nil.1 e; have h2 : z < 0 := (by simpa using hn); omega⟩
theorem chkB_z {x y : Int} {k l : Nat} (hx : Sz k x) (hk : k ≤ 4096) (hy : Sz l y) (hl : l ≤ 4096) : chkB (decide (x < 0)) (digs x.natAbs) (decide (y < 0)) (digs y.natAbs) = 0 :=
  chkB_ok.2 ⟨chk_z hx hk, chk_z hy hl⟩
/-- A valid number that came in, as a whole number. -/
theorem of_chk {neg : Bool} {xs : List Nat} (hc : chk neg xs = 0) (g : Good xs) {k : Nat} (hk : xs.length ≤ k) : ∃ z : Int, neg = decide (z < 0) ∧ xs = digs z.natAbs ∧ Sz k z := by
  have h1 := chk_digs hc g
  have h2 := (chk_ok.1 hc).2.2
  refine ⟨toI neg (val xs), ?_, by rw [toI_abs]; exact h1, by unfold Sz; rw [toI_abs]; exact Nat.lt_of_lt_of_le (val_lt g) (pow_mono_ hk)⟩
  have h3 : neg = true → 0 < val xs := fun hn => val_pos (chk_ok.1 hc).2.1 (h2 hn)
  unfold toI
  cases neg
  · rw [if_neg (by simp)]; simp
  · rw [if_pos rfl]; have := h3 rfl; simp; omega
/-- A call returns the number z, without an error. -/
def RN (w : World) (z : Int) (e : Ending) (w' : World) : Prop := ∃ A n c, e = .returned (.tuple #[.agg #[.bool (decide (z < 0)), .slice A n c], .int .i64 0]) ∧ Lm w' w'.heap.size A n c (digs z.natAbs) ∧ Below w.heap.size w w'
theorem mkN_z {z : Int} {k : Nat} (h : Sz k z) (hk : k ≤ 4096) : mkN (decide (z < 0)) z.natAbs = decide (z < 0) ∧ mkL z.natAbs = digs z.natAbs ∧ mkE z.natAbs = 0 := by
  have hl := Nat.le_trans h.len hk
  refine ⟨?_, by unfold mkL; rw [if_pos hl], by unfold mkE; rw [if_pos hl]⟩
  unfold mkN
  rw [decide_eq_true hl, Bool.true_and]
  by_cases hz : z < 0
  · rw [decide_eq_true hz, decide_eq_true (show z.natAbs ≠ 0 by omega)]; rfl
  · rw [decide_eq_false hz]; rfl
theorem rz_rn {w : World} {z : Int} {k : Nat} (h : Sz k z) (hk : k ≤ 4096) {e : Ending} {w' : World} (hr : RZ w z e w') : RN w z e w' := by
  obtain ⟨h1, h2, h3⟩ := mkN_z h hk
  unfold RZ at hr
  rw [h1, h2, h3] at hr
  exact hr
section
variable (w : World) (A B : Option Addr) (n m ca cb k : Nat) (x y : Int) (hA : Lm w w.heap.size A n ca (digs x.natAbs)) (hB : Lm w w.heap.size B m cb (digs y.natAbs)) (hx : Sz k x) (hy : Sz k y) (hk : k ≤ 2000)
include hA hB hx hy hk
theorem add_z : Calls Tryd.prog 19 #[.agg #[.bool (decide (x < 0)), .slice A n ca], .agg #[.bool (decide (y < 0)), .slice B m cb]] w (RN w (x + y)) := by
  have h := add_ok w _ _ A B n m ca cb _ _ hA hB (chkB_z hx (by omega) hy (by omega))
  rw [toI_self, toI_self] at h
  exact h.mono fun e w' hr => rz_rn (hx.add hy) (by omega) hr
theorem sub_z : Calls Tryd.prog 28 #[.agg #[.bool (decide (x < 0)), .slice A n ca], .agg #[.bool (decide (y < 0)), .slice B m cb]] w (RN w (x - y)) := by
  have h := sub_ok w _ _ A B n m ca cb _ _ hA hB (chkB_z hx (by omega) hy (by omega))
  rw [toI_self, toI_self] at h
  exact h.mono fun e w' hr => rz_rn (hx.sub hy) (by omega) hr
theorem mul_z : Calls Tryd.prog 22 #[.agg #[.bool (decide (x < 0)), .slice A n ca], .agg #[.bool (decide (y < 0)), .slice B m cb]] w (RN w (x * y)) := by
  have h := mul_ok w _ _ A B n m ca cb _ _ hA hB (chkB_z hx (by omega) hy (by omega))
  have e1 := rz_of w (decide (x < 0) != decide (y < 0)) (x.natAbs * y.natAbs) (z := x * y) (by rw [← toI_mul, toI_self, toI_self])
  rw [e1] at h
  exact h.mono fun e w' hr => rz_rn (hx.mul hy) (by omega) hr
theorem add_n {na nb : Bool} (ha : decide (x < 0) = na) (hb : decide (y < 0) = nb) : Calls Tryd.prog 19 #[.agg #[.bool na, .slice A n ca], .agg #[.bool nb, .slice B m cb]] w (RN w (x + y)) := by
  subst ha hb
  exact add_z w A B n m ca cb k x y hA hB hx hy hk
theorem sub_n {na nb : Bool} (ha : decide (x < 0) = na) (hb : decide (y < 0) = nb) : Calls Tryd.prog 28 #[.agg #[.bool na, .slice A n ca], .agg #[.bool nb, .slice B m cb]] w (RN w (x - y)) := by
  subst ha hb
  exact sub_z w A B n m ca cb k x y hA hB hx hy hk
theorem mul_n {na nb : Bool} (ha : decide (x < 0) = na) (hb : decide (y < 0) = nb) : Calls Tryd.prog 22 #[.agg #[.bool na, .slice A n ca], .agg #[.bool nb, .slice B m cb]] w (RN w (x * y)) := by
  subst ha hb
  exact mul_z w A B n m ca cb k x y hA hB hx hy hk
end
end Go.Proofs.YtkajmglpmdhmnaaDoor

/- Decimal texts and numbers: one is the other's. -/
namespace Go.Proofs.YtkajmglpmdhmnaaDoor
open Go.RowKit

theorem dig_toNat {d : Nat} (h : d < 10) : (UInt8.ofNat (48 + d)).toNat = 48 + d := by
  rw [UInt8.toNat_ofNat']
  exact Nat.mod_eq_of_lt (by omega)
theorem dig_isDig {d : Nat} (h : d < 10) : isDig (UInt8.ofNat (48 + d)) = true := by
  unfold isDig
  rw [dig_toNat h, decide_eq_true (by omega), decide_eq_true (by omega)]
  rfl
theorem decV_one (c : UInt8) : decV [c] = c.toNat - 48 := by
  show 0 * 10 + _ = _
  omega
theorem decV_dec (u : Nat) : decV (Lib.decDigits u) = u := by
  induction u using Nat.strongRecOn with
  | _ u ih =>
    by_cases h : u < 10
    · rw [dec_small h, decV_one, dig_toNat h]
      omega
    · rw [dec_big (by omega), decV_snoc, ih (u / 10) (by omega), dig_toNat (Nat.mod_lt _ (by omega))]
      omega
theorem dec_all (u : Nat) : (Lib.decDigits u).all isDig = true := by
  induction u using Nat.strongRecOn with
  | _ u ih =>
    by_cases h : u < 10
    · rw [dec_small h, List.all_cons, dig_isDig h]
      rfl
    · rw [dec_big (by omega), List.all_append, ih (u / 10) (by omega), List.all_cons, dig_isDig (Nat.mod_lt _ (by omega))]
      rfl
theorem dec_head (u : Nat) (h0 : 0 < u) : Lib.decDigits u ≠ [] ∧ (Lib.decDigits u)[0]?.getD 0 ≠ 48 := by
  induction u using Nat.strongRecOn with
  | _ u ih =>
    by_cases h : u < 10
    · rw [dec_small h]
      refine ⟨by simp, fun e => ?_⟩
      have e2 : (UInt8.ofNat (48 + u)).toNat = 48 := congrArg UInt8.toNat e
      rw [dig_toNat h] at e2
      omega
    · have h1 := ih (u / 10) (by omega) (by omega)
      rw [dec_big (by omega)]
      refine ⟨by simp, ?_⟩
      rw [List.getElem?_append_left (List.length_pos_iff.2 h1.1)]
      exact h1.2
theorem dec_ok (u : Nat) : txtOk (Lib.decDigits u) = true := by
  unfold txtOk
  rw [dec_all, Bool.true_and]
  rcases Nat.eq_zero_or_pos u with h | h
  · subst h
    rw [dec_small (by omega)]
    rfl
  · have h1 := dec_head u h
    rw [decide_eq_true h1.1, decide_eq_true h1.2]
    simp
theorem minus_dig {l : List UInt8} (h : l.all isDig = true) : minus l = (false, l) := by
  unfold minus
  split
  · rename_i t
    have h1 : isDig 45 = true := by
      rw [List.all_cons, Bool.and_eq_true] at h
      exact h.1
    exact absurd h1 (by decide)
  · rfl
theorem minus_txt (neg : Bool) (v : Nat) : minus (txt neg v) = (neg, Lib.decDigits v) := by
  unfold txt
  cases neg with
  | true => rfl
  | false =>
    rw [if_neg (by simp), List.nil_append]
    exact minus_dig (dec_all v)
theorem pOk_txt {neg : Bool} {v : Nat} (h : neg = true → v ≠ 0) : pOk (txt neg v) = true := by
  unfold pOk
  rw [minus_txt, dec_ok, Bool.true_and, Bool.not_eq_true']
  cases neg with
  | false => rfl
  | true =>
    rw [Bool.true_and]
    refine decide_eq_false fun e => (dec_head v (Nat.pos_of_ne_zero (h rfl))).2 ?_
    show (Lib.decDigits v)[0]?.getD 0 = 48
    rw [show Lib.decDigits v = [48] from e]
    rfl
theorem dec_short {v n : Nat} (h : (digs v).length ≤ n) (h0 : 0 < n) : (Lib.decDigits v).length ≤ 10 * n := by
  have h1 := digs_len.1 h
  have h2 : v < 10 ^ (10 * n) := by
    rw [Nat.pow_mul]
    exact Nat.lt_of_lt_of_le h1 (Nat.pow_le_pow_left (show 4294967296 ≤ 10 ^ 10 by decide) n)
  have h3 := dec_len (10 * n - 1) v (by rw [Nat.sub_add_cancel (by omega)]; exact h2)
  omega
theorem txt_short {v n : Nat} (neg : Bool) (h : (digs v).length ≤ n) (h0 : 0 < n) : (txt neg v).length ≤ 10 * n + 1 := by
  have := dec_short h h0
  unfold txt
  rw [List.length_append]
  cases neg <;> simp <;> omega
theorem dec_decV : ∀ (k : Nat) (t : List UInt8), t.length = k + 1 → t.all isDig = true → t[0]?.getD 0 ≠ 48 → Lib.decDigits (decV t) = t
  | 0, t, hk, ha, _ => by
    obtain ⟨c, rfl⟩ := List.length_eq_one_iff.1 hk
    have hc : isDig c = true := by simpa using ha
    unfold isDig at hc
    rw [Bool.and_eq_true, decide_eq_true_eq, decide_eq_true_eq] at hc
    rw [decV_one, dec_small (by omega), show 48 + (c.toNat - 48) = c.toNat from by omega, UInt8.ofNat_toNat]
  | k + 1, t, hk, ha, h0 => by
    obtain ⟨s, c, rfl⟩ : ∃ s c, t = s ++ [c] := ⟨t.dropLast, t.getLast (fun e => by subst e; cases hk), (List.dropLast_concat_getLast _).symm⟩
    rw [List.length_append, List.length_singleton] at hk
    have hs : s.length = k + 1 := by omega
    rw [List.all_append, Bool.and_eq_true] at ha
    have hc : isDig c = true := by simpa using ha.2
    unfold isDig at hc
    rw [Bool.and_eq_true, decide_eq_true_eq, decide_eq_true_eq] at hc
    rw [List.getElem?_append_left (by omega)] at h0
    have ih := dec_decV k s hs ha.1 h0
    have hp : 0 < decV s := by
      rcases Nat.eq_zero_or_pos (decV s) with e | e
      · rw [e, dec_small (by omega)] at ih
        rw [← ih] at h0
        exact absurd rfl h0
      · exact e
    rw [decV_snoc, dec_big (by omega), show (decV s * 10 + (c.toNat - 48)) / 10 = decV s from by omega, show (decV s * 10 + (c.toNat - 48)) % 10 = c.toNat - 48 from by omega, ih,
      show 48 + (c.toNat - 48) = c.toNat from by omega, UInt8.ofNat_toNat]
theorem dec_txt {t : List UInt8} (h : txtOk t = true) : Lib.decDigits (decV t) = t := by
  unfold txtOk at h
  rw [Bool.and_eq_true, Bool.or_eq_true, decide_eq_true_eq, Bool.and_eq_true, decide_eq_true_eq, decide_eq_true_eq] at h
  rcases h.2 with e | ⟨e1, e2⟩
  · subst e
    rw [decV_one]
    exact dec_small (by decide)
  · have hl := List.length_pos_iff.2 e1
    exact dec_decV (t.length - 1) t (by omega) h.1 e2
theorem minus_back (l : List UInt8) : (if (minus l).1 = true then [45] else []) ++ (minus l).2 = l := by
  unfold minus
  split <;> rfl
/-- The number that a text means. -/
def pZ (l : List UInt8) : Int := toI (minus l).1 (decV (minus l).2)
theorem pZ_abs (l : List UInt8) : (pZ l).natAbs = decV (minus l).2 := toI_abs _ _
theorem pZ_neg {l : List UInt8} (h : pOk l = true) : decide (pZ l < 0) = (minus l).1 := by
  unfold pOk at h
  rw [Bool.and_eq_true, Bool.not_eq_true'] at h
  unfold pZ toI
  cases hm : (minus l).1 with
  | false => simp
  | true =>
    rw [hm, Bool.true_and] at h
    have hne : decV (minus l).2 ≠ 0 := fun e => by
      have e2 := dec_txt h.1
      rw [e, dec_small (by omega)] at e2
      have h2 := h.2
      rw [← e2] at h2
      exact absurd h2 (by decide)
    simp
    omega
theorem pZ_txt {l : List UInt8} (h : pOk l = true) : txt (decide (pZ l < 0)) (pZ l).natAbs = l := by
  rw [pZ_neg h, pZ_abs]
  unfold pOk at h
  rw [Bool.and_eq_true] at h
  unfold txt
  rw [dec_txt h.1]
  exact minus_back l
theorem txt_pZ (x : Int) : pZ (txt (decide (x < 0)) x.natAbs) = x ∧ pOk (txt (decide (x < 0)) x.natAbs) = true := by
  constructor
  · unfold pZ
    rw [minus_txt, decV_dec, toI_self]
  · refine pOk_txt fun h => ?_
    have : x < 0 := by simpa using h
    omega
theorem pZ_sz {l : List UInt8} (h : pOk l = true) {k : Nat} (hl : l.length ≤ k) : Sz k (pZ l) := by
  unfold Sz
  rw [pZ_abs]
  unfold pOk at h
  rw [Bool.and_eq_true] at h
  have h1 := decV_lt (txtOk_all h.1)
  have h2 := minus_len l
  exact Nat.lt_of_lt_of_le h1 (Nat.le_trans (Nat.pow_le_pow_right (by omega) (show (minus l).2.length ≤ k by omega)) (Nat.pow_le_pow_left (by omega) k))
theorem parse_n (w : World) (l : List UInt8) (h : pOk l = true) (hl : l.length ≤ 3001) :
    Calls Tryd.prog 23 #[.string ⟨l.toArray⟩] w (RN w (pZ l)) := by
  have h1 := parse_ok w l h (by omega)
  rw [← pZ_neg h, ← pZ_abs] at h1
  have h2 := mkN_z (pZ_sz h hl) (by omega)
  rw [h2.1, h2.2.1, h2.2.2] at h1
  exact h1
end Go.Proofs.YtkajmglpmdhmnaaDoor

/- planisphereref01.Text. -/
namespace Go.Proofs.YtkajmglpmdhmnaaDoor
open Go.RowKit

theorem padk_cons (k x : Nat) : padk (k + 1) x = UInt8.ofNat (48 + x / 10 ^ k % 10) :: padk k x := by
  induction k generalizing x with
  | zero => simp [padk]
  | succ k ih =>
    show padk (k + 1) (x / 10) ++ [UInt8.ofNat (48 + x % 10)] = _
    rw [ih]
    show _ = UInt8.ofNat (48 + x / 10 ^ (k + 1) % 10) :: (padk k (x / 10) ++ [UInt8.ofNat (48 + x % 10)])
    rw [Nat.div_div_eq_div_mul, Nat.pow_succ, Nat.mul_comm 10]
    rfl
theorem dec_padk : ∀ (k r : Nat), 10 ^ k ≤ r → r < 10 ^ (k + 1) → Lib.decDigits r = padk (k + 1) r := by
  intro k
  induction k with
  | zero =>
    intro r h1 h2
    rw [dec_small (by omega)]
    show _ = [] ++ [UInt8.ofNat (48 + r % 10)]
    rw [Nat.mod_eq_of_lt (show r < 10 by omega)]
    rfl
  | succ k ih =>
    intro r h1 h2
    have h3 : 10 ^ (k + 1) = 10 ^ k * 10 := Nat.pow_succ ..
    have h4 : 10 ^ (k + 1 + 1) = 10 ^ (k + 1) * 10 := Nat.pow_succ ..
    have h5 : 0 < 10 ^ k := Nat.pow_pos (by omega)
    rw [dec_big (by omega), ih (r / 10) (by omega) (by omega)]
    rfl
/-- The number that a slice of limbs reads as. -/
def rdN (w : World) : Value → Nat
  | .slice (some ad) n _ => val ((List.range n).map fun j => match w.cell? ⟨ad.block, ad.off + j, none⟩ with | some (.int _ z) => z.toNat | _ => 0)
  | _ => 0
theorem rdN_lm {w : World} {B n c v : Nat} {A : Option Addr} (h : Lm w B A n c (digs v)) : rdN w (.slice A n c) = v := by
  rw [← digs_val v]
  generalize digs v = xs at h
  rcases A with _ | ad
  · rcases Nat.eq_zero_or_pos n with h0 | h0
    · obtain rfl : xs = [] := List.eq_nil_of_length_eq_zero (by rw [h.len]; exact h0)
      rfl
    · obtain ⟨b, off, e, _⟩ := h.at_ h0
      cases e
  · show val _ = _
    congr 1
    refine List.ext_getElem? fun j => ?_
    by_cases hj : j < n
    · obtain ⟨b, off, e, _, hc⟩ := h.cell hj
      injection e with e
      subst e
      rw [List.getElem?_map, List.getElem?_range hj]
      show some (match w.cell? ⟨b, off + j, none⟩ with | some (.int _ z) => z.toNat | _ => 0) = _
      rw [hc, get_nat xs j (by rw [h.len]; exact hj)]
      rfl
    · rw [List.getElem?_eq_none (by simp; omega), List.getElem?_eq_none (by rw [h.len]; omega)]
/-- The digits of q ahead of a text. -/
def dcs (q : Nat) (s : List UInt8) : List UInt8 := if q = 0 then s else Lib.decDigits q ++ s
theorem dcs_step {q : Nat} (hq : 0 < q) (s : List UInt8) {i : Nat} (h9 : i ≤ 9) (h1 : 0 < q / 1000000000 → i = 9) (h2 : q / 1000000000 = 0 → q % 1000000000 / 10 ^ i = 0) (h3 : q / 1000000000 = 0 → 0 < i → 0 < q % 1000000000 / 10 ^ (i - 1)) :
    dcs q s = dcs (q / 1000000000) (padk i (q % 1000000000) ++ s) := by
  unfold dcs
  rw [if_neg (by omega)]
  rcases Nat.eq_zero_or_pos (q / 1000000000) with h | h
  · rw [if_pos h]
    have hr : q % 1000000000 = q := by omega
    rw [hr] at h2 h3 ⊢
    have hi : 0 < i := by
      refine Nat.pos_of_ne_zero fun e => ?_
      subst e
      have := h2 h
      simp at this
      omega
    obtain ⟨k, rfl⟩ : ∃ k, i = k + 1 := ⟨i - 1, by omega⟩
    have e1 : 10 ^ k ≤ q := by
      have e := h3 h hi
      rw [Nat.add_sub_cancel] at e
      exact (Nat.div_pos_iff.1 e).2
    have e2 : q < 10 ^ (k + 1) := by
      have e := h2 h
      exact Nat.lt_of_div_eq_zero (Nat.pow_pos (by omega)) e
    rw [dec_padk k q e1 e2]
  · rw [if_neg (by omega), h1 h, ← List.append_assoc, ← dec_pad 9 _ _ h (Nat.mod_lt _ (by omega))]
    congr 2
    omega
theorem dcs_len (q : Nat) (ss : List UInt8) : ss.length ≤ (dcs q ss).length := by
  unfold dcs
  split
  · exact Nat.le_refl _
  · rw [List.length_append]; omega
theorem dcs_v (v : Nat) : dcs v [] = if v = 0 then [] else Lib.decDigits v := by
  unfold dcs
  split
  · rfl
  · exact List.append_nil _
theorem digit_str {d : Nat} (h : d < 10) : (⟨#[48, 49, 50, 51, 52, 53, 54, 55, 56, 57]⟩ : ByteArray).extract d (d + 1) = ⟨[UInt8.ofNat (48 + d)].toArray⟩ := by
  rw [show (⟨#[48, 49, 50, 51, 52, 53, 54, 55, 56, 57]⟩ : ByteArray) = ⟨([48, 49, 50, 51, 52, 53, 54, 55, 56, 57] : List UInt8).toArray⟩ from rfl, Lib.extract_eq]
  match d, h with
  | 0, _ => rfl
  | 1, _ => rfl
  | 2, _ => rfl
  | 3, _ => rfl
  | 4, _ => rfl
  | 5, _ => rfl
  | 6, _ => rfl
  | 7, _ => rfl
  | 8, _ => rfl
  | 9, _ => rfl
theorem cat_str (a b : List UInt8) : (⟨a.toArray⟩ : ByteArray) ++ ⟨b.toArray⟩ = ⟨(a ++ b).toArray⟩ := by
  apply ByteArray.ext
  simp
theorem eq_str (a b : List UInt8) : ((⟨a.toArray⟩ : ByteArray).toList == (⟨b.toArray⟩ : ByteArray).toList) = decide (a = b) := by
  rw [Lib.toList_data, Lib.toList_data]
  by_cases h : a = b
  · subst h; simp
  · rw [decide_eq_false h]
    simpa using h

end Go.Proofs.YtkajmglpmdhmnaaDoor

/- The reference's Gcd. -/
namespace Go.Proofs.YtkajmglpmdhmnaaDoor
open Go.RowKit

set_option maxRecDepth 100000 in
set_option maxHeartbeats 1000000 in
theorem rgcd_bad (w : World) (na nb : Bool) (A B : Option Addr) (n m ca cb : Nat) (xs ys : List Nat) (hA : Lm w w.heap.size A n ca xs) (hB : Lm w w.heap.size B m cb ys) (hv : chkB na xs nb ys = 8) :
    Calls Tryd.prog 8 #[.agg #[.bool na, .slice A n ca], .agg #[.bool nb, .slice B m cb]] w (RW w false [] 8) := by
  have HA := Lib.hid hA
  have HB := Lib.hid hB
  have HV := Lib.hid hv
  clear hv
  go_enter Tryd.func8, Tryd.ntmps8
  go_wp2_with fail
  refine (rboth_any _ _ _ _ _ _ _ _ _ _ _ (((HA.out.box _).box _).box _) (((HB.out.box _).box _).box _) 8 HV.out).mono ?_
  rintro e w1 ⟨rfl, hb1⟩
  have ⟨hx0, hx1, hy0, hy1, hz0, hz1, hf0, hf1, hsz⟩ := box3 hb1
  go_wp2_with fail
  refine (rboth_any _ _ _ _ _ _ _ _ _ _ _ ((((HA.out.box _).box _).box _).via hb1) ((((HB.out.box _).box _).box _).via hb1) 8 HV.out).mono ?_
  rintro e w2 ⟨rfl, hb2⟩
  have hky2 := keep2 hb2 hsz ⟨hz0, hz1⟩
  have ⟨hkf0, hkf1⟩ := keepF hb2 hsz ⟨hf0, hf1⟩
  go_wp2
  exact post_ws Tryd.results8 rfl rfl hky2.1 hky2.2 ⟨none, 0, 0, rfl, Lm.nil _ _, below_set2 ((bbox (bbox (bbox hb1))).trans (hb2.mono (by omega))) (by omega) _ _⟩

set_option maxRecDepth 100000 in
set_option maxHeartbeats 1000000 in
theorem rgcd_ok (w : World) (na nb : Bool) (A B : Option Addr) (n m ca cb a b : Nat) (hA : Lm w w.heap.size A n ca (digs a)) (hB : Lm w w.heap.size B m cb (digs b)) (hv : chkB na (digs a) nb (digs b) = 0) :
    Calls Tryd.prog 8 #[.agg #[.bool na, .slice A n ca], .agg #[.bool nb, .slice B m cb]] w (RW w (mkN false (Nat.gcd a b)) (mkL (Nat.gcd a b)) (mkE (Nat.gcd a b))) := by
  have h41 := (chk_ok.1 (chkB_ok.1 hv).1).1
  have h42 := (chk_ok.1 (chkB_ok.1 hv).2).1
  have HA := Lib.hid hA
  have HB := Lib.hid hB
  have HV := Lib.hid hv
  clear hv hA hB
  go_enter Tryd.func8, Tryd.ntmps8
  go_wp2_with fail
  refine (rboth_any _ _ _ _ _ _ _ _ _ _ _ (((HA.out.box _).box _).box _) (((HB.out.box _).box _).box _) 0 HV.out).mono ?_
  rintro e w1 ⟨rfl, hb1⟩
  have ⟨PA0, PB0, PR0⟩ := boxes3 w 24 24 24 (.bool na) (.slice A n ca) (.bool nb) (.slice B m cb) (.bool false) (.slice none 0 0)
  have PA := Lib.hid (PA0.via hb1)
  have PB := Lib.hid (PB0.via hb1)
  have PR := Lib.hid (PR0.via hb1)
  have LA := Lib.hid ((((HA.out.box _).box _).box _).via hb1)
  have LB := Lib.hid ((((HB.out.box _).box _).box _).via hb1)
  have HB0 := Lib.hid (bbox (bbox (bbox hb1)))
  clear PA0 PB0 PR0 hb1
  have ⟨a0, a1, _, _, _⟩ := PA.out
  have ⟨b0, b1, _, _, _⟩ := PB.out
  go_wp2
  go_quiet (fail)
  go_wp2
  go_loopw [6, 7] (fun xv yv wr => ∃ (p q n' m' c2 c3 : Nat) (A2 B3 : Option Addr), xv = .slice A2 n' c2 ∧ yv = .slice B3 m' c3 ∧ Lm wr wr.heap.size A2 n' c2 (digs p) ∧ Lm wr wr.heap.size B3 m' c3 (digs q) ∧ (digs p).length ≤ 4096 ∧ (digs q).length ≤ 4096 ∧ Nat.gcd p q = Nat.gcd a b ∧
      Pr wr (w.heap.size + 1 + 1) (.bool false) (.slice none 0 0) ∧ Below w.heap.size w wr) (fun _ yv wr => rdN wr yv)
  case atStart => exact ⟨a, b, n, m, ca, cb, A, B, rfl, rfl, LA.out.drewN nq, LB.out.drewN nq, h41, h42, rfl, PR.out.drewN nq, bdrewN HB0.out nq⟩
  case round =>
    obtain ⟨p, q, n', m', c2, c3, A2, B3, rfl, rfl, hp, hq, lp, lq, hg, hP, hB⟩ := hrel
    have Lp := Lib.hid hp
    have Lq := Lib.hid hq
    have HP := Lib.hid hP
    have HBl := Lib.hid hB
    have HG := Lib.hid hg
    have hn4 : n' ≤ 4096 := by rw [← hp.len]; exact lp
    have hm4 : m' ≤ 4096 := by rw [← hq.len]; exact lq
    have hcq := hq.cap
    have hxq := hq.max
    clear hp hq hP hB hg a0 a1 b0 b1
    rcases Nat.eq_zero_or_pos q with h0 | h0
    · subst h0
      obtain rfl : m' = 0 := Lq.out.len.symm
      have HG2 : Hid (val (digs p) = Nat.gcd a b) := by show _ = _; rw [digs_val, ← HG.out, Nat.gcd_zero_right]
      go_wp2_with fail
      refine (rmade_any _ _ _ _ _ _ (Nat.gcd a b) Lp.out HG2.out (by omega)).mono ?_
      rintro e w3 ⟨A3, n3, c3, rfl, hL3, hb3⟩
      have HP3 := Lib.hid (HP.out.via hb3)
      have HB3 := Lib.hid (HBl.out.trans (hb3.mono HBl.out.size))
      clear hb3
      have ⟨r0, r1, _, _, _⟩ := HP3.out
      go_wp2
      exact post_ws Tryd.results8 rfl rfl r0 r1 ⟨A3, n3, c3, rfl, hL3.setP HP3.out _ _, below_set2 HB3.out (by omega) _ _⟩
    · have hm : 0 < m' := by rw [← Lq.out.len, digs_pos]; exact h0
      have hml := Nat.mod_lt p h0
      have HM := Lib.hid hml
      clear hml
      go_wp2_with fail
      refine (rover_any _ _ _ _ _ _ _ p q Lp.out Lq.out h0 (by omega)).mono ?_
      rintro e w2 ⟨Q, cq, R, cr, rfl, hQ, hR, hb2⟩
      have HR := Lib.hid hR
      have HQ := Lib.hid (Lq.out.via hb2)
      have HP2 := Lib.hid (HP.out.via hb2)
      have HB2 := Lib.hid (HBl.out.trans (hb2.mono HBl.out.size))
      clear hR hQ hb2
      go_wp2
      go_roundw
      case rel =>
        refine ⟨q, p % q, m', _, c3, cr, B3, R, rfl, rfl, HQ.out, HR.out, lq, Nat.le_trans (digs_mono (Nat.le_of_lt HM.out)) lq, ?_, HP2.out, HB2.out⟩
        rw [← HG.out, Nat.gcd_comm p q, Nat.gcd_rec q p, Nat.gcd_comm]
      case measure =>
        rw [rdN_lm HR.out, rdN_lm Lq.out]
        exact HM.out
end Go.Proofs.YtkajmglpmdhmnaaDoor

/- Gcd of any two numbers, valid or not, on both sides. -/
namespace Go.Proofs.YtkajmglpmdhmnaaDoor
open Go.RowKit

set_option maxRecDepth 100000 in
set_option maxHeartbeats 400000 in
theorem gcd_bad (w : World) (na nb : Bool) (A B : Option Addr) (n m ca cb : Nat) (xs ys : List Nat) (hA : Lm w w.heap.size A n ca xs) (hB : Lm w w.heap.size B m cb ys) (hv : chkB na xs nb ys = 8) :
    Calls Tryd.prog 7 #[.agg #[.bool na, .slice A n ca], .agg #[.bool nb, .slice B m cb]] w (RW w false [] 8) := by
  have HA := Lib.hid hA
  have HB := Lib.hid hB
  have HV := Lib.hid hv
  clear hv
  go_enter Tryd.func7, Tryd.ntmps7
  go_wp2_with (go_at_call 30; refine (both_any _ _ _ _ _ _ _ _ _ _ _ 8 (((HA.out.box _).box _).box _) (((HB.out.box _).box _).box _) HV.out).mono ?_; rintro e w1 ⟨rfl, hb1⟩; have ⟨hx0, hx1, hy0, hy1, hz0, hz1, hf0, hf1, hsz⟩ := box3 hb1)
  exact post_ws Tryd.results7 rfl rfl hz0 hz1 ⟨none, 0, 0, rfl, Lm.nil _ _, below_set2 (bbox (bbox (bbox hb1))) (by omega) _ _⟩
theorem gcd_both (na nb : Bool) (xs ys : List Nat) (gx : Good xs) (gy : Good ys) : ∃ g l e, (∀ (w : World) (A B : Option Addr) (n m ca cb : Nat), Lm w w.heap.size A n ca xs → Lm w w.heap.size B m cb ys → Calls Tryd.prog 7 #[.agg #[.bool na, .slice A n ca], .agg #[.bool nb, .slice B m cb]] w (RW w g l e)) ∧ (∀ (w : World) (A B : Option Addr) (n m ca cb : Nat), Lm w w.heap.size A n ca xs → Lm w w.heap.size B m cb ys → Calls Tryd.prog 8 #[.agg #[.bool na, .slice A n ca], .agg #[.bool nb, .slice B m cb]] w (RW w g l e)) := by
  rcases chkB_cases na xs nb ys with hc | hc
  · have hc1 := (chkB_ok.1 hc).1
    have hc2 := (chkB_ok.1 hc).2
    have e1 := chk_digs hc1 gx
    have e2 := chk_digs hc2 gy
    have l1 := (chk_ok.1 hc1).1
    have l2 := (chk_ok.1 hc2).1
    rw [e1, e2] at hc
    rw [e1] at l1 ⊢
    rw [e2] at l2 ⊢
    exact ⟨_, _, _, fun w A B n m ca cb hA hB => gcd_any w na nb A B n m ca cb _ _ hA hB hc (by rw [← hA.len]; exact l1) (by rw [← hB.len]; exact l2), fun w A B n m ca cb hA hB => rgcd_ok w na nb A B n m ca cb _ _ hA hB hc⟩
  · exact ⟨_, _, _, fun w A B n m ca cb hA hB => gcd_bad w na nb A B n m ca cb xs ys hA hB hc, fun w A B n m ca cb hA hB => rgcd_bad w na nb A B n m ca cb xs ys hA hB hc⟩
end Go.Proofs.YtkajmglpmdhmnaaDoor

/- The reference's arithmetic on numbers of known size, and DivMod of the code, in whole numbers. -/
namespace Go.Proofs.YtkajmglpmdhmnaaDoor
open Go.RowKit

theorem mkN_toI {neg : Bool} {v : Nat} (hl : (digs v).length ≤ 4096) : mkN neg v = decide (toI neg v < 0) := by
  rw [← toI_neg]
  unfold mkN
  rw [decide_eq_true hl, Bool.true_and]
  by_cases h : toI neg v < 0
  · rw [decide_eq_true h, decide_eq_true (show v ≠ 0 from fun e => by subst e; unfold toI at h; cases neg <;> simp at h)]; rfl
  · rw [decide_eq_false h]; rfl
theorem rw_rn {w : World} {neg : Bool} {v : Nat} (hl : (digs v).length ≤ 4096) {e : Ending} {w' : World} (h : RW w (mkN neg v) (mkL v) (mkE v) e w') : RN w (toI neg v) e w' := by
  have h2 : mkL v = digs v := by unfold mkL; rw [if_pos hl]
  have h3 : mkE v = 0 := by unfold mkE; rw [if_pos hl]
  rw [mkN_toI hl, h2, h3] at h
  unfold RN
  rw [toI_abs]
  exact h
section
variable (w : World) (A B : Option Addr) (n m ca cb k : Nat) (x y : Int) (hA : Lm w w.heap.size A n ca (digs x.natAbs)) (hB : Lm w w.heap.size B m cb (digs y.natAbs)) (hx : Sz k x) (hy : Sz k y) (hk : k ≤ 2000)
include hA hx hk
theorem rcheck_n {na : Bool} (ha : decide (x < 0) = na) : Calls Tryd.prog 29 #[.agg #[.bool na, .slice A n ca]] w fun e w' => e = .returned (.int .i64 0) ∧ Below w.heap.size w w' := by
  subst ha
  exact rcheck_ok w _ A n ca _ hA (chk_z hx (by omega))
include hB hy
theorem rmul_n {na nb : Bool} (ha : decide (x < 0) = na) (hb : decide (y < 0) = nb) : Calls Tryd.prog 45 #[.agg #[.bool na, .slice A n ca], .agg #[.bool nb, .slice B m cb]] w (RN w (x * y)) := by
  subst ha hb
  have h := rmul_ok w _ _ A B n m ca cb _ _ hA hB (chkB_z hx (by omega) hy (by omega))
  have e1 := rz_of w (decide (x < 0) != decide (y < 0)) (x.natAbs * y.natAbs) (z := x * y) (by rw [← toI_mul, toI_self, toI_self])
  rw [e1] at h
  exact h.mono fun e w' hr => rz_rn (hx.mul hy) (by omega) hr
end

/-- A call returns quotient and remainder, rounded down. -/
def RD2 (w : World) (x y : Int) (e : Ending) (w' : World) : Prop := ∃ q r : Int, x = q * y + r ∧ r.natAbs < y.natAbs ∧ (r = 0 ∨ decide (r < 0) = decide (y < 0)) ∧ q.natAbs ≤ x.natAbs ∧
  ∃ A n c A' n' c', e = .returned (.tuple #[.agg #[.bool (decide (q < 0)), .slice A n c], .agg #[.bool (decide (r < 0)), .slice A' n' c'], .int .i64 0]) ∧ Lm w' w'.heap.size A n c (digs q.natAbs) ∧ Lm w' w'.heap.size A' n' c' (digs r.natAbs) ∧ Below w.heap.size w w'
theorem rww_rd2 {w : World} {x y : Int} {n1 n2 : Bool} {v1 v2 : Nat} (h1 : (digs v1).length ≤ 4096) (h2 : (digs v2).length ≤ 4096) (e1 : x = toI n1 v1 * y + toI n2 v2) (e2 : v2 < y.natAbs) (e3 : v2 = 0 ∨ n2 = decide (y < 0)) (e4 : v1 ≤ x.natAbs)
    {e : Ending} {w' : World} (h : RWW w (mkN n1 v1) (digs v1) (mkN n2 v2) (digs v2) 0 e w') : RD2 w x y e w' := by
  refine ⟨toI n1 v1, toI n2 v2, e1, by rw [toI_abs]; exact e2, ?_, by rw [toI_abs]; exact e4, ?_⟩
  · rcases e3 with e3 | e3
    · left; subst e3; unfold toI; split <;> rfl
    · rcases Nat.eq_zero_or_pos v2 with h0 | h0
      · left; subst h0; unfold toI; split <;> rfl
      · right
        subst e3
        unfold toI
        by_cases hy : y < 0
        · rw [decide_eq_true hy, if_pos rfl]; simp; omega
        · rw [decide_eq_false hy, if_neg (by simp)]; simp
  · rw [mkN_toI h1, mkN_toI h2] at h
    rw [toI_abs, toI_abs]
    exact h
theorem divmod_n (w : World) (A B : Option Addr) (n m ca cb k : Nat) (x y : Int) (hA : Lm w w.heap.size A n ca (digs x.natAbs)) (hB : Lm w w.heap.size B m cb (digs y.natAbs)) (hx : Sz k x) (hy : Sz k y) (hk : k ≤ 2000) (hy0 : y ≠ 0)
    {na nb : Bool} (ha : decide (x < 0) = na) (hb : decide (y < 0) = nb) :
    Calls Tryd.prog 21 #[.agg #[.bool na, .slice A n ca], .agg #[.bool nb, .slice B m cb]] w (RD2 w x y) := by
  have hv := chkB_z hx (show k ≤ 4096 by omega) hy (show k ≤ 4096 by omega)
  rw [ha, hb] at hv
  have hxl : (digs x.natAbs).length ≤ 4096 := Nat.le_trans hx.len (by omega)
  have hyl : (digs y.natAbs).length ≤ 4096 := Nat.le_trans hy.len (by omega)
  have hbp : 0 < y.natAbs := by omega
  have ex : toI na x.natAbs = x := by rw [← ha]; exact toI_self x
  have ey : toI nb y.natAbs = y := by rw [← hb]; exact toI_self y
  have hdm := Nat.div_add_mod x.natAbs y.natAbs
  have hml := Nat.mod_lt x.natAbs hbp
  have hdl := Nat.div_le_self x.natAbs y.natAbs
  have hm2 := Nat.mod_le x.natAbs y.natAbs
  have key : ∀ (s t : Bool), toI t y.natAbs = y → toI s (x.natAbs / y.natAbs) * y + toI (s != t) (x.natAbs % y.natAbs) = toI (s != t) x.natAbs := by
    intro s t ht
    have e := toI_mul s t (x.natAbs / y.natAbs) y.natAbs
    rw [ht] at e
    rw [e, toI_same rfl, Nat.mul_comm, hdm]
  by_cases hs : na = nb
  · refine (divmod_same w na nb A B n m ca cb _ _ hA hB hv hbp hs).mono fun e w' h => rww_rd2 (Nat.le_trans (digs_mono hdl) hxl) (Nat.le_trans (digs_mono hm2) hxl) ?_ hml (.inr hb.symm) hdl h
    have h1 := key false nb ey
    subst hs
    rw [show (false != na) = na from by cases na <;> rfl, ex] at h1
    exact h1.symm
  · have hs2 : na = true ∧ nb = false ∨ na = false ∧ nb = true := by cases na <;> cases nb <;> simp_all
    have hnn : (true != nb) = na := by cases na <;> cases nb <;> simp_all
    have h1 := key true nb ey
    rw [hnn, ex] at h1
    rcases Nat.eq_zero_or_pos (x.natAbs % y.natAbs) with h0 | h0
    · refine (divmod_exact w na nb A B n m ca cb _ _ hA hB hv hbp hs2 h0).mono fun e w' h => rww_rd2 (Nat.le_trans (digs_mono hdl) hxl) (Nat.le_trans (digs_mono hm2) hxl) ?_ hml (.inl h0) hdl h
      have h6 : ∀ s : Bool, toI s 0 = 0 := by intro s; unfold toI; cases s <;> rfl
      rw [h0, h6] at h1
      rw [h0, h6]
      exact h1.symm
    · have hq1 : x.natAbs / y.natAbs + 1 ≤ x.natAbs := by
        have h2 : 2 ≤ y.natAbs := by omega
        have h3 := Nat.mul_le_mul_right (x.natAbs / y.natAbs) h2
        omega
      refine (divmod_down w na nb A B n m ca cb _ _ hA hB hv hbp hs2 h0).mono fun e w' h => rww_rd2 (Nat.le_trans (digs_mono hq1) hxl) (Nat.le_trans (digs_mono (show y.natAbs - x.natAbs % y.natAbs ≤ y.natAbs by omega)) hyl) ?_ (by omega) (.inr hb.symm) hq1 h
      have h4 : toI true (x.natAbs / y.natAbs + 1) = toI true (x.natAbs / y.natAbs) - 1 := by unfold toI; simp; omega
      rw [h4, Int.sub_mul, Int.one_mul]
      have h5 : toI nb (y.natAbs - x.natAbs % y.natAbs) - y = toI na (x.natAbs % y.natAbs) := by
        rw [← ey, toI_abs]
        unfold toI
        cases na <;> cases nb <;> simp_all <;> omega
      omega
end Go.Proofs.YtkajmglpmdhmnaaDoor

/- wide.Pow. -/
namespace Go.Proofs.YtkajmglpmdhmnaaDoor
open Go.RowKit

theorem mul_rz (w : World) (A B : Option Addr) (n m ca cb : Nat) (x y : Int) {na nb : Bool} (hA : Lm w w.heap.size A n ca (digs x.natAbs)) (hB : Lm w w.heap.size B m cb (digs y.natAbs)) (hx : (digs x.natAbs).length ≤ 4096) (hy : (digs y.natAbs).length ≤ 4096) (ha : decide (x < 0) = na) (hb : decide (y < 0) = nb) :
    Calls Tryd.prog 22 #[.agg #[.bool na, .slice A n ca], .agg #[.bool nb, .slice B m cb]] w (RZ w (x * y)) := by
  subst ha hb
  have h := mul_ok w _ _ A B n m ca cb _ _ hA hB (chkB_z (digs_len.1 hx) (Nat.le_refl _) (digs_len.1 hy) (Nat.le_refl _))
  have e1 := rz_of w (decide (x < 0) != decide (y < 0)) (x.natAbs * y.natAbs) (z := x * y) (by rw [← toI_mul, toI_self, toI_self])
  rw [e1] at h
  exact h
/-- A number of at most 4096 limbs, or one that is too large. -/
theorem rz_cases {w : World} {z : Int} {e : Ending} {w' : World} (h : RZ w z e w') : ((digs z.natAbs).length ≤ 4096 ∧ RN w z e w') ∨ (4096 < (digs z.natAbs).length ∧ RW w false [] 16 e w') := by
  rcases Nat.lt_or_ge 4096 (digs z.natAbs).length with h1 | h1
  · right
    refine ⟨h1, ?_⟩
    unfold RZ mkN mkL mkE at h
    rw [decide_eq_false (by omega), if_neg (by omega), if_neg (by omega)] at h
    exact h
  · obtain ⟨k, hk⟩ : ∃ k, k = 4096 := ⟨_, rfl⟩
    exact .inl ⟨h1, rz_rn (k := k) (digs_len.1 (by omega)) (by omega) h⟩
theorem rz_big {w : World} {z : Int} (h1 : 4096 < (digs z.natAbs).length) : RZ w z = RW w false [] 16 := by
  unfold RZ mkN mkL mkE
  rw [decide_eq_false (by omega), if_neg (by omega), if_neg (by omega)]
  rfl
theorem rz_fit {w : World} {z : Int} (h1 : (digs z.natAbs).length ≤ 4096) : RZ w z = RW w (decide (z < 0)) (digs z.natAbs) 0 := by
  obtain ⟨k, hk⟩ : ∃ k, k = 4096 := ⟨_, rfl⟩
  have h2 := mkN_z (z := z) (k := k) (digs_len.1 (by omega)) (by omega)
  unfold RZ
  rw [h2.1, h2.2.1, h2.2.2]
theorem natAbs_pow_ (x : Int) (k : Nat) : (x ^ k).natAbs = x.natAbs ^ k := by
  induction k with
  | zero => simp
  | succ k ih => rw [Int.pow_succ, Nat.pow_succ, Int.natAbs_mul, ih]
/-- A power on the way is no longer than the last one. -/
theorem pow_way {x : Int} {a b : Nat} (h : a ≤ b) (hb : 4096 < (digs (x ^ a).natAbs).length) : 4096 < (digs (x ^ b).natAbs).length := by
  rw [natAbs_pow_] at hb ⊢
  rcases Nat.eq_zero_or_pos x.natAbs with h0 | h0
  · rw [h0] at hb
    have : (digs (0 ^ a)).length ≤ 1 := by
      refine digs_len.2 ?_
      rcases Nat.eq_zero_or_pos a with h1 | h1
      · subst h1; decide
      · rw [Nat.zero_pow h1]; decide
    omega
  · exact Nat.lt_of_lt_of_le hb (digs_mono (Nat.pow_le_pow_right h0 h))
theorem and_one (d : Nat) (h : d < 65536) : bits .and .i64 (d : Int) 1 = ((d % 2 : Nat) : Int) := by
  have e16 : (2 : Int) ^ 16 = 65536 := by decide
  have e1 : (2 : Int) ^ 1 = 2 := by decide
  have h1 := bits_mask .i64 16 (by decide) (fun n h0 h1 => by rw [e16] at h1; rw [IntKind.wrap_i64]; omega) 1 (by omega) (d : Int) (by omega) (by rw [e16]; omega)
  rw [e1] at h1
  have e2 : (2 : Int) - 1 = 1 := by decide
  rw [e2] at h1
  rw [h1]
  omega
theorem Pr.set1 {w : World} {g : Nat} {x y : Value} (p : Pr w g x y) (x' y' : Value) : Pr ((w.setCell ⟨g, 0, none⟩ x').setCell ⟨g, 1, none⟩ y') g x' y' := p.set x' y'

set_option maxRecDepth 100000 in
set_option maxHeartbeats 1000000 in
theorem pow_bad (w : World) (neg : Bool) (A : Option Addr) (n c : Nat) (xs : List Nat) (k : Int) (h : Lm w w.heap.size A n c xs) (hc : chk neg xs = 8) :
    Calls Tryd.prog 11 #[.agg #[.bool neg, .slice A n c], .int .i64 k] w (RW w false [] 8) := by
  have HH := Lib.hid h
  have HC := Lib.hid hc
  clear hc
  go_enter Tryd.func11, Tryd.ntmps11
  go_wp2_with fail
  refine (check_bad _ _ _ _ _ _ ((HH.out.box _).box _) HC.out).mono ?_
  rintro e w1 ⟨rfl, hb1⟩
  have ⟨hx0, hx1, hy0, hy1, hf0, hf1, hsz⟩ := box2 hb1
  go_wp2
  exact post_ws Tryd.results11 rfl rfl hy0 hy1 ⟨none, 0, 0, rfl, Lm.nil _ _, below_set2 (bbox (bbox hb1)) (by omega) _ _⟩

set_option maxRecDepth 100000 in
set_option maxHeartbeats 1000000 in
theorem pow_arg (w : World) (neg : Bool) (A : Option Addr) (n c : Nat) (xs : List Nat) (k : Int) (h : Lm w w.heap.size A n c xs) (hc : chk neg xs = 0) (hk : k < 0 ∨ 1000 < k) :
    Calls Tryd.prog 11 #[.agg #[.bool neg, .slice A n c], .int .i64 k] w (RW w false [] 2) := by
  have HH := Lib.hid h
  have HC := Lib.hid hc
  clear hc
  go_enter Tryd.func11, Tryd.ntmps11
  go_wp2_with fail
  refine (check_ok _ _ _ _ _ _ ((HH.out.box _).box _) HC.out).mono ?_
  rintro e w1 ⟨rfl, hb1⟩
  have ⟨hx0, hx1, hy0, hy1, hf0, hf1, hsz⟩ := box2 hb1
  rcases hk with hk | hk
  · go_wp2
    exact post_ws Tryd.results11 rfl rfl hy0 hy1 ⟨none, 0, 0, rfl, Lm.nil _ _, below_set2 (bbox (bbox hb1)) (by omega) _ _⟩
  · have hk2 : decide (k < 0) = false := by simp; omega
    go_wp2
    exact post_ws Tryd.results11 rfl rfl hy0 hy1 ⟨none, 0, 0, rfl, Lm.nil _ _, below_set2 (bbox (bbox hb1)) (by omega) _ _⟩

set_option maxRecDepth 100000 in
set_option maxHeartbeats 2000000 in
theorem pow_ok (w : World) (A : Option Addr) (n c k : Nat) (x : Int) {na : Bool} (h : Lm w w.heap.size A n c (digs x.natAbs)) (hx : (digs x.natAbs).length ≤ 4096) (hk : k ≤ 1000) (ha : decide (x < 0) = na) :
    Calls Tryd.prog 11 #[.agg #[.bool na, .slice A n c], .int .i64 (k : Int)] w (RZ w (x ^ k)) := by
  have HH := Lib.hid h
  have HX := Lib.hid hx
  have HN := Lib.hid ha
  have HC : Hid (chk na (digs x.natAbs) = 0) := by show _ = _; rw [← ha]; exact chk_z (digs_len.1 hx) (Nat.le_refl _)
  have hkd : decide ((k : Int) < 0) = false := decide_eq_false (by omega)
  have hkd2 : decide ((1000 : Int) < (k : Int)) = false := decide_eq_false (by omega)
  have hb10 : Lib.bitLen k ≤ 10 := Lib.bitLen_le k 10 (by omega) (by omega)
  have HB2 : Hid (k < 2 ^ Lib.bitLen k) := by
    show _ < _
    rcases Nat.eq_zero_or_pos k with h0 | h0
    · subst h0; exact Nat.pow_pos (by omega)
    · exact (bitLen_bounds (by omega) (by omega)).2.2
  clear h hx ha
  go_enter Tryd.func11, Tryd.ntmps11
  go_wp2_with fail
  refine (check_ok _ _ _ _ _ _ ((HH.out.box _).box _) HC.out).mono ?_
  rintro e w1 ⟨rfl, hb1⟩
  have P0 := Lib.hid (((Pr.new w _ rfl (.bool na) (.slice A n c) 24).alloc (.cells #[.bool false, .slice none 0 0] 24)).via hb1)
  have P1 := Lib.hid ((Pr.new (w.alloc (.cells #[.bool na, .slice A n c] 24)) (w.heap.size + 1) (by simp) (.bool false) (.slice none 0 0) 24).via hb1)
  have L1 := Lib.hid (((HH.out.box _).box _).via hb1)
  have B1 := Lib.hid (bbox (bbox hb1))
  clear hb1
  go_wp2_with fail
  refine (from_any _ 1 (by omega) (by omega)).mono ?_
  rintro e w2 ⟨A2, n2, c2, rfl, hL2, hb2⟩
  have P0' := Lib.hid (P0.out.via hb2)
  have P1' := Lib.hid (P1.out.via hb2)
  have L1' := Lib.hid (L1.out.via hb2)
  have B2 := Lib.hid (B1.out.trans (hb2.mono B1.out.size))
  have L2 := Lib.hid hL2
  clear hL2 hb2 P0 P1 L1 B1
  go_wp2_with fail
  refine (len_any _ _ (by omega) (by omega)).mono ?_
  rintro e w3 ⟨rfl, rfl⟩
  rw [show ((k : Int)).toNat = k from rfl]
  have P2 := Lib.hid (Pr.new w2 _ rfl (.bool false) (.slice A2 n2 c2) 24)
  have P0 := Lib.hid (P0'.out.alloc (.cells #[.bool false, .slice A2 n2 c2] 24))
  have P1 := Lib.hid (P1'.out.alloc (.cells #[.bool false, .slice A2 n2 c2] 24))
  have L1 := Lib.hid (L1'.out.box (.cells #[.bool false, .slice A2 n2 c2] 24))
  have L3 := Lib.hid (L2.out.box (.cells #[.bool false, .slice A2 n2 c2] 24))
  have B3 := Lib.hid (B2.out.alloc B2.out.size (.cells #[.bool false, .slice A2 n2 c2] 24))
  have hg7 : w.heap.size + 1 < w2.heap.size := P1'.out.lt
  clear P0' P1' L1' L2 B2
  generalize w2.alloc (.cells #[.bool false, .slice A2 n2 c2] 24) = W3 at *
  generalize w2.heap.size = g at *
  generalize Lib.bitLen k = bl at *
  go_wp2
  go_loopw [8, 9] (fun ev iv wr => ∃ (j : Nat) (er : Int) (ny : Bool) (A' : Option Addr) (n' c' : Nat), j ≤ bl ∧ iv = .int .i64 (j : Int) ∧ ev = .int .i64 er ∧ Pr wr g (.bool ny) (.slice A' n' c') ∧
      ((er = 0 ∧ Lm wr wr.heap.size A' n' c' (digs (x ^ (k / 2 ^ j)).natAbs) ∧ ny = decide (x ^ (k / 2 ^ j) < 0) ∧ (digs (x ^ (k / 2 ^ j)).natAbs).length ≤ 4096) ∨ (er = 16 ∧ ny = false ∧ Lm wr wr.heap.size A' n' c' [] ∧ 4096 < (digs (x ^ k).natAbs).length)) ∧
      Pr wr w.heap.size (.bool na) (.slice A n c) ∧ Pr wr (w.heap.size + 1) (.bool false) (.slice none 0 0) ∧ Lm wr wr.heap.size A n c (digs x.natAbs) ∧ Below w.heap.size w wr) (fun _ iv _ => (intOf iv).toNat)
  case atStart =>
    have e0 : k / 2 ^ bl = 0 := Nat.div_eq_of_lt HB2.out
    refine ⟨bl, 0, false, A2, n2, c2, Nat.le_refl _, rfl, rfl, P2.out, .inl ⟨rfl, ?_, ?_, ?_⟩, P0.out, P1.out, L1.out, B3.out⟩
    · rw [e0, Int.pow_zero]; exact L3.out
    · rw [e0, Int.pow_zero]; rfl
    · rw [e0, Int.pow_zero]; decide
  case round =>
    obtain ⟨j, er, ny, A', n', c', hj, rfl, rfl, hP, hS, hP0, hP1, hL, hB⟩ := hrel
    have HP := Lib.hid hP
    have HP0 := Lib.hid hP0
    have HP1 := Lib.hid hP1
    have HL := Lib.hid hL
    have HB := Lib.hid hB
    clear P0 P1 P2 L1 L3 B3 hP hP0 hP1 hL hB
    have ⟨p0, p1, _, _, _⟩ := HP.out
    have ⟨w0, w1, _, _, _⟩ := HP0.out
    have ⟨r0, r1, _, _, _⟩ := HP1.out
    rcases hS with ⟨rfl, hY, rfl, hyl⟩ | ⟨rfl, rfl, hY0, hbig⟩
    · have HY := Lib.hid hY
      clear hY
      rcases j with _ | j
      · rw [Nat.pow_zero, Nat.div_one] at HY hyl HP p0
        have HFit := Lib.hid (rz_fit (w := w) hyl)
        obtain ⟨ny, hny⟩ : ∃ b, decide (x ^ k < 0) = b := ⟨_, rfl⟩
        rw [hny] at HP HFit p0
        go_wp2
        exact post_ws Tryd.results11 rfl rfl r0 r1 (by rw [HFit.out]; exact ⟨A', n', c', rfl, HY.out.setP HP1.out _ _, below_set2 HB.out (by omega) _ _⟩)
      · obtain ⟨y, hy⟩ : ∃ y, x ^ (k / 2 ^ (j + 1)) = y := ⟨_, rfl⟩
        rw [hy] at HY HP hyl p0
        obtain ⟨ny, hny⟩ : ∃ b, decide (y < 0) = b := ⟨_, rfl⟩
        have HNy := Lib.hid hny
        have HYe := Lib.hid hy
        rw [hny] at HP p0
        clear hy hny
        go_wp2_with fail
        refine (mul_rz _ _ _ _ _ _ _ y y HY.out HY.out hyl hyl HNy.out HNy.out).mono ?_
        intro e w4 hr
        rcases rz_cases hr with ⟨hfit, hr2⟩ | ⟨hfit, hr2⟩
        · obtain ⟨A4, n4, c4, rfl, hL4, hb4⟩ := hr2
          have HQ := Lib.hid (HP.out.via hb4)
          have HQ0 := Lib.hid (HP0.out.via hb4)
          have HQ1 := Lib.hid (HP1.out.via hb4)
          have HM := Lib.hid (HL.out.via hb4)
          have HL4 := Lib.hid hL4
          have HB4 := Lib.hid (HB.out.trans (hb4.mono HB.out.size))
          have hj2 : k / 2 ^ j = 2 * (k / 2 ^ (j + 1)) + k / 2 ^ j % 2 := by rw [Nat.pow_succ, ← Nat.div_div_eq_div_mul]; omega
          have HYY : Hid (y * y = x ^ (2 * (k / 2 ^ (j + 1)))) := by show _ = _; rw [← HYe.out, ← Int.pow_add]; congr 1; omega
          have HJ2 := Lib.hid hj2
          clear hj2 hr hL4 hb4 p0 p1 w0 w1 r0 r1
          have ⟨p0, p1, f0, f1, _⟩ := HQ.out
          have ⟨w0, w1, _, _, _⟩ := HQ0.out
          have ⟨r0, r1, _, _, _⟩ := HQ1.out
          obtain ⟨d, hd⟩ : ∃ d, k / 2 ^ j = d := ⟨_, rfl⟩
          have hdq : (k : Int) / 2 ^ j = (d : Int) := by rw [cast_shr, hd]
          have hdk : d ≤ k := by rw [← hd]; exact Nat.div_le_self _ _
          have hj9 : j < 16 := by omega
          have HDd := Lib.hid hd
          clear hd
          have hand := and_one d (by omega)
          rcases Nat.mod_two_eq_zero_or_one d with hd2 | hd2
          · rw [hd2] at hand
            have hE : k / 2 ^ j = 2 * (k / 2 ^ (j + 1)) := by have := HJ2.out; have := HDd.out; omega
            have HE : Hid (y * y = x ^ (k / 2 ^ j)) := by show _ = _; rw [HYY.out, hE]
            have hand1 : ¬ bits .and .i64 (d : Int) 1 = 1 := by rw [hand]; decide
            clear hE hand
            have hfit' := hfit
            rw [HE.out] at hfit'
            have HF := Lib.hid hfit'
            clear hfit hfit'
            go_wp2
            go_roundw
            case rel =>
              refine ⟨j, 0, decide (y * y < 0), A4, n4, c4, by omega, rfl, rfl, HQ.out.set _ _, .inl ⟨rfl, ?_, by rw [HE.out], HF.out⟩, HQ0.out.far (by omega) _ _, HQ1.out.far (by omega) _ _, HM.out.setP HQ.out _ _, below_set2 HB4.out (by omega) _ _⟩
              rw [← HE.out]
              exact HL4.out.setP HQ.out _ _
            case measure => simp [intOf]
          · rw [hd2] at hand
            have hE : k / 2 ^ j = 2 * (k / 2 ^ (j + 1)) + 1 := by have := HJ2.out; have := HDd.out; omega
            have HE : Hid (y * y * x = x ^ (k / 2 ^ j)) := by show _ = _; rw [HYY.out, hE, Int.pow_succ]
            have hand1 : bits .and .i64 (d : Int) 1 = 1 := by rw [hand]; rfl
            clear hE hand
            obtain ⟨nyy, hnyy⟩ : ∃ b, decide (y * y < 0) = b := ⟨_, rfl⟩
            have HNyy := Lib.hid hnyy
            rw [hnyy]
            clear hnyy
            have HQ5 := Lib.hid (HQ.out.set (.bool nyy) (.slice A4 n4 c4))
            have HQ50 := Lib.hid (HQ0.out.far (h := g) (by omega) (.bool nyy) (.slice A4 n4 c4))
            have HQ51 := Lib.hid (HQ1.out.far (h := g) (by omega) (.bool nyy) (.slice A4 n4 c4))
            have HM5 := Lib.hid (HM.out.setP HQ.out (.bool nyy) (.slice A4 n4 c4))
            have HL5 := Lib.hid (HL4.out.setP HQ.out (.bool nyy) (.slice A4 n4 c4))
            have HB5 := Lib.hid (below_set2 HB4.out (g := g) (by omega) (.bool nyy) (.slice A4 n4 c4))
            have HFq := Lib.hid hfit
            clear hfit
            go_wp2_with fail
            refine (mul_rz _ _ _ _ _ _ _ (y * y) x HL5.out HM5.out HFq.out HX.out HNyy.out HN.out).mono ?_
            intro e w6 hr
            rcases rz_cases hr with ⟨hfit, hr2⟩ | ⟨hfit, hr2⟩
            · obtain ⟨A6, n6, c6, rfl, hL6, hb6⟩ := hr2
              have HQ6 := Lib.hid (HQ5.out.via hb6)
              have HQ60 := Lib.hid (HQ50.out.via hb6)
              have HQ61 := Lib.hid (HQ51.out.via hb6)
              have HM6 := Lib.hid (HM5.out.via hb6)
              have HL6 := Lib.hid hL6
              have HB6 := Lib.hid (HB5.out.trans (hb6.mono HB5.out.size))
              have HF := Lib.hid hfit
              clear hr hL6 hb6 hfit p0 p1 f0 f1 w0 w1 r0 r1
              have ⟨p0, p1, f0, f1, _⟩ := HQ6.out
              go_wp2
              go_roundw
              case rel =>
                refine ⟨j, 0, decide (y * y * x < 0), A6, n6, c6, by omega, rfl, rfl, HQ6.out.set _ _, .inl ⟨rfl, ?_, by rw [HE.out], by rw [← HE.out]; exact HF.out⟩, HQ60.out.far (by omega) _ _, HQ61.out.far (by omega) _ _, HM6.out.setP HQ6.out _ _, below_set2 HB6.out (by omega) _ _⟩
                rw [← HE.out]
                exact HL6.out.setP HQ6.out _ _
              case measure => simp [intOf]
            · obtain ⟨A6, n6, c6, rfl, hL6, hb6⟩ := hr2
              have HQ6 := Lib.hid (HQ5.out.via hb6)
              have HQ60 := Lib.hid (HQ50.out.via hb6)
              have HQ61 := Lib.hid (HQ51.out.via hb6)
              have HM6 := Lib.hid (HM5.out.via hb6)
              have HB6 := Lib.hid (HB5.out.trans (hb6.mono HB5.out.size))
              have HF : Hid (4096 < (digs (x ^ k).natAbs).length) := by
                show _ < _
                rw [HE.out] at hfit
                exact pow_way (Nat.div_le_self _ _) hfit
              have HL6 := Lib.hid hL6
              clear hr hL6 hb6 hfit p0 p1 f0 f1 w0 w1 r0 r1
              have ⟨p0, p1, f0, f1, _⟩ := HQ6.out
              go_wp2
              go_roundw
              case rel =>
                exact ⟨j, 16, false, A6, n6, c6, by omega, rfl, rfl, HQ6.out.set _ _, .inr ⟨rfl, rfl, HL6.out.setP HQ6.out _ _, HF.out⟩, HQ60.out.far (by omega) _ _, HQ61.out.far (by omega) _ _, HM6.out.setP HQ6.out _ _, below_set2 HB6.out (by omega) _ _⟩
              case measure => simp [intOf]
        · obtain ⟨A4, n4, c4, rfl, hL4, hb4⟩ := hr2
          have HQ := Lib.hid (HP.out.via hb4)
          have HQ0 := Lib.hid (HP0.out.via hb4)
          have HQ1 := Lib.hid (HP1.out.via hb4)
          have HM := Lib.hid (HL.out.via hb4)
          have HL4 := Lib.hid hL4
          have HB4 := Lib.hid (HB.out.trans (hb4.mono HB.out.size))
          have HF : Hid (4096 < (digs (x ^ k).natAbs).length) := by
            show _ < _
            have hYY : y * y = x ^ (2 * (k / 2 ^ (j + 1))) := by rw [← HYe.out, ← Int.pow_add]; congr 1; omega
            rw [hYY] at hfit
            refine pow_way ?_ hfit
            have h1 : 2 * (k / 2 ^ (j + 1)) = 2 * (k / 2 ^ j / 2) := by rw [Nat.pow_succ, ← Nat.div_div_eq_div_mul]
            have h2 : k / 2 ^ j ≤ k := Nat.div_le_self _ _
            omega
          clear hr hL4 hb4 hfit p0 p1 w0 w1 r0 r1
          have ⟨p0, p1, f0, f1, _⟩ := HQ.out
          obtain ⟨d, hd⟩ : ∃ d, k / 2 ^ j = d := ⟨_, rfl⟩
          have hdq : (k : Int) / 2 ^ j = (d : Int) := by rw [cast_shr, hd]
          have hdk : d ≤ k := by rw [← hd]; exact Nat.div_le_self _ _
          have hj9 : j < 16 := by omega
          clear hd
          have hand := and_one d (by omega)
          rcases Nat.mod_two_eq_zero_or_one d with hd2 | hd2
          · rw [hd2] at hand
            have hand1 : ¬ bits .and .i64 (d : Int) 1 = 1 := by rw [hand]; decide
            clear hand
            go_wp2
            go_roundw
            case rel =>
              exact ⟨j, 16, false, A4, n4, c4, by omega, rfl, rfl, HQ.out.set _ _, .inr ⟨rfl, rfl, HL4.out.setP HQ.out _ _, HF.out⟩, HQ0.out.far (by omega) _ _, HQ1.out.far (by omega) _ _, HM.out.setP HQ.out _ _, below_set2 HB4.out (by omega) _ _⟩
            case measure => simp [intOf]
          · rw [hd2] at hand
            have hand1 : bits .and .i64 (d : Int) 1 = 1 := by rw [hand]; rfl
            clear hand
            go_wp2
            go_roundw
            case rel =>
              exact ⟨j, 16, false, A4, n4, c4, by omega, rfl, rfl, HQ.out.set _ _, .inr ⟨rfl, rfl, HL4.out.setP HQ.out _ _, HF.out⟩, HQ0.out.far (by omega) _ _, HQ1.out.far (by omega) _ _, HM.out.setP HQ.out _ _, below_set2 HB4.out (by omega) _ _⟩
            case measure => simp [intOf]
    · have HFit := Lib.hid (rz_big (w := w) hbig)
      have HY0 := Lib.hid hY0
      clear hY0
      go_wp2
      all_goals exact post_ws Tryd.results11 rfl rfl r0 r1 (by rw [HFit.out]; exact ⟨A', n', c', rfl, HY0.out.setP HP1.out _ _, below_set2 HB.out (by omega) _ _⟩)
end Go.Proofs.YtkajmglpmdhmnaaDoor

/- The reference's Pow. -/
namespace Go.Proofs.YtkajmglpmdhmnaaDoor
open Go.RowKit

theorem rmul_rz (w : World) (A B : Option Addr) (n m ca cb : Nat) (x y : Int) {na nb : Bool} (hA : Lm w w.heap.size A n ca (digs x.natAbs)) (hB : Lm w w.heap.size B m cb (digs y.natAbs)) (hx : (digs x.natAbs).length ≤ 4096) (hy : (digs y.natAbs).length ≤ 4096) (ha : decide (x < 0) = na) (hb : decide (y < 0) = nb) :
    Calls Tryd.prog 45 #[.agg #[.bool na, .slice A n ca], .agg #[.bool nb, .slice B m cb]] w (RZ w (x * y)) := by
  subst ha hb
  have h := rmul_ok w _ _ A B n m ca cb _ _ hA hB (chkB_z (digs_len.1 hx) (Nat.le_refl _) (digs_len.1 hy) (Nat.le_refl _))
  have e1 := rz_of w (decide (x < 0) != decide (y < 0)) (x.natAbs * y.natAbs) (z := x * y) (by rw [← toI_mul, toI_self, toI_self])
  rw [e1] at h
  exact h

set_option maxRecDepth 100000 in
set_option maxHeartbeats 1000000 in
theorem rpow_bad (w : World) (neg : Bool) (A : Option Addr) (n c : Nat) (xs : List Nat) (k : Int) (h : Lm w w.heap.size A n c xs) (hc : chk neg xs = 8) :
    Calls Tryd.prog 12 #[.agg #[.bool neg, .slice A n c], .int .i64 k] w (RW w false [] 8) := by
  have HH := Lib.hid h
  have HC := Lib.hid hc
  clear hc
  go_enter Tryd.func12, Tryd.ntmps12
  go_wp2_with fail
  refine (rcheck_bad _ _ _ _ _ _ ((HH.out.box _).box _) HC.out).mono ?_
  rintro e w1 ⟨rfl, hb1⟩
  have ⟨hx0, hx1, hy0, hy1, hf0, hf1, hsz⟩ := box2 hb1
  go_wp2_with fail
  refine (rcheck_bad _ _ _ _ _ _ (((HH.out.box _).box _).via hb1) HC.out).mono ?_
  rintro e w2 ⟨rfl, hb2⟩
  have hky2 := keep2 hb2 hsz ⟨hy0, hy1⟩
  have ⟨hkf0, hkf1⟩ := keepF hb2 hsz ⟨hf0, hf1⟩
  go_wp2
  exact post_ws Tryd.results12 rfl rfl hky2.1 hky2.2 ⟨none, 0, 0, rfl, Lm.nil _ _, below_set2 ((bbox (bbox hb1)).trans (hb2.mono (by omega))) (by omega) _ _⟩

set_option maxRecDepth 100000 in
set_option maxHeartbeats 1000000 in
theorem rpow_arg (w : World) (neg : Bool) (A : Option Addr) (n c : Nat) (xs : List Nat) (k : Int) (h : Lm w w.heap.size A n c xs) (hc : chk neg xs = 0) (hk : k < 0 ∨ 1000 < k) :
    Calls Tryd.prog 12 #[.agg #[.bool neg, .slice A n c], .int .i64 k] w (RW w false [] 2) := by
  have HH := Lib.hid h
  have HC := Lib.hid hc
  clear hc
  go_enter Tryd.func12, Tryd.ntmps12
  go_wp2_with fail
  refine (rcheck_ok _ _ _ _ _ _ ((HH.out.box _).box _) HC.out).mono ?_
  rintro e w1 ⟨rfl, hb1⟩
  have ⟨hx0, hx1, hy0, hy1, hf0, hf1, hsz⟩ := box2 hb1
  rcases hk with hk | hk
  · go_wp2
    exact post_ws Tryd.results12 rfl rfl hy0 hy1 ⟨none, 0, 0, rfl, Lm.nil _ _, below_set2 (bbox (bbox hb1)) (by omega) _ _⟩
  · have hk2 : decide (k < 0) = false := by simp; omega
    go_wp2
    exact post_ws Tryd.results12 rfl rfl hy0 hy1 ⟨none, 0, 0, rfl, Lm.nil _ _, below_set2 (bbox (bbox hb1)) (by omega) _ _⟩

set_option maxRecDepth 100000 in
set_option maxHeartbeats 2000000 in
theorem rpow_ok (w : World) (A : Option Addr) (n c k : Nat) (x : Int) {na : Bool} (h : Lm w w.heap.size A n c (digs x.natAbs)) (hx : (digs x.natAbs).length ≤ 4096) (hk : k ≤ 1000) (ha : decide (x < 0) = na) :
    Calls Tryd.prog 12 #[.agg #[.bool na, .slice A n c], .int .i64 (k : Int)] w (RZ w (x ^ k)) := by
  have HH := Lib.hid h
  have HX := Lib.hid hx
  have HN := Lib.hid ha
  have HC : Hid (chk na (digs x.natAbs) = 0) := by show _ = _; rw [← ha]; exact chk_z (digs_len.1 hx) (Nat.le_refl _)
  have hkd : decide ((k : Int) < 0) = false := decide_eq_false (by omega)
  have hkd2 : decide ((1000 : Int) < (k : Int)) = false := decide_eq_false (by omega)
  clear h hx ha
  go_enter Tryd.func12, Tryd.ntmps12
  go_wp2_with fail
  refine (rcheck_ok _ _ _ _ _ _ ((HH.out.box _).box _) HC.out).mono ?_
  rintro e w1 ⟨rfl, hb1⟩
  have P0 := Lib.hid (((Pr.new w _ rfl (.bool na) (.slice A n c) 24).alloc (.cells #[.bool false, .slice none 0 0] 24)).via hb1)
  have P1 := Lib.hid ((Pr.new (w.alloc (.cells #[.bool na, .slice A n c] 24)) (w.heap.size + 1) (by simp) (.bool false) (.slice none 0 0) 24).via hb1)
  have L1 := Lib.hid (((HH.out.box _).box _).via hb1)
  have B1 := Lib.hid (bbox (bbox hb1))
  clear hb1
  go_wp2_with fail
  refine (rfrom_any _ 1 (by omega) (by omega)).mono ?_
  rintro e w2 ⟨A2, n2, c2, rfl, hL2, hb2⟩
  have P0' := Lib.hid (P0.out.via hb2)
  have P1' := Lib.hid (P1.out.via hb2)
  have L1' := Lib.hid (L1.out.via hb2)
  have B2 := Lib.hid (B1.out.trans (hb2.mono B1.out.size))
  have L2 := Lib.hid hL2
  clear hL2 hb2 P0 P1 L1 B1
  have P2 := Lib.hid (Pr.new w2 _ rfl (.bool false) (.slice A2 n2 c2) 24)
  have P0 := Lib.hid (P0'.out.alloc (.cells #[.bool false, .slice A2 n2 c2] 24))
  have P1 := Lib.hid (P1'.out.alloc (.cells #[.bool false, .slice A2 n2 c2] 24))
  have L1 := Lib.hid (L1'.out.box (.cells #[.bool false, .slice A2 n2 c2] 24))
  have L3 := Lib.hid (L2.out.box (.cells #[.bool false, .slice A2 n2 c2] 24))
  have B3 := Lib.hid (B2.out.alloc B2.out.size (.cells #[.bool false, .slice A2 n2 c2] 24))
  have hg7 : w.heap.size + 1 < w2.heap.size := P1'.out.lt
  have hd1 : decide ((1 : Int) < 0) = false := rfl
  clear P0' P1' L1' L2 B2
  go_wp2
  generalize w2.alloc (.cells #[.bool false, .slice A2 n2 c2] 24) = W3 at *
  generalize w2.heap.size = g at *
  go_loopw [7] (fun iv wr => ∃ (j : Nat) (ny : Bool) (A' : Option Addr) (n' c' : Nat), j ≤ k ∧ iv = .int .i64 (j : Int) ∧ Pr wr g (.bool ny) (.slice A' n' c') ∧ Lm wr wr.heap.size A' n' c' (digs (x ^ j).natAbs) ∧ ny = decide (x ^ j < 0) ∧ (digs (x ^ j).natAbs).length ≤ 4096 ∧
      Pr wr w.heap.size (.bool na) (.slice A n c) ∧ Pr wr (w.heap.size + 1) (.bool false) (.slice none 0 0) ∧ Lm wr wr.heap.size A n c (digs x.natAbs) ∧ Below w.heap.size w wr) (fun iv _ => k - (intOf iv).toNat)
  case atStart =>
    refine ⟨0, false, A2, n2, c2, Nat.zero_le _, rfl, P2.out, ?_, ?_, ?_, P0.out, P1.out, L1.out, B3.out⟩
    · rw [Int.pow_zero]; exact L3.out
    · rw [Int.pow_zero]; rfl
    · rw [Int.pow_zero]; decide
  case round =>
    obtain ⟨j, ny, A', n', c', hj, rfl, hP, hY, hny, hyl, hP0, hP1, hL, hB⟩ := hrel
    have HP := Lib.hid hP
    have HP0 := Lib.hid hP0
    have HP1 := Lib.hid hP1
    have HL := Lib.hid hL
    have HB := Lib.hid hB
    have HY := Lib.hid hY
    have HNy := Lib.hid hny.symm
    have HFy := Lib.hid hyl
    clear P0 P1 P2 L1 L3 B3 hP hP0 hP1 hL hB hY hny hyl
    have ⟨p0, p1, _, _, _⟩ := HP.out
    have ⟨w0, w1, _, _, _⟩ := HP0.out
    have ⟨r0, r1, _, _, _⟩ := HP1.out
    by_cases hlt : j < k
    · go_wp2_with fail
      refine (rmul_rz _ _ _ _ _ _ _ (x ^ j) x HY.out HL.out HFy.out HX.out HNy.out HN.out).mono ?_
      intro e w4 hr
      rcases rz_cases hr with ⟨hfit, hr2⟩ | ⟨hfit, hr2⟩
      · obtain ⟨A4, n4, c4, rfl, hL4, hb4⟩ := hr2
        have HE : Hid (x ^ j * x = x ^ (j + 1)) := (Int.pow_succ x j).symm
        have hfit' := hfit
        rw [HE.out] at hL4 hfit'
        have HF := Lib.hid hfit'
        obtain ⟨nz, hnz⟩ : ∃ b, decide (x ^ j * x < 0) = b := ⟨_, rfl⟩
        rw [hnz]
        rw [HE.out] at hnz
        have HNz := Lib.hid hnz.symm
        have HQ := Lib.hid (HP.out.via hb4)
        have HQ0 := Lib.hid (HP0.out.via hb4)
        have HQ1 := Lib.hid (HP1.out.via hb4)
        have HM := Lib.hid (HL.out.via hb4)
        have HL4 := Lib.hid hL4
        have HB4 := Lib.hid (HB.out.trans (hb4.mono HB.out.size))
        clear hr hfit hfit' hL4 hb4 hnz p0 p1 w0 w1 r0 r1 HP HP0 HP1 HL HY HB
        have ⟨p0, p1, f0, f1, _⟩ := HQ.out
        go_wp2
        go_roundw
        case rel =>
          refine ⟨j + 1, nz, A4, n4, c4, by omega, by go_num, (HQ.out.set _ _).alloc _, (HL4.out.setP HQ.out _ _).box _, HNz.out, HF.out, (HQ0.out.far (by omega) _ _).alloc _, (HQ1.out.far (by omega) _ _).alloc _, (HM.out.setP HQ.out _ _).box _, ?_⟩
          have hb := below_set2 HB4.out (g := g) (by omega) (.bool nz) (.slice A4 n4 c4)
          exact hb.alloc hb.size _
        case measure => simp [intOf]; omega
      · have HF : Hid (4096 < (digs (x ^ k).natAbs).length) := by
          show _ < _
          have hE : x ^ j * x = x ^ (j + 1) := (Int.pow_succ x j).symm
          rw [hE] at hfit
          exact pow_way (show j + 1 ≤ k by omega) hfit
        obtain ⟨A4, n4, c4, rfl, hL4, hb4⟩ := hr2
        have HFit := Lib.hid (rz_big (w := w) HF.out)
        have HR4 := Lib.hid (HP1.out.via hb4)
        have HB4 := Lib.hid (HB.out.trans (hb4.mono HB.out.size))
        clear hr hfit hL4 hb4 p0 p1 w0 w1 r0 r1 HP HP0 HP1 HL HY HB
        have ⟨r0, r1, rf0, rf1, _⟩ := HR4.out
        go_wp2
        refine post_w Tryd.results12 rfl rfl ((HR4.out.set _ _).alloc _).c0 ((HR4.out.set _ _).alloc _).c1 ?_
        rw [HFit.out]
        have hb := below_set2 HB4.out (g := w.heap.size + 1) (by omega) (.bool false) (.slice none 0 0)
        exact ⟨none, 0, 0, rfl, Lm.nil _ _, hb.alloc hb.size _⟩
    · obtain rfl : j = k := by omega
      have HFit := Lib.hid (rz_fit (w := w) HFy.out)
      obtain rfl := HNy.out.symm
      obtain ⟨ny, hny⟩ : ∃ b, decide (x ^ j < 0) = b := ⟨_, rfl⟩
      rw [hny] at HP HFit p0
      go_wp2
      exact post_ws Tryd.results12 rfl rfl r0 r1 (by rw [HFit.out]; exact ⟨A', n', c', rfl, HY.out.setP HP1.out _ _, below_set2 HB.out (by omega) _ _⟩)
end Go.Proofs.YtkajmglpmdhmnaaDoor

/- The reference Twin: a copy of a number. -/
namespace Go.Proofs.YtkajmglpmdhmnaaDoor
open Go.RowKit

/-- 'append(out, xs...)' where out is the call's own, and xs reads as limbs, inside a region that draws. -/
theorem step_append_lm {P : Program} {ops : Array Oper} {o : Oper} {a : Act} {w : World} {K : Act → World → Prop} {Q : Exit → Act → World → Prop} {E : Prop}
    (hg : o.guard = none) (s x : Operand) (t : TypeId) (hop : o.op = Op.call { callee := Callee.builtin Builtin.append, args := #[s, x], argTypes := #[t, t] })
    (base : Nat) (e : TypeId) (i : TypeInfo) (ht : P.underlying t = some (.slice e)) (hi : P.info? e = some i) (hz : i.zero = some (.int .u32 0)) (hsize : i.size = 1) (hby : i.bytes = 4)
    (v : Value) (n : Nat) (ts : List Value) (hs : a.eval s = v) (hown : w.ownsRow base e 1 v n ts)
    (B : Nat) (A : Option Addr) (m c : Nat) (xs : List Nat) (hx : a.eval x = .slice A m c) (hr : Lm w B A m c xs)
    (h63 : n + m ≤ maxLen) (hbytes : (n + m) * 4 ≤ 140737488355328) (hbase : base ≤ w.heap.size)
    (hK : ∀ v' w', w'.ownsRow base e 1 v' (n + m) (ts ++ xs.map u32c) → w.grownBy w' v.ownBlock → K (a.put o.dst v') w') :
    if Region.wanted o (yielded ops a.tmps) = true then Oper.wp P o a w K Q else E := by
  have hw : Region.wanted o (yielded ops a.tmps) = true := by simp [Region.wanted, hg]
  rw [if_pos hw]
  rcases A with _ | ad
  · have hm : m = 0 := by
      rcases Nat.eq_zero_or_pos m with h0 | h0
      · exact h0
      · obtain ⟨b, off, e, _⟩ := hr.at_ h0
        cases e
    subst hm
    obtain rfl := hr.nil_ rfl
    obtain rfl : xs = [] := List.eq_nil_of_length_eq_zero hr.len
    have hrun := run_append_owned_none (P := P) (w := w) base t o.type e i 1 ht hi v n ts hown
    unfold Oper.wp
    simp [execOp, hop, resolve, invoke, builtin, hs, hx, hrun, Result.andThen]
    exact hK v w (by simpa using hown) (World.grownBy.refl w _)
  · obtain ⟨v', w', hrun, r1, r2, _⟩ := run_append_own (P := P) w base t o.type e i (.int .u32 0) 1 4 ht hi hz hsize hby rfl (by decide) v n ts hown ad m c (xs.map u32c) (by simp [hr.len]) hr.cells (u32c_one xs) h63 hbytes hbase
    unfold Oper.wp
    simp [execOp, hop, resolve, invoke, builtin, hs, hx, hrun, Result.andThen]
    exact hK v' w' r1 r2

theorem own_empty (w : World) (k : Nat) (hk : w.heap.size = k) : ((w.alloc (.cells #[] 39)).drew).ownsRow k 39 1 (.slice (some ⟨k, 0, none⟩) 0 0) 0 [] := by
  subst hk
  have h : (w.alloc (.cells #[] 39)).ownsRow w.heap.size 39 1 (.slice (some ⟨w.heap.size, 0, none⟩) 0 0) 0 [] := World.ownsRow_made w #[] _ (Nat.le_refl _) (by simp [maxLen]) rfl
  exact h

end Go.Proofs.YtkajmglpmdhmnaaDoor

/- Two copies laid in new boxes, in whatever order. -/
namespace Go.Proofs.YtkajmglpmdhmnaaDoor
open Go.RowKit

/-- Two slots point to copies of both numbers. -/
def TwinsAt (w2 : World) (na : Bool) (n : Nat) (xs : List Nat) (nb : Bool) (m : Nat) (ys : List Nat) (s5 s6 : Value) (wc : World) : Prop :=
  ∃ gx gy A' c' A'' c'', s5 = .pointer (some ⟨gx, 0, none⟩) ∧ s6 = .pointer (some ⟨gy, 0, none⟩) ∧ Pr wc gx (.bool na) (.slice A' n c') ∧ Pr wc gy (.bool nb) (.slice A'' m c'') ∧ Lm wc wc.heap.size A' n c' xs ∧ Lm wc wc.heap.size A'' m c'' ys ∧ Below w2.heap.size w2 wc

section
variable {w2 w4 : World} {na nb : Bool} {n m : Nat} {xs ys : List Nat} {A3 A4 : Option Addr} {c3 c4 : Nat} {t : TypeId}
theorem fin1 (hB : Below w2.heap.size w2 w4) (L3 : Lm w4 w4.heap.size A3 n c3 xs) (L4 : Lm w4 w4.heap.size A4 m c4 ys) :
    TwinsAt w2 na n xs nb m ys (.pointer (some ⟨w4.heap.size, 0, none⟩)) (.pointer (some ⟨w4.heap.size + 1, 0, none⟩)) ((w4.alloc (.cells #[.bool na, .slice A3 n c3] t)).alloc (.cells #[.bool nb, .slice A4 m c4] t)) :=
  ⟨_, _, A3, c3, A4, c4, rfl, rfl, (Pr.new w4 _ rfl _ _ t).alloc _, Pr.new (w4.alloc _) _ (by simp) _ _ t, (L3.box _).box _, (L4.box _).box _, (hB.alloc hB.size _).alloc (hB.alloc hB.size _).size _⟩
theorem fin2 (hB : Below w2.heap.size w2 w4) (L3 : Lm w4 w4.heap.size A3 n c3 xs) (L4 : Lm w4 w4.heap.size A4 m c4 ys) :
    TwinsAt w2 na n xs nb m ys (.pointer (some ⟨w4.heap.size + 1, 0, none⟩)) (.pointer (some ⟨w4.heap.size, 0, none⟩)) ((w4.alloc (.cells #[.bool nb, .slice A4 m c4] t)).alloc (.cells #[.bool na, .slice A3 n c3] t)) :=
  ⟨_, _, A3, c3, A4, c4, rfl, rfl, Pr.new (w4.alloc _) _ (by simp) _ _ t, (Pr.new w4 _ rfl _ _ t).alloc _, (L3.box _).box _, (L4.box _).box _, (hB.alloc hB.size _).alloc (hB.alloc hB.size _).size _⟩
theorem fin3 {g : Nat} (hB : Below w2.heap.size w2 w4) (L3 : Lm w4 w4.heap.size A3 n c3 xs) (L4 : Lm w4 w4.heap.size A4 m c4 ys) (P : Pr w4 g (.bool false) (.slice none 0 0)) (hg : w2.heap.size ≤ g) :
    TwinsAt w2 na n xs nb m ys (.pointer (some ⟨g, 0, none⟩)) (.pointer (some ⟨w4.heap.size, 0, none⟩)) (((w4.setCell ⟨g, 0, none⟩ (.bool na)).setCell ⟨g, 1, none⟩ (.slice A3 n c3)).alloc (.cells #[.bool nb, .slice A4 m c4] t)) :=
  ⟨_, _, A3, c3, A4, c4, rfl, rfl, (P.set _ _).alloc _, Pr.new _ _ (size_set2 _ _ _ _) _ _ t, (L3.setP P _ _).box _, (L4.setP P _ _).box _, (below_set2 hB hg _ _).alloc (below_set2 hB hg _ _).size _⟩
theorem fin4 {g : Nat} (hB : Below w2.heap.size w2 w4) (L3 : Lm w4 w4.heap.size A3 n c3 xs) (L4 : Lm w4 w4.heap.size A4 m c4 ys) (P : Pr w4 g (.bool false) (.slice none 0 0)) (hg : w2.heap.size ≤ g) :
    TwinsAt w2 na n xs nb m ys (.pointer (some ⟨w4.heap.size, 0, none⟩)) (.pointer (some ⟨g, 0, none⟩)) (((w4.setCell ⟨g, 0, none⟩ (.bool nb)).setCell ⟨g, 1, none⟩ (.slice A4 m c4)).alloc (.cells #[.bool na, .slice A3 n c3] t)) :=
  ⟨_, _, A3, c3, A4, c4, rfl, rfl, Pr.new _ _ (size_set2 _ _ _ _) _ _ t, (P.set _ _).alloc _, (L3.setP P _ _).box _, (L4.setP P _ _).box _, (below_set2 hB hg _ _).alloc (below_set2 hB hg _ _).size _⟩
theorem fin5 {g h : Nat} (hB : Below w2.heap.size w2 w4) (L3 : Lm w4 w4.heap.size A3 n c3 xs) (L4 : Lm w4 w4.heap.size A4 m c4 ys) (P : Pr w4 g (.bool false) (.slice none 0 0)) (Q : Pr w4 h (.bool false) (.slice none 0 0)) (hg : w2.heap.size ≤ g) (hh : w2.heap.size ≤ h) (hne : g ≠ h) :
    TwinsAt w2 na n xs nb m ys (.pointer (some ⟨g, 0, none⟩)) (.pointer (some ⟨h, 0, none⟩)) ((((w4.setCell ⟨g, 0, none⟩ (.bool na)).setCell ⟨g, 1, none⟩ (.slice A3 n c3)).setCell ⟨h, 0, none⟩ (.bool nb)).setCell ⟨h, 1, none⟩ (.slice A4 m c4)) :=
  have Q' := Q.far (h := g) (fun e => hne e.symm) (.bool na) (.slice A3 n c3)
  ⟨_, _, A3, c3, A4, c4, rfl, rfl, (P.set _ _).far hne _ _, Q'.set _ _, (L3.setP P _ _).setP Q' _ _, (L4.setP P _ _).setP Q' _ _, below_set2 (below_set2 hB hg _ _) hh _ _⟩
end
theorem b_one {w w' : World} {o : Obj} (h : Below (w.alloc o).heap.size (w.alloc o) w') : Below w.heap.size w w' := bbox h
theorem b_two {w w' : World} {o o' : Obj} (h : Below ((w.alloc o).alloc o').heap.size ((w.alloc o).alloc o') w') : Below w.heap.size w w' := bbox (bbox h)
theorem b_one_d {w w' : World} {o : Obj} (h : Below (w.alloc o).drew.heap.size (w.alloc o).drew w') : Below w.heap.size w w' :=
  ((Below.refl w.heap.size w).alloc (Nat.le_refl _) o).drew.trans (h.mono (((Below.refl w.heap.size w).alloc (Nat.le_refl _) o).drew.size))
theorem b_two_d {w w' : World} {o o' : Obj} (h : Below ((w.alloc o).alloc o').drew.heap.size ((w.alloc o).alloc o').drew w') : Below w.heap.size w w' :=
  have q := (((Below.refl w.heap.size w).alloc (Nat.le_refl _) o).alloc ((Below.refl w.heap.size w).alloc (Nat.le_refl _) o).size o').drew
  q.trans (h.mono q.size)
end Go.Proofs.YtkajmglpmdhmnaaDoor

/- The reference's Shift: multiplication by a power of 2, or the floor of division by one. -/
namespace Go.Proofs.YtkajmglpmdhmnaaDoor
open Go.RowKit

theorem own_zer {w : World} {B a : Nat} {v : Value} (h : Ow w B v (zer a)) : w.ownsRow B 39 1 v a ((zer a).map u32c) := by
  have h2 : w.ownsRow B 39 1 v (zer a).length ((zer a).map u32c) := h
  rw [zer_len] at h2
  exact h2
theorem Lm.loneE (w : World) (k : Nat) (t : TypeId) (hk : w.heap.size = k) (x : Nat) (E : Int) (hE : E = (x : Int)) (hx : x < 4294967296) : Lm (w.alloc (.cells #[.int .u32 E] t)) (w.alloc (.cells #[.int .u32 E] t)).heap.size (some ⟨k, 0, none⟩) 1 1 [x] := by
  subst hk hE
  exact ⟨rfl, by unfold Good; simpa using hx, Nat.le_refl _, by omega, fun h => (by cases h), fun _ => ⟨_, 0, rfl, by simp, fun j hj => by
    match j, hj with
    | 0, _ => go_simp⟩⟩
theorem Ow.madeK (w : World) (k n : Nat) (hk : w.heap.size = k) (hn : n ≤ 4000000000) : Ow (w.alloc (.cells ((zer n).map u32c).toArray 39)) k (.slice (some ⟨k, 0, none⟩) n n) (zer n) := by
  subst hk
  exact Ow.made w n n (Nat.le_refl _) hn
theorem pw_split (k : Nat) : 4294967296 ^ (k / 32) * 2 ^ (k % 32) = 2 ^ k := by
  rw [show (4294967296 : Nat) = 2 ^ 32 from by decide, ← Nat.pow_mul, ← Nat.pow_add]
  congr 1
  omega
theorem val_zer (a : Nat) : val (zer a) = 0 := val_zero fun _ hx => (List.mem_replicate.1 hx).2
theorem up_list {k v : Nat} {ts : List Nat} (h : val ts = v * 2 ^ (k % 32)) : val (zer (k / 32) ++ ts) = v * 2 ^ k := by
  rw [val_append, val_zer, zer_len, h, Nat.zero_add, ← pw_split k, Nat.mul_left_comm]
theorem two_digs (k : Nat) : zer (k / 32) ++ [2 ^ (k % 32)] = digs (2 ^ k) := by
  have h1 : 0 < 2 ^ (k % 32) := Nat.pow_pos (by omega)
  have h2 : 2 ^ (k % 32) < 4294967296 := Nat.lt_of_lt_of_le (Nat.pow_lt_pow_right (by omega) (show k % 32 < 32 by omega)) (by decide)
  refine eq_digs ((zer_good _).append (Good.nil.cons h2)) ?_ ?_
  · unfold Norm
    rw [List.getLast?_append]
    simp
  · have h := up_list (k := k) (v := 1) (ts := [2 ^ (k % 32)]) (by simp [val_cons, val_nil])
    rw [h, Nat.one_mul]

set_option maxRecDepth 100000 in
set_option maxHeartbeats 1000000 in
theorem rshift_bad (w : World) (neg : Bool) (A : Option Addr) (n c : Nat) (xs : List Nat) (k : Int) (h : Lm w w.heap.size A n c xs) (hc : chk neg xs = 8) :
    Calls Tryd.prog 10 #[.agg #[.bool neg, .slice A n c], .int .i64 k] w (RW w false [] 8) := by
  have HH := Lib.hid h
  have HC := Lib.hid hc
  clear hc
  go_enter Tryd.func10, Tryd.ntmps10
  go_wp2_with fail
  refine (rcheck_bad _ _ _ _ _ _ ((HH.out.box _).box _) HC.out).mono ?_
  rintro e w1 ⟨rfl, hb1⟩
  have ⟨hx0, hx1, hy0, hy1, hf0, hf1, hsz⟩ := box2 hb1
  go_wp2_with fail
  refine (rcheck_bad _ _ _ _ _ _ (((HH.out.box _).box _).via hb1) HC.out).mono ?_
  rintro e w2 ⟨rfl, hb2⟩
  have hky2 := keep2 hb2 hsz ⟨hy0, hy1⟩
  have ⟨hkf0, hkf1⟩ := keepF hb2 hsz ⟨hf0, hf1⟩
  go_wp2
  exact post_ws Tryd.results10 rfl rfl hky2.1 hky2.2 ⟨none, 0, 0, rfl, Lm.nil _ _, below_set2 ((bbox (bbox hb1)).trans (hb2.mono (by omega))) (by omega) _ _⟩

set_option maxRecDepth 100000 in
set_option maxHeartbeats 1000000 in
theorem rshift_arg (w : World) (neg : Bool) (A : Option Addr) (n c : Nat) (xs : List Nat) (k : Int) (h : Lm w w.heap.size A n c xs) (hc : chk neg xs = 0) (hk : k < -131072 ∨ 131072 < k) :
    Calls Tryd.prog 10 #[.agg #[.bool neg, .slice A n c], .int .i64 k] w (RW w false [] 2) := by
  have HH := Lib.hid h
  have HC := Lib.hid hc
  clear hc
  go_enter Tryd.func10, Tryd.ntmps10
  go_wp2_with fail
  refine (rcheck_ok _ _ _ _ _ _ ((HH.out.box _).box _) HC.out).mono ?_
  rintro e w1 ⟨rfl, hb1⟩
  have ⟨hx0, hx1, hy0, hy1, hf0, hf1, hsz⟩ := box2 hb1
  rcases hk with hk | hk
  · go_wp2
    exact post_ws Tryd.results10 rfl rfl hy0 hy1 ⟨none, 0, 0, rfl, Lm.nil _ _, below_set2 (bbox (bbox hb1)) (by omega) _ _⟩
  · have hk2 : decide (k < -131072) = false := by simp; omega
    go_wp2
    exact post_ws Tryd.results10 rfl rfl hy0 hy1 ⟨none, 0, 0, rfl, Lm.nil _ _, below_set2 (bbox (bbox hb1)) (by omega) _ _⟩

-- up
set_option maxRecDepth 100000 in
set_option maxHeartbeats 4000000 in
theorem rshift_up (w : World) (neg : Bool) (A : Option Addr) (n c v k : Nat) (h : Lm w w.heap.size A n c (digs v)) (hc : chk neg (digs v) = 0) (hk : k ≤ 131072) :
    Calls Tryd.prog 10 #[.agg #[.bool neg, .slice A n c], .int .i64 (k : Int)] w (RW w (mkN neg (v * 2 ^ k)) (mkL (v * 2 ^ k)) (mkE (v * 2 ^ k))) := by
  obtain ⟨i0, hi0, hz0, hz1, hz2⟩ := info_parts u32_info
  have hl := (chk_ok.1 hc).1
  rw [h.len] at hl
  have HU : Hid (∀ ts, val ts = v * 2 ^ (k % 32) → val (zer (k / 32) ++ ts) = v * 2 ^ k) := fun ts h => up_list h
  have HV : Hid (val (digs v) * 2 ^ (k % 32) = v * 2 ^ (k % 32)) := by show _ = _; rw [digs_val]
  generalize hX : v * 2 ^ k = X at *
  obtain ⟨a, ha⟩ : ∃ a : Nat, k / 32 = a := ⟨_, rfl⟩
  obtain ⟨s, hs⟩ : ∃ s : Nat, k % 32 = s := ⟨_, rfl⟩
  have hs32 : s < 32 := by omega
  have hq : ((k : Int)).tdiv 32 = (a : Int) := by rw [Int.tdiv_eq_ediv_of_nonneg (by omega)]; omega
  have hm : ((k : Int)).tmod 32 = (s : Int) := by rw [Int.tmod_eq_emod_of_nonneg (by omega)]; omega
  have ha9 : a ≤ 4096 := by omega
  have hk1 : decide ((k : Int) < -131072) = false := decide_eq_false (by omega)
  have hk2 : decide ((131072 : Int) < (k : Int)) = false := decide_eq_false (by omega)
  have hk3 : decide ((0 : Int) ≤ (k : Int)) = true := decide_eq_true (by omega)
  rw [ha, hs] at HU
  rw [hs] at HV
  have HWs : Hid (IntKind.u64.wrap (s : Int) = (s : Int)) := by show _ = _; rw [IntKind.wrap_u64]; omega
  have hmk := fun w => run_make_u32 (IntKind.i64.wrap (a : Int)) (IntKind.i64.wrap (a : Int)) a (by rw [IntKind.wrap_i64]; omega) (by rw [IntKind.wrap_i64]; omega) (by omega) w
  have HH := Lib.hid h
  have HC := Lib.hid hc
  clear h hc hX ha hs
  go_enter Tryd.func10, Tryd.ntmps10
  go_wp2_with fail
  refine (rcheck_ok _ _ _ _ _ _ ((HH.out.box _).box _) HC.out).mono ?_
  rintro e w1 ⟨rfl, hb1⟩
  have P0 := Lib.hid (((Pr.new w _ rfl (.bool neg) (.slice A n c) 24).alloc (.cells #[.bool false, .slice none 0 0] 24)).via hb1)
  have P1 := Lib.hid ((Pr.new (w.alloc (.cells #[.bool neg, .slice A n c] 24)) (w.heap.size + 1) (by simp) (.bool false) (.slice none 0 0) 24).via hb1)
  have L1 := Lib.hid (((HH.out.box _).box _).via hb1)
  have B1 := Lib.hid (bbox (bbox hb1))
  clear hb1
  have ⟨a0, a1, _, _, al⟩ := P0.out
  have hg1 := B1.out.size
  go_wp2_with fail
  have HKS : Hid (∀ V : World, Below w1.heap.size w1 V → V.cell? ⟨w.heap.size, 0, none⟩ = some (.bool neg) ∧ V.cell? ⟨w.heap.size, 1, none⟩ = some (.slice A n c)) := fun V h => ⟨(P0.out.below h al).c0, (P0.out.below h al).c1⟩
  go_region_held3 (fun w' => w'.cell? ⟨w.heap.size, 0, none⟩ = some (.bool neg) ∧ w'.cell? ⟨w.heap.size, 1, none⟩ = some (.slice A n c))
    (first | exact ⟨a0, a1⟩ | exact ⟨((P0.out.via Bc).far (by omega) _ _).c0, ((P0.out.via Bc).far (by omega) _ _).c1⟩ | (refine HKS.out _ ?_; (repeat' (first | exact Bb | exact Ba | exact (Below.refl _ _).drew | exact Below.refl _ _ | refine Below.drew ?_ | refine Below.alloc ?_ ?_ _)); all_goals (first | omega | (simp; done) | (simp; omega))))
    (first
     | (go_at_call 40; rw [HWs.out]; refine (rleft_any _ A n c s (digs v) _ (by first | exact L1.out | exact L1.out.drew | exact L1.out.box _ | exact L1.out.drew.box _ | exact (L1.out.box _).drew) (by omega) hs32 HV.out).mono ?_; rintro e wa ⟨Aa, ca, ts, rfl, hLa, hva, hba⟩; have Ba : Below w1.heap.size w1 wa := (by first | exact hba | exact (Below.refl _ _).drew.trans hba | exact b_one hba | exact b_one_d hba); have Bas := Ba.size; (try (have hOa : Ow wa w1.heap.size (.slice (some ⟨w1.heap.size, 0, none⟩) a a) (zer a) := (by first | exact (Ow.made _ a a (Nat.le_refl _) (by omega)).drew.via hba | exact (Ow.made _ a a (Nat.le_refl _) (by omega)).via hba))))
     | (go_at_call 35; refine (rmade_any _ _ Ab (a + (n + 1)) cb (zer a ++ ts) X hLb (HU.out ts hva) (by omega)).mono ?_; rintro e wc ⟨Ac, nc, cc, rfl, hLc, hbc⟩; have Bc := Bb.trans (hbc.mono Bb.size); have PR := P1.out.via Bc; have ⟨r0, r1, rf0, rf1, rl⟩ := PR)
     | (refine step_append_lm rfl (.tmp 28) (.tmp 34) 22 rfl w1.heap.size 39 i0 slice_u32 hi0 hz0 hz1 hz2 (.slice (some ⟨w1.heap.size, 0, none⟩) a a) a ((zer a).map u32c) (by simp [Act.eval]) (own_zer hOa) wa.heap.size Aa (n + 1) ca ts (by simp [Act.eval]) (hLa) (by simp only [maxLen]; omega) (by omega) (by omega) ?_; intro v1 wb hown hgb; have hgt : Good (zer a ++ ts) := (zer_good a).append hLa.good; obtain ⟨Ab, cb, rfl, hLb⟩ := Lm.own (ts := zer a ++ ts) (by rw [List.map_append]; exact hown) hgt; have Bb : Below w1.heap.size w1 wb := (by first | exact Ba.grown hgb (by omega) (fun k e => by simp [Value.ownBlock] at e; omega) | exact (Ba.alloc Ba.size _).grown hgb (by simp; omega) (fun k e => by simp [Value.ownBlock] at e; omega)); have Bbs := Bb.size)
     | (refine step_append_lm rfl (.tmp 28) (.tmp 34) 22 rfl w1.heap.size 39 i0 slice_u32 hi0 hz0 hz1 hz2 (.slice (some ⟨wa.heap.size, 0, none⟩) a a) a ((zer a).map u32c) (by simp [Act.eval]) (own_zer (Ow.mono (Ow.made _ a a (Nat.le_refl _) (by omega)) Bas)) (wa.heap.size + 1) Aa (n + 1) ca ts (by simp [Act.eval]) ((hLa.box _).mono (by simp)) (by simp only [maxLen]; omega) (by omega) (by simp only [World.size_alloc]; omega) ?_; intro v1 wb hown hgb; have hgt : Good (zer a ++ ts) := (zer_good a).append hLa.good; obtain ⟨Ab, cb, rfl, hLb⟩ := Lm.own (ts := zer a ++ ts) (by rw [List.map_append]; exact hown) hgt; have Bb : Below w1.heap.size w1 wb := (by first | exact Ba.grown hgb (by omega) (fun k e => by simp [Value.ownBlock] at e; omega) | exact (Ba.alloc Ba.size _).grown hgb (by simp; omega) (fun k e => by simp [Value.ownBlock] at e; omega)); have Bbs := Bb.size)
     | fail)
  all_goals
    go_wp2
    exact post_ws Tryd.results10 rfl rfl r0 r1 ⟨Ac, nc, cc, rfl, hLc.setP PR _ _, below_set2 (B1.out.trans (Bc.mono B1.out.size)) (by omega) _ _⟩

-- down
/-- What a shift down makes of an absolute value. -/
def DWN (neg : Bool) (v j : Nat) : Nat := if neg = true ∧ 0 < v % 2 ^ j then v / 2 ^ j + 1 else v / 2 ^ j
set_option maxRecDepth 100000 in
set_option maxHeartbeats 4000000 in
theorem rshift_down (w : World) (neg : Bool) (A : Option Addr) (n c v j : Nat) (z : Int) (h : Lm w w.heap.size A n c (digs v)) (hc : chk neg (digs v) = 0) (hz : z = -(j : Int)) (hj0 : 0 < j) (hj : j ≤ 131072) :
    Calls Tryd.prog 10 #[.agg #[.bool neg, .slice A n c], .int .i64 z] w (RW w (mkN neg (DWN neg v j)) (mkL (DWN neg v j)) (mkE (DWN neg v j))) := by
  obtain ⟨i0, hi0, hz0, hz1, hz2⟩ := info_parts u32_info
  have hl := (chk_ok.1 hc).1
  rw [h.len] at hl
  have hp : 0 < 2 ^ j := Nat.pow_pos (by omega)
  have HT := Lib.hid (two_digs j)
  have hql : (digs (v / 2 ^ j)).length ≤ n := by
    have h1 := digs_mono (Nat.div_le_self v (2 ^ j))
    rw [h.len] at h1
    exact h1
  obtain ⟨D, hD⟩ : ∃ D : Nat, DWN neg v j = D := ⟨_, rfl⟩
  have HD : Hid ((if neg = true ∧ 0 < v % 2 ^ j then v / 2 ^ j + 1 else v / 2 ^ j) = D) := hD
  rw [hD]
  generalize 2 ^ j = T at *
  obtain ⟨a, ha⟩ : ∃ a : Nat, j / 32 = a := ⟨_, rfl⟩
  obtain ⟨s, hs⟩ : ∃ s : Nat, j % 32 = s := ⟨_, rfl⟩
  have hs32 : s < 32 := by omega
  have hw : IntKind.i64.wrap (-z) = (j : Int) := by rw [IntKind.wrap_i64]; omega
  have hq : ((j : Int)).tdiv 32 = (a : Int) := by rw [Int.tdiv_eq_ediv_of_nonneg (by omega)]; omega
  have hm : ((j : Int)).tmod 32 = (s : Int) := by rw [Int.tmod_eq_emod_of_nonneg (by omega)]; omega
  have ha9 : a ≤ 4096 := by omega
  have hk1 : decide (z < -131072) = false := decide_eq_false (by omega)
  have hk2 : decide ((131072 : Int) < z) = false := decide_eq_false (by omega)
  have hk3 : decide ((0 : Int) ≤ z) = false := decide_eq_false (by omega)
  rw [ha, hs] at HT
  have hS9 : 2 ^ s < 4294967296 := Nat.lt_of_lt_of_le (Nat.pow_lt_pow_right (by omega) hs32) (by decide)
  have hsl : decide ((s : Int) < 0) = false := decide_eq_false (by omega)
  have HS : Hid (∀ E : Int, E = IntKind.u32.wrap (2 ^ s) ∨ E = IntKind.u32.wrap (1 * 2 ^ s) ∨ E = 2 ^ s → E = ((2 ^ s : Nat) : Int)) := by
    show ∀ E : Int, _
    have e : ((2 : Int) ^ s) = ((2 ^ s : Nat) : Int) := by rw [Int.natCast_pow]; rfl
    rw [Int.one_mul, e]
    generalize 2 ^ s = P at *
    intro E h
    rw [IntKind.wrap_u32] at h
    omega
  have hmk := fun w => run_make_u32 (IntKind.i64.wrap (a : Int)) (IntKind.i64.wrap (a : Int)) a (by rw [IntKind.wrap_i64]; omega) (by rw [IntKind.wrap_i64]; omega) (by omega) w
  have HH := Lib.hid h
  have HC := Lib.hid hc
  have HJ := Lib.hid (show 0 < j ∧ j ≤ 131072 from ⟨hj0, hj⟩)
  clear h hc hD ha hs hz
  go_enter Tryd.func10, Tryd.ntmps10
  go_wp2_with fail
  refine (rcheck_ok _ _ _ _ _ _ ((HH.out.box _).box _) HC.out).mono ?_
  rintro e w1 ⟨rfl, hb1⟩
  have P0 := Lib.hid (((Pr.new w _ rfl (.bool neg) (.slice A n c) 24).alloc (.cells #[.bool false, .slice none 0 0] 24)).via hb1)
  have P1 := Lib.hid ((Pr.new (w.alloc (.cells #[.bool neg, .slice A n c] 24)) (w.heap.size + 1) (by simp) (.bool false) (.slice none 0 0) 24).via hb1)
  have L1 := Lib.hid (((HH.out.box _).box _).via hb1)
  have B1 := Lib.hid (bbox (bbox hb1))
  clear hb1
  go_wp2_with fail
  go_cut [6] (fun sl wx => ∃ A' c', sl = .slice A' (a + 1) c' ∧ Lm wx wx.heap.size A' (a + 1) c' (digs T) ∧ Below w1.heap.size w1 wx)
  case first =>
    go_region_law (first
     | (refine step_append_lm rfl (.tmp 43) (.tmp 47) 22 rfl w1.heap.size 39 i0 slice_u32 hi0 hz0 hz1 hz2 (.slice (some ⟨w1.heap.size, 0, none⟩) a a) a ((zer a).map u32c) (by simp [Act.eval]) (own_zer ((Ow.madeK w1 w1.heap.size a rfl (by omega)).alloc _).drew) _ (some ⟨w1.heap.size + 1, 0, none⟩) 1 1 [2 ^ s] (by simp [Act.eval]) ((Lm.loneE (w1.alloc _) (w1.heap.size + 1) _ (by simp) (2 ^ s) _ (HS.out _ (by first | exact .inl rfl | exact .inr (.inl rfl) | exact .inr (.inr rfl))) hS9).drew) (by simp only [maxLen]; omega) (by omega) (by simp; omega) ?_; intro v1 wb hown hgb; have hgt : Good (zer a ++ [2 ^ s]) := (zer_good a).append (Good.nil.cons hS9); obtain ⟨Ab, cb, rfl, hLb⟩ := Lm.own (ts := zer a ++ [2 ^ s]) (by rw [List.map_append]; exact hown) hgt; have Bb : Below w1.heap.size w1 wb := ((((Below.refl w1.heap.size w1).alloc (Nat.le_refl _) _).alloc (by simp) _).drew).grown hgb (by simp; omega) (fun k e => by simp [Value.ownBlock] at e; omega))
     | (refine step_append_lm rfl (.tmp 43) (.tmp 47) 22 rfl w1.heap.size 39 i0 slice_u32 hi0 hz0 hz1 hz2 (.slice (some ⟨w1.heap.size + 1, 0, none⟩) a a) a ((zer a).map u32c) (by simp [Act.eval]) (own_zer ((Ow.madeK (w1.alloc _) (w1.heap.size + 1) a (by simp) (by omega)).mono (by omega)).drew) _ (some ⟨w1.heap.size, 0, none⟩) 1 1 [2 ^ s] (by simp [Act.eval]) (((Lm.loneE w1 w1.heap.size _ rfl (2 ^ s) _ (HS.out _ (by first | exact .inl rfl | exact .inr (.inl rfl) | exact .inr (.inr rfl))) hS9).box _).drew) (by simp only [maxLen]; omega) (by omega) (by simp; omega) ?_; intro v1 wb hown hgb; have hgt : Good (zer a ++ [2 ^ s]) := (zer_good a).append (Good.nil.cons hS9); obtain ⟨Ab, cb, rfl, hLb⟩ := Lm.own (ts := zer a ++ [2 ^ s]) (by rw [List.map_append]; exact hown) hgt; have Bb : Below w1.heap.size w1 wb := ((((Below.refl w1.heap.size w1).alloc (Nat.le_refl _) _).alloc (by simp) _).drew).grown hgb (by simp; omega) (fun k e => by simp [Value.ownBlock] at e; omega))
     | fail)
    all_goals
      go_wp2_with fail
      go_meet
      refine ⟨Ab, cb, rfl, ?_, Bb⟩
      rw [← HT.out]
      exact hLb
  case rest =>
  obtain ⟨A2, c2, rfl, hL2, hb2⟩ := hcut
  clear hmk hsl hw hq hm
  have P0' := Lib.hid (P0.out.via hb2)
  have P1' := Lib.hid (P1.out.via hb2)
  have L1' := Lib.hid (L1.out.via hb2)
  have B2 := Lib.hid (B1.out.trans (hb2.mono B1.out.size))
  have L2 := Lib.hid hL2
  clear hL2 hb2 P0 P1 L1 B1
  have ⟨a0, a1, _, _, al⟩ := P0'.out
  go_wp2_with fail
  refine (rover_any _ A A2 n (a + 1) c c2 v T L1'.out L2.out hp (by omega)).mono ?_
  rintro e w3 ⟨Q, cq, R, cr, rfl, hQ, hR, hb3⟩
  have P0 := Lib.hid (P0'.out.via hb3)
  have P1 := Lib.hid (P1'.out.via hb3)
  have B3 := Lib.hid (B2.out.trans (hb3.mono B2.out.size))
  have LQ := Lib.hid hQ
  have hcq := hQ.cap
  have hxq := hQ.max
  have hcr := hR.cap
  have hxr := hR.max
  clear hQ hR hb3 P0' P1' L1' L2 B2 a0 a1 al
  have ⟨a0, a1, _, _, al⟩ := P0.out
  by_cases hlost : neg = true ∧ 0 < v % T
  · obtain ⟨rfl, h0⟩ := hlost
    have HD2 : Hid (v / T + 1 = D) := by have e := HD.out; rw [if_pos ⟨rfl, h0⟩] at e; exact e
    have hy : (0 : Int) < ((digs (v % T)).length : Int) := by have := digs_pos.2 h0; omega
    clear h0
    go_wp2_with fail
    refine (rplus_any _ Q _ _ 1 cq 1 (max (digs (v / T)).length 1) (digs (v / T)) [1] (v / T + 1) (LQ.out.box _) (Lm.loneE _ _ _ rfl 1 _ rfl (by omega)) rfl (by omega) (by rw [digs_val]; rfl)).mono ?_
    rintro e w4 ⟨A4, c4, ts, rfl, hL4, hv4, hb4⟩
    have B4 := bbox hb4
    have P0' := Lib.hid (P0.out.via B4)
    have P1' := Lib.hid (P1.out.via B4)
    have BB4 := Lib.hid (B3.out.trans (B4.mono B3.out.size))
    have L4 := Lib.hid hL4
    have HV4 := Lib.hid hv4
    have hc4 := hL4.cap
    have hx4 := hL4.max
    clear hL4 hv4 hb4 B4 P0 P1 B3 LQ a0 a1 al
    go_wp2_with fail
    refine (rtrim_any _ _ _ _ ts (v / T + 1) L4.out HV4.out (by omega)).mono ?_
    rintro e w5 ⟨A5, c5, rfl, hL5, hb5⟩
    have P0 := Lib.hid (P0'.out.via hb5)
    have P1 := Lib.hid (P1'.out.via hb5)
    have B5 := Lib.hid (BB4.out.trans (hb5.mono BB4.out.size))
    have L5 := Lib.hid hL5
    have hc5 := hL5.cap
    have hx5 := hL5.max
    have hl5 : (digs (v / T + 1)).length ≤ 1000000 := by
      have h1 := tr_len L4.out.good L4.out.len
      rw [HV4.out] at h1
      have h2 := tr_le ts (max (digs (v / T)).length 1 + 1)
      omega
    clear hL5 hb5 P0' P1' BB4 L4 HV4
    have ⟨a0, a1, _, _, al⟩ := P0.out
    go_wp2_with fail
    refine (rmade_any _ _ _ _ _ _ D L5.out (by rw [digs_val]; exact HD2.out) (by omega)).mono ?_
    rintro e w6 ⟨A6, n6, c6, rfl, hL6, hb6⟩
    have PR := P1.out.via hb6
    have ⟨r0, r1, rf0, rf1, rl⟩ := PR
    clear a0 a1 al
    go_wp2
    exact post_ws Tryd.results10 rfl rfl r0 r1 ⟨A6, n6, c6, rfl, hL6.setP PR _ _, below_set2 (B5.out.trans (hb6.mono B5.out.size)) (by omega) _ _⟩
  · have HD2 : Hid (v / T = D) := by have e := HD.out; rw [if_neg hlost] at e; exact e
    have hy : neg = false ∨ neg = true ∧ v % T = 0 := by
      cases neg
      · exact .inl rfl
      · rcases Nat.eq_zero_or_pos (v % T) with h | h
        · exact .inr ⟨rfl, h⟩
        · exact absurd ⟨rfl, h⟩ hlost
    clear hlost
    rcases hy with rfl | ⟨rfl, hy⟩
    case' inr =>
      rw [hy, digs_zero, List.length_nil] at *
      clear hy
    all_goals
      go_wp2_with fail
      refine (rmade_any _ _ _ _ _ _ D LQ.out (by rw [digs_val]; exact HD2.out) (by omega)).mono ?_
      rintro e w6 ⟨A6, n6, c6, rfl, hL6, hb6⟩
      have PR := P1.out.via hb6
      have ⟨r0, r1, rf0, rf1, rl⟩ := PR
      clear a0 a1 al
      go_wp2
      exact post_ws Tryd.results10 rfl rfl r0 r1 ⟨A6, n6, c6, rfl, hL6.setP PR _ _, below_set2 (B3.out.trans (hb6.mono B3.out.size)) (by omega) _ _⟩
end Go.Proofs.YtkajmglpmdhmnaaDoor

/- Newton's steps from above, in numbers. -/
namespace Go.Proofs.YtkajmglpmdhmnaaDoor
theorem newt_next {v x : Nat} (hx : 0 < x) : v < ((v / x + x) / 2 + 1) * ((v / x + x) / 2 + 1) := by
  obtain ⟨q, hq⟩ : ∃ q, v / x = q := ⟨_, rfl⟩
  obtain ⟨h, hh⟩ : ∃ h, (q + x) / 2 = h := ⟨_, rfl⟩
  rw [hq, hh]
  have h1 : v < x * (q + 1) := by rw [← hq]; exact Nat.lt_mul_div_succ v hx
  have h2 : x + (q + 1) ≤ 2 * (h + 1) := by omega
  have h3 := Nat.mul_le_mul h2 h2
  have h4 := @sq_le x (q + 1)
  have e1 : 2 * (h + 1) * (2 * (h + 1)) = 4 * ((h + 1) * (h + 1)) := by grind
  have e2 : (x + (q + 1)) * (x + (q + 1)) = x * x + (q + 1) * (q + 1) + 2 * x * (q + 1) := by grind
  have e3 : 2 * x * (q + 1) = 2 * (x * (q + 1)) := by grind
  omega
theorem newt_end {v x : Nat} (h : v < (x + 1) * (x + 1)) (hh : x ≤ (v / x + x) / 2) : IsRt v x := by
  refine ⟨?_, h⟩
  have h1 : x ≤ v / x := by omega
  exact Nat.le_trans (Nat.mul_le_mul_right x h1) (Nat.div_mul_le_self v x)
theorem newt_pos {v x : Nat} (hv : 0 < v) (hx : 0 < x) : 0 < (v / x + x) / 2 := by
  rcases Nat.lt_or_ge 1 x with h | h
  · generalize v / x = q
    omega
  · obtain rfl : x = 1 := by omega
    rw [Nat.div_one]
    omega
theorem newt_start {v n : Nat} (h : v < 2 ^ n) : v < (2 ^ ((n + 1) / 2) + 1) * (2 ^ ((n + 1) / 2) + 1) := by
  have h1 : 2 ^ n ≤ 2 ^ ((n + 1) / 2) * 2 ^ ((n + 1) / 2) := by
    rw [← Nat.pow_add]
    exact Nat.pow_le_pow_right (by omega) (by omega)
  have h2 : 2 ^ ((n + 1) / 2) * 2 ^ ((n + 1) / 2) ≤ (2 ^ ((n + 1) / 2) + 1) * (2 ^ ((n + 1) / 2) + 1) := Nat.mul_le_mul (by omega) (by omega)
  omega
end Go.Proofs.YtkajmglpmdhmnaaDoor

/- The reference's Sqrt: Newton's steps from above. -/
namespace Go.Proofs.YtkajmglpmdhmnaaDoor
open Go.RowKit

theorem two_ltB (k : Nat) (hk : k ≤ 65536) (q : Nat) (hq : q = 4096) : 2 ^ k < 4294967296 ^ q := by
  rw [show (4294967296 : Nat) = 2 ^ 32 from rfl, ← Nat.pow_mul]
  exact Nat.pow_lt_pow_right (by omega) (by omega)
theorem two_len (k : Nat) (hk : k ≤ 65536) : (digs (2 ^ k)).length ≤ 4096 := digs_len.2 (two_ltB k hk 4096 rfl)
theorem rshift_one (w : World) (A : Option Addr) (n c k : Nat) (h : Lm w w.heap.size A n c (digs 1)) (hk : k ≤ 65536) :
    Calls Tryd.prog 10 #[.agg #[.bool false, .slice A n c], .int .i64 (k : Int)] w (RW w false (digs (2 ^ k)) 0) := by
  have h2 := rshift_up w false A n c 1 k h (by decide) (by omega)
  have hl := two_len k hk
  rw [Nat.one_mul] at h2
  generalize 2 ^ k = X at *
  have e1 : mkN false X = false := by unfold mkN; simp
  have e2 : mkL X = digs X := by unfold mkL; rw [if_pos hl]
  have e3 : mkE X = 0 := by unfold mkE; rw [if_pos hl]
  rw [e1, e2, e3] at h2
  exact h2
/-- The number in box g. -/
def rdB (w : World) (g : Nat) : Nat := match w.cell? ⟨g, 1, none⟩ with | some s => rdN w s | none => 0
theorem rdB_pr {w : World} {g B n c v : Nat} {A : Option Addr} {x : Value} (p : Pr w g x (.slice A n c)) (h : Lm w B A n c (digs v)) : rdB w g = v := by
  unfold rdB
  rw [p.c1]
  exact rdN_lm h

set_option maxRecDepth 100000 in
set_option maxHeartbeats 1000000 in
theorem rsqrt_bad (w : World) (neg : Bool) (A : Option Addr) (n c : Nat) (xs : List Nat) (h : Lm w w.heap.size A n c xs) (hc : chk neg xs = 8) :
    Calls Tryd.prog 14 #[.agg #[.bool neg, .slice A n c]] w (RW w false [] 8) := by
  have HH := Lib.hid h
  have HC := Lib.hid hc
  clear hc
  go_enter Tryd.func14, Tryd.ntmps14
  go_wp2_with fail
  refine (rcheck_bad _ _ _ _ _ _ ((HH.out.box _).box _) HC.out).mono ?_
  rintro e w1 ⟨rfl, hb1⟩
  have ⟨hx0, hx1, hy0, hy1, hf0, hf1, hsz⟩ := box2 hb1
  go_wp2_with fail
  refine (rcheck_bad _ _ _ _ _ _ (((HH.out.box _).box _).via hb1) HC.out).mono ?_
  rintro e w2 ⟨rfl, hb2⟩
  have hky2 := keep2 hb2 hsz ⟨hy0, hy1⟩
  have ⟨hkf0, hkf1⟩ := keepF hb2 hsz ⟨hf0, hf1⟩
  go_wp2
  exact post_ws Tryd.results14 rfl rfl hky2.1 hky2.2 ⟨none, 0, 0, rfl, Lm.nil _ _, below_set2 ((bbox (bbox hb1)).trans (hb2.mono (by omega))) (by omega) _ _⟩

set_option maxRecDepth 100000 in
set_option maxHeartbeats 1000000 in
theorem rsqrt_neg (w : World) (A : Option Addr) (n c : Nat) (xs : List Nat) (h : Lm w w.heap.size A n c xs) (hc : chk true xs = 0) :
    Calls Tryd.prog 14 #[.agg #[.bool true, .slice A n c]] w (RW w false [] 2) := by
  have HH := Lib.hid h
  have HC := Lib.hid hc
  clear hc
  go_enter Tryd.func14, Tryd.ntmps14
  go_wp2_with fail
  refine (rcheck_ok _ _ _ _ _ _ ((HH.out.box _).box _) HC.out).mono ?_
  rintro e w1 ⟨rfl, hb1⟩
  have ⟨hx0, hx1, hy0, hy1, hf0, hf1, hsz⟩ := box2 hb1
  go_wp2
  exact post_ws Tryd.results14 rfl rfl hy0 hy1 ⟨none, 0, 0, rfl, Lm.nil _ _, below_set2 (bbox (bbox hb1)) (by omega) _ _⟩

set_option maxRecDepth 100000 in
set_option maxHeartbeats 1000000 in
theorem rsqrt_zero (w : World) (A : Option Addr) (c : Nat) (h : Lm w w.heap.size A 0 c []) :
    Calls Tryd.prog 14 #[.agg #[.bool false, .slice A 0 c]] w (RW w false [] 0) := by
  have HH := Lib.hid h
  go_enter Tryd.func14, Tryd.ntmps14
  have hcc := HH.out.cap
  have hcx := HH.out.max
  go_wp2_with fail
  refine (rcheck_ok _ _ _ _ _ _ ((HH.out.box _).box _) (by decide)).mono ?_
  rintro e w1 ⟨rfl, hb1⟩
  have ⟨hx0, hx1, hy0, hy1, hf0, hf1, hsz⟩ := box2 hb1
  have HL := Lib.hid (((HH.out.box _).box _).via hb1)
  go_wp2
  exact post_ws Tryd.results14 rfl rfl hy0 hy1 ⟨A, 0, c, rfl, HL.out.set2 hy0 hy1 _ _, below_set2 (bbox (bbox hb1)) (by omega) _ _⟩

set_option maxRecDepth 100000 in
set_option maxHeartbeats 2000000 in
theorem rsqrt_ok (w : World) (A : Option Addr) (n c v : Nat) (h : Lm w w.heap.size A n c (digs v)) (hc : chk false (digs v) = 0) (hv : 0 < v) :
    Calls Tryd.prog 14 #[.agg #[.bool false, .slice A n c]] w fun e w' => ∃ r, IsRt v r ∧ RW w false (digs r) 0 e w' := by
  have HH := Lib.hid h
  have HC := Lib.hid hc
  have hl4 := (chk_ok.1 hc).1
  have HL4 := Lib.hid hl4
  have hn4 : n ≤ 4096 := by rw [← h.len]; exact hl4
  have hn0 : 0 < n := by rw [← h.len, digs_pos]; exact hv
  have hnz : ((n : Int) == 0) = false := by simp; omega
  have hcA := h.cap
  have hxA := h.max
  have HV := Lib.hid hv
  have HLS := Lib.hid (lenS_pos hv)
  have hls : lenS (digs v) ≤ 131072 := by
    unfold lenS
    rw [if_neg (by rw [h.len]; omega), h.len]
    have := bitLen32 _ ((digs_good v).get (n - 1))
    omega
  clear h hc hl4 hv
  go_enter Tryd.func14, Tryd.ntmps14
  go_wp2_with fail
  refine (rcheck_ok _ _ _ _ _ _ ((HH.out.box _).box _) HC.out).mono ?_
  rintro e w1 ⟨rfl, hb1⟩
  have P0 := Lib.hid (((Pr.new w _ rfl (.bool false) (.slice A n c) 24).alloc (.cells #[.bool false, .slice none 0 0] 24)).via hb1)
  have P1 := Lib.hid ((Pr.new (w.alloc (.cells #[.bool false, .slice A n c] 24)) (w.heap.size + 1) (by simp) (.bool false) (.slice none 0 0) 24).via hb1)
  have L1 := Lib.hid (((HH.out.box _).box _).via hb1)
  have B1 := Lib.hid (bbox (bbox hb1))
  clear hb1
  have ⟨a0, a1, _, _, _⟩ := P0.out
  go_wp2_with fail
  refine (rbits_ok _ _ _ _ _ _ L1.out HC.out).mono ?_
  rintro e w2 ⟨rfl, hb2⟩
  have Q0 := Lib.hid (P0.out.via hb2)
  have Q1 := Lib.hid (P1.out.via hb2)
  have M1 := Lib.hid (L1.out.via hb2)
  have C1 := Lib.hid (B1.out.trans (hb2.mono B1.out.size))
  clear hb2 P0 P1 L1 B1 a0 a1
  generalize hLS : lenS (digs v) = ls at *
  go_wp2_with fail
  refine (rfrom_any _ 1 (by omega) (by omega)).mono ?_
  rintro e w3 ⟨A3, n3, c3, rfl, hL3, hb3⟩
  have P0 := Lib.hid (Q0.out.via hb3)
  have P1 := Lib.hid (Q1.out.via hb3)
  have L1 := Lib.hid (M1.out.via hb3)
  have B1 := Lib.hid (C1.out.trans (hb3.mono C1.out.size))
  have L3 := Lib.hid hL3
  clear hb3 hL3 Q0 Q1 M1 C1
  have HKK : Hid (((ls : Int) + 1) / 2 = (((ls + 1) / 2 : Nat) : Int)) := by show _ = _; omega
  have hk6 : (ls + 1) / 2 ≤ 65536 := by omega
  have HNS : Hid (v < (2 ^ ((ls + 1) / 2) + 1) * (2 ^ ((ls + 1) / 2) + 1)) := newt_start HLS.out.2.2
  have HTL := Lib.hid (two_len _ hk6)
  have HTP : Hid (0 < 2 ^ ((ls + 1) / 2)) := Nat.pow_pos (by omega)
  have hd1 : decide ((1 : Int) < 0) = false := rfl
  clear HLS
  go_wp2_with fail
  rw [HKK.out]
  refine (rshift_one _ _ _ _ _ L3.out hk6).mono ?_
  rintro e w4 ⟨A4, n4, c4, rfl, hL4, hb4⟩
  have Q0 := Lib.hid ((P0.out.via hb4).alloc (.cells #[.bool false, .slice A4 n4 c4] 24))
  have Q1 := Lib.hid ((P1.out.via hb4).alloc (.cells #[.bool false, .slice A4 n4 c4] 24))
  have M1 := Lib.hid ((L1.out.via hb4).box (.cells #[.bool false, .slice A4 n4 c4] 24))
  have C1 := Lib.hid ((B1.out.trans (hb4.mono B1.out.size)).alloc (B1.out.trans (hb4.mono B1.out.size)).size (.cells #[.bool false, .slice A4 n4 c4] 24))
  have M4 := Lib.hid (hL4.box (.cells #[.bool false, .slice A4 n4 c4] 24))
  have Q4 := Lib.hid (Pr.new w4 _ rfl (.bool false) (.slice A4 n4 c4) 24)
  have hg7 : w.heap.size + 1 < w4.heap.size := (P1.out.via hb4).lt
  clear hb4 hL4 P0 P1 L1 B1 L3 HKK hd1 hls hk6
  generalize 2 ^ ((ls + 1) / 2) = X0 at *
  go_wp2
  generalize w4.alloc (.cells #[.bool false, .slice A4 n4 c4] 24) = W4 at *
  generalize w4.heap.size = g at *
  go_loopw [8] (fun _ wr => ∃ (x : Nat) (A' : Option Addr) (n' c' : Nat), Pr wr g (.bool false) (.slice A' n' c') ∧ Lm wr wr.heap.size A' n' c' (digs x) ∧ 0 < x ∧ v < (x + 1) * (x + 1) ∧ (digs x).length ≤ 4096 ∧
      Pr wr w.heap.size (.bool false) (.slice A n c) ∧ Pr wr (w.heap.size + 1) (.bool false) (.slice none 0 0) ∧ Lm wr wr.heap.size A n c (digs v) ∧ Below w.heap.size w wr) (fun _ wr => rdB wr g)
  case atStart => exact ⟨X0, A4, n4, c4, Q4.out, M4.out, HTP.out, HNS.out, HTL.out, Q0.out, Q1.out, M1.out, C1.out⟩
  case round =>
    obtain ⟨x, A', n', c', hP, hX, hx0, hxv, hxl, hP0, hP1, hL, hB⟩ := hrel
    have hn' : n' ≤ 4096 := by rw [← hX.len]; exact hxl
    have hn0' : 0 < n' := by rw [← hX.len, digs_pos]; exact hx0
    have HP := Lib.hid hP
    have HX := Lib.hid hX
    have HX0 := Lib.hid hx0
    have HXV := Lib.hid hxv
    have HXL := Lib.hid hxl
    have HP0 := Lib.hid hP0
    have HP1 := Lib.hid hP1
    have HL := Lib.hid hL
    have HB := Lib.hid hB
    have HR := Lib.hid (rdB_pr hP hX)
    clear hP hX hx0 hxv hxl hP0 hP1 hL hB Q0 Q1 M1 C1 M4 Q4 HNS HTL HTP
    have ⟨p0, p1, _, _, _⟩ := HP.out
    have ⟨a0, a1, _, _, _⟩ := HP0.out
    have hxc := HX.out.cap
    have hxm := HX.out.max
    go_wp2_with fail
    refine (rover_any _ A A' n n' c c' v x HL.out HX.out HX0.out (by omega)).mono ?_
    rintro e w5 ⟨Q, cq, R, cr, rfl, hQ, hR, hb5⟩
    have hlq : (digs (v / x)).length ≤ 4096 := Nat.le_trans (digs_mono (Nat.div_le_self v x)) HL4.out
    have hcq := hQ.cap
    have hxq := hQ.max
    have hcr := hR.cap
    have hxr := hR.max
    have LQ := Lib.hid hQ
    have KP := Lib.hid (HP.out.via hb5)
    have KX := Lib.hid (HX.out.via hb5)
    have KP0 := Lib.hid (HP0.out.via hb5)
    have KP1 := Lib.hid (HP1.out.via hb5)
    have KL := Lib.hid (HL.out.via hb5)
    have KB := Lib.hid (HB.out.trans (hb5.mono HB.out.size))
    have HLQ := Lib.hid hlq
    clear hQ hR hb5 HP HX HP0 HP1 HL HB p0 p1 a0 a1 hlq
    have ⟨p0, p1, _, _, _⟩ := KP.out
    go_wp2_with fail
    refine (rplus_any _ Q A' _ n' cq c' (max (digs (v / x)).length n') (digs (v / x)) (digs x) (v / x + x) LQ.out KX.out rfl (by have := HLQ.out; omega) (by rw [digs_val, digs_val])).mono ?_
    rintro e w6 ⟨A6, c6, ts, rfl, hL6, hv6, hb6⟩
    have hc6 := hL6.cap
    have hx6 := hL6.max
    have L6 := Lib.hid hL6
    have HV6 := Lib.hid hv6
    have HP := Lib.hid (KP.out.via hb6)
    have HX := Lib.hid (KX.out.via hb6)
    have HP0 := Lib.hid (KP0.out.via hb6)
    have HP1 := Lib.hid (KP1.out.via hb6)
    have HL := Lib.hid (KL.out.via hb6)
    have HB := Lib.hid (KB.out.trans (hb6.mono KB.out.size))
    clear hL6 hv6 hb6 KP KX KP0 KP1 KL KB LQ p0 p1
    have HN9 : Hid (max (digs (v / x)).length n' + 1 ≤ 1000000) := by show _ ≤ _; have := HLQ.out; omega
    have HN1 : Hid (1 < max (digs (v / x)).length n' + 1) := by show _ < _; omega
    generalize max (digs (v / x)).length n' + 1 = N6 at *
    have HC6 : Hid (0 ≤ cmpL ts (digs 2)) := by
      show 0 ≤ _
      have h1 := L6.out.len
      have h2 := HN1.out
      have h3 : (digs 2).length = 1 := by decide
      unfold cmpL
      rw [if_neg (by omega), if_pos (by omega)]
      decide
    go_wp2_with fail
    refine (rover_one _ A6 _ N6 c6 1 2 (v / x + x) ts (L6.out.box _) (Lm.loneE _ _ _ rfl 2 _ rfl (by omega)) HV6.out HC6.out HN9.out).mono ?_
    rintro e w7 ⟨H, ch, R7, cr7, rfl, hH, hR7, hb7⟩
    have B7 := bbox hb7
    have KP := Lib.hid (HP.out.via B7)
    have KX := Lib.hid (HX.out.via B7)
    have KP0 := Lib.hid (HP0.out.via B7)
    have KP1 := Lib.hid (HP1.out.via B7)
    have KL := Lib.hid (HL.out.via B7)
    have KB := Lib.hid (HB.out.trans (B7.mono HB.out.size))
    have hch := hH.cap
    have hxh := hH.max
    have hcr7 := hR7.cap
    have hxr7 := hR7.max
    have LH := Lib.hid hH
    have HNX := Lib.hid (newt_next (v := v) HX0.out)
    have HNE := Lib.hid (newt_end (v := v) (x := x) HXV.out)
    have HNP := Lib.hid (newt_pos (v := v) (x := x) HV.out HX0.out)
    clear hH hR7 hb7 B7 HP HX HP0 HP1 HL HB L6 HV6 HN9 HN1 HC6
    obtain ⟨h, hh⟩ : ∃ h, (v / x + x) / 2 = h := ⟨_, rfl⟩
    rw [hh] at LH HNX HNE HNP hch ⊢
    have ⟨p0, p1, _, _, _⟩ := KP.out
    go_wp2_with fail
    refine (rcompare_any H A' _ n' ch c' (digs h) (digs x) w7 LH.out KX.out).mono ?_
    rintro e w8 ⟨he, d, rfl⟩
    rw [cmpL_norm (digs_good _) (digs_good _) (digs_norm _) (digs_norm _), digs_val, digs_val] at he
    have HP := Lib.hid (KP.out.drewN d)
    have HX := Lib.hid (KX.out.drewN d)
    have HP0 := Lib.hid (KP0.out.drewN d)
    have HP1 := Lib.hid (KP1.out.drewN d)
    have HL := Lib.hid (KL.out.drewN d)
    have HB := Lib.hid (bdrewN KB.out d)
    have LH8 := Lib.hid (LH.out.drewN d)
    clear KP KX KP0 KP1 KL KB LH p0 p1 hh
    generalize w7.drewN d = w8 at *
    have ⟨p0, p1, f0, f1, _⟩ := HP.out
    have ⟨r0, r1, rf0, rf1, _⟩ := HP1.out
    by_cases hlt : h < x
    · rw [cmpN_lt hlt] at he
      subst he
      have HLT := Lib.hid hlt
      have hhl : (digs h).length ≤ 4096 := Nat.le_trans (digs_mono (Nat.le_of_lt hlt)) HXL.out
      have E1 : Hid (mkN false h = false) := by show _ = _; unfold mkN; simp
      have E2 : Hid (mkL h = digs h) := by show _ = _; unfold mkL; rw [if_pos hhl]
      have E3 : Hid (mkE h = 0) := by show _ = _; unfold mkE; rw [if_pos hhl]
      have HHL := Lib.hid hhl
      clear hhl hlt
      go_wp2_with fail
      refine (rmade_any _ _ _ _ _ _ h LH8.out (digs_val h) (by have := HHL.out; omega)).mono ?_
      rintro e w9 ⟨A9, n9, c9, rfl, hL9, hb9⟩
      rw [E1.out, E3.out]
      rw [E2.out] at hL9
      have L9 := Lib.hid hL9
      have KP := Lib.hid (HP.out.via hb9)
      have KP0 := Lib.hid (HP0.out.via hb9)
      have KP1 := Lib.hid (HP1.out.via hb9)
      have KL := Lib.hid (HL.out.via hb9)
      have KB := Lib.hid (HB.out.trans (hb9.mono HB.out.size))
      clear hL9 hb9 HP HX HP0 HP1 HL HB LH8 p0 p1 f0 f1 r0 r1 rf0 rf1
      have ⟨p0, p1, f0, f1, _⟩ := KP.out
      go_wp2
      go_roundw
      case rel =>
        exact ⟨h, A9, n9, c9, KP.out.set _ _, L9.out.setP KP.out _ _, HNP.out, HNX.out, HHL.out, KP0.out.far (by omega) _ _, KP1.out.far (by omega) _ _, KL.out.setP KP.out _ _, below_set2 KB.out (by omega) _ _⟩
      case measure =>
        rw [HR.out, rdB_pr (KP.out.set _ _) (L9.out.setP KP.out _ _)]
        exact HLT.out
    · have hge : 0 ≤ cmpN h x := by unfold cmpN; rw [if_neg hlt]; split <;> decide
      have HI := Lib.hid (HNE.out (by omega))
      clear HNE
      generalize cmpN h x = cz at *
      subst he
      clear hlt
      go_wp2
      exact post_ws Tryd.results14 rfl rfl r0 r1 ⟨x, HI.out, A', n', c', rfl, HX.out.setP HP1.out _ _, below_set2 HB.out (by omega) _ _⟩
end Go.Proofs.YtkajmglpmdhmnaaDoor

/-
  The contracts of both sides for any number, valid or not: what the functions of the chapter return, as functions of the number's reading.
-/
namespace Go.Proofs.YtkajmglpmdhmnaaDoor
open Go.RowKit

def intVT (neg : Bool) (xs : List Nat) : Int := if chk neg xs = 0 then intV neg (val xs) else 0
def intET (neg : Bool) (xs : List Nat) : Int := if chk neg xs = 0 then intE neg (val xs) else 8
def unN (neg' neg : Bool) (xs : List Nat) : Bool := if chk neg xs = 0 then mkN neg' (val xs) else false
def unL (neg : Bool) (xs : List Nat) : List Nat := if chk neg xs = 0 then mkL (val xs) else []
def unE (neg : Bool) (xs : List Nat) : Int := if chk neg xs = 0 then mkE (val xs) else 8
def cmpVT (na : Bool) (xs : List Nat) (nb : Bool) (ys : List Nat) : Int := if chkB na xs nb ys = 0 then cmpZ (toI na (val xs)) (toI nb (val ys)) else 0
def cmpET (na : Bool) (xs : List Nat) (nb : Bool) (ys : List Nat) : Int := if chkB na xs nb ys = 0 then 0 else 8
def signVT (neg : Bool) (xs : List Nat) : Int := if chk neg xs = 0 then signZ neg (val xs) else 0
def errT (neg : Bool) (xs : List Nat) : Int := if chk neg xs = 0 then 0 else 8
def bitsVT (neg : Bool) (xs : List Nat) : Int := if chk neg xs = 0 then (lenS xs : Int) else 0
theorem not_zero {x : Int} (h : x = 8) : ¬ x = 0 := by omega

theorem int_t (w : World) (neg : Bool) (A : Option Addr) (n c : Nat) (xs : List Nat) (h : Lm w w.heap.size A n c xs) :
    Calls Tryd.prog 24 #[.agg #[.bool neg, .slice A n c]] w fun e w' => e = .returned (.tuple #[.int .i64 (intVT neg xs), .int .i64 (intET neg xs)]) ∧ Below w.heap.size w w' := by
  unfold intVT intET
  rcases chk_cases neg xs with hc | hc
  · rw [if_pos hc, if_pos hc]
    exact int_ok w neg A n c xs _ h hc rfl
  · rw [if_neg (not_zero hc), if_neg (not_zero hc)]
    exact int_bad w neg A n c xs h hc

theorem rbits_t (w : World) (neg : Bool) (A : Option Addr) (n c : Nat) (xs : List Nat) (h : Lm w w.heap.size A n c xs) :
    Calls Tryd.prog 47 #[.agg #[.bool neg, .slice A n c]] w fun e w' => e = .returned (.tuple #[.int .i64 (bitsVT neg xs), .int .i64 (errT neg xs)]) ∧ Below w.heap.size w w' := by
  unfold bitsVT errT
  rcases chk_cases neg xs with hc | hc
  · rw [if_pos hc, if_pos hc]
    exact rbits_ok w neg A n c xs h hc
  · rw [if_neg (not_zero hc), if_neg (not_zero hc)]
    exact rbits_bad w neg A n c xs h hc

theorem rsame_self (w : World) (na : Bool) (A B : Option Addr) (n m ca cb : Nat) (xs : List Nat) (hA : Lm w w.heap.size A n ca xs) (hB : Lm w w.heap.size B m cb xs) :
    Calls Tryd.prog 15 #[.agg #[.bool na, .slice A n ca], .agg #[.bool na, .slice B m cb]] w fun e w' => e = .returned (.bool true) ∧ Below w.heap.size w w' :=
  (rsame_any w na na A B n m ca cb xs xs hA hB).mono fun _ _ ⟨he, hb⟩ => ⟨by rw [he, sameB_self], hb⟩

end Go.Proofs.YtkajmglpmdhmnaaDoor

/- Both sides of Gcd, Shift, Pow and Sqrt return the same, whatever the numbers: valid or not. -/
namespace Go.Proofs.YtkajmglpmdhmnaaDoor
open Go.RowKit

theorem shift_both (na : Bool) (xs : List Nat) (gx : Good xs) (k : Int) : ∃ g l e, (∀ (w : World) (A : Option Addr) (n ca : Nat), Lm w w.heap.size A n ca xs → TabD w → Calls Tryd.prog 9 #[.agg #[.bool na, .slice A n ca], .int .i64 k] w (RW w g l e)) ∧ (∀ (w : World) (A : Option Addr) (n ca : Nat), Lm w w.heap.size A n ca xs → Calls Tryd.prog 10 #[.agg #[.bool na, .slice A n ca], .int .i64 k] w (RW w g l e)) := by
  rcases chk_cases na xs with hc | hc
  · by_cases hk : k < -131072 ∨ 131072 < k
    · exact ⟨_, _, _, fun w A n ca hA _ => shift_arg w na A n ca xs k hA hc hk, fun w A n ca hA => rshift_arg w na A n ca xs k hA hc hk⟩
    · have e1 := chk_digs hc gx
      rw [e1] at hc ⊢
      generalize val xs = v at *
      by_cases h0 : 0 ≤ k
      · obtain ⟨j, rfl⟩ := Int.eq_ofNat_of_zero_le h0
        exact ⟨_, _, _, fun w A n ca hA _ => shift_up w na A n ca v j hA hc (by omega), fun w A n ca hA => rshift_up w na A n ca v j hA hc (by omega)⟩
      · obtain ⟨j, hj⟩ : ∃ j : Nat, k = -(j : Int) := ⟨k.natAbs, by omega⟩
        refine ⟨mkN na (DWN na v j), mkL (DWN na v j), mkE (DWN na v j), fun w A n ca hA hT => ?_, fun w A n ca hA => rshift_down w na A n ca v j k hA hc hj (by omega) (by omega)⟩
        cases na
        · have e : DWN false v j = v / 2 ^ j := by unfold DWN; rw [if_neg (by simp)]
          rw [e]
          exact shift_down_pos w A n ca v j k hA hc hj (by omega) (by omega)
        · by_cases hz : v % 2 ^ j = 0
          · have e : DWN true v j = v / 2 ^ j := by unfold DWN; rw [if_neg (fun h => by have := h.2; omega)]
            rw [e]
            exact shift_down_even w A n ca v j k hA hc hj (by omega) (by omega) hT hz
          · have e : DWN true v j = v / 2 ^ j + 1 := by unfold DWN; rw [if_pos ⟨rfl, by omega⟩]
            rw [e]
            exact shift_down_lost w A n ca v j k hA hc hj (by omega) (by omega) hT hz
  · exact ⟨_, _, _, fun w A n ca hA _ => shift_bad w na A n ca xs k hA hc, fun w A n ca hA => rshift_bad w na A n ca xs k hA hc⟩
theorem pow_both (na : Bool) (xs : List Nat) (gx : Good xs) (k : Int) : ∃ g l e, (∀ (w : World) (A : Option Addr) (n ca : Nat), Lm w w.heap.size A n ca xs → Calls Tryd.prog 11 #[.agg #[.bool na, .slice A n ca], .int .i64 k] w (RW w g l e)) ∧ (∀ (w : World) (A : Option Addr) (n ca : Nat), Lm w w.heap.size A n ca xs → Calls Tryd.prog 12 #[.agg #[.bool na, .slice A n ca], .int .i64 k] w (RW w g l e)) := by
  rcases chk_cases na xs with hc | hc
  · by_cases hk : k < 0 ∨ 1000 < k
    · exact ⟨_, _, _, fun w A n ca hA => pow_arg w na A n ca xs k hA hc hk, fun w A n ca hA => rpow_arg w na A n ca xs k hA hc hk⟩
    · obtain ⟨j, rfl⟩ := Int.eq_ofNat_of_zero_le (show 0 ≤ k by omega)
      obtain ⟨z, hz, rfl, hsz⟩ := of_chk hc gx (k := 4096) (chk_ok.1 hc).1
      refine ⟨_, _, _, fun w A n ca hA => pow_ok w A n ca j z hA hsz.len (by omega) hz.symm, fun w A n ca hA => rpow_ok w A n ca j z hA hsz.len (by omega) hz.symm⟩
  · exact ⟨_, _, _, fun w A n ca hA => pow_bad w na A n ca xs k hA hc, fun w A n ca hA => rpow_bad w na A n ca xs k hA hc⟩
theorem rt_uniq {v r s : Nat} (h : IsRt v r) (h2 : IsRt v s) : r = s := by
  have h3 : ∀ {a b : Nat}, IsRt v a → IsRt v b → a ≤ b := by
    intro a b ha hb
    refine Nat.le_of_not_lt fun hlt => ?_
    have h5 : (b + 1) * (b + 1) ≤ a * a := Nat.mul_le_mul hlt hlt
    exact Nat.lt_irrefl _ (Nat.lt_of_lt_of_le hb.2 (Nat.le_trans h5 ha.1))
  exact Nat.le_antisymm (h3 h h2) (h3 h2 h)
theorem rt_ex (v : Nat) : ∃ r, IsRt v r := by
  induction v with
  | zero => exact ⟨0, rt_zero⟩
  | succ v ih =>
    obtain ⟨r, h1, h2⟩ := ih
    rcases Nat.lt_or_ge (v + 1) ((r + 1) * (r + 1)) with h | h
    · exact ⟨r, by omega, h⟩
    · refine ⟨r + 1, h, ?_⟩
      have h3 : (r + 1) * (r + 1) ≤ (r + 1 + 1) * (r + 1 + 1) := Nat.mul_le_mul (by omega) (by omega)
      have h4 : (r + 1 + 1) * (r + 1 + 1) = (r + 1) * (r + 1) + 2 * (r + 1) + 1 := by grind
      omega
theorem sqrt_both (na : Bool) (xs : List Nat) (gx : Good xs) : ∃ g l e, (∀ (w : World) (A : Option Addr) (n ca : Nat), Lm w w.heap.size A n ca xs → Calls Tryd.prog 13 #[.agg #[.bool na, .slice A n ca]] w (RW w g l e)) ∧ (∀ (w : World) (A : Option Addr) (n ca : Nat), Lm w w.heap.size A n ca xs → Calls Tryd.prog 14 #[.agg #[.bool na, .slice A n ca]] w (RW w g l e)) := by
  rcases chk_cases na xs with hc | hc
  · cases na
    · have e1 := chk_digs hc gx
      rw [e1] at hc ⊢
      generalize val xs = v at *
      obtain ⟨r, hr⟩ := rt_ex v
      refine ⟨false, digs r, 0, fun w A n ca hA => (sqrt_ok w A n ca v hA hc).mono fun e w' h => ?_, fun w A n ca hA => ?_⟩
      · obtain ⟨r2, h2, h3⟩ := h
        rw [rt_uniq h2 hr] at h3
        exact h3
      · rcases Nat.eq_zero_or_pos v with h0 | h0
        · subst h0
          obtain rfl : n = 0 := hA.len.symm
          rw [rt_uniq hr rt_zero]
          exact rsqrt_zero w A ca hA
        · refine (rsqrt_ok w A n ca v hA hc h0).mono fun e w' h => ?_
          obtain ⟨r2, h2, h3⟩ := h
          rw [rt_uniq h2 hr] at h3
          exact h3
    · exact ⟨_, _, _, fun w A n ca hA => sqrt_neg w A n ca xs hA hc, fun w A n ca hA => rsqrt_neg w A n ca xs hA hc⟩
  · exact ⟨_, _, _, fun w A n ca hA => sqrt_bad w na A n ca xs hA hc, fun w A n ca hA => rsqrt_bad w na A n ca xs hA hc⟩
end Go.Proofs.YtkajmglpmdhmnaaDoor

/- The walk of the law WideMore. -/
namespace Go.Proofs.YtkajmglpmdhmnaaDoor
open Go.RowKit

theorem btr {a b c : World} (h : Below a.heap.size a b) (h' : Below b.heap.size b c) : Below a.heap.size a c := h.trans (h'.mono h.size)

set_option maxRecDepth 100000 in
set_option maxHeartbeats 2000000 in
theorem more_small (w : World) (na nb : Bool) (A B : Option Addr) (n m ca cb : Nat) (xs ys : List Nat) (k q : Int) (hA : Lm w w.heap.size A n ca xs) (hB : Lm w w.heap.size B m cb ys)
    (hga : greatB n = false) (hgb : greatB m = false) (hT : TabD w) :
    Calls Tryd.prog 3 #[.agg #[.bool na, .slice A n ca], .agg #[.bool nb, .slice B m cb], .int .i64 k, .int .i64 q] w fun e w' => e = .returned (.bool true) ∧ Below w.heap.size w w' := by
  obtain ⟨g1, l1, e1, c1, r1⟩ := gcd_both na nb xs ys hA.good hB.good
  obtain ⟨g2, l2, e2, c2, r2⟩ := shift_both na xs hA.good k
  obtain ⟨g3, l3, e3, c3, r3⟩ := pow_both na xs hA.good q
  obtain ⟨g4, l4, e4, c4, r4⟩ := sqrt_both na xs hA.good
  have C1 := Lib.hid c1
  have C2 := Lib.hid c2
  have C3 := Lib.hid c3
  have C4 := Lib.hid c4
  have R1 := Lib.hid r1
  have R2 := Lib.hid r2
  have R3 := Lib.hid r3
  have R4 := Lib.hid r4
  have HA := Lib.hid hA
  have HB := Lib.hid hB
  have HT := Lib.hid hT
  have h1 := hA.cap
  have h2 := hA.max
  have h3 := hB.cap
  have h4 := hB.max
  have HGA := Lib.hid hga
  have HGB := Lib.hid hgb
  clear hA hB hga hgb hT c1 c2 c3 c4 r1 r2 r3 r4
  go_enter Tryd.func3, Tryd.ntmps3
  go_wp2_with fail
  refine (great_any _ _ _ _ _ h1 h2).mono ?_
  rintro e w1 ⟨rfl, hb1⟩
  have S1 := Lib.hid (bbox (bbox hb1))
  have PA := Lib.hid (((Pr.new w _ rfl (.bool na) (.slice A n ca) 24).alloc _).via hb1)
  have PB := Lib.hid ((Pr.new (w.alloc (.cells #[.bool na, .slice A n ca] 24)) (w.heap.size + 1) (by simp) (.bool nb) (.slice B m cb) 24).via hb1)
  have LA := Lib.hid (((HA.out.box _).box _).via hb1)
  have LB := Lib.hid (((HB.out.box _).box _).via hb1)
  have TD := Lib.hid (((HT.out.box _).box _).via hb1)
  clear hb1 HA HB HT
  rw [HGA.out]
  have ⟨PB_0, PB_1, _, _, PB_l⟩ := PB.out
  go_wp2_with fail
  refine (great_any _ _ _ _ _ h3 h4).mono ?_
  rintro e w2 ⟨rfl, hb2⟩
  have S2 := Lib.hid hb2
  clear PB_0 PB_1 PB_l
  clear hb2
  rw [HGB.out]
  have ⟨PA_0, PA_1, _, _, PA_l⟩ := (PA.out.via S2.out)
  have ⟨PB_0, PB_1, _, _, PB_l⟩ := (PB.out.via S2.out)
  go_wp2_with fail
  refine (C1.out _ _ _ _ _ _ _ (LA.out.via S2.out) (LB.out.via S2.out)).mono ?_
  rintro e w3 ⟨A1, n1, c1, rfl, hL1, hb3⟩
  have S3 := Lib.hid hb3
  clear PA_0 PA_1 PA_l
  clear PB_0 PB_1 PB_l
  clear hb3
  have L1' := hL1
  clear hL1
  have ⟨PA_0, PA_1, _, _, PA_l⟩ := (PA.out.via (btr S2.out S3.out))
  have ⟨PB_0, PB_1, _, _, PB_l⟩ := (PB.out.via (btr S2.out S3.out))
  go_wp2_with fail
  refine (R1.out _ _ _ _ _ _ _ ((LA.out.via (btr S2.out S3.out)).box _) ((LB.out.via (btr S2.out S3.out)).box _)).mono ?_
  rintro e w4 ⟨A2, n2, c2, rfl, hL2, hb4⟩
  have S4 := Lib.hid (bbox hb4)
  have P1 := Lib.hid ((Pr.new _ _ rfl _ _ _).via hb4)
  have L1 := Lib.hid ((L1'.box _).via hb4)
  clear L1'
  clear PA_0 PA_1 PA_l
  clear PB_0 PB_1 PB_l
  clear hb4
  have L2' := hL2
  clear hL2
  have ⟨PA_0, PA_1, _, _, PA_l⟩ := (PA.out.via (btr (btr S2.out S3.out) S4.out))
  go_wp2_with fail
  refine (C2.out _ _ _ _ ((LA.out.via (btr (btr S2.out S3.out) S4.out)).box _) ((TD.out.via (btr (btr S2.out S3.out) S4.out)).box _)).mono ?_
  rintro e w5 ⟨A3, n3, c3, rfl, hL3, hb5⟩
  have S5 := Lib.hid (bbox hb5)
  have P2 := Lib.hid ((Pr.new _ _ rfl _ _ _).via hb5)
  have L2 := Lib.hid ((L2'.box _).via hb5)
  clear L2'
  clear PA_0 PA_1 PA_l
  clear hb5
  have L3' := hL3
  clear hL3
  have ⟨PA_0, PA_1, _, _, PA_l⟩ := (PA.out.via (btr (btr (btr S2.out S3.out) S4.out) S5.out))
  go_wp2_with fail
  refine (R2.out _ _ _ _ ((LA.out.via (btr (btr (btr S2.out S3.out) S4.out) S5.out)).box _)).mono ?_
  rintro e w6 ⟨A4, n4, c4, rfl, hL4, hb6⟩
  have S6 := Lib.hid (bbox hb6)
  have P3 := Lib.hid ((Pr.new _ _ rfl _ _ _).via hb6)
  have L3 := Lib.hid ((L3'.box _).via hb6)
  clear L3'
  clear PA_0 PA_1 PA_l
  clear hb6
  have L4' := hL4
  clear hL4
  have ⟨PA_0, PA_1, _, _, PA_l⟩ := (PA.out.via (btr (btr (btr (btr S2.out S3.out) S4.out) S5.out) S6.out))
  go_wp2_with fail
  refine (C3.out _ _ _ _ ((LA.out.via (btr (btr (btr (btr S2.out S3.out) S4.out) S5.out) S6.out)).box _)).mono ?_
  rintro e w7 ⟨A5, n5, c5, rfl, hL5, hb7⟩
  have S7 := Lib.hid (bbox hb7)
  have P4 := Lib.hid ((Pr.new _ _ rfl _ _ _).via hb7)
  have L4 := Lib.hid ((L4'.box _).via hb7)
  clear L4'
  clear PA_0 PA_1 PA_l
  clear hb7
  have L5' := hL5
  clear hL5
  have ⟨PA_0, PA_1, _, _, PA_l⟩ := (PA.out.via (btr (btr (btr (btr (btr S2.out S3.out) S4.out) S5.out) S6.out) S7.out))
  go_wp2_with fail
  refine (R3.out _ _ _ _ ((LA.out.via (btr (btr (btr (btr (btr S2.out S3.out) S4.out) S5.out) S6.out) S7.out)).box _)).mono ?_
  rintro e w8 ⟨A6, n6, c6, rfl, hL6, hb8⟩
  have S8 := Lib.hid (bbox hb8)
  have P5 := Lib.hid ((Pr.new _ _ rfl _ _ _).via hb8)
  have L5 := Lib.hid ((L5'.box _).via hb8)
  clear L5'
  clear PA_0 PA_1 PA_l
  clear hb8
  have L6' := hL6
  clear hL6
  have ⟨PA_0, PA_1, _, _, PA_l⟩ := (PA.out.via (btr (btr (btr (btr (btr (btr S2.out S3.out) S4.out) S5.out) S6.out) S7.out) S8.out))
  go_wp2_with fail
  refine (C4.out _ _ _ _ ((LA.out.via (btr (btr (btr (btr (btr (btr S2.out S3.out) S4.out) S5.out) S6.out) S7.out) S8.out)).box _)).mono ?_
  rintro e w9 ⟨A7, n7, c7, rfl, hL7, hb9⟩
  have S9 := Lib.hid (bbox hb9)
  have P6 := Lib.hid ((Pr.new _ _ rfl _ _ _).via hb9)
  have L6 := Lib.hid ((L6'.box _).via hb9)
  clear L6'
  clear PA_0 PA_1 PA_l
  clear hb9
  have L7' := hL7
  clear hL7
  have ⟨PA_0, PA_1, _, _, PA_l⟩ := (PA.out.via (btr (btr (btr (btr (btr (btr (btr S2.out S3.out) S4.out) S5.out) S6.out) S7.out) S8.out) S9.out))
  go_wp2_with fail
  refine (R4.out _ _ _ _ ((LA.out.via (btr (btr (btr (btr (btr (btr (btr S2.out S3.out) S4.out) S5.out) S6.out) S7.out) S8.out) S9.out)).box _)).mono ?_
  rintro e w10 ⟨A8, n8, c8, rfl, hL8, hb10⟩
  have S10 := Lib.hid (bbox hb10)
  have P7 := Lib.hid ((Pr.new _ _ rfl _ _ _).via hb10)
  have L7 := Lib.hid ((L7'.box _).via hb10)
  clear L7'
  clear PA_0 PA_1 PA_l
  clear hb10
  have L8' := hL8
  clear hL8
  have ⟨P1_0, P1_1, _, _, P1_l⟩ := (P1.out.via (btr (btr (btr (btr (btr S5.out S6.out) S7.out) S8.out) S9.out) S10.out))
  have ⟨P2_0, P2_1, _, _, P2_l⟩ := (P2.out.via (btr (btr (btr (btr S6.out S7.out) S8.out) S9.out) S10.out))
  go_wp2_with fail
  refine (rsame_self _ _ _ _ _ _ _ _ _ ((L1.out.via (btr (btr (btr (btr (btr S5.out S6.out) S7.out) S8.out) S9.out) S10.out)).box _) ((L2.out.via (btr (btr (btr (btr S6.out S7.out) S8.out) S9.out) S10.out)).box _)).mono ?_
  rintro e w11 ⟨rfl, hb11⟩
  have S11 := Lib.hid (bbox hb11)
  have P8 := Lib.hid ((Pr.new _ _ rfl _ _ _).via hb11)
  have L8 := Lib.hid ((L8'.box _).via hb11)
  clear L8'
  clear P1_0 P1_1 P1_l
  clear P2_0 P2_1 P2_l
  clear hb11
  have ⟨P3_0, P3_1, _, _, P3_l⟩ := (P3.out.via (btr (btr (btr (btr S7.out S8.out) S9.out) S10.out) S11.out))
  have ⟨P4_0, P4_1, _, _, P4_l⟩ := (P4.out.via (btr (btr (btr S8.out S9.out) S10.out) S11.out))
  go_wp2_with fail
  refine (rsame_self _ _ _ _ _ _ _ _ _ (L3.out.via (btr (btr (btr (btr S7.out S8.out) S9.out) S10.out) S11.out)) (L4.out.via (btr (btr (btr S8.out S9.out) S10.out) S11.out))).mono ?_
  rintro e w12 ⟨rfl, hb12⟩
  have S12 := Lib.hid hb12
  clear P3_0 P3_1 P3_l
  clear P4_0 P4_1 P4_l
  clear hb12
  have ⟨P5_0, P5_1, _, _, P5_l⟩ := (P5.out.via (btr (btr (btr S9.out S10.out) S11.out) S12.out))
  have ⟨P6_0, P6_1, _, _, P6_l⟩ := (P6.out.via (btr (btr S10.out S11.out) S12.out))
  go_wp2_with fail
  refine (rsame_self _ _ _ _ _ _ _ _ _ (L5.out.via (btr (btr (btr S9.out S10.out) S11.out) S12.out)) (L6.out.via (btr (btr S10.out S11.out) S12.out))).mono ?_
  rintro e w13 ⟨rfl, hb13⟩
  have S13 := Lib.hid hb13
  clear P5_0 P5_1 P5_l
  clear P6_0 P6_1 P6_l
  clear hb13
  have ⟨P7_0, P7_1, _, _, P7_l⟩ := (P7.out.via (btr (btr S11.out S12.out) S13.out))
  have ⟨P8_0, P8_1, _, _, P8_l⟩ := (P8.out.via (btr S12.out S13.out))
  go_wp2_with fail
  refine (rsame_self _ _ _ _ _ _ _ _ _ (L7.out.via (btr (btr S11.out S12.out) S13.out)) (L8.out.via (btr S12.out S13.out))).mono ?_
  rintro e w14 ⟨rfl, hb14⟩
  have S14 := Lib.hid hb14
  clear P7_0 P7_1 P7_l
  clear P8_0 P8_1 P8_l
  clear hb14
  go_wp2
  go_ret
  exact ⟨rfl, btr S1.out (btr (btr (btr (btr (btr (btr (btr (btr (btr (btr (btr (btr S2.out S3.out) S4.out) S5.out) S6.out) S7.out) S8.out) S9.out) S10.out) S11.out) S12.out) S13.out) S14.out)⟩
end Go.Proofs.YtkajmglpmdhmnaaDoor

namespace Go.Proofs.YtkajmglpmdhmnaaDoor
open Go.ChangeShapes Go.WideShapes Go.ChangeAt Go.RowKit

theorem more_great (w : World) (na nb : Bool) (A B : Option Addr) (n m ca cb : Nat) (xs ys : List Nat) (k q : Int) (hA : Lm w w.heap.size A n ca xs) (hB : Lm w w.heap.size B m cb ys)
    (hg : greatB n = true ∨ greatB m = true) :
    Calls Tryd.prog 3 #[.agg #[.bool na, .slice A n ca], .agg #[.bool nb, .slice B m cb], .int .i64 k, .int .i64 q] w fun e w' => e = .returned (.bool true) ∧ Below w.heap.size w w' := by
  have h1 := hA.cap
  have h2 := hA.max
  have h3 := hB.cap
  have h4 := hB.max
  clear hA hB
  by_cases ha : greatB n = true
  · have HGA := Lib.hid ha
    clear ha hg
    go_enter Tryd.func3, Tryd.ntmps3
    go_wp2_with fail
    refine (great_any _ _ _ _ _ h1 h2).mono ?_
    rintro e w1 ⟨rfl, hb1⟩
    rw [HGA.out]
    go_wp2
    go_ret
    exact ⟨rfl, bbox (bbox hb1)⟩
  · have HGA : Hid (greatB n = false) := by show _ = _; simpa using ha
    have HGB : Hid (greatB m = true) := by rcases hg with h | h; exact absurd h ha; exact h
    clear ha hg
    go_enter Tryd.func3, Tryd.ntmps3
    go_wp2_with fail
    refine (great_any _ _ _ _ _ h1 h2).mono ?_
    rintro e w1 ⟨rfl, hb1⟩
    have ⟨ax0, ax1, ay0, ay1, _, _, hlt⟩ := box2 hb1
    rw [HGA.out]
    go_wp2_with fail
    refine (great_any _ _ _ _ _ h3 h4).mono ?_
    rintro e w2 ⟨rfl, hb2⟩
    rw [HGB.out]
    go_wp2
    go_ret
    exact ⟨rfl, (bbox (bbox hb1)).trans (hb2.mono (by omega))⟩

theorem more_any (w : World) (na nb : Bool) (A B : Option Addr) (n m ca cb : Nat) (xs ys : List Nat) (hA : Lm w w.heap.size A n ca xs) (hB : Lm w w.heap.size B m cb ys) (k : Int) (_ : (Lit.int .i64 k).wf = true) (q : Int) (_ : (Lit.int .i64 q).wf = true) (hD : TabD w) :
    Calls Tryd.prog 3 #[.agg #[.bool na, .slice A n ca], .agg #[.bool nb, .slice B m cb], .int .i64 k, .int .i64 q] w fun e w' => e = .returned (.bool true) ∧ Below w.heap.size w w' := by
  by_cases ha : greatB n = true
  · exact more_great w na nb A B n m ca cb xs ys k q hA hB (.inl ha)
  · by_cases hb : greatB m = true
    · exact more_great w na nb A B n m ca cb xs ys k q hA hB (.inr hb)
    · exact more_small w na nb A B n m ca cb xs ys k q hA hB (by simpa using ha) (by simpa using hb) hD

/-- The one table that this law reads. -/
def laid1 : List (String × DataW Unit) := [("math/bits.deBruijn32tab", Rows.laid_math_bits_deBruijn32tab)]
theorem tab1_of {W : World} (h : laidMetH Tryd.prog laid1 W) : TabD W := by
  rw [MakeChecks.laidMetH_plain _ _ _ (by kernel_rfl)] at h
  exact tabD_of h
theorem door_met1 (os : Os) (args : Array Value) : laidMetH Tryd.prog laid1 ((World.doorLaid Tryd.prog 24 os).forCall (fun _ _ => 0) ⟨#[], args, []⟩).memory :=
  laidMetH_of_parts3 (fuel := 8) (laidMet_of_run' 8 (by kernel_rfl) (by kernel_rfl)) (by kernel_rfl) (by kernel_rfl)

set_option maxRecDepth 100000 in
theorem wideMore_lifted (os : Os) (started : os.Started) (H : Type) (enc : TypeId × Value → H) :
    ReturnsInHanded {} Tryd.checked os 3 .any (fun w args => (Rows.wideMoreSpec.pre enc Tryd.prog Tryd.f3 [] false w args ∧ laidMetH Tryd.prog laid1 w) ∧ sizedMet enc Tryd.prog Tryd.f3 (OpenSpec.ofChange Rows.wideMoreSpec) false w args)
      (Rows.wideMoreSpec.post enc Tryd.prog Tryd.f3 false true false false) := by
  refine returnsInHanded_of_change_and (C := Tryd.checked) (X := fun w _ => laidMetH Tryd.prog laid1 w) (fun _ _ _ hh h => h.of_heap hh) own started (by kernel_rfl) Tryd.func3
    (ChangeSpec.witness_shaped (enc := enc) (C := Tryd.checked) (os := os) (X := fun w _ => laidMetH Tryd.prog laid1 w) false (World.doorLaid Tryd.prog 24 os) #[.agg #[.bool false, .slice none 0 0], .agg #[.bool false, .slice none 0 0], .int .i64 0, .int .i64 0] 8 rfl (World.shaped_of_RefB (by kernel_rfl) (by kernel_rfl)) (by kernel_rfl) (by kernel_rfl) (by kernel_rfl) (door_met1 os _)) ?_
  intro W base args ds gs before hval0 hW _ _ hL _
  have hTD := tab1_of hL
  have hval : ∀ (j : Nat) t v, Tryd.f3.params[j]? = some t → args[j]? = some v → Value.okWide Tryd.prog W .any base t v := hval0
  have hW' := hW
  obtain ⟨p, q, hA0, hV, rfl, hfz, hnd⟩ := hW
  have hA : DataW.TrodAll enc Tryd.prog W 0 (fun _ => true) true Tryd.f3.params.toList args.toList ds p := hA0
  rw [Tryd.params3] at hA hval
  obtain ⟨v0, v1, v2, v3, d0, d1, d2, d3, p0, p1, p2, p3, rfl, rfl, rfl, h0, h1, h2, h3⟩ := trodAll_four hA
  obtain ⟨rfl, rfl⟩ := trodVars_none hV
  clear hA0 hval0
  simp only [List.append_nil] at hW'
  obtain ⟨k2, rfl, rfl, rfl, wk2⟩ := open_int Tryd.underlying3 (hval 2 3 v2 rfl rfl) h2
  obtain ⟨k3, rfl, rfl, rfl, wk3⟩ := open_int Tryd.underlying3 (hval 3 3 v3 rfl rfl) h3
  try (simp only [List.append_nil] at hW')
  try (simp only [List.nil_append] at hW')
  try (simp only [List.append_assoc] at hW')
  have hlt : ∀ x ∈ p0 ++ p1, x.block < W.heap.size := fun x hx => by simpa using hW'.lt x hx
  have hlt0 : ∀ x ∈ p0, x.block < W.heap.size := fun x hx => hlt x (List.mem_append_left _ hx)
  have hlt1 : ∀ x ∈ p1, x.block < W.heap.size := fun x hx => hlt x (List.mem_append_right _ hx)
  obtain ⟨na, A, n, ca, xs, rfl, hLA⟩ := open_wide (hval 0 24 v0 rfl rfl) h0 hlt0
  obtain ⟨nb, B, m, cb, ys, rfl, hLB⟩ := open_wide (hval 1 24 v1 rfl rfl) h1 hlt1
  refine (more_any W na nb A B n m ca cb xs ys hLA hLB k2 wk2 k3 wk3 hTD).mono fun e W' ⟨he, hb⟩ => ?_
  subst he
  exact ⟨_, rfl, _, _, _, [], p0 ++ p1, [], hW', trodAll_mk1 (shut_bool Tryd.underlying4 _),
    (by have e := trodAll_mk4 (Below.trod laidOut (by kernel_rfl) (of_decide_eq_true (by kernel_rfl)) h0 hb hlt0) (Below.trod laidOut (by kernel_rfl) (of_decide_eq_true (by kernel_rfl)) h1 hb hlt1) (shut_int Tryd.underlying3 wk2) (shut_int Tryd.underlying3 wk3); (try (simp only [List.append_nil] at e)); (try (simp only [List.nil_append] at e)); exact e), rfl, hb.frame _, fun h => by cases h⟩

theorem wideMore_row : Rows.WideMoreSaid :=
  OpenClaim.holds_of_wide 3 Tryd.f3 rfl rfl rfl rfl rfl rfl rfl ⟨rfl, rfl, rfl, rfl, rfl⟩ rfl rfl rfl rfl rfl (by kernel_rfl) Tryd.func3 (by kernel_rfl)
    (of_decide_eq_true (by kernel_rfl)) (by unfold Func.isWrapper; first | (rw [if_pos (by decide +kernel)]; kernel_rfl) | (rw [if_neg (by decide +kernel)]; exact ⟨rfl, rfl⟩))
    (fun os started H enc _ => wideMore_lifted os started H enc)

theorem wideMore_holds : Rows.WideMoreCardSaid :=
  Claim7.holds_tied_plain_at .later [] [.data] true (Rows.wideMoreCard.stood.harness) false
    wideMore_row (fun _ h => by cases h) (by kernel_rfl) (fun _ h => by cases h) wideMore_row_tie rfl ⟨rfl, rfl⟩ (by kernel_rfl) rfl
    (fun f fn hf hfn => by
      obtain rfl : f = 3 := Option.some.inj ((show Tryd.prog.funcNamed "planisphere/planispherelaw01.WideMore" = some 3 by kernel_rfl).symm.trans hf) |>.symm
      obtain rfl : fn = Tryd.f3 := (Option.some.inj (Tryd.func3.symm.trans hfn)).symm
      exact ⟨by kernel_rfl, fun j t ht => by
        rw [Tryd.params3] at ht
        have hm : t ∈ [24, 24, 3, 3] := by simpa using Array.mem_of_getElem? ht
        have hall : ([24, 24, 3, 3].all fun u => !Tryd.prog.wantsStandIn u) = true := by kernel_rfl
        exact (show Tryd.prog.wantsStandIn t = false by simpa using List.all_eq_true.1 hall t hm)⟩)
    (by kernel_rfl)
end Go.Proofs.YtkajmglpmdhmnaaDoor

