/- The reference's plus and minus. -/
import Derived.Test.YtdbilpmhejigpaaR6
import Derived.Test.YtdbilpmhejigpaaLeft
namespace Go.Proofs.Ytdbilpmhejigpaa
open Go.RowKit

/-- A call returns limbs, just N of them, that stand for v. -/
def RL (w : World) (N v : Nat) (e : Ending) (w' : World) : Prop := ∃ A c ts, e = .returned (.slice A N c) ∧ Lm w' w'.heap.size A N c ts ∧ val ts = v ∧ Below w.heap.size w w'
theorem getD_over {xs : List Nat} {k : Nat} (h : xs.length ≤ k) : xs[k]?.getD 0 = 0 := by rw [List.getElem?_eq_none h]; rfl

set_option maxRecDepth 100000 in
set_option maxHeartbeats 1000000 in
theorem rplus_any (w : World) (A B : Option Addr) (n m ca cb N : Nat) (xs ys : List Nat) (v : Nat) (hA : Lm w w.heap.size A n ca xs) (hB : Lm w w.heap.size B m cb ys) (hN : N = max n m) (hn : N ≤ 100000000) (hv : val xs + val ys = v) :
    Calls Try.prog 54 #[.slice A n ca, .slice B m cb] w (RL w (N + 1) v) := by
  have h1 := hA.cap
  have h2 := hA.max
  have h3 := hB.cap
  have h4 := hB.max
  have hN1 : n ≤ N := by omega
  have hN2 : m ≤ N := by omega
  have HN := Lib.hid hN
  have HA := Lib.hid hA
  have HB := Lib.hid hB
  have HV := Lib.hid hv
  clear hA hB hv hN
  go_enter Try.func54, Try.ntmps54
  go_wp2
  go_loopw [5, 6, 7] (fun u cy i wr => ∃ k : Nat, k ≤ N ∧ i = .int .i64 k ∧ cy = .int .u64 ((addK xs ys k).2 : Nat) ∧ Ow wr w.heap.size u (addK xs ys k).1 ∧ Below w.heap.size w wr) (fun _ _ i _ => N - (intOf i).toNat)
  case atStart => exact ⟨0, Nat.zero_le _, rfl, rfl, Ow.nil _ _, Below.refl _ _⟩
  case round =>
    obtain ⟨k, hk, rfl, rfl, hO, hb⟩ := hrel
    have hcy := addK_carry HA.out.good HB.out.good k
    have HLn := Lib.hid (addK_len xs ys k)
    have hgx := HA.out.good.get k
    have hgy := HB.out.good.get k
    have HS : Hid (addK xs ys (k + 1) = ((addK xs ys k).1 ++ [((addK xs ys k).2 + (xs[k]?.getD 0 + ys[k]?.getD 0)) % 4294967296], ((addK xs ys k).2 + (xs[k]?.getD 0 + ys[k]?.getD 0)) / 4294967296)) := (rfl : _ = _)
    have HO := Lib.hid hO
    have HBl := Lib.hid hb
    clear hO hb
    by_cases hlt : k < N
    · have HR : Hid (∀ (u' : Value) (w1 : World) (E : Int), E = (((addK xs ys k).2 + (xs[k]?.getD 0 + ys[k]?.getD 0) : Nat) : Int) → Ow w1 w.heap.size u' ((addK xs ys k).1 ++ [((addK xs ys k).2 + (xs[k]?.getD 0 + ys[k]?.getD 0)) % 4294967296]) → Below w.heap.size w w1 →
          ∃ k' : Nat, k' ≤ N ∧ Value.int .i64 ((k : Int) + 1) = .int .i64 k' ∧ Value.int .u64 (E / 4294967296) = .int .u64 ((addK xs ys k').2 : Nat) ∧ Ow w1 w.heap.size u' (addK xs ys k').1 ∧ Below w.heap.size w w1) := by
        intro u' w1 E hE h5 h6
        refine ⟨k + 1, by omega, by go_num, ?_, ?_, h6⟩
        · rw [HS.out, hE]
          exact congrArg (Value.int IntKind.u64) (Int.natCast_ediv _ _).symm
        · rw [HS.out]; exact h5
      by_cases ha : k < n
      · obtain ⟨b, bo, rfl, hbb, hcx⟩ := (HA.out.below HBl.out).cell ha
        by_cases hm : k < m
        · obtain ⟨b', bo', rfl, hbb', hcy'⟩ := (HB.out.below HBl.out).cell hm
          go_wp2_with (at_builtin; refine wpList_append_u32 _ rfl _ _ rfl w.heap.size _ _ rfl HO.out _ (((addK xs ys k).2 + (xs[k]?.getD 0 + ys[k]?.getD 0)) % 4294967296) 1 (by omega) (by have := HLn.out; omega) HBl.out.size rfl ?_; intro u' w1 hO1 hg1)
          go_roundw
          case rel => exact HR.out _ _ _ (by omega) hO1 (HO.out.below HBl.out HBl.out.size hg1)
          case measure => simp [intOf]; omega
        · have HZ := Lib.hid (getD_over (xs := ys) (k := k) (by rw [HB.out.len]; omega))
          go_wp2_with (at_builtin; refine wpList_append_u32 _ rfl _ _ rfl w.heap.size _ _ rfl HO.out _ (((addK xs ys k).2 + (xs[k]?.getD 0 + ys[k]?.getD 0)) % 4294967296) 1 (by have := HZ.out; omega) (by have := HLn.out; omega) HBl.out.size rfl ?_; intro u' w1 hO1 hg1)
          go_roundw
          case rel => exact HR.out _ _ _ (by have := HZ.out; omega) hO1 (HO.out.below HBl.out HBl.out.size hg1)
          case measure => simp [intOf]; omega
      · have hm : k < m := by have := HN.out; omega
        obtain ⟨b', bo', rfl, hbb', hcy'⟩ := (HB.out.below HBl.out).cell hm
        have HZ := Lib.hid (getD_over (xs := xs) (k := k) (by rw [HA.out.len]; omega))
        go_wp2_with (at_builtin; refine wpList_append_u32 _ rfl _ _ rfl w.heap.size _ _ rfl HO.out _ (((addK xs ys k).2 + (xs[k]?.getD 0 + ys[k]?.getD 0)) % 4294967296) 1 (by have := HZ.out; omega) (by have := HLn.out; omega) HBl.out.size rfl ?_; intro u' w1 hO1 hg1)
        go_roundw
        case rel => exact HR.out _ _ _ (by have := HZ.out; omega) hO1 (HO.out.below HBl.out HBl.out.size hg1)
        case measure => simp [intOf]; omega
    · obtain rfl : k = N := by omega
      have ha : ¬ k < n := by omega
      have hm : ¬ k < m := by omega
      have HVs : Hid (val ((addK xs ys k).1 ++ [(addK xs ys k).2]) = v) := by
        show _ = _
        rw [val_snoc, addK_len, addK_val, List.take_of_length_le (by rw [HA.out.len]; omega), List.take_of_length_le (by rw [HB.out.len]; omega), HV.out]
      have HG : Hid (Good ((addK xs ys k).1 ++ [(addK xs ys k).2])) := (addK_good _ _ _).append (Good.nil.cons (by omega))
      go_wp2_with (at_builtin; refine wpList_append_u32 _ rfl _ _ rfl w.heap.size _ _ rfl HO.out _ ((addK xs ys k).2) 1 (by omega) (by have := HLn.out; omega) HBl.out.size rfl ?_; intro u' w1 hO1 hg1)
      go_ret
      obtain ⟨A1, c1, rfl, hL1⟩ := hO1.lm HG.out
      have hlen : ((addK xs ys k).1 ++ [(addK xs ys k).2]).length = k + 1 := by rw [List.length_append, HLn.out]; rfl
      rw [hlen] at hL1 ⊢
      exact ⟨A1, c1, _, rfl, hL1, HVs.out, HO.out.below HBl.out HBl.out.size hg1⟩


set_option maxRecDepth 100000 in
set_option maxHeartbeats 1000000 in
theorem rminus_any (w : World) (A B : Option Addr) (n m ca cb : Nat) (xs ys : List Nat) (v : Nat) (hA : Lm w w.heap.size A n ca xs) (hB : Lm w w.heap.size B m cb ys) (hge : m ≤ n) (hn : n ≤ 100000000) (hle : val ys ≤ val xs) (hv : val xs - val ys = v) :
    Calls Try.prog 55 #[.slice A n ca, .slice B m cb] w fun e w' => ∃ A' c', e = .returned (.slice A' (digs v).length c') ∧ Lm w' w'.heap.size A' (digs v).length c' (digs v) ∧ Below w.heap.size w w' := by
  have h1 := hA.cap
  have h2 := hA.max
  have h3 := hB.cap
  have h4 := hB.max
  have HA := Lib.hid hA
  have HB := Lib.hid hB
  have HV := Lib.hid hv
  have HLe := Lib.hid hle
  clear hA hB hv hle
  go_enter Try.func55, Try.ntmps55
  go_wp2
  go_loopw [5, 6, 7] (fun u cy i wr => ∃ k : Nat, k ≤ n ∧ i = .int .i64 k ∧ cy = .int .i64 ((subK xs ys k).2 : Nat) ∧ Ow wr w.heap.size u (subK xs ys k).1 ∧ Below w.heap.size w wr) (fun _ _ i _ => n - (intOf i).toNat)
  case atStart => exact ⟨0, Nat.zero_le _, rfl, rfl, Ow.nil _ _, Below.refl _ _⟩
  case round =>
    obtain ⟨k, hk, rfl, rfl, hO, hb⟩ := hrel
    have hcy := subK_carry xs ys k
    have HLn := Lib.hid (subK_len xs ys k)
    have hgx := HA.out.good.get k
    have hgy := HB.out.good.get k
    have HS : Hid (subK xs ys (k + 1) = ((subK xs ys k).1 ++ [(xs[k]?.getD 0 + 8589934592 - ys[k]?.getD 0 - (subK xs ys k).2) % 4294967296], if xs[k]?.getD 0 < ys[k]?.getD 0 + (subK xs ys k).2 then 1 else 0)) := (rfl : _ = _)
    have HO := Lib.hid hO
    have HBl := Lib.hid hb
    clear hO hb
    by_cases hlt : k < n
    · have HR : Hid (∀ (u' : Value) (w1 : World) (E : Int), E = ((if xs[k]?.getD 0 < ys[k]?.getD 0 + (subK xs ys k).2 then 1 else 0 : Nat) : Int) → Ow w1 w.heap.size u' ((subK xs ys k).1 ++ [(xs[k]?.getD 0 + 8589934592 - ys[k]?.getD 0 - (subK xs ys k).2) % 4294967296]) → Below w.heap.size w w1 →
          ∃ k' : Nat, k' ≤ n ∧ Value.int .i64 ((k : Int) + 1) = .int .i64 k' ∧ Value.int .i64 E = .int .i64 ((subK xs ys k').2 : Nat) ∧ Ow w1 w.heap.size u' (subK xs ys k').1 ∧ Below w.heap.size w w1) := by
        intro u' w1 E hE h5 h6
        refine ⟨k + 1, by omega, by go_num, ?_, ?_, h6⟩
        · rw [HS.out, hE]
        · rw [HS.out]; exact h5
      obtain ⟨b, bo, rfl, hbb, hcx⟩ := (HA.out.below HBl.out).cell hlt
      by_cases hm : k < m
      · obtain ⟨b', bo', rfl, hbb', hcy'⟩ := (HB.out.below HBl.out).cell hm
        by_cases hng : xs[k]?.getD 0 < ys[k]?.getD 0 + (subK xs ys k).2
        · have HNg := Lib.hid hng
          have hngi : ((xs[k]?.getD 0 : Nat) : Int) - (((subK xs ys k).2 : Nat) : Int) - ((ys[k]?.getD 0 : Nat) : Int) < 0 := by omega
          go_wp2_with (at_builtin; refine wpList_append_u32 _ rfl _ _ rfl w.heap.size _ _ rfl HO.out _ ((xs[k]?.getD 0 + 8589934592 - ys[k]?.getD 0 - (subK xs ys k).2) % 4294967296) 1 (by omega) (by have := HLn.out; omega) HBl.out.size rfl ?_; intro u' w1 hO1 hg1)
          go_roundw
          case rel => exact HR.out _ _ _ (by rw [if_pos HNg.out]; rfl) hO1 (HO.out.below HBl.out HBl.out.size hg1)
          case measure => simp [intOf]; omega
        · have HNg := Lib.hid hng
          have hngi : 0 ≤ ((xs[k]?.getD 0 : Nat) : Int) - (((subK xs ys k).2 : Nat) : Int) - ((ys[k]?.getD 0 : Nat) : Int) := by omega
          have hngd : decide (((xs[k]?.getD 0 : Nat) : Int) - (((subK xs ys k).2 : Nat) : Int) - ((ys[k]?.getD 0 : Nat) : Int) < 0) = false := by simp; omega
          go_wp2_with (at_builtin; refine wpList_append_u32 _ rfl _ _ rfl w.heap.size _ _ rfl HO.out _ ((xs[k]?.getD 0 + 8589934592 - ys[k]?.getD 0 - (subK xs ys k).2) % 4294967296) 1 (by omega) (by have := HLn.out; omega) HBl.out.size rfl ?_; intro u' w1 hO1 hg1)
          go_roundw
          case rel => exact HR.out _ _ _ (by rw [if_neg HNg.out]; rfl) hO1 (HO.out.below HBl.out HBl.out.size hg1)
          case measure => simp [intOf]; omega
      · have HZ := Lib.hid (getD_over (xs := ys) (k := k) (by rw [HB.out.len]; omega))
        by_cases hng : xs[k]?.getD 0 < ys[k]?.getD 0 + (subK xs ys k).2
        · have HNg := Lib.hid hng
          have hngi : ((xs[k]?.getD 0 : Nat) : Int) - (((subK xs ys k).2 : Nat) : Int) < 0 := by have := HZ.out; omega
          go_wp2_with (at_builtin; refine wpList_append_u32 _ rfl _ _ rfl w.heap.size _ _ rfl HO.out _ ((xs[k]?.getD 0 + 8589934592 - ys[k]?.getD 0 - (subK xs ys k).2) % 4294967296) 1 (by have := HZ.out; omega) (by have := HLn.out; omega) HBl.out.size rfl ?_; intro u' w1 hO1 hg1)
          go_roundw
          case rel => exact HR.out _ _ _ (by rw [if_pos HNg.out]; rfl) hO1 (HO.out.below HBl.out HBl.out.size hg1)
          case measure => simp [intOf]; omega
        · have HNg := Lib.hid hng
          have hngi : 0 ≤ ((xs[k]?.getD 0 : Nat) : Int) - (((subK xs ys k).2 : Nat) : Int) := by have := HZ.out; omega
          have hngd : decide (((xs[k]?.getD 0 : Nat) : Int) - (((subK xs ys k).2 : Nat) : Int) < 0) = false := by have := HZ.out; simp; omega
          go_wp2_with (at_builtin; refine wpList_append_u32 _ rfl _ _ rfl w.heap.size _ _ rfl HO.out _ ((xs[k]?.getD 0 + 8589934592 - ys[k]?.getD 0 - (subK xs ys k).2) % 4294967296) 1 (by have := HZ.out; omega) (by have := HLn.out; omega) HBl.out.size rfl ?_; intro u' w1 hO1 hg1)
          go_roundw
          case rel => exact HR.out _ _ _ (by rw [if_neg HNg.out]; rfl) hO1 (HO.out.below HBl.out HBl.out.size hg1)
          case measure => simp [intOf]; omega
    · obtain rfl : k = n := by omega
      have hvl : Hid (val (subK xs ys k).1 = v) := by
        have e := subK_val HA.out.good HB.out.good k
        have hc1 := subK_carry xs ys k
        have hlt2 := val_lt (subK_good xs ys k)
        rw [subK_len] at hlt2
        rw [List.take_of_length_le (by rw [HB.out.len]; exact hge), List.take_of_length_le (by rw [HA.out.len]; exact Nat.le_refl _)] at e
        have hv := HV.out
        have hle := HLe.out
        show _ = _
        rcases Nat.eq_zero_or_pos (subK xs ys k).2 with h0 | h0
        · rw [h0, Nat.mul_zero] at e
          omega
        · have h2 : (subK xs ys k).2 = 1 := by omega
          rw [h2, Nat.mul_one] at e
          omega
      obtain ⟨A1, c1, rfl, hL1⟩ := HO.out.lm (subK_good xs ys k)
      rw [HLn.out] at hL1 ⊢
      have HL1 := Lib.hid hL1
      clear hL1
      go_wp2_with fail
      refine (rtrim_any _ _ _ _ _ v HL1.out hvl.out (by omega)).mono ?_
      rintro e w2 ⟨A2, c2, rfl, hL2, hb2⟩
      go_wp2
      go_ret
      exact ⟨A2, c2, rfl, hL2, HBl.out.trans (hb2.mono HBl.out.size)⟩

end Go.Proofs.Ytdbilpmhejigpaa
