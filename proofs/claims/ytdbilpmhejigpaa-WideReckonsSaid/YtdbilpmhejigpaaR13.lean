/- The reference's left and short. -/
import Derived.Test.YtdbilpmhejigpaaR12
import Derived.Test.YtdbilpmhejigpaaDvd
namespace Go.Proofs.Ytdbilpmhejigpaa
open Go.RowKit

/-- .. in a block of its own. -/
def RLo (w : World) (N v : Nat) (e : Ending) (w' : World) : Prop := ∃ A c ts, e = .returned (.slice A N c) ∧ Ow w' w.heap.size (.slice A N c) ts ∧ Good ts ∧ ts.length = N ∧ val ts = v ∧ Below w.heap.size w w'

set_option maxRecDepth 100000 in
set_option maxHeartbeats 1000000 in
theorem rleft_own (w : World) (A : Option Addr) (n c s : Nat) (xs : List Nat) (v : Nat) (hA : Lm w w.heap.size A n c xs) (hn : n ≤ 100000000) (hs32 : s < 32) (hv : val xs * 2 ^ s = v) :
    Calls Try.prog 62 #[.slice A n c, .int .u64 (s : Int)] w (RLo w (n + 1) v) := by
  have h1 := hA.cap
  have h2 := hA.max
  have HA := Lib.hid hA
  have HV := Lib.hid hv
  clear hA hv
  go_enter Try.func62, Try.ntmps62
  go_wp2
  go_loopw [5, 6, 7] (fun u cy i wr => ∃ k : Nat, k ≤ n ∧ i = .int .i64 k ∧ cy = .int .u64 ((mulK [] xs (2 ^ s) k).2 : Nat) ∧ Ow wr w.heap.size u (mulK [] xs (2 ^ s) k).1 ∧ Below w.heap.size w wr) (fun _ _ i _ => n - (intOf i).toNat)
  case atStart => exact ⟨0, Nat.zero_le _, rfl, rfl, Ow.nil _ _, Below.refl _ _⟩
  case round =>
    obtain ⟨k, hk, rfl, rfl, hO, hb⟩ := hrel
    have HO := Lib.hid hO
    have HBl := Lib.hid hb
    clear hO hb
    have hp31 : 2 ^ s ≤ 2147483648 := Nat.pow_le_pow_right (by omega) (show s ≤ 31 by omega)
    have hcy := shl_carry HA.out.good hp31 k
    have HLn := Lib.hid (mulK_len [] xs (2 ^ s) k)
    have hc32 : (mulK [] xs (2 ^ s) k).2 < 4294967296 := by omega
    clear hcy
    by_cases hlt : k < n
    · obtain ⟨b, bo, rfl, hbb, hcx⟩ := (HA.out.below HBl.out).cell hlt
      have hxg := HA.out.good.get k
      have hmx : xs[k]?.getD 0 * 2 ^ s ≤ 4294967295 * 2147483648 := Nat.mul_le_mul (by omega) hp31
      obtain ⟨S, hS⟩ : ∃ S : Nat, S = (mulK [] xs (2 ^ s) k).2 + (xs[k]?.getD 0 * 2 ^ s + 0) := ⟨_, rfl⟩
      have HX : Hid (IntKind.u64.wrap ((((mulK [] xs (2 ^ s) k).2 : Nat) : Int) + IntKind.u64.wrap (((xs[k]?.getD 0 : Nat) : Int) * 2 ^ s)) = (S : Int)) := by
        show _ = _
        rw [cast_shl, Nat.mul_comm, wrap_nat, Nat.mod_eq_of_lt (by omega), IntKind.wrap_u64]
        omega
      have HS : Hid (mulK [] xs (2 ^ s) (k + 1) = ((mulK [] xs (2 ^ s) k).1 ++ [S % 4294967296], S / 4294967296)) := by show _ = _; rw [hS]; rfl
      clear hS
      have hSb : S < 18446744073709551616 := by have := HX.out; rw [IntKind.wrap_u64] at this; omega
      go_wp2_with (at_builtin; refine wpList_append_u32 _ rfl _ _ rfl w.heap.size _ _ rfl HO.out _ (S % 4294967296) 1 (by rw [HX.out]; omega) (by have := HLn.out; omega) HBl.out.size rfl ?_; intro u' w1 hO1 hg1)
      go_roundw
      case rel =>
        refine ⟨k + 1, by omega, by go_num, ?_, hO1.eq ?_, HO.out.below HBl.out HBl.out.size hg1⟩
        · rw [HX.out, HS.out]
          exact congrArg (Value.int IntKind.u64) (Int.natCast_ediv _ _).symm
        · rw [HS.out]
      case measure => simp [intOf]; omega
    · obtain rfl : k = n := by omega
      have hgd : Hid (Good ((mulK [] xs (2 ^ s) k).1 ++ [(mulK [] xs (2 ^ s) k).2])) := (mulK_good _ _ _ _).append (Good.nil.cons hc32)
      have hlen : Hid (((mulK [] xs (2 ^ s) k).1 ++ [(mulK [] xs (2 ^ s) k).2]).length = k + 1) := by show _ = _; rw [List.length_append, HLn.out]; rfl
      have hvs : Hid (val ((mulK [] xs (2 ^ s) k).1 ++ [(mulK [] xs (2 ^ s) k).2]) = v) := by
        show _ = _
        have e := mulK_val [] xs (2 ^ s) k
        rw [val_snoc, mulK_len, e, List.take_of_length_le (by rw [HA.out.len]; exact Nat.le_refl _), ← HV.out]
        simp only [List.take_nil, val_nil, Nat.add_zero]
      go_wp2_with (at_builtin; refine wpList_append_u32 _ rfl _ _ rfl w.heap.size _ _ rfl HO.out _ ((mulK [] xs (2 ^ s) k).2) 1 (by omega) (by have := HLn.out; omega) HBl.out.size rfl ?_; intro u1 w1 hO1 hg1)
      go_ret
      obtain ⟨A1, c1, rfl, hL1⟩ := hO1.lm hgd.out
      rw [hlen.out] at hL1 hO1 ⊢
      exact ⟨A1, c1, _, rfl, hO1, hgd.out, hlen.out, hvs.out, HO.out.below HBl.out HBl.out.size hg1⟩

set_option maxRecDepth 100000 in
set_option maxHeartbeats 1000000 in
theorem rshort_any (w : World) (A : Option Addr) (n c d : Nat) (xs : List Nat) (v : Nat) (hA : Lm w w.heap.size A n c xs) (hn : n ≤ 100000000) (hd : 0 < d) (hd9 : d < 4294967296) (hv : val xs = v) :
    Calls Try.prog 61 #[.slice A n c, .int .u32 (d : Int)] w (RD w (v / d) (v % d)) := by
  have h1 := hA.cap
  have h2 := hA.max
  have hG := hA.good
  have hn' := hA.len
  have HA := Lib.hid hA
  have HV := Lib.hid hv
  have hd0 : ¬ ((d : Int) = 0) := by omega
  clear hA hv
  have hmk := fun w => run_make_u32 (n : Int) (n : Int) n rfl rfl (by omega) w
  go_enter Try.func61, Try.ntmps61
  go_wp2
  clear hmk
  go_loopw [7, 8] (fun r i wr => ∃ k : Nat, k ≤ n ∧ i = .int .i64 ((k : Int) - 1) ∧ r = .int .u64 ((dvL d (xs.drop k)).2 : Nat) ∧ Ld wr w.heap.size (zer k ++ (dvL d (xs.drop k)).1) ∧ Below w.heap.size w wr) (fun _ i _ => (intOf i + 1).toNat)
  case atStart => exact ⟨n, Nat.le_refl _, rfl, by rw [List.drop_of_length_le (by omega)]; rfl, by rw [List.drop_of_length_le (by omega)]; show Ld _ _ (zer n ++ []); rw [List.append_nil]; exact Ld.new _ _, (Below.refl _ _).alloc (Nat.le_refl _) _⟩
  case round =>
    obtain ⟨k, hk, rfl, rfl, hO, hb⟩ := hrel
    have HO := Lib.hid hO
    have HBl := Lib.hid hb
    have hgs := hO.lt
    clear hO hb
    have hlen : (zer k ++ (dvL d (xs.drop k)).1).length = n := by rw [List.length_append, dvL_len, zer_len, List.length_drop]; omega
    have HLen := Lib.hid hlen
    have hr := dvL_lt hd (xs.drop k)
    rcases k with _ | k
    · have HQ := Lib.hid (dvL_quot hd xs)
      have HGq := Lib.hid (dvL_good hd hG)
      have HL : Hid (Lm wr wr.heap.size (some ⟨w.heap.size, 0, none⟩) n n (dvL d xs).1) := by
        have e := HO.out.lm (by rw [List.drop_zero]; exact (zer_good 0).append HGq.out) (off := 0) (n := n) (c := n) (by omega) (Nat.le_refl _) (by omega)
        rw [List.drop_zero, List.take_of_length_le (by omega)] at e
        exact e
      have HVq : Hid (val (dvL d xs).1 = v / d) := by show _ = _; rw [HQ.out.1, HV.out]
      have HVr : Hid (val [(dvL d xs).2] = v % d) := by show _ = _; rw [val_one, HQ.out.2, HV.out]
      rw [List.drop_zero] at hr ⊢
      clear hlen hn'
      go_wp2_with fail
      refine (rtrim_any _ _ _ _ _ (v / d) HL.out HVq.out (by omega)).mono ?_
      rintro e w1 ⟨A1, c1, rfl, hL1, hb1⟩
      have HL1 := Lib.hid hL1
      have HB1 := Lib.hid (HBl.out.trans (hb1.mono HBl.out.size))
      clear hL1 hb1
      go_wp2_with fail
      refine (rtrim_any _ _ _ _ _ (v % d) (Lm.one w1 (dvL d xs).2 _ (by omega) (by omega)) HVr.out (by omega)).mono ?_
      rintro e w2 ⟨A2, c2, rfl, hL2, hb2⟩
      go_wp2
      go_ret2
      exact ⟨A1, c1, A2, c2, rfl, HL1.out.via (bbox hb2), hL2, HB1.out.trans ((bbox hb2).mono HB1.out.size)⟩
    · have hct := HO.out.cell (i := k) (by omega)
      have hfr := HO.out.frozen k
      obtain ⟨b, bo, rfl, hbb, hcx⟩ := (HA.out.below HBl.out).cell (k := k) (by omega)
      have hxg := hG.get k
      have HStep : Hid (dvL d (xs.drop k) = (((dvL d (xs.drop (k + 1))).2 * 4294967296 + xs[k]?.getD 0) / d :: (dvL d (xs.drop (k + 1))).1, ((dvL d (xs.drop (k + 1))).2 * 4294967296 + xs[k]?.getD 0) % d)) := by
        show _ = _
        rw [drop_cons_ xs k (by omega)]; rfl
      have hq : ((dvL d (xs.drop (k + 1))).2 * 4294967296 + xs[k]?.getD 0) / d < 4294967296 := by
        rw [Nat.div_lt_iff_lt_mul hd]
        have : ((dvL d (xs.drop (k + 1))).2 + 1) * 4294967296 ≤ d * 4294967296 := Nat.mul_le_mul_right _ hr
        omega
      obtain ⟨T, hT⟩ : ∃ T : Nat, T = (dvL d (xs.drop (k + 1))).2 * 4294967296 + xs[k]?.getD 0 := ⟨_, rfl⟩
      have hTi : (((dvL d (xs.drop (k + 1))).2 : Nat) : Int) * 4294967296 + ((xs[k]?.getD 0 : Nat) : Int) = (T : Int) := by rw [hT]; omega
      rw [← hT] at hq HStep
      have hT9 : T < 18446744073709551616 := by omega
      clear hT hlen hn'
      have HQ : Hid (IntKind.u64.wrap ((T : Int) / (d : Int)) % 4294967296 = ((T / d : Nat) : Int)) := by
        show _ = _
        rw [← Int.natCast_ediv, wrap_nat]
        generalize T / d = q at hq ⊢
        omega
      have HR : Hid ((T : Int) % (d : Int) = ((T % d : Nat) : Int)) := by
        show _ = _
        rw [← Int.natCast_emod]
      go_wp2
      go_roundw
      case rel =>
        refine ⟨k, by omega, by go_num, ?_, ?_, HBl.out.setCell (p := ⟨w.heap.size, k, none⟩) (Nat.le_refl _) _⟩
        · rw [HStep.out]
          exact congrArg (Value.int IntKind.u64) HR.out
        · rw [HQ.out, HStep.out]
          have e := HO.out.set_ k (T / d)
          have e2 : (zer (k + 1) ++ (dvL d (xs.drop (k + 1))).1).set k (T / d) = zer k ++ (T / d :: (dvL d (xs.drop (k + 1))).1) := by
            have e3 := set_mid (zer k) [] ([0] ++ (dvL d (xs.drop (k + 1))).1) (T / d) (by simp)
            rw [zer_len] at e3
            have e4 : zer (k + 1) = zer k ++ [0] := by unfold zer; exact List.replicate_succ'
            rw [e4, List.append_assoc]
            exact e3
          rw [e2] at e
          exact e
      case measure => simp [intOf]
end Go.Proofs.Ytdbilpmhejigpaa
