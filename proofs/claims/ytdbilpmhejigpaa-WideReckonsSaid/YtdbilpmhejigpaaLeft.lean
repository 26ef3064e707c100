/- Slices of the call own making, grown by append; wide.left. -/
import Derived.Test.YtdbilpmhejigpaaAddS
namespace Go.Proofs.Ytdbilpmhejigpaa
open Go.RowKit

/-- A slice of the call's own making, of the numbers ts: nil, or the head of a block of the call's own. -/
def Ow (w : World) (B : Nat) (v : Value) (ts : List Nat) : Prop := w.ownsRow B 63 1 v ts.length (ts.map u32c)
section
variable {w w' : World} {B : Nat} {v : Value} {ts : List Nat}
theorem Ow.nil (w : World) (B : Nat) : Ow w B (.slice none 0 0) [] := World.ownsRow_nil w B _ 1
theorem Ow.made (w : World) (k n : Nat) (hk : k ≤ n) (hn : n ≤ 4000000000) : Ow (w.alloc (.cells ((zer n).map u32c).toArray 63)) w.heap.size (.slice (some ⟨w.heap.size, 0, none⟩) k n) (zer k) :=
  ⟨by simp, .inr ⟨w.heap.size, n, _, by rw [zer_len], Nat.le_refl _, heap_alloc_new w _, by rw [zer_len]; exact hk, by simp only [maxLen]; omega, by simp [zer], by simp [zer]; omega⟩⟩
theorem Ow.lm (h : Ow w B v ts) (g : Good ts) : ∃ A c, v = .slice A ts.length c ∧ Lm w w.heap.size A ts.length c ts := Lm.own h g
theorem Ow.alloc (h : Ow w B v ts) (o : Obj) : Ow (w.alloc o) B v ts := World.ownsRow.alloc h o
theorem Ow.eq {us : List Nat} (h : Ow w B v ts) (e : ts = us) : Ow w B v us := e ▸ h
/-- What lay below is kept by an append. -/
theorem Ow.below {w0 w1 : World} {tmp : Obj} (h : Ow w B v ts) (hb : Below B w0 w) (hB : B ≤ w.heap.size) (hg : (w.alloc tmp).grownBy w1 v.ownBlock) : Below B w0 w1 :=
  (hb.alloc hB tmp).grown hg (by simp; omega) (fun b e => (World.ownsRow.lt h b e).1)
end
theorem wpList_append_u32 (w : World) {ops : Array Oper} {rest : List Oper} {o : Oper} {a : Act} {Q : Exit → Act → World → Prop} (hgd : o.guard = none) (s x : Operand)
    (ho : o.op = .call { callee := .builtin .append, args := #[s, x], argTypes := #[22, 22] })
    (B : Nat) (v : Value) (ts : List Nat) (hs : a.eval s = v) (hown : Ow w B v ts) (E : Int) (y c : Nat) (hE : E = (y : Int)) (hlen : ts.length < 4000000000) (hB : B ≤ w.heap.size)
    (hx : a.eval x = .slice (some ⟨w.heap.size, 0, none⟩) 1 c)
    (h : ∀ v' w', Ow w' B v' (ts ++ [y]) → (w.alloc (.cells #[.int .u32 E] 63)).grownBy w' v.ownBlock → wpList Try.prog ops Q rest (a.put o.dst v') w') :
    wpList Try.prog ops Q (o :: rest) a (w.alloc (.cells #[.int .u32 E] 63)) := by
  subst hE
  obtain ⟨i0, hi0, hz0, hz1, hz2⟩ := info_parts u32_info
  refine wpList_append_own (w.alloc (.cells #[.int .u32 (y : Int)] 63)) hgd s x 22 ho B 63 i0 (.int .u32 0) 1 4 slice_u32 hi0 hz0 hz1 hz2 rfl (by decide) v ts.length _ hs (World.ownsRow.alloc hown _) ⟨w.heap.size, 0, none⟩ 1 c [.int .u32 (y : Int)] hx rfl (cell_one_new w _ _) (by simp [Value.oneCell']) (by simp only [maxLen]; omega) (by omega) (by simp; omega) ?_
  intro v' w' ho' hg _
  refine h v' w' ?_ hg
  have e : (ts ++ [y]).map u32c = ts.map u32c ++ [.int .u32 (y : Int)] := by rw [List.map_append]; rfl
  unfold Ow
  rw [e, List.length_append]
  exact ho'

/-- make([]uint32, k, n). -/
theorem run_makeL_u32 (l c : Int) (k n : Nat) (hl : l = (k : Int)) (hc : c = (n : Int)) (hk : k ≤ n) (hn : n ≤ 4000000000) (w : World) :
    (Instr.makeSlice 22 (.int .i64 l) (.int .i64 c)).run Try.prog w = .ok (.slice (some ⟨w.heap.size, 0, none⟩) k n) (w.alloc (.cells ((zer n).map u32c).toArray 63)) := by
  subst hl hc
  obtain ⟨i0, hi0, hz0, hz1, hz2⟩ := info_parts u32_info
  have h := run_make (P := Try.prog) w 22 63 i0 _ slice_u32 hi0 hz0 .i64 .i64 (k : Int) (n : Int) (by omega) (by omega) (by rw [hz2]; omega) (by omega)
  rw [hz1, Int.toNat_natCast, Int.toNat_natCast, made_zer] at h
  exact h

theorem shl_carry {xs : List Nat} {y : Nat} (hx : Good xs) (hy : y ≤ 2147483648) (k : Nat) : (mulK [] xs y k).2 < y ∨ (mulK [] xs y k).2 = 0 := by
  induction k with
  | zero => exact .inr rfl
  | succ k ih =>
    have hg := hx.get k
    have h : (mulK [] xs y (k + 1)).2 = ((mulK [] xs y k).2 + (xs[k]?.getD 0 * y + 0)) / 4294967296 := rfl
    rw [h]
    rcases Nat.eq_zero_or_pos y with h0 | h0
    · subst h0
      right
      have : (mulK [] xs 0 k).2 = 0 := by omega
      rw [this]; simp
    · left
      have hle : (mulK [] xs y k).2 < y := by omega
      rw [Nat.div_lt_iff_lt_mul (by omega)]
      have h2 : xs[k]?.getD 0 * y ≤ 4294967295 * y := Nat.mul_le_mul_right _ (by omega)
      omega

set_option maxRecDepth 100000 in
set_option maxHeartbeats 1000000 in
theorem left_any (w : World) (A : Option Addr) (n c kk : Nat) (xs : List Nat) (v : Nat) (hA : Lm w w.heap.size A n c xs) (hn : n ≤ 100000000) (hkk : kk ≤ 1000000) (hv : val xs * 2 ^ kk = v) :
    Calls Try.prog 70 #[.slice A n c, .int .i64 (kk : Int)] w fun e w' => ∃ A' c', e = .returned (.slice A' (digs v).length c') ∧ Lm w' w'.heap.size A' (digs v).length c' (digs v) ∧ Below w.heap.size w w' := by
  have h1 := hA.cap
  have h2 := hA.max
  obtain ⟨sk, hsk⟩ : ∃ sk : Nat, (kk : Int) / 32 = (sk : Int) := ⟨kk / 32, by omega⟩
  obtain ⟨s, hs, hs32⟩ : ∃ s : Nat, (kk : Int) % 32 = (s : Int) ∧ s < 32 := ⟨kk % 32, by omega, by omega⟩
  have HA := Lib.hid hA
  have HV := Lib.hid hv
  clear hA hv
  have hmk := fun w => run_makeL_u32 ((sk : Int)) ((sk : Int) + (n : Int) + 1) sk (sk + n + 1) (by omega) (by omega) (by omega) (by omega) w
  go_enter Try.func70, Try.ntmps70
  go_wp2
  rw [hs]
  clear hmk
  go_loopw [6, 7, 23] (fun u cy i wr => ∃ k : Nat, k ≤ n ∧ i = .int .i64 k ∧ cy = .int .u64 ((mulK [] xs (2 ^ s) k).2 : Nat) ∧ Ow wr w.heap.size u (zer sk ++ (mulK [] xs (2 ^ s) k).1) ∧ Below w.heap.size w wr) (fun _ _ i _ => n - (intOf i).toNat)
  case atStart => exact ⟨0, Nat.zero_le _, rfl, rfl, (Ow.made w sk (sk + n + 1) (by omega) (by omega)).eq (List.append_nil _).symm, (Below.refl _ _).alloc (Nat.le_refl _) _⟩
  case round =>
    have hk0 : Hid (kk = 32 * sk + s) := by show _ = _; omega
    obtain ⟨k, hk, rfl, rfl, hO, hb⟩ := hrel
    have HO := Lib.hid hO
    have HBl := Lib.hid hb
    clear hO hb
    have hcy := shl_carry HA.out.good (show 2 ^ s ≤ 2147483648 from Nat.pow_le_pow_right (by omega) (show s ≤ 31 by omega)) k
    have hln := mulK_len [] xs (2 ^ s) k
    have hp31 : 2 ^ s ≤ 2147483648 := Nat.pow_le_pow_right (by omega) (show s ≤ 31 by omega)
    have hc32 : (mulK [] xs (2 ^ s) k).2 < 4294967296 := by omega
    by_cases hlt : k < n
    · obtain ⟨b, bo, rfl, hbb, hcx⟩ := (HA.out.below HBl.out).cell hlt
      have hxg := HA.out.good.get k
      have hmx : xs[k]?.getD 0 * 2 ^ s ≤ 4294967295 * 2147483648 := Nat.mul_le_mul (by omega) hp31
      have HX : Hid (bits .or .u64 (((mulK [] xs (2 ^ s) k).2 : Nat) : Int) (IntKind.u64.wrap (((xs[k]?.getD 0 : Nat) : Int) * 2 ^ s)) = (((mulK [] xs (2 ^ s) k).2 + (xs[k]?.getD 0 * 2 ^ s + 0) : Nat) : Int)) := by
        show _ = _
        rw [cast_shl, Nat.mul_comm, wrap_nat, Nat.mod_eq_of_lt (by omega), bits_or _ _ (by omega) (by omega)]
        rcases hcy with h | h
        · rw [Nat.mul_comm, or_add h, Nat.mul_comm]; rfl
        · rw [h]; simp
      go_wp2_with (at_builtin; refine wpList_append_u32 _ rfl _ _ rfl w.heap.size _ _ rfl HO.out _ (((mulK [] xs (2 ^ s) k).2 + (xs[k]?.getD 0 * 2 ^ s + 0)) % 4294967296) 1 (by rw [HX.out]; omega) (by rw [List.length_append, zer_len, hln]; omega) HBl.out.size rfl ?_; intro u' w1 hO1 hg1)
      go_roundw
      case rel =>
        refine ⟨k + 1, by omega, by go_num, ?_, hO1.eq ?_, HO.out.below HBl.out HBl.out.size hg1⟩
        · rw [HX.out]
          exact congrArg (Value.int IntKind.u64) (Int.natCast_ediv _ _).symm
        · rw [List.append_assoc]; rfl
      case measure => simp [intOf]; omega
    · obtain rfl : k = n := by omega
      have hgd : Hid (Good (zer sk ++ (mulK [] xs (2 ^ s) k).1 ++ [(mulK [] xs (2 ^ s) k).2])) := (((zer_good _).append (mulK_good _ _ _ _)).append (Good.nil.cons hc32))
      have hlen : Hid ((zer sk ++ (mulK [] xs (2 ^ s) k).1 ++ [(mulK [] xs (2 ^ s) k).2]).length = sk + k + 1) := by show _ = _; rw [List.length_append, List.length_append, zer_len, hln]; rfl
      have hvs : Hid (val (zer sk ++ (mulK [] xs (2 ^ s) k).1 ++ [(mulK [] xs (2 ^ s) k).2]) = v) := by
        show _ = _
        have e := mulK_val [] xs (2 ^ s) k
        have hz : val (zer sk) = 0 := by have := zer_val sk sk; rwa [List.take_of_length_le (by rw [zer_len]; exact Nat.le_refl _)] at this
        rw [List.append_assoc, val_append, hz, val_snoc, mulK_len, e, List.take_of_length_le (by rw [HA.out.len]; exact Nat.le_refl _), zer_len, ← HV.out]
        simp only [List.take_nil, val_nil, Nat.add_zero, Nat.zero_add]
        rw [hk0.out, Nat.pow_add, Nat.pow_mul, show (2 : Nat) ^ 32 = 4294967296 from rfl, Nat.mul_left_comm]
      go_wp2_with (at_builtin; refine wpList_append_u32 _ rfl _ _ rfl w.heap.size _ _ rfl HO.out _ ((mulK [] xs (2 ^ s) k).2) 1 (by omega) (by rw [List.length_append, zer_len, hln]; omega) HBl.out.size rfl ?_; intro u1 w1 hO1 hg1; obtain ⟨A1, c1, rfl, hL1⟩ := hO1.lm hgd.out; rw [hlen.out] at hL1 ⊢)
      refine (trim_any _ _ _ _ _ _ v hL1 hvs.out).mono ?_
      rintro e w2 ⟨rfl, rfl⟩
      go_wp2
      go_ret
      exact ⟨_, _, rfl, hL1.trim' hvs.out, HO.out.below HBl.out HBl.out.size hg1⟩
end Go.Proofs.Ytdbilpmhejigpaa
