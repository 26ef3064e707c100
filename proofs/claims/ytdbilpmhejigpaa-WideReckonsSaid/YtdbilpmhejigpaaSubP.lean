/- wide.subProduct. -/
import Derived.Test.YtdbilpmhejigpaaDvl
namespace Go.Proofs.Ytdbilpmhejigpaa
open Go.RowKit

/-- A list's product with a limb, taken off the first limbs of another one: the limbs, what is to be borrowed. -/
def sbK (ps xs : List Nat) (y : Nat) : Nat → List Nat × Nat
  | 0 => ([], 0)
  | k + 1 => ((sbK ps xs y k).1 ++ [(ps[k]?.getD 0 + 4294967296 - ((sbK ps xs y k).2 + xs[k]?.getD 0 * y) % 4294967296) % 4294967296],
      ((sbK ps xs y k).2 + xs[k]?.getD 0 * y) / 4294967296 + (if ps[k]?.getD 0 < ((sbK ps xs y k).2 + xs[k]?.getD 0 * y) % 4294967296 then 1 else 0))
theorem sbK_len (ps xs : List Nat) (y k : Nat) : (sbK ps xs y k).1.length = k := by
  induction k with
  | zero => rfl
  | succ k ih => unfold sbK; rw [List.length_append, ih]; rfl
theorem sbK_good (ps xs : List Nat) (y k : Nat) : Good (sbK ps xs y k).1 := by
  induction k with
  | zero => exact Good.nil
  | succ k ih => exact ih.append (Good.nil.cons (Nat.mod_lt _ (by omega)))
theorem sbK_carry {ps xs : List Nat} {y : Nat} (_hp : Good ps) (hx : Good xs) (hy : y < 4294967296) (k : Nat) : (sbK ps xs y k).2 < 4294967296 := by
  induction k with
  | zero => exact Nat.zero_lt_succ _
  | succ k ih =>
    have hm := mul_bd (hx.get k) hy
    show ((sbK ps xs y k).2 + xs[k]?.getD 0 * y) / 4294967296 + _ < _
    split <;> omega
theorem sb_step (c p : Nat) (hp : p < 4294967296) : (p + 4294967296 - c % 4294967296) % 4294967296 + c = p + 4294967296 * (c / 4294967296 + (if p < c % 4294967296 then 1 else 0)) := by
  split <;> omega
theorem sbK_val {ps xs : List Nat} (hp : Good ps) (y k : Nat) : val (sbK ps xs y k).1 + val (xs.take k) * y = val (ps.take k) + 4294967296 ^ k * (sbK ps xs y k).2 := by
  induction k with
  | zero => simp [sbK, val_nil]
  | succ k ih =>
    have hs := sb_step ((sbK ps xs y k).2 + xs[k]?.getD 0 * y) (ps[k]?.getD 0) (hp.get k)
    have hm := congrArg (fun z => 4294967296 ^ k * z) hs
    simp only [Nat.mul_add] at hm
    rw [val_take_succ', val_take_succ']
    show val ((sbK ps xs y k).1 ++ [_]) + _ = _ + _ * (_ + _)
    rw [val_snoc, sbK_len, Nat.add_mul, Nat.mul_assoc, Nat.pow_succ, Nat.mul_assoc, Nat.mul_add]
    simp only [Nat.mul_add]
    omega

set_option maxRecDepth 100000 in
set_option maxHeartbeats 1000000 in
theorem subProduct_any (w : World) (g off m c n cx : Nat) (A : Option Addr) (cs xs : List Nat) (y : Nat) (hL : Ld w g cs) (hG : Good cs) (hX : Lm w g A n cx xs) (hy : y < 4294967296)
    (hm : n ≤ m) (hmc : m ≤ c) (hc : c ≤ 9223372036854775807) (hoff : off + n ≤ cs.length) (hn : n ≤ 1000000000) :
    Calls Try.prog 72 #[.slice (some ⟨g, off, none⟩) m c, .slice A n cx, .int .u32 (y : Int)] w fun e w' => e = .returned (.int .u32 ((sbK (cs.drop off) xs y n).2 : Nat)) ∧
      Ld w' g (spl cs off (sbK (cs.drop off) xs y n).1) ∧ w.grownBy w' (some g) := by
  have hcap := hX.cap
  have hmax := hX.max
  have hgs := hL.lt
  have HX := Lib.hid hX
  have HL := Lib.hid hL
  have HC := Lib.hid (fun k => sbK_carry (hG.drop off) hX.good hy k)
  clear hX hL
  go_enter Try.func72, Try.ntmps72
  go_wp2
  go_loopw [7, 17] (fun v i wr => ∃ k : Nat, k ≤ n ∧ i = .int .i64 k ∧ v = .int .u64 ((sbK (cs.drop off) xs y k).2 : Nat) ∧ Ld wr g (spl cs off (sbK (cs.drop off) xs y k).1) ∧ w.grownBy wr (some g)) (fun _ i _ => n - (intOf i).toNat)
  case atStart => exact ⟨0, Nat.zero_le _, rfl, rfl, by show Ld w g (spl cs off []); rw [spl_nil]; exact HL.out, World.grownBy.refl w _⟩
  case round =>
    obtain ⟨k, hk, rfl, rfl, hLk, hgk⟩ := hrel
    by_cases hlt : k < n
    · have hlen := sbK_len (cs.drop off) xs y k
      obtain ⟨b, bo, rfl, hb, hcx⟩ := (HX.out.grownLt hgk (Nat.le_of_lt hgs)).cell hlt
      have hct := hLk.cell (i := off + k) (by rw [spl_len (by omega)]; omega)
      have hat := spl_at (cs := cs) (off := off) (ts := (sbK (cs.drop off) xs y k).1) (by omega)
      rw [hlen] at hat
      rw [hat] at hct
      have hfr := hLk.frozen (off + k)
      have hcy := HC.out k
      have hxg := HX.out.good.get k
      have hpg := hG.get (off + k)
      have hmul := mul_bd hxg hy
      obtain ⟨E, hE⟩ : ∃ E : Nat, E = (sbK (cs.drop off) xs y k).2 + xs[k]?.getD 0 * y := ⟨_, rfl⟩
      have HE : Hid ((((sbK (cs.drop off) xs y k).2 : Nat) : Int) + ((xs[k]?.getD 0 : Nat) : Int) * ((y : Nat) : Int) = (E : Int)) := by show _ = _; rw [hE]; simp
      have hE9 : E < 18446744073709551616 := by omega
      have HS : Hid ((sbK (cs.drop off) xs y (k + 1)).2 = E / 4294967296 + (if cs[off + k]?.getD 0 < E % 4294967296 then 1 else 0)) := by
        show (((sbK (cs.drop off) xs y k).2 + xs[k]?.getD 0 * y) / 4294967296 + (if (cs.drop off)[k]?.getD 0 < ((sbK (cs.drop off) xs y k).2 + xs[k]?.getD 0 * y) % 4294967296 then 1 else 0)) = _
        rw [List.getElem?_drop, ← hE]
      have HS1 : Hid ((sbK (cs.drop off) xs y (k + 1)).1 = (sbK (cs.drop off) xs y k).1 ++ [(cs[off + k]?.getD 0 + 4294967296 - E % 4294967296) % 4294967296]) := by
        show (sbK (cs.drop off) xs y k).1 ++ [((cs.drop off)[k]?.getD 0 + 4294967296 - ((sbK (cs.drop off) xs y k).2 + xs[k]?.getD 0 * y) % 4294967296) % 4294967296] = _
        rw [List.getElem?_drop, ← hE]
      have HK := Lib.hid hLk
      have HSet := Lib.hid (spl_set (cs := cs) (off := off) (ts := (sbK (cs.drop off) xs y k).1) ((cs[off + k]?.getD 0 + 4294967296 - E % 4294967296) % 4294967296) (by omega))
      have HLen := Lib.hid hlen
      clear hLk hat hlen
      go_wp2
      go_roundw
      case rel =>
        refine ⟨k + 1, by omega, by go_num, ?_, ?_, grownBy_trans hgk (grownBy_setCellAt _ _ _ _)⟩
        · rw [HS.out, HE.out]
          refine congrArg (Value.int IntKind.u64) ?_
          rw [IntKind.wrap_u64, IntKind.wrap_u64]
          split <;> omega
        · have e := HK.out.set_ (off + k) ((cs[off + k]?.getD 0 + 4294967296 - E % 4294967296) % 4294967296)
          have e2 := HSet.out
          rw [HLen.out] at e2
          rw [e2, ← HS1.out] at e
          have e3 : IntKind.u64.wrap (((cs[off + k]?.getD 0 : Nat) : Int) - (E : Int) % 4294967296) % 4294967296 = (((cs[off + k]?.getD 0 + 4294967296 - E % 4294967296) % 4294967296 : Nat) : Int) := by
            rw [IntKind.wrap_u64]; omega
          rw [HE.out, e3]
          exact e
      case measure => simp [intOf]; omega
    · obtain rfl : k = n := by omega
      have hcy := HC.out k
      go_wp2
      go_ret
      exact ⟨rfl, hLk, hgk⟩

end Go.Proofs.Ytdbilpmhejigpaa
