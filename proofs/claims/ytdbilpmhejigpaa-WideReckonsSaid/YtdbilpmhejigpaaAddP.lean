/-
  The contract of wide.addProduct.
-/
import Derived.Test.YtdbilpmhejigpaaLd
namespace Go.Proofs.Ytdbilpmhejigpaa
open Go.RowKit

set_option maxRecDepth 100000 in
set_option maxHeartbeats 1000000 in
theorem addProduct_any (w : World) (g off m c n cx : Nat) (A : Option Addr) (cs xs : List Nat) (y : Nat) (hL : Ld w g cs) (hG : Good cs) (hX : Lm w g A n cx xs) (hy : y < 4294967296)
    (hm : n ≤ m) (hmc : m ≤ c) (hc : c ≤ 9223372036854775807) (hoff : off + n ≤ cs.length) (hn : n ≤ 1000000000) :
    Calls Try.prog 56 #[.slice (some ⟨g, off, none⟩) m c, .slice A n cx, .int .u32 (y : Int)] w fun e w' => e = .returned (.int .u32 ((mulK (cs.drop off) xs y n).2 : Nat)) ∧
      Ld w' g (spl cs off (mulK (cs.drop off) xs y n).1) ∧ w.grownBy w' (some g) := by
  have hcap := hX.cap
  have hmax := hX.max
  have hgs := hL.lt
  have HX := Lib.hid hX
  have HL := Lib.hid hL
  have HC := Lib.hid (fun k => mulK_carry (hG.drop off) hX.good hy k)
  clear hX hL
  go_enter Try.func56, Try.ntmps56
  go_wp2
  go_loopw [7, 16] (fun v i wr => ∃ k : Nat, k ≤ n ∧ i = .int .i64 k ∧ v = .int .u64 ((mulK (cs.drop off) xs y k).2 : Nat) ∧ Ld wr g (spl cs off (mulK (cs.drop off) xs y k).1) ∧ w.grownBy wr (some g)) (fun _ i _ => n - (intOf i).toNat)
  case atStart => exact ⟨0, Nat.zero_le _, rfl, rfl, by show Ld w g (spl cs off []); rw [spl_nil]; exact HL.out, World.grownBy.refl w _⟩
  case round =>
    obtain ⟨k, hk, rfl, rfl, hLk, hgk⟩ := hrel
    by_cases hlt : k < n
    · have hlen := mulK_len (cs.drop off) xs y k
      obtain ⟨b, bo, rfl, hb, hcx⟩ := (HX.out.grownLt hgk (Nat.le_of_lt hgs)).cell hlt
      have hct := hLk.cell (i := off + k) (by rw [spl_len (by omega)]; omega)
      have hat := spl_at (cs := cs) (off := off) (ts := (mulK (cs.drop off) xs y k).1) (by omega)
      rw [hlen] at hat
      rw [hat] at hct
      have hfr := hLk.frozen (off + k)
      have hcy := HC.out k
      have hxg := HX.out.good.get k
      have hpg := hG.get (off + k)
      have hmul := mul_bd hxg hy
      have HS : Hid ((mulK (cs.drop off) xs y (k + 1)).2 = ((mulK (cs.drop off) xs y k).2 + (xs[k]?.getD 0 * y + cs[off + k]?.getD 0)) / 4294967296) := by
        show ((mulK (cs.drop off) xs y k).2 + (xs[k]?.getD 0 * y + (cs.drop off)[k]?.getD 0)) / 4294967296 = _
        rw [List.getElem?_drop]
      have HS1 : Hid ((mulK (cs.drop off) xs y (k + 1)).1 = (mulK (cs.drop off) xs y k).1 ++ [((mulK (cs.drop off) xs y k).2 + (xs[k]?.getD 0 * y + cs[off + k]?.getD 0)) % 4294967296]) := by
        show (mulK (cs.drop off) xs y k).1 ++ [((mulK (cs.drop off) xs y k).2 + (xs[k]?.getD 0 * y + (cs.drop off)[k]?.getD 0)) % 4294967296] = _
        rw [List.getElem?_drop]
      have HK := Lib.hid hLk
      have HSet := Lib.hid (spl_set (cs := cs) (off := off) (ts := (mulK (cs.drop off) xs y k).1) (((mulK (cs.drop off) xs y k).2 + (xs[k]?.getD 0 * y + cs[off + k]?.getD 0)) % 4294967296) (by omega))
      have HLen := Lib.hid hlen
      clear hLk hat hlen
      go_wp2
      go_roundw
      case rel =>
        refine ⟨k + 1, by omega, by go_num, ?_, ?_, grownBy_trans hgk (grownBy_setCellAt _ _ _ _)⟩
        · rw [HS.out]
          refine congrArg (Value.int IntKind.u64) ?_
          simp only [Int.natCast_ediv, Int.natCast_add, Int.natCast_mul]
          rfl
        · have e := HK.out.set_ (off + k) (((mulK (cs.drop off) xs y k).2 + (xs[k]?.getD 0 * y + cs[off + k]?.getD 0)) % 4294967296)
          have e2 := HSet.out
          rw [HLen.out] at e2
          rw [e2, ← HS1.out] at e
          simp only [Int.natCast_emod, Int.natCast_add, Int.natCast_mul] at e
          exact e
      case measure => simp [intOf]; omega
    · obtain rfl : k = n := by omega
      have hcy := HC.out k
      go_wp2
      go_ret
      exact ⟨rfl, hLk, hgk⟩

end Go.Proofs.Ytdbilpmhejigpaa
