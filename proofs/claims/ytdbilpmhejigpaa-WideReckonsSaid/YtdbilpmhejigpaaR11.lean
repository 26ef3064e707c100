/- The reference's times. -/
import Derived.Test.YtdbilpmhejigpaaR10
import Derived.Test.YtdbilpmhejigpaaProd
import Derived.IntWalk
namespace Go.Proofs.Ytdbilpmhejigpaa
open Go.RowKit

theorem grownBy_drewN {w w' : World} {row : Option Nat} (h : w.grownBy w' row) (d : Nat) : w.grownBy (w'.drewN d) row := ⟨h.os, h.tape, h.output, h.size, h.block⟩
theorem Ld.drewN {w : World} {g : Nat} {cs : List Nat} (h : Ld w g cs) (d : Nat) : Ld (w.drewN d) g cs := h

set_option maxRecDepth 100000 in
set_option maxHeartbeats 1000000 in
theorem rtimes_any (w : World) (A B : Option Addr) (n m ca cb : Nat) (xs ys : List Nat) (v : Nat) (hA : Lm w w.heap.size A n ca xs) (hB : Lm w w.heap.size B m cb ys) (hn : n ≤ 100000000) (hm : m ≤ 100000000) (hv : val ys * val xs = v) :
    Calls Try.prog 41 #[.slice A n ca, .slice B m cb] w (RL w (n + m) v) := by
  have h1 := hA.cap
  have h2 := hA.max
  have h3 := hB.cap
  have h4 := hB.max
  have HA := Lib.hid hA
  have HB := Lib.hid hB
  have hA0 := hA.good
  have hB0 := hB.good
  have HV := Lib.hid hv
  clear hA hB hv
  have hmk := fun w => run_make_u32 ((n : Int) + (m : Int)) ((n : Int) + (m : Int)) (n + m) (by omega) (by omega) (by omega) w
  go_enter Try.func41, Try.ntmps41
  go_wp2
  clear hmk
  go_loopw [6] (fun i wr => ∃ (k : Nat) (ps : List Nat), k ≤ n ∧ i = .int .i64 k ∧ Ld wr w.heap.size ps ∧ Good ps ∧ ps.length = m + n ∧ val (ps.take (m + k)) = val ys * val (xs.take k) ∧ (∀ j, m + k ≤ j → ps[j]?.getD 0 = 0) ∧ Below w.heap.size w wr) (fun i _ => n - (intOf i).toNat)
  case atStart => exact ⟨0, zer (n + m), Nat.zero_le _, rfl, Ld.new _ _, zer_good _, by rw [zer_len, Nat.add_comm], by rw [zer_val]; simp [val_nil], fun j _ => zer_get _ _, (Below.refl _ _).alloc (Nat.le_refl _) _⟩
  case round =>
    obtain ⟨k, ps, hk, rfl, hL, hG, hlen, hval, hz, hb⟩ := hrel
    have HL := Lib.hid hL
    have HG := Lib.hid hG
    have HLen := Lib.hid hlen
    have HVal := Lib.hid hval
    have HZ := Lib.hid hz
    have HBl := Lib.hid hb
    clear hL hG hlen hval hz hb
    by_cases hlt : k < n
    · obtain ⟨b, bo, rfl, hbb, hcx⟩ := HA.out.cell hlt
      have hxg := hA0.get k
      have HS := Lib.hid (prod_step HB.out.len HLen.out hlt HVal.out)
      have hgs := HL.out.lt
      have HX := Lib.hid (HA.out.below HBl.out)
      have HY := Lib.hid (HB.out.below HBl.out)
      go_wp2
      go_loopw [7, 8] (fun cy i wz => ∃ k2 : Nat, k2 ≤ m ∧ i = .int .i64 k2 ∧ cy = .int .u64 ((mulK (ps.drop k) ys (xs[k]?.getD 0) k2).2 : Nat) ∧ Ld wz w.heap.size (spl ps k (mulK (ps.drop k) ys (xs[k]?.getD 0) k2).1) ∧ wr.grownBy wz (some w.heap.size)) (fun _ i _ => m - (intOf i).toNat)
      case atStart => exact ⟨0, Nat.zero_le _, rfl, rfl, by show Ld wr w.heap.size (spl ps k []); rw [spl_nil]; exact HL.out, World.grownBy.refl wr _⟩
      case round =>
        obtain ⟨k2, hk2, rfl, rfl, hLk, hgk⟩ := hrel
        by_cases hlt2 : k2 < m
        · have hlen := mulK_len (ps.drop k) ys (xs[k]?.getD 0) k2
          have hcx2 := ((HX.out.grownLt hgk (Nat.le_of_lt hgs)).cell hlt)
          obtain ⟨b1, bo1, e1, _, hcx⟩ := hcx2
          cases e1
          obtain ⟨b2, bo2, rfl, hb2, hcy⟩ := (HY.out.grownLt hgk (Nat.le_of_lt hgs)).cell hlt2
          have hct := hLk.cell (i := k + k2) (by rw [spl_len (by rw [hlen, HLen.out]; omega), HLen.out]; omega)
          have hat := spl_at (cs := ps) (off := k) (ts := (mulK (ps.drop k) ys (xs[k]?.getD 0) k2).1) (by rw [hlen, HLen.out]; omega)
          rw [hlen] at hat
          rw [hat] at hct
          have hfr := hLk.frozen (k + k2)
          have hcar := mulK_carry (HG.out.drop k) hB0 hxg k2
          have hyg := hB0.get k2
          have hpg := HG.out.get (k + k2)
          have hmul := mul_bd hyg hxg
          obtain ⟨S, hS⟩ : ∃ S : Nat, S = (mulK (ps.drop k) ys (xs[k]?.getD 0) k2).2 + (ys[k2]?.getD 0 * xs[k]?.getD 0 + ps[k + k2]?.getD 0) := ⟨_, rfl⟩
          have HE : Hid (IntKind.u64.wrap ((((mulK (ps.drop k) ys (xs[k]?.getD 0) k2).2 : Nat) : Int) + IntKind.u64.wrap (IntKind.u64.wrap (((xs[k]?.getD 0 : Nat) : Int) * ((ys[k2]?.getD 0 : Nat) : Int)) + ((ps[k + k2]?.getD 0 : Nat) : Int))) = (S : Int)) := by
            show _ = _
            rw [← Int.natCast_mul, Nat.mul_comm, hS, IntKind.wrap_u64, IntKind.wrap_u64, IntKind.wrap_u64]
            omega
          have HS2 : Hid ((mulK (ps.drop k) ys (xs[k]?.getD 0) (k2 + 1)) = ((mulK (ps.drop k) ys (xs[k]?.getD 0) k2).1 ++ [((mulK (ps.drop k) ys (xs[k]?.getD 0) k2).2 + (ys[k2]?.getD 0 * xs[k]?.getD 0 + ps[k + k2]?.getD 0)) % 4294967296], ((mulK (ps.drop k) ys (xs[k]?.getD 0) k2).2 + (ys[k2]?.getD 0 * xs[k]?.getD 0 + ps[k + k2]?.getD 0)) / 4294967296)) := by
            show _ = _
            rw [← List.getElem?_drop]; rfl
          rw [← hS] at HS2
          have HSb : Hid (S < 18446744073709551616) := by show _ < _; omega
          have HK := Lib.hid hLk
          have HSet := Lib.hid (spl_set (cs := ps) (off := k) (ts := (mulK (ps.drop k) ys (xs[k]?.getD 0) k2).1) (S % 4294967296) (by rw [hlen, HLen.out]; omega))
          have HLn := Lib.hid hlen
          clear hLk hat hlen hS
          have hs1 : IntKind.i64.wrap ((k : Int) + (k2 : Int)) = (k : Int) + (k2 : Int) := IntWalk.i64_in _ (by omega)
          have hs2 : (0 : Int) ≤ (k : Int) + (k2 : Int) := by omega
          have hs3 : ((k : Int) + (k2 : Int)).toNat = k + k2 := by omega
          have hs4 : (k : Int) + (k2 : Int) < ((n + m : Nat) : Int) := by omega
          go_wp2
          go_quiet (fail)
          clear hs1
          go_wp2
          rw [HE.out]
          go_roundw
          case rel =>
            refine ⟨k2 + 1, by omega, by go_num, ?_, ?_, ?_⟩
            · rw [HS2.out]
              exact congrArg (Value.int IntKind.u64) (Int.natCast_ediv _ _).symm
            · have e := (HK.out.drewN nq).set_ (k + k2) (S % 4294967296)
              have e2 := HSet.out
              rw [HLn.out] at e2
              rw [e2] at e
              rw [HS2.out]
              simp only [Int.natCast_emod] at e
              exact e
            · exact grownBy_trans (grownBy_drewN hgk nq) (grownBy_setCellAt _ _ _ _)
          case measure => simp [intOf]; omega
        · obtain rfl : k2 = m := by omega
          have hml := mulK_len (ps.drop k) ys (xs[k]?.getD 0) k2
          have hcar := mulK_carry (HG.out.drop k) hB0 hxg k2
          have hsl : (spl ps k (mulK (ps.drop k) ys (xs[k]?.getD 0) k2).1).length = k2 + n := by rw [spl_len (by rw [hml, HLen.out]; omega), HLen.out]
          have hct := hLk.cell (i := k + k2) (by rw [hsl]; omega)
          have hfr := hLk.frozen (k + k2)
          have HL1 := Lib.hid hLk
          have HG1 := Lib.hid hgk
          have HML := Lib.hid hml
          clear hLk hgk hml hsl
          go_wp2
          go_roundw
          case rel =>
            have e2 := HL1.out.set_ (k + k2) (mulK (ps.drop k) ys (xs[k]?.getD 0) k2).2
            have e3 := spl_set (cs := ps) (off := k) (ts := (mulK (ps.drop k) ys (xs[k]?.getD 0) k2).1) (mulK (ps.drop k) ys (xs[k]?.getD 0) k2).2 (by rw [HML.out, HLen.out]; omega)
            rw [HML.out] at e3
            rw [e3] at e2
            have hl2 : k + ((mulK (ps.drop k) ys (xs[k]?.getD 0) k2).1 ++ [(mulK (ps.drop k) ys (xs[k]?.getD 0) k2).2]).length ≤ ps.length := by
              rw [List.length_append, HML.out, HLen.out]
              show k + (k2 + 1) ≤ k2 + n
              omega
            refine ⟨k + 1, _, by omega, by go_num, e2, ?_, ?_, HS.out, fun j hj => ?_, ?_⟩
            · exact spl_good HG.out ((mulK_good _ _ _ _).append (Good.nil.cons (mulK_carry (HG.out.drop _) hB0 hxg k2)))
            · rw [spl_len hl2, HLen.out]
            · rw [spl_after hl2 (by rw [List.length_append, HML.out]; show k + (k2 + 1) ≤ j; omega)]
              exact HZ.out j (by omega)
            · exact (HBl.out.grown HG1.out (by have := HBl.out.size; omega) (fun b e => by injection e with e; omega)).setCell (p := ⟨w.heap.size, k + k2, none⟩) (Nat.le_refl _) _
          case measure => simp [intOf]; omega
    · obtain rfl : k = n := by omega
      have hvs : Hid (val ps = v) := by
        have e := HVal.out
        rw [List.take_of_length_le (by rw [HLen.out]; exact Nat.le_refl _), List.take_of_length_le (by rw [HA.out.len]; exact Nat.le_refl _), HV.out] at e
        exact e
      have hlm : Hid (Lm wr wr.heap.size (some ⟨w.heap.size, 0, none⟩) (k + m) (k + m) ps) := by
        have e := HL.out.lm HG.out (off := 0) (n := k + m) (c := k + m) (by rw [HLen.out]; omega) (Nat.le_refl _) (by omega)
        rw [List.drop_zero, List.take_of_length_le (by rw [HLen.out]; omega)] at e
        exact e
      go_wp2
      go_ret
      exact ⟨_, _, ps, rfl, hlm.out, hvs.out, HBl.out⟩
end Go.Proofs.Ytdbilpmhejigpaa
