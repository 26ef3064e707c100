/-
  The contract of wide.product, in either order of the two lists.
-/
import Derived.Test.YtdbilpmhejigpaaAddP
namespace Go.Proofs.Ytdbilpmhejigpaa
open Go.RowKit

set_option maxRecDepth 100000 in
set_option maxHeartbeats 1000000 in
theorem product_ge (w : World) (A B : Option Addr) (n m ca cb : Nat) (xs ys : List Nat) (v : Nat) (hA : Lm w w.heap.size A n ca xs) (hB : Lm w w.heap.size B m cb ys) (hge : m ≤ n) (hn : n ≤ 100000000) (hv : val xs * val ys = v) :
    Calls Try.prog 39 #[.slice A n ca, .slice B m cb] w fun e w' => ∃ A' c', e = .returned (.slice A' (digs v).length c') ∧ Lm w' w'.heap.size A' (digs v).length c' (digs v) ∧ Below w.heap.size w w' := by
  have h1 := hA.cap
  have h2 := hA.max
  have h3 := hB.cap
  have h4 := hB.max
  have HA := Lib.hid hA
  have HB := Lib.hid hB
  have hB0 := hB.good
  have HV := Lib.hid hv
  clear hA hB hv
  have hdec : decide (n < m) = false := by simp; omega
  have hmk := fun w => run_make_u32 ((n : Int) + (m : Int)) ((n : Int) + (m : Int)) (n + m) (by omega) (by omega) (by omega) w
  go_enter Try.func39, Try.ntmps39
  go_wp2
  clear hmk
  go_loopw [23] (fun i wr => ∃ (k : Nat) (ps : List Nat), k ≤ m ∧ i = .int .i64 k ∧ Ld wr w.heap.size ps ∧ Good ps ∧ ps.length = n + m ∧ val (ps.take (n + k)) = val xs * val (ys.take k) ∧ (∀ j, n + k ≤ j → ps[j]?.getD 0 = 0) ∧ Below w.heap.size w wr) (fun i _ => m - (intOf i).toNat)
  case atStart => exact ⟨0, zer (n + m), Nat.zero_le _, rfl, Ld.new _ _, zer_good _, zer_len _, by rw [zer_val]; simp [val_nil], fun j _ => zer_get _ _, (Below.refl _ _).alloc (Nat.le_refl _) _⟩
  case round =>
    obtain ⟨k, ps, hk, rfl, hL, hG, hlen, hval, hz, hb⟩ := hrel
    have HL := Lib.hid hL
    have HG := Lib.hid hG
    have HLen := Lib.hid hlen
    have HVal := Lib.hid hval
    have HZ := Lib.hid hz
    have HBl := Lib.hid hb
    clear hL hG hlen hval hz hb
    by_cases hlt : k < m
    · obtain ⟨b, bo, rfl, hbb, hcy⟩ := (HB.out.below HBl.out).cell hlt
      have hne : ¬ (n + m = k) := by omega
      have hyg := hB0.get k
      have HS := Lib.hid (prod_step HA.out.len HLen.out hlt HVal.out)
      have HX := Lib.hid (HA.out.below HBl.out)
      go_wp2_with fail
      refine (addProduct_any wr w.heap.size k (n + m - k) (n + m - k) n ca A ps xs (ys[k]?.getD 0) HL.out HG.out HX.out hyg (by omega) (Nat.le_refl _) (by omega) (by rw [HLen.out]; omega) (by omega)).mono ?_
      rintro e w1 ⟨rfl, hL1, hg1⟩
      have hml := mulK_len (ps.drop k) xs (ys[k]?.getD 0) n
      have hsl : (spl ps k (mulK (ps.drop k) xs (ys[k]?.getD 0) n).1).length = n + m := by rw [spl_len (by rw [hml, HLen.out]; omega), HLen.out]
      have hct := hL1.cell (i := k + n) (by rw [hsl]; omega)
      have hfr := hL1.frozen (k + n)
      have HL1 := Lib.hid hL1
      have HG1 := Lib.hid hg1
      have HML := Lib.hid hml
      clear hL1 hg1 hml hsl
      go_wp2
      go_roundw
      case rel =>
        have e2 := HL1.out.set_ (k + n) (mulK (ps.drop k) xs (ys[k]?.getD 0) n).2
        have e3 := spl_set (cs := ps) (off := k) (ts := (mulK (ps.drop k) xs (ys[k]?.getD 0) n).1) (mulK (ps.drop k) xs (ys[k]?.getD 0) n).2 (by rw [HML.out, HLen.out]; omega)
        rw [HML.out] at e3
        rw [e3] at e2
        have hl2 : k + ((mulK (ps.drop k) xs (ys[k]?.getD 0) n).1 ++ [(mulK (ps.drop k) xs (ys[k]?.getD 0) n).2]).length ≤ ps.length := by
          rw [List.length_append, HML.out, HLen.out]
          show k + (n + 1) ≤ n + m
          omega
        refine ⟨k + 1, _, by omega, by go_num, e2, ?_, ?_, HS.out, fun j hj => ?_, ?_⟩
        · exact spl_good HG.out ((mulK_good _ _ _ _).append (Good.nil.cons (mulK_carry (HG.out.drop _) HA.out.good hyg n)))
        · rw [spl_len hl2, HLen.out]
        · rw [spl_after hl2 (by rw [List.length_append, HML.out]; show k + (n + 1) ≤ j; omega)]
          exact HZ.out j (by omega)
        · exact (HBl.out.grown HG1.out (by have := HBl.out.size; omega) (fun b e => by injection e with e; omega)).setCell (p := ⟨w.heap.size, k + n, none⟩) (Nat.le_refl _) _
      case measure => simp [intOf]; omega
    · obtain rfl : k = m := by omega
      have hvs : Hid (val ps = v) := by
        have e := HVal.out
        rw [List.take_of_length_le (by rw [HLen.out]; exact Nat.le_refl _), List.take_of_length_le (by rw [HB.out.len]; exact Nat.le_refl _), HV.out] at e
        exact e
      have hlm : Hid (Lm wr wr.heap.size (some ⟨w.heap.size, 0, none⟩) (n + k) (n + k) ps) := by
        have e := HL.out.lm HG.out (off := 0) (n := n + k) (c := n + k) (by rw [HLen.out]; omega) (Nat.le_refl _) (by omega)
        rw [List.drop_zero, List.take_of_length_le (by rw [HLen.out]; exact Nat.le_refl _)] at e
        exact e
      go_wp2_with fail
      refine (trim_any _ _ _ _ _ _ v hlm.out hvs.out).mono ?_
      rintro e w1 ⟨rfl, rfl⟩
      go_wp2
      go_ret
      exact ⟨_, _, rfl, hlm.out.trim' hvs.out, HBl.out⟩

set_option maxRecDepth 100000 in
set_option maxHeartbeats 1000000 in
theorem product_lt (w : World) (A B : Option Addr) (n m ca cb : Nat) (xs ys : List Nat) (v : Nat) (hA : Lm w w.heap.size A n ca xs) (hB : Lm w w.heap.size B m cb ys) (hgt : m < n) (hn : n ≤ 100000000) (hv : val xs * val ys = v) :
    Calls Try.prog 39 #[.slice B m cb, .slice A n ca] w fun e w' => ∃ A' c', e = .returned (.slice A' (digs v).length c') ∧ Lm w' w'.heap.size A' (digs v).length c' (digs v) ∧ Below w.heap.size w w' := by
  have h1 := hA.cap
  have h2 := hA.max
  have h3 := hB.cap
  have h4 := hB.max
  have HA := Lib.hid hA
  have HB := Lib.hid hB
  have hB0 := hB.good
  have HV := Lib.hid hv
  clear hA hB hv
  have hdec : decide (m < n) = true := by simpa using hgt
  have hge : m ≤ n := by omega
  have hmk := fun w => run_make_u32 ((n : Int) + (m : Int)) ((n : Int) + (m : Int)) (n + m) (by omega) (by omega) (by omega) w
  go_enter Try.func39, Try.ntmps39
  go_wp2
  clear hmk
  go_loopw [23] (fun i wr => ∃ (k : Nat) (ps : List Nat), k ≤ m ∧ i = .int .i64 k ∧ Ld wr w.heap.size ps ∧ Good ps ∧ ps.length = n + m ∧ val (ps.take (n + k)) = val xs * val (ys.take k) ∧ (∀ j, n + k ≤ j → ps[j]?.getD 0 = 0) ∧ Below w.heap.size w wr) (fun i _ => m - (intOf i).toNat)
  case atStart => exact ⟨0, zer (n + m), Nat.zero_le _, rfl, Ld.new _ _, zer_good _, zer_len _, by rw [zer_val]; simp [val_nil], fun j _ => zer_get _ _, (Below.refl _ _).alloc (Nat.le_refl _) _⟩
  case round =>
    obtain ⟨k, ps, hk, rfl, hL, hG, hlen, hval, hz, hb⟩ := hrel
    have HL := Lib.hid hL
    have HG := Lib.hid hG
    have HLen := Lib.hid hlen
    have HVal := Lib.hid hval
    have HZ := Lib.hid hz
    have HBl := Lib.hid hb
    clear hL hG hlen hval hz hb
    by_cases hlt : k < m
    · obtain ⟨b, bo, rfl, hbb, hcy⟩ := (HB.out.below HBl.out).cell hlt
      have hne : ¬ (n + m = k) := by omega
      have hyg := hB0.get k
      have HS := Lib.hid (prod_step HA.out.len HLen.out hlt HVal.out)
      have HX := Lib.hid (HA.out.below HBl.out)
      go_wp2_with fail
      refine (addProduct_any wr w.heap.size k (n + m - k) (n + m - k) n ca A ps xs (ys[k]?.getD 0) HL.out HG.out HX.out hyg (by omega) (Nat.le_refl _) (by omega) (by rw [HLen.out]; omega) (by omega)).mono ?_
      rintro e w1 ⟨rfl, hL1, hg1⟩
      have hml := mulK_len (ps.drop k) xs (ys[k]?.getD 0) n
      have hsl : (spl ps k (mulK (ps.drop k) xs (ys[k]?.getD 0) n).1).length = n + m := by rw [spl_len (by rw [hml, HLen.out]; omega), HLen.out]
      have hct := hL1.cell (i := k + n) (by rw [hsl]; omega)
      have hfr := hL1.frozen (k + n)
      have HL1 := Lib.hid hL1
      have HG1 := Lib.hid hg1
      have HML := Lib.hid hml
      clear hL1 hg1 hml hsl
      go_wp2
      go_roundw
      case rel =>
        have e2 := HL1.out.set_ (k + n) (mulK (ps.drop k) xs (ys[k]?.getD 0) n).2
        have e3 := spl_set (cs := ps) (off := k) (ts := (mulK (ps.drop k) xs (ys[k]?.getD 0) n).1) (mulK (ps.drop k) xs (ys[k]?.getD 0) n).2 (by rw [HML.out, HLen.out]; omega)
        rw [HML.out] at e3
        rw [e3] at e2
        have hl2 : k + ((mulK (ps.drop k) xs (ys[k]?.getD 0) n).1 ++ [(mulK (ps.drop k) xs (ys[k]?.getD 0) n).2]).length ≤ ps.length := by
          rw [List.length_append, HML.out, HLen.out]
          show k + (n + 1) ≤ n + m
          omega
        refine ⟨k + 1, _, by omega, by go_num, e2, ?_, ?_, HS.out, fun j hj => ?_, ?_⟩
        · exact spl_good HG.out ((mulK_good _ _ _ _).append (Good.nil.cons (mulK_carry (HG.out.drop _) HA.out.good hyg n)))
        · rw [spl_len hl2, HLen.out]
        · rw [spl_after hl2 (by rw [List.length_append, HML.out]; show k + (n + 1) ≤ j; omega)]
          exact HZ.out j (by omega)
        · exact (HBl.out.grown HG1.out (by have := HBl.out.size; omega) (fun b e => by injection e with e; omega)).setCell (p := ⟨w.heap.size, k + n, none⟩) (Nat.le_refl _) _
      case measure => simp [intOf]; omega
    · obtain rfl : k = m := by omega
      have hvs : Hid (val ps = v) := by
        have e := HVal.out
        rw [List.take_of_length_le (by rw [HLen.out]; exact Nat.le_refl _), List.take_of_length_le (by rw [HB.out.len]; exact Nat.le_refl _), HV.out] at e
        exact e
      have hlm : Hid (Lm wr wr.heap.size (some ⟨w.heap.size, 0, none⟩) (n + k) (n + k) ps) := by
        have e := HL.out.lm HG.out (off := 0) (n := n + k) (c := n + k) (by rw [HLen.out]; omega) (Nat.le_refl _) (by omega)
        rw [List.drop_zero, List.take_of_length_le (by rw [HLen.out]; exact Nat.le_refl _)] at e
        exact e
      go_wp2_with fail
      refine (trim_any _ _ _ _ _ _ v hlm.out hvs.out).mono ?_
      rintro e w1 ⟨rfl, rfl⟩
      go_wp2
      go_ret
      exact ⟨_, _, rfl, hlm.out.trim' hvs.out, HBl.out⟩


theorem product_any (w : World) (A B : Option Addr) (n m ca cb : Nat) (xs ys : List Nat) (v : Nat) (hA : Lm w w.heap.size A n ca xs) (hB : Lm w w.heap.size B m cb ys) (hn : n ≤ 100000000) (hm : m ≤ 100000000) (hv : val xs * val ys = v) :
    Calls Try.prog 39 #[.slice A n ca, .slice B m cb] w fun e w' => ∃ A' c', e = .returned (.slice A' (digs v).length c') ∧ Lm w' w'.heap.size A' (digs v).length c' (digs v) ∧ Below w.heap.size w w' := by
  by_cases h : m ≤ n
  · exact product_ge w A B n m ca cb xs ys v hA hB h hn hv
  · exact product_lt w B A m n cb ca ys xs v hB hA (by omega) hm (by rw [Nat.mul_comm]; exact hv)

end Go.Proofs.Ytdbilpmhejigpaa
