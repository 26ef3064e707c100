/- Lemmas, part 5. -/
import Derived.Deep.DeepCutAuto
import Derived.Deep.CutBlock
import Derived.Deep.RegionWith
import Derived.Laws.OwnMore
import Derived.Deep.QuietTactic
import Derived.BigQuiet
import Derived.Defers
import Derived.Recover
import Derived.Test.YtglgfjknhplajaaGreatDoorSH4
/- wide.foresee: the steps of Euclid's rule that the highest digits determine. -/
namespace Go.Proofs.YtglgfjknhplajaaGreatDoor
open Go.RowKit

/-- The five cells of steps. -/
def stV (c : Int) (A0 B0 A1 B1 : Nat) : Array Value := #[.int .i64 c, .int .u64 (A0 : Int), .int .u64 (B0 : Int), .int .u64 (A1 : Int), .int .u64 (B1 : Int)]
def fcV (A B : Nat) : Array Value := #[.int .u64 (A : Int), .int .u64 (B : Int)]
/-- What foresee returns: steps that the highest digits allow. -/
def RF (w : World) (a b : Nat) (e : Ending) (w' : World) : Prop := ∃ (c : Int) (A0 B0 A1 B1 : Nat), e = .returned (.agg #[.int .i64 c, .int .u64 (A0 : Int), .int .u64 (B0 : Int), .int .u64 (A1 : Int), .int .u64 (B1 : Int)]) ∧ c ≤ 4294967296 ∧
  (∃ (p : Nat) (s : Int) (x y A2 B2 : Nat), LehN a b p s c x y A0 B0 A1 B1 A2 B2) ∧ Below w.heap.size w w'

/-- The world behind an exchange of factors. -/
def xch (W : World) (g h : Nat) (a b d e f k : Value) : World := ((((((W.setCell ⟨g, 1, none⟩ a).setCell ⟨g, 2, none⟩ b).setCell ⟨g, 3, none⟩ d).setCell ⟨g, 4, none⟩ e).setCell ⟨h, 0, none⟩ f).setCell ⟨h, 1, none⟩ k).drew
section
variable {W : World} {g h : Nat} {t t' : TypeId} {c a b d e f k a0 b0 d0 e0 f0 k0 : Value}
theorem xch_g (H : Kd W g t #[c, a0, b0, d0, e0]) (hne : h ≠ g) : Kd (xch W g h a b d e f k) g t #[c, a, b, d, e] := by
  have h1 : Kd (W.setCell ⟨g, 1, none⟩ a) g t #[c, a, b0, d0, e0] := H.set_ 1 a
  have h2 : Kd ((W.setCell ⟨g, 1, none⟩ a).setCell ⟨g, 2, none⟩ b) g t #[c, a, b, d0, e0] := h1.set_ 2 b
  have h3 : Kd (((W.setCell ⟨g, 1, none⟩ a).setCell ⟨g, 2, none⟩ b).setCell ⟨g, 3, none⟩ d) g t #[c, a, b, d, e0] := h2.set_ 3 d
  have h4 : Kd ((((W.setCell ⟨g, 1, none⟩ a).setCell ⟨g, 2, none⟩ b).setCell ⟨g, 3, none⟩ d).setCell ⟨g, 4, none⟩ e) g t #[c, a, b, d, e] := h3.set_ 4 e
  exact ((h4.far (i := 0) hne f).far (i := 1) hne k).drew
theorem xch_h (H : Kd W h t' #[f0, k0]) (hne : h ≠ g) : Kd (xch W g h a b d e f k) h t' #[f, k] := by
  have h1 := (((H.far (i := 1) (Ne.symm hne) a).far (i := 2) (Ne.symm hne) b).far (i := 3) (Ne.symm hne) d).far (i := 4) (Ne.symm hne) e
  have h2 : Kd (((((W.setCell ⟨g, 1, none⟩ a).setCell ⟨g, 2, none⟩ b).setCell ⟨g, 3, none⟩ d).setCell ⟨g, 4, none⟩ e).setCell ⟨h, 0, none⟩ f) h t' #[f, k0] := h1.set_ 0 f
  have h3 : Kd ((((((W.setCell ⟨g, 1, none⟩ a).setCell ⟨g, 2, none⟩ b).setCell ⟨g, 3, none⟩ d).setCell ⟨g, 4, none⟩ e).setCell ⟨h, 0, none⟩ f).setCell ⟨h, 1, none⟩ k) h t' #[f, k] := h2.set_ 1 k
  exact h3.drew
theorem xch_r {r : Nat} {vs : Array Value} (H : Kd W r t vs) (h1 : g ≠ r) (h2 : h ≠ r) : Kd (xch W g h a b d e f k) r t vs :=
  ((((((H.far (i := 1) h1 a).far (i := 2) h1 b).far (i := 3) h1 d).far (i := 4) h1 e).far (i := 0) h2 f).far (i := 1) h2 k).drew
theorem xch_b {B : Nat} {w : World} (H : Below B w W) (h1 : B ≤ g) (h2 : B ≤ h) : Below B w (xch W g h a b d e f k) :=
  ((((((H.setCell (p := ⟨g, 1, none⟩) h1 a).setCell (p := ⟨g, 2, none⟩) h1 b).setCell (p := ⟨g, 3, none⟩) h1 d).setCell (p := ⟨g, 4, none⟩) h1 e).setCell (p := ⟨h, 0, none⟩) h2 f).setCell (p := ⟨h, 1, none⟩) h2 k).drew
end

theorem res_s {fn : Func} {r : Nat} (hr : fn.results = #[.cell r 128]) {tmps : Array Value} {w : World} {g : Nat} {c a b d e : Value} (ht : tmps.getD r undef = .pointer (some ⟨g, 0, none⟩))
    (h0 : w.cell? ⟨g, 0, none⟩ = some c) (h1 : w.cell? ⟨g, 1, none⟩ = some a) (h2 : w.cell? ⟨g, 2, none⟩ = some b) (h3 : w.cell? ⟨g, 3, none⟩ = some d) (h4 : w.cell? ⟨g, 4, none⟩ = some e) :
    (results fn tmps).run Tryz.prog w = .ok (.agg #[c, a, b, d, e]) w := by
  rw [Array.getD_eq_getD_getElem?] at ht
  simp [results, hr, go_sem, ht, h0, h1, h2, h3, h4]
theorem st_sets {W : World} {g : Nat} {t : TypeId} {c a b d e c0 a0 b0 d0 e0 : Value} (H : Kd W g t #[c0, a0, b0, d0, e0]) :
    Kd (((((W.setCell ⟨g, 0, none⟩ c).setCell ⟨g, 1, none⟩ a).setCell ⟨g, 2, none⟩ b).setCell ⟨g, 3, none⟩ d).setCell ⟨g, 4, none⟩ e) g t #[c, a, b, d, e] := by
  have h0 : Kd (W.setCell ⟨g, 0, none⟩ c) g t #[c, a0, b0, d0, e0] := H.set_ 0 c
  have h1 : Kd ((W.setCell ⟨g, 0, none⟩ c).setCell ⟨g, 1, none⟩ a) g t #[c, a, b0, d0, e0] := h0.set_ 1 a
  have h2 : Kd (((W.setCell ⟨g, 0, none⟩ c).setCell ⟨g, 1, none⟩ a).setCell ⟨g, 2, none⟩ b) g t #[c, a, b, d0, e0] := h1.set_ 2 b
  have h3 : Kd ((((W.setCell ⟨g, 0, none⟩ c).setCell ⟨g, 1, none⟩ a).setCell ⟨g, 2, none⟩ b).setCell ⟨g, 3, none⟩ d) g t #[c, a, b, d, e0] := h2.set_ 3 d
  exact h3.set_ 4 e
theorem st_setb {W w : World} {B g : Nat} {c a b d e : Value} (H : Below B w W) (h : B ≤ g) :
    Below B w (((((W.setCell ⟨g, 0, none⟩ c).setCell ⟨g, 1, none⟩ a).setCell ⟨g, 2, none⟩ b).setCell ⟨g, 3, none⟩ d).setCell ⟨g, 4, none⟩ e) :=
  ((((H.setCell (p := ⟨g, 0, none⟩) h c).setCell (p := ⟨g, 1, none⟩) h a).setCell (p := ⟨g, 2, none⟩) h b).setCell (p := ⟨g, 3, none⟩) h d).setCell (p := ⟨g, 4, none⟩) h e

set_option maxRecDepth 100000 in
set_option maxHeartbeats 4000000 in
theorem foresee_any (w : World) (A B : Option Addr) (n m ca cb a b : Nat) (hA : Lm w w.heap.size A n ca (digs a)) (hB : Lm w w.heap.size B m cb (digs b)) (hle : b ≤ a) (hm : 3 ≤ m) (hn : n ≤ 1000000) :
    Calls Tryz.prog 114 #[.slice A n ca, .slice B m cb] w (RF w a b) := by
  have hcA := hA.cap
  have hxA := hA.max
  have hcB := hB.cap
  have hxB := hB.max
  have hlA := hA.len
  have hb64 : 4294967296 ^ 2 ≤ b := by
    have := val_ge (digs_norm b) 2 (by rw [hB.len]; omega)
    rwa [digs_val] at this
  have ha0 : 0 < a := by
    have : (4294967296 : Nat) ^ 2 = 18446744073709551616 := by decide
    omega
  obtain ⟨hL0, hL1, hL2⟩ := lenS_pos ha0
  have hL9 : lenS (digs a) ≤ 32 * n := by
    refine lenS_le.2 ?_
    have := digs_len.1 (Nat.le_of_eq hlA)
    rwa [Nat.pow_mul]
  have hL64 : 64 < lenS (digs a) := by
    refine Nat.lt_of_not_le fun h => ?_
    have h1 := lenS_le.1 h
    have : (2 : Nat) ^ 64 = 4294967296 ^ 2 := by decide
    omega
  obtain ⟨k, hk⟩ : ∃ k, k = lenS (digs a) - 64 := ⟨_, rfl⟩
  have hkL : lenS (digs a) = k + 64 := by omega
  have hX : a / 2 ^ k < 18446744073709551616 := by
    refine Nat.div_lt_of_lt_mul ?_
    rw [show (18446744073709551616 : Nat) = 2 ^ 64 from rfl, ← Nat.pow_add, ← hkL]
    exact hL2
  have hY : b / 2 ^ k ≤ a / 2 ^ k := Nat.div_le_div_right hle
  have hk9 : k ≤ 32000000 := by omega
  have HWx : Hid (win a k = a / 2 ^ k) := Nat.mod_eq_of_lt hX
  have HWy : Hid (win b k = b / 2 ^ k) := Nat.mod_eq_of_lt (by omega)
  have HS : Hid (LehN a b (2 ^ k) 1 (-1) (a / 2 ^ k) (b / 2 ^ k) 0 0 1 0 0 1) := LehN.start hle
  have HP : Hid (0 < 2 ^ k) := Nat.pow_pos (by omega)
  have HX := Lib.hid hX
  have HA := Lib.hid hA
  have HB := Lib.hid hB
  generalize hXX : a / 2 ^ k = X at hX hY HWx HS
  generalize hYY : b / 2 ^ k = Y at hY HWy HS
  clear hA hB hL0 hL1 hL2 hb64 ha0 hlA hk hXX hYY
  go_enter Tryz.func114, Tryz.ntmps114
  go_wp2_with fail
  refine (length_any _ _ _ _ _ (HA.out.box _) (by omega)).mono ?_
  rintro e w1 ⟨rfl, rfl⟩
  rw [hkL]
  go_wp2_with fail
  refine (window_any _ A n ca (digs a) a k (HA.out.box _) (digs_val _) (by omega) (by omega)).mono ?_
  rintro e w1 ⟨rfl, d1, rfl⟩
  rw [show (Int.toNat (k : Int)) = k from rfl, HWx.out]
  go_wp2_with fail
  refine (window_any _ B m cb (digs b) b k ((HB.out.box _).drewN d1) (digs_val _) (by omega) (by omega)).mono ?_
  rintro e w1 ⟨rfl, d2, rfl⟩
  rw [show (Int.toNat (k : Int)) = k from rfl, HWy.out]
  go_wp2
  go_loopw [6, 7] (fun xv yv wr => ∃ (s c : Int) (x y A0 B0 A1 B1 A2 B2 : Nat), xv = .int .u64 (x : Int) ∧ yv = .int .u64 (y : Int) ∧ LehN a b (2 ^ k) s c x y A0 B0 A1 B1 A2 B2 ∧
      c ≤ B2 ∧ (0 ≤ c → 1 ≤ B1) ∧ c ≤ 4294967296 ∧ Kd wr w.heap.size 128 (stV 0 0 0 0 0) ∧ Kd wr (w.heap.size + 1) 128 (stV c A0 B0 A1 B1) ∧ Kd wr (w.heap.size + 1 + 1) 126 (fcV A2 B2) ∧ Below w.heap.size w wr) (fun _ y _ => (intOf y).toNat)
  case atStart =>
    refine ⟨1, -1, X, Y, 0, 0, 1, 0, 0, 1, rfl, rfl, HS.out, by omega, by omega, by omega, (((Kd.new w _ rfl _ _).drewN _).alloc _).alloc _, (Kd.new _ _ (by simp) _ _).alloc _, Kd.new _ _ (by simp) _ _, ?_⟩
    exact ((bdrewN ((Below.refl _ _).alloc (Nat.le_refl _) _) _).alloc (by simp) _).alloc (by simp; omega) _
  case round =>
    obtain ⟨s, c, x, y, A0, B0, A1, B1, A2, B2, rfl, rfl, hI, hcB, hcz, hc9, hR, hS, hN, hb⟩ := hrel
    obtain ⟨l1, l2, l3, l4, l5⟩ := hI.bd HX.out
    have s0 := hS.cell 0
    have s1 := hS.cell 1
    have s2 := hS.cell 2
    have s3 := hS.cell 3
    have s4 := hS.cell 4
    have n0 := hN.cell 0
    have n1 := hN.cell 1
    simp only [stV, fcV, List.getElem?_toArray, List.getElem?_cons_zero, List.getElem?_cons_succ] at s0 s1 s2 s3 s4 n0 n1
    have f1 := hS.frozen 1
    have f2 := hS.frozen 2
    have f3 := hS.frozen 3
    have f4 := hS.frozen 4
    have f0 := hS.frozen 0
    have fn0 := hN.frozen 0
    have fn1 := hN.frozen 1
    have ltS := hS.lt
    have ltN := hN.lt
    have HI := Lib.hid hI
    have HR := Lib.hid hR
    have HSt := Lib.hid hS
    have HN := Lib.hid hN
    have HBl := Lib.hid hb
    have HCz := Lib.hid hcz
    clear hI hR hS hN hb hcz
    by_cases h1 : B2 ≤ y
    · by_cases h2 : B1 + B2 ≤ x - y
      · obtain ⟨g0, g1, g2, g3, g4, g5, g6, g7, g8, g9⟩ := HI.out.go HP.out HX.out h1 h2
        have HI2 := Lib.hid g0
        clear g0
        have i1 : (B2 : Int) ≤ (y : Int) := by omega
        have i2 : (B1 : Int) + (B2 : Int) ≤ (x : Int) - (y : Int) := by omega
        have hs9 := l4 (by omega)
        have hyi : ¬ ((y : Int) = 0) := by omega
        have q0 : (x : Int) / (y : Int) = ((x / y : Nat) : Int) := by rw [← Int.natCast_ediv]
        have q1 : (x : Int).tdiv (y : Int) = ((x / y : Nat) : Int) := by rw [Int.tdiv_eq_ediv_of_nonneg (by omega), ← Int.natCast_ediv]
        have hrl := Nat.mod_lt x (show 0 < y by omega)
        have hq9 : x / y < 18446744073709551616 := Nat.lt_of_le_of_lt (Nat.div_le_self _ _) l1
        generalize x / y = q at *
        generalize x % y = r at *
        clear h1 h2 l4
        go_wp2
        have HN3 : Hid (Kd (wr.alloc (.cells #[.int .u64 ((A1 : Int) + (q : Int) * (A2 : Int)), .int .u64 ((B1 : Int) + (q : Int) * (B2 : Int))] 126)) wr.heap.size 126 (fcV (A1 + q * A2) (B1 + q * B2))) := by
          have e := Kd.new wr _ rfl #[.int .u64 ((A1 : Int) + (q : Int) * (A2 : Int)), .int .u64 ((B1 : Int) + (q : Int) * (B2 : Int))] 126
          have e2 : fcV (A1 + q * A2) (B1 + q * B2) = #[.int .u64 ((A1 : Int) + (q : Int) * (A2 : Int)), .int .u64 ((B1 : Int) + (q : Int) * (B2 : Int))] := by unfold fcV; rw [Int.natCast_add, Int.natCast_add, Int.natCast_mul, Int.natCast_mul]
          rw [e2]; exact e
        have HR1 := Lib.hid (HR.out.alloc (.cells #[.int .u64 ((A1 : Int) + (q : Int) * (A2 : Int)), .int .u64 ((B1 : Int) + (q : Int) * (B2 : Int))] 126))
        have HS1 := Lib.hid (HSt.out.alloc (.cells #[.int .u64 ((A1 : Int) + (q : Int) * (A2 : Int)), .int .u64 ((B1 : Int) + (q : Int) * (B2 : Int))] 126))
        have HN1 := Lib.hid (HN.out.alloc (.cells #[.int .u64 ((A1 : Int) + (q : Int) * (A2 : Int)), .int .u64 ((B1 : Int) + (q : Int) * (B2 : Int))] 126))
        have HB1 := Lib.hid (HBl.out.alloc HBl.out.size (.cells #[.int .u64 ((A1 : Int) + (q : Int) * (A2 : Int)), .int .u64 ((B1 : Int) + (q : Int) * (B2 : Int))] 126))
        clear s0 s1 s2 s3 s4 n0 n1 f0 f1 f2 f3 f4 fn0 fn1
        generalize wr.alloc (.cells #[.int .u64 ((A1 : Int) + (q : Int) * (A2 : Int)), .int .u64 ((B1 : Int) + (q : Int) * (B2 : Int))] 126) = W1 at *
        have s0 := HS1.out.cell 0
        have s1 := HS1.out.cell 1
        have s2 := HS1.out.cell 2
        have s3 := HS1.out.cell 3
        have s4 := HS1.out.cell 4
        have n0 := HN1.out.cell 0
        have n1 := HN1.out.cell 1
        have m0 := HN3.out.cell 0
        have m1 := HN3.out.cell 1
        simp only [stV, fcV, List.getElem?_toArray, List.getElem?_cons_zero, List.getElem?_cons_succ] at s0 s1 s2 s3 s4 n0 n1 m0 m1
        have f0 := HS1.out.frozen 0
        have f1 := HS1.out.frozen 1
        have f2 := HS1.out.frozen 2
        have f3 := HS1.out.frozen 3
        have f4 := HS1.out.frozen 4
        have fn0 := HN1.out.frozen 0
        have fn1 := HN1.out.frozen 1
        have HBB : Hid (B1 + B2 ≤ B1 + q * B2) := Nat.add_le_add_left g9 B1
        generalize A1 + q * A2 = A3 at *
        generalize B1 + q * B2 = B3 at *
        have ne1 : ¬ (w.heap.size + 1 = wr.heap.size) := by omega
        have ne2 : ¬ (w.heap.size + 1 + 1 = wr.heap.size) := by omega
        generalize wr.heap.size = gN at *
        clear q0 q1
        go_region
        rw [show ((((((W1.setCell ⟨w.heap.size + 1, 1, none⟩ (.int .u64 (A1 : Int))).setCell ⟨w.heap.size + 1, 2, none⟩ (.int .u64 (B1 : Int))).setCell ⟨w.heap.size + 1, 3, none⟩ (.int .u64 (A2 : Int))).setCell ⟨w.heap.size + 1, 4, none⟩ (.int .u64 (B2 : Int))).setCell ⟨w.heap.size + 1 + 1, 0, none⟩ (.int .u64 (A3 : Int))).setCell ⟨w.heap.size + 1 + 1, 1, none⟩ (.int .u64 (B3 : Int))).drew = (xch W1 (w.heap.size + 1) (w.heap.size + 1 + 1) (.int .u64 (A1 : Int)) (.int .u64 (B1 : Int)) (.int .u64 (A2 : Int)) (.int .u64 (B2 : Int)) (.int .u64 (A3 : Int)) (.int .u64 (B3 : Int))) from rfl]
        have HS2 : Hid (Kd (xch W1 (w.heap.size + 1) (w.heap.size + 1 + 1) (.int .u64 (A1 : Int)) (.int .u64 (B1 : Int)) (.int .u64 (A2 : Int)) (.int .u64 (B2 : Int)) (.int .u64 (A3 : Int)) (.int .u64 (B3 : Int))) (w.heap.size + 1) 128 (stV c A1 B1 A2 B2)) := xch_g HS1.out (by omega)
        have HN2 : Hid (Kd (xch W1 (w.heap.size + 1) (w.heap.size + 1 + 1) (.int .u64 (A1 : Int)) (.int .u64 (B1 : Int)) (.int .u64 (A2 : Int)) (.int .u64 (B2 : Int)) (.int .u64 (A3 : Int)) (.int .u64 (B3 : Int))) (w.heap.size + 1 + 1) 126 (fcV A3 B3)) := xch_h HN1.out (by omega)
        have HR2 : Hid (Kd (xch W1 (w.heap.size + 1) (w.heap.size + 1 + 1) (.int .u64 (A1 : Int)) (.int .u64 (B1 : Int)) (.int .u64 (A2 : Int)) (.int .u64 (B2 : Int)) (.int .u64 (A3 : Int)) (.int .u64 (B3 : Int))) w.heap.size 128 (stV 0 0 0 0 0)) := xch_r HR1.out (by omega) (by omega)
        have HB2 : Hid (Below w.heap.size w (xch W1 (w.heap.size + 1) (w.heap.size + 1 + 1) (.int .u64 (A1 : Int)) (.int .u64 (B1 : Int)) (.int .u64 (A2 : Int)) (.int .u64 (B2 : Int)) (.int .u64 (A3 : Int)) (.int .u64 (B3 : Int)))) := xch_b HB1.out (by omega) (by omega)
        clear s0 s1 s2 s3 s4 n0 n1 f0 f1 f2 f3 f4 fn0 fn1 m0 m1 HS1 HN1 HR1 HB1
        generalize (xch W1 (w.heap.size + 1) (w.heap.size + 1 + 1) (.int .u64 (A1 : Int)) (.int .u64 (B1 : Int)) (.int .u64 (A2 : Int)) (.int .u64 (B2 : Int)) (.int .u64 (A3 : Int)) (.int .u64 (B3 : Int))) = W2 at *
        have s0 := HS2.out.cell 0
        simp only [stV, List.getElem?_toArray, List.getElem?_cons_zero] at s0
        have f0 := HS2.out.frozen 0
        go_wp2
        go_roundw
        case rel =>
          have HCz' := HCz.out
          refine ⟨-s, c + 1, y, r, A1, B1, A2, B2, A3, B3, by go_num, by go_num, HI2.out, ?_, by omega, by omega, HR2.out.far (show w.heap.size + 1 ≠ w.heap.size by omega) _, HS2.out.set_ 0 _, HN2.out.far (show w.heap.size + 1 ≠ w.heap.size + 1 + 1 by omega) _, HB2.out.setCell (p := ⟨w.heap.size + 1, 0, none⟩) (show w.heap.size ≤ w.heap.size + 1 by omega) _⟩
          by_cases hz : 0 ≤ c
          · have := HCz' hz; have := HBB.out; omega
          · omega
        case measure => simp [intOf]; omega
      · have i1 : (B2 : Int) ≤ (y : Int) := by omega
        have hs9 := l4 (by omega)
        have i2 : decide ((B1 : Int) + (B2 : Int) ≤ (x : Int) - (y : Int)) = false := by simp; omega
        have hs9i : (B1 : Int) + (B2 : Int) < 18446744073709551616 := by omega
        have i3 : (0 : Int) ≤ (x : Int) - (y : Int) := by omega
        clear l4
        have r0 := HR.out.cell 0
        have r1 := HR.out.cell 1
        have r2 := HR.out.cell 2
        have r3 := HR.out.cell 3
        have r4 := HR.out.cell 4
        simp only [stV, List.getElem?_toArray, List.getElem?_cons_zero, List.getElem?_cons_succ] at r0 r1 r2 r3 r4
        have k0 := HR.out.frozen 0
        have k1 := HR.out.frozen 1
        have k2 := HR.out.frozen 2
        have k3 := HR.out.frozen 3
        have k4 := HR.out.frozen 4
        go_wp2
        all_goals first
          | omega
          | (have e := st_sets (c := .int .i64 c) (a := .int .u64 (A0 : Int)) (b := .int .u64 (B0 : Int)) (d := .int .u64 (A1 : Int)) (e := .int .u64 (B1 : Int)) HR.out
             exact bodyPost_ret (res_s Tryz.results114 rfl (e.cell 0) (e.cell 1) (e.cell 2) (e.cell 3) (e.cell 4)) rfl ⟨c, A0, B0, A1, B1, rfl, hc9, ⟨_, _, _, _, _, _, HI.out⟩, st_setb HBl.out (Nat.le_refl _)⟩)
    · have i1 : decide ((B2 : Int) ≤ (y : Int)) = false := by simp; omega
      clear l4
      have r0 := HR.out.cell 0
      have r1 := HR.out.cell 1
      have r2 := HR.out.cell 2
      have r3 := HR.out.cell 3
      have r4 := HR.out.cell 4
      simp only [stV, List.getElem?_toArray, List.getElem?_cons_zero, List.getElem?_cons_succ] at r0 r1 r2 r3 r4
      have k0 := HR.out.frozen 0
      have k1 := HR.out.frozen 1
      have k2 := HR.out.frozen 2
      have k3 := HR.out.frozen 3
      have k4 := HR.out.frozen 4
      go_wp2
      all_goals first
        | omega
        | (have e := st_sets (c := .int .i64 c) (a := .int .u64 (A0 : Int)) (b := .int .u64 (B0 : Int)) (d := .int .u64 (A1 : Int)) (e := .int .u64 (B1 : Int)) HR.out
           exact bodyPost_ret (res_s Tryz.results114 rfl (e.cell 0) (e.cell 1) (e.cell 2) (e.cell 3) (e.cell 4)) rfl ⟨c, A0, B0, A1, B1, rfl, hc9, ⟨_, _, _, _, _, _, HI.out⟩, st_setb HBl.out (Nat.le_refl _)⟩)
end Go.Proofs.YtglgfjknhplajaaGreatDoor

/- steps.take: what two numbers become by Lehmer's steps. -/
namespace Go.Proofs.YtglgfjknhplajaaGreatDoor
open Go.RowKit

/-- An append of one limb to a slice of the call's own: it lies where it lay, or in a new block. -/
theorem wpList_append_at (w : World) {ops : Array Oper} {rest : List Oper} {o : Oper} {a : Act} {Q : Exit → Act → World → Prop} (hgd : o.guard = none) (s x : Operand)
    (ho : o.op = .call { callee := .builtin .append, args := #[s, x], argTypes := #[27, 27] })
    (B : Nat) (g n c : Nat) (ts : List Nat) (hs : a.eval s = .slice (some ⟨g, 0, none⟩) n c) (hown : Ow w B (.slice (some ⟨g, 0, none⟩) n c) ts) (E : Int) (y cx : Nat) (hE : E = (y : Int)) (hlen : ts.length < 4000000000) (hn : n = ts.length) (hB : B ≤ w.heap.size)
    (hx : a.eval x = .slice (some ⟨w.heap.size, 0, none⟩) 1 cx)
    (h : ∀ g' c' w', Ow w' B (.slice (some ⟨g', 0, none⟩) (n + 1) c') (ts ++ [y]) → (w.alloc (.cells #[.int .u32 E] 76)).grownBy w' (some g) → (g' = g ∨ w.heap.size < g') → wpList Tryz.prog ops Q rest (a.put o.dst (.slice (some ⟨g', 0, none⟩) (n + 1) c')) w') :
    wpList Tryz.prog ops Q (o :: rest) a (w.alloc (.cells #[.int .u32 E] 76)) := by
  subst hE
  subst hn
  obtain ⟨i0, hi0, hz0, hz1, hz2⟩ := info_parts u32_info
  have hown1 : (w.alloc (.cells #[.int .u32 (y : Int)] 76)).ownsRow B 76 1 (.slice (some ⟨g, 0, none⟩) ts.length c) ts.length (ts.map u32c) := World.ownsRow.alloc hown _
  have hcell := cell_one_new w (.int .u32 (y : Int)) 76
  have hB1 : B ≤ (w.alloc (.cells #[.int .u32 (y : Int)] 76)).heap.size := by simp; omega
  have hsz : (w.alloc (.cells #[.int .u32 (y : Int)] 76)).heap.size = w.heap.size + 1 := by simp
  generalize w.alloc (.cells #[.int .u32 (y : Int)] 76) = W at *
  refine wpList_plain hgd fun K hK => ?_
  obtain ⟨v', w', hr, h2, h3, h4⟩ := run_append_own (P := Tryz.prog) W B 27 o.type 76 i0 (.int .u32 0) 1 4 slice_u32 hi0 hz0 hz1 hz2 rfl (by decide) _ ts.length _ hown1 ⟨w.heap.size, 0, none⟩ 1 cx [.int .u32 (y : Int)] rfl hcell (by simp [Value.oneCell']) (by simp only [maxLen]; omega) (by omega) hB1
  have hv : ∃ g' c', v' = .slice (some ⟨g', 0, none⟩) (ts.length + 1) c' ∧ (g' = g ∨ w.heap.size < g') := by
    rcases hown1.2 with ⟨e, _⟩ | ⟨g0, cap, cur, e, hbg, hg, hnc, hcm, hcs, htake⟩
    · cases e
    · injection e with e1 e2 e3
      injection e1 with e1
      injection e1 with e1
      subst e1 e3
      by_cases hroom : ts.length + 1 ≤ c
      · have hr2 := run_append_room (P := Tryz.prog) W 27 o.type 76 i0 slice_u32 hi0 g ts.length c cur hg ⟨w.heap.size, 0, none⟩ 1 cx [.int .u32 (y : Int)] (by rw [hz1]; rfl) hcell (by simp [Value.oneCell']) hroom (by rw [hz1, hcs]; simp; omega)
        rw [hr] at hr2
        injection hr2 with e _
        exact ⟨_, _, e, .inl rfl⟩
      · have hr2 := run_append_grow (P := Tryz.prog) W 27 o.type 76 i0 (.int .u32 0) slice_u32 hi0 hz0 ⟨g, 0, none⟩ ts.length c (ts.map u32c) (by rw [hz1]; simp) (hown1.cells (g := g) rfl) ⟨w.heap.size, 0, none⟩ 1 cx [.int .u32 (y : Int)] (by rw [hz1]; rfl) hcell (by omega) (by omega) (growslice_fits (by omega) (by rw [hz2]; omega))
        rw [hr] at hr2
        injection hr2 with e _
        exact ⟨_, _, e, .inr (by omega)⟩
  obtain ⟨g', c', rfl, hg'⟩ := hv
  unfold Oper.wp execOp
  simp only [ho, resolve, invoke, builtin, Sem.run_bind, Sem.run_pure, Result.andThen_ok, List.map_toArray, List.map_cons, List.map_nil, hs, hx, hr]
  refine hK _ _ (h g' c' w' ?_ h3 hg')
  have e : (ts ++ [y]).map u32c = ts.map u32c ++ [.int .u32 (y : Int)] := by rw [List.map_append]; rfl
  unfold Ow
  rw [e, List.length_append]
  exact h2
/-- A limb of a slice of the call's own. -/
theorem Ow.nlen {w : World} {B g n c : Nat} {ts : List Nat} (h : Ow w B (.slice (some ⟨g, 0, none⟩) n c) ts) : ts.length = n := by
  rcases h.2 with ⟨e, _⟩ | ⟨g0, cap, cur, e, _⟩
  · cases e
  · injection e with _ e _; exact e.symm
theorem Ow.at_ {w : World} {B g n c : Nat} {ts : List Nat} (h : Ow w B (.slice (some ⟨g, 0, none⟩) n c) ts) {j : Nat} (hj : j < n) : w.cell? ⟨g, j, none⟩ = some (.int .u32 (ts[j]?.getD 0 : Nat)) := by
  have e := h.nlen
  subst e
  have e := World.ownsRow.cellAt h j (by omega)
  rw [getD_map ts j hj] at e
  exact e
theorem Ow.fr {w : World} {B g n c : Nat} {ts : List Nat} (h : Ow w B (.slice (some ⟨g, 0, none⟩) n c) ts) (j : Nat) : w.frozen? ⟨g, j, none⟩ = false := by
  have e := h.nlen
  subst e
  exact World.ownsRow.frozenAt h j
theorem Ow.put {w : World} {B g n c : Nat} {ts : List Nat} (h : Ow w B (.slice (some ⟨g, 0, none⟩) n c) ts) (j t : Nat) : Ow (w.setCell ⟨g, j, none⟩ (.int .u32 (t : Int))) B (.slice (some ⟨g, 0, none⟩) n c) (ts.set j t) := by
  have e := h.nlen
  subst e
  have e := (World.ownsRow.stored h j (u32c t)).1
  rw [← List.map_set] at e
  unfold Ow
  rw [List.length_set]
  exact e
theorem Ow.lt {w : World} {B g n c : Nat} {ts : List Nat} (h : Ow w B (.slice (some ⟨g, 0, none⟩) n c) ts) : B ≤ g ∧ g < w.heap.size := World.ownsRow.lt h g rfl
theorem Ow.keep {w w' : World} {B g n c : Nat} {ts : List Nat} {row : Option Nat} (h : Ow w B (.slice (some ⟨g, 0, none⟩) n c) ts) (hg : w.grownBy w' row) (hne : some g ≠ row) : Ow w' B (.slice (some ⟨g, 0, none⟩) n c) ts :=
  World.ownsRow.kept h hg (.inr hne)
theorem Ow.far {w : World} {B g n c : Nat} {ts : List Nat} (h : Ow w B (.slice (some ⟨g, 0, none⟩) n c) ts) {k i : Nat} (hk : k ≠ g) (v : Value) : Ow (w.setCell ⟨k, i, none⟩ v) B (.slice (some ⟨g, 0, none⟩) n c) ts :=
  h.keep (grownBy_setCellAt w k i v) (fun e => by injection e with e; exact hk e.symm)
theorem Ow.drew {w : World} {B : Nat} {v : Value} {ts : List Nat} (h : Ow w B v ts) : Ow w.drew B v ts := h
theorem Ow.drewN {w : World} {B : Nat} {v : Value} {ts : List Nat} (h : Ow w B v ts) (k : Nat) : Ow (w.drewN k) B v ts := h
theorem take_digs' {cs : List Nat} (g : Good cs) {v : Nat} (hv : val cs = v) : cs.take (digs v).length = digs v := by
  have h1 := tr_digs g rfl
  have h2 := tr_len g rfl
  rw [h2] at h1
  rw [← hv]
  exact h1
/-- What take returns: two numbers, each the call's own, in two blocks. -/
def RT (w : World) (G u v : Nat) (e : Ending) (w' : World) : Prop := ∃ g1 c1 g2 c2, e = .returned (.tuple #[.slice (some ⟨g1, 0, none⟩) (digs u).length c1, .slice (some ⟨g2, 0, none⟩) (digs v).length c2]) ∧
  Ow w' G (.slice (some ⟨g1, 0, none⟩) (digs u).length c1) (digs u) ∧ Ow w' G (.slice (some ⟨g2, 0, none⟩) (digs v).length c2) (digs v) ∧ g1 ≠ g2 ∧ Below G w w'

set_option maxRecDepth 100000 in
set_option maxHeartbeats 1600000 in
theorem take_any (w : World) (G ga gb n m ca cb a b : Nat) (c : Int) (A0 B0 A1 B1 : Nat) (hA : Ow w G (.slice (some ⟨ga, 0, none⟩) n ca) (digs a)) (hB : Ow w G (.slice (some ⟨gb, 0, none⟩) m cb) (digs b)) (hne : ga ≠ gb) (hG : G ≤ w.heap.size)
    (hn : (digs a).length = n) (hm : (digs b).length = m) (hmn : m ≤ n) (hn9 : n ≤ 1000000) (hc0 : 0 ≤ c) (_ : c ≤ 4294967296) (ha0 : A0 < 4294967296) (hb0 : B0 < 4294967296) (ha1 : A1 < 4294967296) (hb1 : B1 < 4294967296) (u v : Nat) (hu9 : u < 4294967296 ^ n) (hv9 : v < 4294967296 ^ n)
    (he : c % 2 = 0 → u + B0 * b = A0 * a ∧ v + A1 * a = B1 * b) (ho : c % 2 = 1 → u + A0 * a = B0 * b ∧ v + B1 * b = A1 * a) :
    Calls Tryz.prog 115 #[.agg (stV c A0 B0 A1 B1), .slice (some ⟨ga, 0, none⟩) n ca, .slice (some ⟨gb, 0, none⟩) m cb] w (RT w G u v) := by
  have hga := (World.ownsRow.lt hA ga rfl).2
  have hgb := (World.ownsRow.lt hB gb rfl).2
  have HA := Lib.hid hA
  have HB := Lib.hid hB
  clear hA hB
  go_enter Tryz.func115, Tryz.ntmps115
  go_wp2
  go_loopw [2] (fun bv wr => ∃ g k cc : Nat, m ≤ k ∧ k ≤ n ∧ bv = .slice (some ⟨g, 0, none⟩) k cc ∧ Ow wr G (.slice (some ⟨g, 0, none⟩) k cc) (digs b ++ zer (k - m)) ∧ g ≠ ga ∧ g ≠ w.heap.size ∧ Ow wr G (.slice (some ⟨ga, 0, none⟩) n ca) (digs a) ∧
      Kd wr w.heap.size 128 (stV c A0 B0 A1 B1) ∧ Below G w wr) (fun bv _ => n - (match bv with | .slice _ k _ => k | _ => 0))
  case atStart => exact ⟨gb, m, cb, Nat.le_refl _, hmn, rfl, (HB.out.alloc _).eq (by rw [Nat.sub_self]; exact (List.append_nil _).symm), Ne.symm hne, by omega, HA.out.alloc _, Kd.new w _ rfl _ _, (Below.refl _ _).alloc hG _⟩
  case round =>
    obtain ⟨g, k, cc, hk1, hk2, rfl, hOb, hg1, hg2, hOa, hS, hb⟩ := hrel
    have HOb := Lib.hid hOb
    have HOa := Lib.hid hOa
    have HS := Lib.hid hS
    have HBl := Lib.hid hb
    have hwr := hS.lt
    have hgs := hb.size
    have hgar := (World.ownsRow.lt hOa ga rfl).2
    clear hOb hOa hS hb
    by_cases hlt : k < n
    · have hlen : (digs b ++ zer (k - m)).length = k := by rw [List.length_append, zer_len, hm]; omega
      go_wp2_with (at_builtin; refine wpList_append_at _ rfl _ _ rfl G g k cc _ rfl HOb.out 0 0 1 rfl (by omega) hlen.symm (by omega) rfl ?_; intro g' c' w1 hO1 hgr hgg)
      go_roundw
      case rel =>
        refine ⟨g', k + 1, c', by omega, by omega, rfl, hO1.eq ?_, by omega, by omega, (HOa.out.alloc _).kept hgr (.inr (by simp [Value.ownBlock]; omega)), (HS.out.alloc _).grown hgr (by intro e; injection e with e; omega), HOb.out.below HBl.out (by omega) hgr⟩
        rw [List.append_assoc, show k + 1 - m = (k - m) + 1 by omega]
        congr 1
        simp [zer, List.replicate_succ']
      case measure => simp; omega
    · obtain rfl : k = n := by omega
      have HVs : Hid (val (digs b ++ zer (k - m)) = b) := by
        show _ = _
        rw [val_append, digs_val, val_zero (xs := zer (k - m)) (fun x hx => (List.mem_replicate.1 hx).2)]
        rfl
      have HGs : Hid (Good (digs b ++ zer (k - m))) := (digs_good b).append (zer_good _)
      have hys : (digs b ++ zer (k - m)).length = k := HOb.out.nlen
      have HVa : Hid (val (digs a) = a) := digs_val a
      have HGa : Hid (Good (digs a)) := digs_good a
      generalize hYY : digs b ++ zer (k - m) = ys at *
      generalize hXX : digs a = xs at *
      have s0 := HS.out.cell 0
      have s1 := HS.out.cell 1
      have s2 := HS.out.cell 2
      have s3 := HS.out.cell 3
      have s4 := HS.out.cell 4
      simp only [stV, List.getElem?_toArray, List.getElem?_cons_zero, List.getElem?_cons_succ] at s0 s1 s2 s3 s4
      by_cases hp : c % 2 = 1
      · have hp2 : c.tmod 2 = 1 := by rw [Int.tmod_eq_emod_of_nonneg hc0]; exact hp
        have HEQ := Lib.hid (ho hp)
        clear hlt he ho
        go_wp2
        have HK1 : Hid (Kd ((wr.alloc (.cells #[.int .u64 (B0 : Int), .int .u64 (A0 : Int), .int .u64 0, .int .u64 0] 142)).alloc (.cells #[.int .u64 (A1 : Int), .int .u64 (B1 : Int), .int .u64 0, .int .u64 0] 142)) wr.heap.size 142 (blV B0 A0 0 0)) := (Kd.new wr _ rfl _ _).alloc _
        have HK2 : Hid (Kd ((wr.alloc (.cells #[.int .u64 (B0 : Int), .int .u64 (A0 : Int), .int .u64 0, .int .u64 0] 142)).alloc (.cells #[.int .u64 (A1 : Int), .int .u64 (B1 : Int), .int .u64 0, .int .u64 0] 142)) (wr.heap.size + 1) 142 (blV A1 B1 0 0)) := Kd.new _ _ (by simp) _ _
        have HO1 := Lib.hid ((HOb.out.alloc (.cells #[.int .u64 (B0 : Int), .int .u64 (A0 : Int), .int .u64 0, .int .u64 0] 142)).alloc (.cells #[.int .u64 (A1 : Int), .int .u64 (B1 : Int), .int .u64 0, .int .u64 0] 142))
        have HO2 := Lib.hid ((HOa.out.alloc (.cells #[.int .u64 (B0 : Int), .int .u64 (A0 : Int), .int .u64 0, .int .u64 0] 142)).alloc (.cells #[.int .u64 (A1 : Int), .int .u64 (B1 : Int), .int .u64 0, .int .u64 0] 142))
        have HB1 : Hid (Below G w ((wr.alloc (.cells #[.int .u64 (B0 : Int), .int .u64 (A0 : Int), .int .u64 0, .int .u64 0] 142)).alloc (.cells #[.int .u64 (A1 : Int), .int .u64 (B1 : Int), .int .u64 0, .int .u64 0] 142))) := (HBl.out.alloc (by omega) _).alloc (by simp; omega) _
        have hL1 := HOb.out.lt.2
        have hL2 := HOa.out.lt.2
        generalize ((wr.alloc (.cells #[.int .u64 (B0 : Int), .int .u64 (A0 : Int), .int .u64 0, .int .u64 0] 142)).alloc (.cells #[.int .u64 (A1 : Int), .int .u64 (B1 : Int), .int .u64 0, .int .u64 0] 142)) = W0 at *
        clear HOa HOb HBl HS s0 s1 s2 s3 s4
        generalize wr.heap.size = N at *
        go_loopw [57] (fun iv wq => ∃ j : Nat, j ≤ k ∧ iv = .int .i64 (j : Int) ∧ Ow wq G (.slice (some ⟨g, 0, none⟩) k cc) ((blK B0 A0 ys xs j).1 ++ ys.drop j) ∧ Ow wq G (.slice (some ⟨ga, 0, none⟩) k ca) ((blK A1 B1 xs ys j).1 ++ xs.drop j) ∧
            Kd wq N 142 (blV B0 A0 (blK B0 A0 ys xs j).2.1 (blK B0 A0 ys xs j).2.2) ∧ Kd wq (N + 1) 142 (blV A1 B1 (blK A1 B1 xs ys j).2.1 (blK A1 B1 xs ys j).2.2) ∧ Below G w wq) (fun iv _ => k - (intOf iv).toNat)
        case atStart => exact ⟨0, Nat.zero_le _, rfl, HO1.out, HO2.out, HK1.out, HK2.out, HB1.out⟩
        case round =>
          obtain ⟨j, hj, rfl, hU1, hU2, hQ1, hQ2, hb⟩ := hrel
          have HU1 := Lib.hid hU1
          have HU2 := Lib.hid hU2
          have HQ1 := Lib.hid hQ1
          have HQ2 := Lib.hid hQ2
          have HBq := Lib.hid hb
          clear hU1 hU2 hQ1 hQ2 hb HO1 HO2 HK1 HK2 HB1
          have hbd1 := blK_bd hb0 ha0 HGs.out HGa.out j
          have hbd2 := blK_bd ha1 hb1 HGa.out HGs.out j
          have hx9 := HGs.out.get j
          have hy9 := HGa.out.get j
          by_cases hlt : j < k
          · have hc1 := HU1.out.at_ hlt
            have hc2 := HU2.out.at_ hlt
            rw [bl_at] at hc1 hc2
            have HSt1 := Lib.hid (bl_set (p := B0) (m := A0) (xs := ys) (ys := xs) (j := j) (by rw [hys]; exact hlt))
            have HSt2 := Lib.hid (bl_set (p := A1) (m := B1) (xs := xs) (ys := ys) (j := j) (by rw [hn]; exact hlt))
            have HDa : Hid ((blK B0 A0 ys xs (j + 1)).2.1 = blC ((blK B0 A0 ys xs j).2.1 + B0 * ys[j]?.getD 0) ∧ (blK B0 A0 ys xs (j + 1)).2.2 = blT ((blK B0 A0 ys xs j).2.1 + B0 * ys[j]?.getD 0) ((blK B0 A0 ys xs j).2.2 + A0 * xs[j]?.getD 0)) := ⟨rfl, rfl⟩
            have HDb : Hid ((blK A1 B1 xs ys (j + 1)).2.1 = blC ((blK A1 B1 xs ys j).2.1 + A1 * xs[j]?.getD 0) ∧ (blK A1 B1 xs ys (j + 1)).2.2 = blT ((blK A1 B1 xs ys j).2.1 + A1 * xs[j]?.getD 0) ((blK A1 B1 xs ys j).2.2 + B1 * ys[j]?.getD 0)) := ⟨rfl, rfl⟩
            have HLt1 : Hid (g < N) := hL1
            have HLt2 : Hid (ga < N) := hL2
            have hqs := HQ2.out.lt
            generalize ys[j]?.getD 0 = x at *
            generalize xs[j]?.getD 0 = y at *
            generalize (blK B0 A0 ys xs j).2.1 = ka at *
            generalize (blK B0 A0 ys xs j).2.2 = sa at *
            generalize (blK A1 B1 xs ys j).2.1 = kb at *
            generalize (blK A1 B1 xs ys j).2.2 = sb at *
            go_wp2
            go_quiet (fail)
            go_wp2_with fail
            refine (next_any _ N _ B0 A0 ka sa x y (HQ1.out.drewN nq) hb0 ha0 hbd1.1 hbd1.2 hx9 hy9).mono ?_
            rintro e w1 ⟨rfl, hR1, hG1⟩
            have HR1 := Lib.hid hR1
            have HV1 := Lib.hid ((HU1.out.drewN nq).keep hG1 (fun e => by injection e with e; have := HLt1.out; omega))
            have HV2 := Lib.hid ((HU2.out.drewN nq).keep hG1 (fun e => by injection e with e; have := HLt2.out; omega))
            have HR2 := Lib.hid ((HQ2.out.drewN nq).grown hG1 (fun e => by injection e with e; omega))
            have hGN : G ≤ N := by have := HLt1.out; have := HU1.out.lt.1; omega
            have HBr := Lib.hid ((bdrewN HBq.out nq).grown hG1 (Nat.le_trans hG HBq.out.size) (fun b e => by injection e with e; omega))
            clear hR1 hG1 hc1 hc2
            have hc1 := HV1.out.at_ hlt
            have hf1 := HV1.out.fr j
            go_wp2_with fail
            have HN1 : Hid (N ≠ g) := by show _ ≠ _; have := HLt1.out; omega
            refine (next_any _ (N + 1) _ A1 B1 kb sb y x (HR2.out.far (i := j) (show g ≠ N + 1 by have := HLt1.out; omega) _) ha1 hb1 hbd2.1 hbd2.2 hy9 hx9).mono ?_
            rintro e w2 ⟨rfl, hR2, hG2⟩
            have HX1 := Lib.hid ((HV1.out.put j _).keep hG2 (fun e => by injection e with e; have := HLt1.out; omega))
            have HX2 := Lib.hid ((HV2.out.far (i := j) hg1 _).keep hG2 (fun e => by injection e with e; have := HLt2.out; omega))
            have HY1 := Lib.hid ((HR1.out.far (i := j) (Ne.symm HN1.out) _).grown hG2 (fun e => by injection e with e; omega))
            have HY2 := Lib.hid hR2
            have HBs := Lib.hid ((HBr.out.setCell (p := ⟨g, j, none⟩) HU1.out.lt.1 _).grown hG2 (by rw [World.size_setCell]; exact Nat.le_trans hG HBr.out.size) (fun b e => by injection e with e; omega))
            clear hR2 hG2 hc1 hf1
            have hc2 := HX2.out.at_ hlt
            have hf2 := HX2.out.fr j
            go_wp2
            go_roundw
            case rel =>
              have e1 := HX1.out.far (i := j) (Ne.symm hg1) (.int .u32 ((blO (kb + A1 * y) (sb + B1 * x) : Nat) : Int))
              have e2 := HX2.out.put j (blO (kb + A1 * y) (sb + B1 * x))
              rw [HSt1.out] at e1
              rw [HSt2.out] at e2
              refine ⟨j + 1, by omega, by go_num, e1, e2, ?_, ?_, HBs.out.setCell (p := ⟨ga, j, none⟩) HU2.out.lt.1 _⟩
              · have e3 := HY1.out.far (i := j) (show ga ≠ N by have := HLt2.out; omega) (.int .u32 ((blO (kb + A1 * y) (sb + B1 * x) : Nat) : Int))
                rw [← HDa.out.1, ← HDa.out.2] at e3
                exact e3
              · have e3 := HY2.out.far (i := j) (show ga ≠ N + 1 by have := HLt2.out; omega) (.int .u32 ((blO (kb + A1 * y) (sb + B1 * x) : Nat) : Int))
                rw [← HDb.out.1, ← HDb.out.2] at e3
                exact e3
            case measure => simp [intOf]; omega
          · obtain rfl : j = k := by omega
            have HE1 : Hid (val (blK B0 A0 ys xs j).1 = u) := bl_all hys hn hu9 (by rw [HVs.out, HVa.out]; exact HEQ.out.1)
            have HE2 : Hid (val (blK A1 B1 xs ys j).1 = v) := bl_all hn hys hv9 (by rw [HVs.out, HVa.out]; exact HEQ.out.2)
            have HM1 := Lib.hid (HU1.out.toLm ((blK_good _ _ _ _ _).append (HGs.out.drop _)))
            have HM2 := Lib.hid (HU2.out.toLm ((blK_good _ _ _ _ _).append (HGa.out.drop _)))
            have HD1 : Hid (ys.drop j = []) := List.drop_of_length_le (by rw [hys]; exact Nat.le_refl _)
            have HD2 : Hid (xs.drop j = []) := List.drop_of_length_le (by rw [hn]; exact Nat.le_refl _)
            rw [HD1.out, List.append_nil] at HM1 HU1
            rw [HD2.out, List.append_nil] at HM2 HU2
            go_wp2_with fail
            refine (trim_any _ _ _ _ _ _ u HM1.out HE1.out).mono ?_
            rintro e w1 ⟨rfl, rfl⟩
            go_wp2_with fail
            refine (trim_any _ _ _ _ _ _ v HM2.out HE2.out).mono ?_
            rintro e w1 ⟨rfl, rfl⟩
            go_wp2
            go_ret2
            have hl1 : (digs u).length ≤ j := digs_len.2 hu9
            have hl2 : (digs v).length ≤ j := digs_len.2 hv9
            refine ⟨_, _, _, _, rfl, (HU1.out.shrink hl1).eq (take_digs' (blK_good _ _ _ _ _) HE1.out), (HU2.out.shrink hl2).eq (take_digs' (blK_good _ _ _ _ _) HE2.out), hg1, HBq.out⟩
      · have hp2 : c % 2 = 0 := by omega
        have hp3 : c.tmod 2 = 0 := by rw [Int.tmod_eq_emod_of_nonneg hc0]; exact hp2
        have HEQ := Lib.hid (he hp2)
        clear hlt hp he ho
        go_wp2
        have HK1 : Hid (Kd ((wr.alloc (.cells #[.int .u64 (A0 : Int), .int .u64 (B0 : Int), .int .u64 0, .int .u64 0] 142)).alloc (.cells #[.int .u64 (B1 : Int), .int .u64 (A1 : Int), .int .u64 0, .int .u64 0] 142)) wr.heap.size 142 (blV A0 B0 0 0)) := (Kd.new wr _ rfl _ _).alloc _
        have HK2 : Hid (Kd ((wr.alloc (.cells #[.int .u64 (A0 : Int), .int .u64 (B0 : Int), .int .u64 0, .int .u64 0] 142)).alloc (.cells #[.int .u64 (B1 : Int), .int .u64 (A1 : Int), .int .u64 0, .int .u64 0] 142)) (wr.heap.size + 1) 142 (blV B1 A1 0 0)) := Kd.new _ _ (by simp) _ _
        have HO1 := Lib.hid ((HOa.out.alloc (.cells #[.int .u64 (A0 : Int), .int .u64 (B0 : Int), .int .u64 0, .int .u64 0] 142)).alloc (.cells #[.int .u64 (B1 : Int), .int .u64 (A1 : Int), .int .u64 0, .int .u64 0] 142))
        have HO2 := Lib.hid ((HOb.out.alloc (.cells #[.int .u64 (A0 : Int), .int .u64 (B0 : Int), .int .u64 0, .int .u64 0] 142)).alloc (.cells #[.int .u64 (B1 : Int), .int .u64 (A1 : Int), .int .u64 0, .int .u64 0] 142))
        have HB1 : Hid (Below G w ((wr.alloc (.cells #[.int .u64 (A0 : Int), .int .u64 (B0 : Int), .int .u64 0, .int .u64 0] 142)).alloc (.cells #[.int .u64 (B1 : Int), .int .u64 (A1 : Int), .int .u64 0, .int .u64 0] 142))) := (HBl.out.alloc (by omega) _).alloc (by simp; omega) _
        have hL1 := HOa.out.lt.2
        have hL2 := HOb.out.lt.2
        generalize ((wr.alloc (.cells #[.int .u64 (A0 : Int), .int .u64 (B0 : Int), .int .u64 0, .int .u64 0] 142)).alloc (.cells #[.int .u64 (B1 : Int), .int .u64 (A1 : Int), .int .u64 0, .int .u64 0] 142)) = W0 at *
        clear HOa HOb HBl HS s0 s1 s2 s3 s4
        generalize wr.heap.size = N at *
        go_loopw [57] (fun iv wq => ∃ j : Nat, j ≤ k ∧ iv = .int .i64 (j : Int) ∧ Ow wq G (.slice (some ⟨ga, 0, none⟩) k ca) ((blK A0 B0 xs ys j).1 ++ xs.drop j) ∧ Ow wq G (.slice (some ⟨g, 0, none⟩) k cc) ((blK B1 A1 ys xs j).1 ++ ys.drop j) ∧
            Kd wq N 142 (blV A0 B0 (blK A0 B0 xs ys j).2.1 (blK A0 B0 xs ys j).2.2) ∧ Kd wq (N + 1) 142 (blV B1 A1 (blK B1 A1 ys xs j).2.1 (blK B1 A1 ys xs j).2.2) ∧ Below G w wq) (fun iv _ => k - (intOf iv).toNat)
        case atStart => exact ⟨0, Nat.zero_le _, rfl, HO1.out, HO2.out, HK1.out, HK2.out, HB1.out⟩
        case round =>
          obtain ⟨j, hj, rfl, hU1, hU2, hQ1, hQ2, hb⟩ := hrel
          have HU1 := Lib.hid hU1
          have HU2 := Lib.hid hU2
          have HQ1 := Lib.hid hQ1
          have HQ2 := Lib.hid hQ2
          have HBq := Lib.hid hb
          clear hU1 hU2 hQ1 hQ2 hb HO1 HO2 HK1 HK2 HB1
          have hbd1 := blK_bd ha0 hb0 HGa.out HGs.out j
          have hbd2 := blK_bd hb1 ha1 HGs.out HGa.out j
          have hx9 := HGa.out.get j
          have hy9 := HGs.out.get j
          by_cases hlt : j < k
          · have hc1 := HU1.out.at_ hlt
            have hc2 := HU2.out.at_ hlt
            rw [bl_at] at hc1 hc2
            have HSt1 := Lib.hid (bl_set (p := A0) (m := B0) (xs := xs) (ys := ys) (j := j) (by rw [hn]; exact hlt))
            have HSt2 := Lib.hid (bl_set (p := B1) (m := A1) (xs := ys) (ys := xs) (j := j) (by rw [hys]; exact hlt))
            have HDa : Hid ((blK A0 B0 xs ys (j + 1)).2.1 = blC ((blK A0 B0 xs ys j).2.1 + A0 * xs[j]?.getD 0) ∧ (blK A0 B0 xs ys (j + 1)).2.2 = blT ((blK A0 B0 xs ys j).2.1 + A0 * xs[j]?.getD 0) ((blK A0 B0 xs ys j).2.2 + B0 * ys[j]?.getD 0)) := ⟨rfl, rfl⟩
            have HDb : Hid ((blK B1 A1 ys xs (j + 1)).2.1 = blC ((blK B1 A1 ys xs j).2.1 + B1 * ys[j]?.getD 0) ∧ (blK B1 A1 ys xs (j + 1)).2.2 = blT ((blK B1 A1 ys xs j).2.1 + B1 * ys[j]?.getD 0) ((blK B1 A1 ys xs j).2.2 + A1 * xs[j]?.getD 0)) := ⟨rfl, rfl⟩
            have HLt1 : Hid (ga < N) := hL1
            have HLt2 : Hid (g < N) := hL2
            have hqs := HQ2.out.lt
            generalize xs[j]?.getD 0 = x at *
            generalize ys[j]?.getD 0 = y at *
            generalize (blK A0 B0 xs ys j).2.1 = ka at *
            generalize (blK A0 B0 xs ys j).2.2 = sa at *
            generalize (blK B1 A1 ys xs j).2.1 = kb at *
            generalize (blK B1 A1 ys xs j).2.2 = sb at *
            go_wp2
            go_quiet (fail)
            go_wp2_with fail
            refine (next_any _ N _ A0 B0 ka sa x y (HQ1.out.drewN nq) ha0 hb0 hbd1.1 hbd1.2 hx9 hy9).mono ?_
            rintro e w1 ⟨rfl, hR1, hG1⟩
            have HR1 := Lib.hid hR1
            have HV1 := Lib.hid ((HU1.out.drewN nq).keep hG1 (fun e => by injection e with e; have := HLt1.out; omega))
            have HV2 := Lib.hid ((HU2.out.drewN nq).keep hG1 (fun e => by injection e with e; have := HLt2.out; omega))
            have HR2 := Lib.hid ((HQ2.out.drewN nq).grown hG1 (fun e => by injection e with e; omega))
            have hGN : G ≤ N := by have := HLt1.out; have := HU1.out.lt.1; omega
            have HBr := Lib.hid ((bdrewN HBq.out nq).grown hG1 (Nat.le_trans hG HBq.out.size) (fun b e => by injection e with e; omega))
            clear hR1 hG1 hc1 hc2
            have hc1 := HV1.out.at_ hlt
            have hf1 := HV1.out.fr j
            go_wp2_with fail
            have HN1 : Hid (N ≠ ga) := by show _ ≠ _; have := HLt1.out; omega
            refine (next_any _ (N + 1) _ B1 A1 kb sb y x (HR2.out.far (i := j) (show ga ≠ N + 1 by have := HLt1.out; omega) _) hb1 ha1 hbd2.1 hbd2.2 hy9 hx9).mono ?_
            rintro e w2 ⟨rfl, hR2, hG2⟩
            have HX1 := Lib.hid ((HV1.out.put j _).keep hG2 (fun e => by injection e with e; have := HLt1.out; omega))
            have HX2 := Lib.hid ((HV2.out.far (i := j) (Ne.symm hg1) _).keep hG2 (fun e => by injection e with e; have := HLt2.out; omega))
            have HY1 := Lib.hid ((HR1.out.far (i := j) (Ne.symm HN1.out) _).grown hG2 (fun e => by injection e with e; omega))
            have HY2 := Lib.hid hR2
            have HBs := Lib.hid ((HBr.out.setCell (p := ⟨ga, j, none⟩) HU1.out.lt.1 _).grown hG2 (by rw [World.size_setCell]; exact Nat.le_trans hG HBr.out.size) (fun b e => by injection e with e; omega))
            clear hR2 hG2 hc1 hf1
            have hc2 := HX2.out.at_ hlt
            have hf2 := HX2.out.fr j
            go_wp2
            go_roundw
            case rel =>
              have e1 := HX1.out.far (i := j) hg1 (.int .u32 ((blO (kb + B1 * y) (sb + A1 * x) : Nat) : Int))
              have e2 := HX2.out.put j (blO (kb + B1 * y) (sb + A1 * x))
              rw [HSt1.out] at e1
              rw [HSt2.out] at e2
              refine ⟨j + 1, by omega, by go_num, e1, e2, ?_, ?_, HBs.out.setCell (p := ⟨g, j, none⟩) HU2.out.lt.1 _⟩
              · have e3 := HY1.out.far (i := j) (show g ≠ N by have := HLt2.out; omega) (.int .u32 ((blO (kb + B1 * y) (sb + A1 * x) : Nat) : Int))
                rw [← HDa.out.1, ← HDa.out.2] at e3
                exact e3
              · have e3 := HY2.out.far (i := j) (show g ≠ N + 1 by have := HLt2.out; omega) (.int .u32 ((blO (kb + B1 * y) (sb + A1 * x) : Nat) : Int))
                rw [← HDb.out.1, ← HDb.out.2] at e3
                exact e3
            case measure => simp [intOf]; omega
          · obtain rfl : j = k := by omega
            have HE1 : Hid (val (blK A0 B0 xs ys j).1 = u) := bl_all hn hys hu9 (by rw [HVa.out, HVs.out]; exact HEQ.out.1)
            have HE2 : Hid (val (blK B1 A1 ys xs j).1 = v) := bl_all hys hn hv9 (by rw [HVa.out, HVs.out]; exact HEQ.out.2)
            have HM1 := Lib.hid (HU1.out.toLm ((blK_good _ _ _ _ _).append (HGa.out.drop _)))
            have HM2 := Lib.hid (HU2.out.toLm ((blK_good _ _ _ _ _).append (HGs.out.drop _)))
            have HD1 : Hid (xs.drop j = []) := List.drop_of_length_le (by rw [hn]; exact Nat.le_refl _)
            have HD2 : Hid (ys.drop j = []) := List.drop_of_length_le (by rw [hys]; exact Nat.le_refl _)
            rw [HD1.out, List.append_nil] at HM1 HU1
            rw [HD2.out, List.append_nil] at HM2 HU2
            go_wp2_with fail
            refine (trim_any _ _ _ _ _ _ u HM1.out HE1.out).mono ?_
            rintro e w1 ⟨rfl, rfl⟩
            go_wp2_with fail
            refine (trim_any _ _ _ _ _ _ v HM2.out HE2.out).mono ?_
            rintro e w1 ⟨rfl, rfl⟩
            go_wp2
            go_ret2
            have hl1 : (digs u).length ≤ j := digs_len.2 hu9
            have hl2 : (digs v).length ≤ j := digs_len.2 hv9
            refine ⟨_, _, _, _, rfl, (HU1.out.shrink hl1).eq (take_digs' (blK_good _ _ _ _ _) HE1.out), (HU2.out.shrink hl2).eq (take_digs' (blK_good _ _ _ _ _) HE2.out), (Ne.symm hg1), HBq.out⟩
end Go.Proofs.YtglgfjknhplajaaGreatDoor

/- wide.divisor and Gcd. -/
namespace Go.Proofs.YtglgfjknhplajaaGreatDoor
open Go.RowKit

/-- A call returns the limbs of v. -/
def RGl (w : World) (v : Nat) (e : Ending) (w' : World) : Prop := ∃ A c, e = .returned (.slice A (digs v).length c) ∧ Lm w' w'.heap.size A (digs v).length c (digs v) ∧ Below w.heap.size w w'
theorem two_lt {b : Nat} (h : (digs b).length ≤ 2) : b < 18446744073709551616 := by
  have := digs_len.1 h
  omega
theorem clone_ow' (w : World) (A : Option Addr) (n c : Nat) (xs : List Nat) (h : Lm w w.heap.size A n c xs) (hn : n ≤ 1000000000) :
    Calls Tryz.prog 95 #[.slice A n c] w fun e w' => ∃ A' c', e = .returned (.slice A' n c') ∧ Ow w' w.heap.size (.slice A' n c') xs ∧ Below w.heap.size w w' := by
  obtain ⟨i0, hi0, hz0, hz1, hz2⟩ := info_parts u32_info
  have hr := h.max
  have hl := h.len
  have HH := Lib.hid h
  have hnil := fun (w : World) (a : Option Addr) (n c n' c' : Nat) => Lib.run_eql_slice_nil (P := Tryz.prog) w 27 76 a n c n' c' slice_u32
  rcases A with _ | ad
  · have hm : n = 0 := by
      rcases Nat.eq_zero_or_pos n with h0 | h0
      · exact h0
      · obtain ⟨b, off, e, _⟩ := h.at_ h0
        cases e
    subst hm
    obtain rfl := h.nil_ rfl
    obtain rfl : xs = [] := List.eq_nil_of_length_eq_zero hl
    go_enter Tryz.func95, Tryz.ntmps95
    go_wp2
    go_ret
    exact ⟨_, _, rfl, Ow.nil _ _, Below.refl _ _⟩
  · go_enter Tryz.func95, Tryz.ntmps95
    go_wp2_with (at_builtin; refine wpList_append_lm _ rfl _ _ _ rfl w.heap.size _ i0 slice_u32 hi0 hz0 hz1 hz2 _ 0 [] rfl (World.ownsRow_made _ _ _ (Nat.le_refl _) (by simp [maxLen]) rfl) _ _ _ _ xs rfl (HH.out.box _) (by simp only [maxLen]; omega) (by omega) (by simp) ?_; intro v1 w1 hown1 hg1)
    go_ret
    rw [Nat.zero_add, List.nil_append] at hown1
    have hO : Ow w1 w.heap.size v1 xs := by unfold Ow; rw [hl]; exact hown1
    obtain ⟨A', c', rfl, hL⟩ := hO.lm HH.out.good
    rw [hl] at hO ⊢
    refine ⟨A', c', rfl, hO, ((Below.refl _ _).alloc (Nat.le_refl _) _).grown hg1 (by simp) (fun k hk => ?_)⟩
    have e : w.heap.size = k := Option.some.inj hk
    omega
theorem Ow.via {w w' : World} {B : Nat} {v : Value} {ts : List Nat} (h : Ow w B v ts) (hb : Below w.heap.size w w') : Ow w' B v ts :=
  World.ownsRow.kept (row := none) h ⟨hb.os, hb.tape, hb.output, hb.size, fun k hk _ => hb.block k hk⟩ (by cases v.ownBlock <;> simp)
/-- Two slices do not share a block. -/
def Apt (v v' : Value) : Prop := ∀ g, v.ownBlock = some g → v'.ownBlock = some g → False
/-- The number that a slice of limbs reads as. -/
def rdV (w : World) : Value → Nat
  | .slice (some ad) n _ => val ((List.range n).map fun j => match w.cell? ⟨ad.block, ad.off + j, none⟩ with | some (.int _ z) => z.toNat | _ => 0)
  | _ => 0
theorem rdV_lm {w : World} {B n c : Nat} {A : Option Addr} {xs : List Nat} (h : Lm w B A n c xs) : rdV w (.slice A n c) = val xs := by
  rcases A with _ | ad
  · rcases Nat.eq_zero_or_pos n with h0 | h0
    · obtain rfl : xs = [] := List.eq_nil_of_length_eq_zero (by rw [h.len]; exact h0)
      rfl
    · obtain ⟨b, off, e, _⟩ := h.at_ h0
      cases e
  · show val _ = _
    congr 1
    refine List.ext_getElem? fun j => ?_
    by_cases hj : j < n
    · obtain ⟨b, off, e, _, hc⟩ := h.cell hj
      injection e with e
      subst e
      rw [List.getElem?_map, List.getElem?_range hj]
      show some (match w.cell? ⟨b, off + j, none⟩ with | some (.int _ z) => z.toNat | _ => 0) = _
      rw [hc, get_nat xs j (by rw [h.len]; exact hj)]
      rfl
    · rw [List.getElem?_eq_none (by simp; omega), List.getElem?_eq_none (by rw [h.len]; omega)]
theorem rdV_ow {w : World} {B n c v : Nat} {A : Option Addr} (h : Ow w B (.slice A n c) (digs v)) : rdV w (.slice A n c) = v := by rw [rdV_lm (h.toLm (digs_good _)), digs_val]
theorem win_0 {b : Nat} (h : b < 18446744073709551616) : win b 0 = b := by unfold win; rw [Nat.pow_zero, Nat.div_one]; exact Nat.mod_eq_of_lt h

set_option maxRecDepth 100000 in
set_option maxHeartbeats 2000000 in
theorem divisor_lt (w : World) (A B : Option Addr) (n0 m0 ca cb a0 b0 : Nat) (hA : Lm w w.heap.size A n0 ca (digs a0)) (hB : Lm w w.heap.size B m0 cb (digs b0)) (hlt : b0 < a0) (hn : n0 ≤ 4096) (hm : m0 ≤ 4096) :
    Calls Tryz.prog 93 #[.slice B m0 cb, .slice A n0 ca] w (RGl w (Nat.gcd a0 b0)) := by
  obtain ⟨z, hz, HC⟩ : ∃ z : Int, decide (z < 0) = true ∧ Hid (cmpL (digs b0) (digs a0) = z) := ⟨_, by rw [cmpL_norm (digs_good _) (digs_good _) (digs_norm _) (digs_norm _), digs_val, digs_val]; rw [cmpN_lt hlt]; decide, rfl⟩
  have hcA := hA.cap
  have hxA := hA.max
  have hcB := hB.cap
  have hxB := hB.max
  have HA := Lib.hid hA
  have HB := Lib.hid hB
  have HN0 := Lib.hid hA.len
  have HM0 := Lib.hid hB.len
  have HLE : Hid (b0 ≤ a0) := by show _ ≤ _; omega
  clear hA hB hlt
  go_enter Tryz.func93, Tryz.ntmps93
  go_wp2_with fail
  refine (compare_any _ _ _ _ _ _ (digs b0) (digs a0) _ HB.out HA.out).mono ?_
  rintro e w1 ⟨he, hb1⟩
  rw [HC.out] at he
  subst he
  have HA1 := Lib.hid (HA.out.via hb1)
  have HB1 := Lib.hid (HB.out.via hb1)
  have HBl1 := Lib.hid hb1
  clear hb1
  go_wp2_with fail
  refine (clone_ow' _ _ _ _ (digs a0) HA1.out (by omega)).mono ?_
  rintro e w2 ⟨A2, c2, rfl, hO2, hb2⟩
  have HB2 := Lib.hid (HB1.out.via hb2)
  have HO2 := Lib.hid hO2
  have HS2 : Hid (w1.heap.size ≤ w2.heap.size) := hb2.size
  have HBl2 := Lib.hid (HBl1.out.trans (hb2.mono HBl1.out.size))
  clear hb2 hO2 HA1 HB1
  go_wp2_with fail
  refine (clone_ow' _ _ _ _ (digs b0) HB2.out (by omega)).mono ?_
  rintro e w3 ⟨B3, c3, rfl, hO3, hb3⟩
  have HO3 := Lib.hid hO3
  have HO23 : Hid (Ow w3 w1.heap.size (.slice A2 n0 c2) (digs a0)) := HO2.out.via hb3
  have HBl3 := Lib.hid (HBl2.out.trans (hb3.mono HBl2.out.size))
  have HAp : Hid (Apt (.slice A2 n0 c2) (.slice B3 m0 c3)) := fun g h1 h2 => by
    have e1 := (World.ownsRow.lt HO2.out g h1).2
    have e2 := (World.ownsRow.lt HO3.out g h2).1
    omega
  have HW1 : Hid (w.heap.size ≤ w1.heap.size) := HBl1.out.size
  have HW2 : Hid (w.heap.size ≤ w2.heap.size) := HBl2.out.size
  clear hb3 hO3 HB2
  go_wp2
  go_loopw [0, 1] (fun p q wr => ∃ (a b n m c2 c3 : Nat) (A2 B3 : Option Addr), p = .slice A2 n c2 ∧ q = .slice B3 m c3 ∧ (digs a).length = n ∧ (digs b).length = m ∧ Ow wr w.heap.size (.slice A2 n c2) (digs a) ∧ Ow wr w.heap.size (.slice B3 m c3) (digs b) ∧ Apt (.slice A2 n c2) (.slice B3 m c3) ∧
      b ≤ a ∧ a ≤ a0 ∧ Nat.gcd a b = Nat.gcd a0 b0 ∧ Below w.heap.size w wr) (fun p q wr => rdV wr p + rdV wr q)
  case atStart => exact ⟨a0, b0, n0, m0, c2, c3, A2, B3, rfl, rfl, HN0.out, HM0.out, HO23.out.mono HW1.out, HO3.out.mono HW2.out, HAp.out, HLE.out, Nat.le_refl _, rfl, HBl3.out⟩
  case round =>
    clear HO2 HO3 HO23 HBl1 HBl2 HBl3 HAp HS2
    obtain ⟨a, b, n, m, c2, c3, A2, B3, rfl, rfl, hN, hM, hO2, hO3, hap, hle, haa, hg, hbl⟩ := hrel
    have hn : n ≤ 4096 := by
      have e := digs_mono haa
      rw [hN, HN0.out] at e
      omega
    have hm : m ≤ 4096 := by
      have e := digs_mono (Nat.le_trans hle haa)
      rw [hM, HN0.out] at e
      omega
    have HN := Lib.hid hN
    have HM := Lib.hid hM
    have HO2 := Lib.hid hO2
    have HO3 := Lib.hid hO3
    have HA3 := Lib.hid (hO2.toLm (digs_good _))
    have HB3 := Lib.hid (hO3.toLm (digs_good _))
    have HBl3 := Lib.hid hbl
    have HAp := Lib.hid hap
    have HGG := Lib.hid hg
    have HLE := Lib.hid hle
    have HAA := Lib.hid haa
    have hc2 := HA3.out.cap
    have hx2 := HA3.out.max
    have hc3 := HB3.out.cap
    have hx3 := HB3.out.max
    clear hN hM hO2 hO3 hbl hap hg hle haa
    by_cases hm2 : 2 < m
    · have hb0 : 0 < b := by rw [← digs_pos, HM.out]; omega
      have hs3 := HBl3.out.size
      go_wp2_with fail
      refine (foresee_any _ _ _ _ _ _ _ a b HA3.out HB3.out HLE.out (by omega) (by omega)).mono ?_
      rintro e w4 ⟨c, A0, B0, A1, B1, rfl, hc9, ⟨p, s, x, y, A2', B2', hI⟩, hb4⟩
      have HI := Lib.hid hI
      have HP2 := Lib.hid (HO2.out.via hb4)
      have HP3 := Lib.hid (HO3.out.via hb4)
      have HBl4 := Lib.hid (HBl3.out.trans (hb4.mono HBl3.out.size))
      clear hI hb4
      by_cases hc : 0 < c
      · obtain ⟨u, v, hvu, huv, hsum, hua, t1, t2, t3, t4, t5, t6⟩ := leh_take HI.out hc hb0
        have HU := Lib.hid hvu
        have HUV := Lib.hid huv
        have HSum := Lib.hid hsum
        have HUA := Lib.hid hua
        have HT5 := Lib.hid t5
        have HT6 := Lib.hid t6
        obtain ⟨ga, rfl, e1, _⟩ := HP2.out.ob (by rw [HN.out]; have := digs_mono HLE.out; rw [HN.out, HM.out] at this; omega)
        obtain ⟨gb, rfl, e2, _⟩ := HP3.out.ob (by rw [HM.out]; omega)
        have HNe : Hid (ga ≠ gb) := fun e => HAp.out ga rfl (by rw [e]; rfl)
        have HUB : Hid (u < 4294967296 ^ n) := Nat.lt_of_le_of_lt hua (digs_len.1 (Nat.le_of_eq HN.out))
        have HVB : Hid (v < 4294967296 ^ n) := Nat.lt_of_le_of_lt hvu HUB.out
        have HMN : Hid (m ≤ n) := by have := digs_mono HLE.out; rw [HN.out, HM.out] at this; exact this
        have hs4 := HBl4.out.size
        clear hvu huv hsum hua t5 t6 e1 e2
        go_wp2_with fail
        refine (take_any _ w.heap.size ga gb n m c2 c3 a b c A0 B0 A1 B1 (HP2.out.alloc _) (HP3.out.alloc _) HNe.out (by simp; omega) HN.out HM.out HMN.out (by omega) (by omega) hc9 t1 t2 t3 t4 u v HUB.out HVB.out HT5.out HT6.out).mono ?_
        rintro e w6 ⟨g1, k1, g2, k2, rfl, hU6, hV6, hne6, hb6⟩
        have HU6 := Lib.hid hU6
        have HV6 := Lib.hid hV6
        have HNe6 := Lib.hid hne6
        have HBl6 := Lib.hid ((HBl4.out.alloc hs4 _).trans hb6)
        clear hU6 hV6 hne6 hb6
        go_wp2
        go_roundw
        case rel =>
          exact ⟨u, v, _, _, k1, k2, some ⟨g1, 0, none⟩, some ⟨g2, 0, none⟩, rfl, rfl, rfl, rfl, HU6.out, HV6.out, (fun g e1 e2 => by injection e1 with e1; injection e2 with e2; exact HNe6.out (e1.trans e2.symm)), HU.out, Nat.le_trans HUA.out HAA.out, HUV.out.trans HGG.out, HBl6.out⟩
        case measure =>
          rw [rdV_ow HU6.out, rdV_ow HV6.out, rdV_ow HO2.out, rdV_ow HO3.out]
          exact HSum.out
      · have hcd : decide (0 < c) = false := by simpa using hc
        have HA4 := Lib.hid (HP2.out.toLm (digs_good _))
        have HB4 := Lib.hid (HP3.out.toLm (digs_good _))
        have hs4 := HBl4.out.size
        go_wp2_with fail
        refine (divide_ow _ A2 B3 n m c2 c3 a b (HA4.out.box _) (HB4.out.box _) HLE.out (by omega) (by omega)).mono ?_
        rintro e w6 ⟨Q, cq, R, cr, rfl, _, hR6, hb6⟩
        have HR6 := Lib.hid hR6
        have HP6 := Lib.hid ((HP3.out.alloc _).via hb6)
        have HBl6 := Lib.hid ((HBl4.out.alloc hs4 _).trans (hb6.mono (by simp; omega)))
        have HX : Hid (w.heap.size ≤ w4.heap.size + 1) := by show _ ≤ _; omega
        clear hR6 hb6
        go_wp2
        go_roundw
        case rel =>
          exact ⟨b, a % b, m, _, c3, cr, B3, R, rfl, rfl, HM.out, rfl, HP6.out, HR6.out.mono (by simp only [World.size_alloc]; exact HX.out), (fun g e1 e2 => by
            have l1 := (World.ownsRow.lt HP3.out g e1).2
            have l2 := (World.ownsRow.lt HR6.out g e2).1
            simp only [World.size_alloc] at l2
            omega), Nat.le_of_lt (Nat.mod_lt a hb0), Nat.le_trans HLE.out HAA.out, by rw [← HGG.out, Nat.gcd_comm b, ← Nat.gcd_rec, Nat.gcd_comm], HBl6.out⟩
        case measure =>
          rw [rdV_ow HP6.out, rdV_ow HR6.out, rdV_ow HO2.out, rdV_ow HO3.out]
          have := Nat.mod_lt a hb0
          have := HLE.out
          omega
    · have hb9 : b < 18446744073709551616 := two_lt (by rw [HM.out]; omega)
      have HWb := Lib.hid (win_0 hb9)
      have hm2' : m ≤ 2 := by omega
      clear hm2
      rcases Nat.eq_zero_or_pos m with h0 | h0
      · have HG : Hid (Nat.gcd a b = a) := by
          show _ = _
          obtain rfl : b = 0 := digs_nil.1 (List.eq_nil_of_length_eq_zero (by rw [HM.out]; exact h0))
          exact Nat.gcd_zero_right a
        subst h0
        go_wp2
        go_ret
        rw [← HGG.out, HG.out]
        exact ⟨A2, c2, by rw [HN.out]; rfl, by rw [HN.out]; exact HA3.out, HBl3.out⟩
      · have hb0 : 0 < b := by rw [← digs_pos, HM.out]; exact h0
        have hmz : ((m : Int) == 0) = false := by simp; omega
        go_wp2_with fail
        refine (divide_any wr A2 B3 n m c2 c3 a b HA3.out HB3.out hb0 (by omega)).mono ?_
        rintro e w4 ⟨Q, cq, R, cr, rfl, hQ, hR, hb4⟩
        have hr9 := Nat.mod_lt a hb0
        have HB4 := Lib.hid (HB3.out.via hb4)
        have HBl4 := Lib.hid (HBl3.out.trans (hb4.mono HBl3.out.size))
        have HR4 := Lib.hid hR
        have HWr : Hid (win (a % b) 0 = a % b) := win_0 (by omega)
        clear hQ hR hb4
        go_wp2_with fail
        refine (window_any w4 B3 m c3 (digs b) b 0 HB4.out (digs_val b) (by omega) (by omega)).mono ?_
        rintro e w5 ⟨rfl, d5, rfl⟩
        go_wp2_with fail
        refine (window_any _ R _ cr (digs (a % b)) (a % b) 0 (HR4.out.drewN d5) (digs_val _) (by omega) (by omega)).mono ?_
        rintro e w6 ⟨rfl, d6, rfl⟩
        rw [show (Int.toNat 0) = 0 from rfl, HWb.out, HWr.out]
        have HG : Hid (Nat.gcd b (a % b) = Nat.gcd a b) := by show _ = _; rw [Nat.gcd_comm b, ← Nat.gcd_rec, Nat.gcd_comm]
        obtain ⟨r, hr⟩ : ∃ r, a % b = r := ⟨_, rfl⟩
        rw [hr] at HG hr9 ⊢
        have HR := Lib.hid hr
        clear hr
        go_wp2
        go_loopw [10, 11] (fun x y wr => ∃ p q d : Nat, x = .int .u64 (p : Int) ∧ y = .int .u64 (q : Int) ∧ p < 18446744073709551616 ∧ q < 18446744073709551616 ∧ Nat.gcd p q = Nat.gcd a b ∧ wr = w4.drewN d) (fun _ y _ => (intOf y).toNat)
        case atStart => exact ⟨b, r, _, rfl, rfl, hb9, by omega, HG.out, rfl⟩
        case round =>
          obtain ⟨p, q, d, rfl, rfl, hp, hq, hg, rfl⟩ := hrel
          have HGp := Lib.hid hg
          clear hg
          by_cases hq0 : q = 0
          · subst hq0
            have HGq : Hid (p = Nat.gcd a b) := by show _ = _; rw [← HGp.out, Nat.gcd_zero_right]
            go_wp2_with fail
            refine (trim_any _ _ _ _ _ _ p (Lm.two _ _ _ (p % 4294967296) (p / 4294967296 % 4294967296) _ _ rfl (by omega) (by omega) (by omega) (by omega)) (val2 p hp)).mono ?_
            rintro e w7 ⟨rfl, rfl⟩
            go_wp2
            go_ret
            rw [← HGG.out, ← HGq.out]
            exact ⟨_, _, rfl, ((Lm.two _ _ _ (p % 4294967296) (p / 4294967296 % 4294967296) _ _ rfl (by omega) (by omega) (by omega) (by omega)).trim' (val2 p hp)).mono (by simp), (bdrewN HBl4.out d).alloc HBl4.out.size _⟩
          · have hq1 : 0 < q := Nat.pos_of_ne_zero hq0
            have hqi : ¬ ((q : Int) = 0) := by omega
            have hm0 : (p : Int) % (q : Int) = ((p % q : Nat) : Int) := by rw [← Int.natCast_emod]
            have hm1 : (p : Int).tmod (q : Int) = ((p % q : Nat) : Int) := by rw [Int.tmod_eq_emod_of_nonneg (by omega), ← Int.natCast_emod]
            have hl := Nat.mod_lt p hq1
            have HG2 : Hid (Nat.gcd q (p % q) = Nat.gcd a b) := by show _ = _; rw [Nat.gcd_comm q, ← Nat.gcd_rec, Nat.gcd_comm, HGp.out]
            generalize p % q = s at *
            clear hq0
            go_wp2_with fail
            go_quiet (fail)
            go_wp2
            go_roundw
            case rel => exact ⟨q, s, _, rfl, rfl, hq, by omega, HG2.out, drewN_add w4 _ _⟩
            case measure => simp [intOf]; omega

set_option maxRecDepth 100000 in
set_option maxHeartbeats 2000000 in
theorem divisor_ge (w : World) (A B : Option Addr) (n0 m0 ca cb a0 b0 : Nat) (hA : Lm w w.heap.size A n0 ca (digs a0)) (hB : Lm w w.heap.size B m0 cb (digs b0)) (hlt : b0 ≤ a0) (hn : n0 ≤ 4096) (hm : m0 ≤ 4096) :
    Calls Tryz.prog 93 #[.slice A n0 ca, .slice B m0 cb] w (RGl w (Nat.gcd a0 b0)) := by
  obtain ⟨z, hz, HC⟩ : ∃ z : Int, decide (z < 0) = false ∧ Hid (cmpL (digs a0) (digs b0) = z) := ⟨_, by rw [cmpL_norm (digs_good _) (digs_good _) (digs_norm _) (digs_norm _), digs_val, digs_val]; unfold cmpN; rw [if_neg (by omega)]; split <;> decide, rfl⟩
  have hcA := hA.cap
  have hxA := hA.max
  have hcB := hB.cap
  have hxB := hB.max
  have HA := Lib.hid hA
  have HB := Lib.hid hB
  have HN0 := Lib.hid hA.len
  have HM0 := Lib.hid hB.len
  have HLE : Hid (b0 ≤ a0) := by show _ ≤ _; omega
  clear hA hB hlt
  go_enter Tryz.func93, Tryz.ntmps93
  go_wp2_with fail
  refine (compare_any _ _ _ _ _ _ (digs a0) (digs b0) _ HA.out HB.out).mono ?_
  rintro e w1 ⟨he, hb1⟩
  rw [HC.out] at he
  subst he
  have HA1 := Lib.hid (HA.out.via hb1)
  have HB1 := Lib.hid (HB.out.via hb1)
  have HBl1 := Lib.hid hb1
  clear hb1
  go_wp2_with fail
  refine (clone_ow' _ _ _ _ (digs a0) HA1.out (by omega)).mono ?_
  rintro e w2 ⟨A2, c2, rfl, hO2, hb2⟩
  have HB2 := Lib.hid (HB1.out.via hb2)
  have HO2 := Lib.hid hO2
  have HS2 : Hid (w1.heap.size ≤ w2.heap.size) := hb2.size
  have HBl2 := Lib.hid (HBl1.out.trans (hb2.mono HBl1.out.size))
  clear hb2 hO2 HA1 HB1
  go_wp2_with fail
  refine (clone_ow' _ _ _ _ (digs b0) HB2.out (by omega)).mono ?_
  rintro e w3 ⟨B3, c3, rfl, hO3, hb3⟩
  have HO3 := Lib.hid hO3
  have HO23 : Hid (Ow w3 w1.heap.size (.slice A2 n0 c2) (digs a0)) := HO2.out.via hb3
  have HBl3 := Lib.hid (HBl2.out.trans (hb3.mono HBl2.out.size))
  have HAp : Hid (Apt (.slice A2 n0 c2) (.slice B3 m0 c3)) := fun g h1 h2 => by
    have e1 := (World.ownsRow.lt HO2.out g h1).2
    have e2 := (World.ownsRow.lt HO3.out g h2).1
    omega
  have HW1 : Hid (w.heap.size ≤ w1.heap.size) := HBl1.out.size
  have HW2 : Hid (w.heap.size ≤ w2.heap.size) := HBl2.out.size
  clear hb3 hO3 HB2
  go_wp2
  go_loopw [0, 1] (fun p q wr => ∃ (a b n m c2 c3 : Nat) (A2 B3 : Option Addr), p = .slice A2 n c2 ∧ q = .slice B3 m c3 ∧ (digs a).length = n ∧ (digs b).length = m ∧ Ow wr w.heap.size (.slice A2 n c2) (digs a) ∧ Ow wr w.heap.size (.slice B3 m c3) (digs b) ∧ Apt (.slice A2 n c2) (.slice B3 m c3) ∧
      b ≤ a ∧ a ≤ a0 ∧ Nat.gcd a b = Nat.gcd a0 b0 ∧ Below w.heap.size w wr) (fun p q wr => rdV wr p + rdV wr q)
  case atStart => exact ⟨a0, b0, n0, m0, c2, c3, A2, B3, rfl, rfl, HN0.out, HM0.out, HO23.out.mono HW1.out, HO3.out.mono HW2.out, HAp.out, HLE.out, Nat.le_refl _, rfl, HBl3.out⟩
  case round =>
    clear HO2 HO3 HO23 HBl1 HBl2 HBl3 HAp HS2
    obtain ⟨a, b, n, m, c2, c3, A2, B3, rfl, rfl, hN, hM, hO2, hO3, hap, hle, haa, hg, hbl⟩ := hrel
    have hn : n ≤ 4096 := by
      have e := digs_mono haa
      rw [hN, HN0.out] at e
      omega
    have hm : m ≤ 4096 := by
      have e := digs_mono (Nat.le_trans hle haa)
      rw [hM, HN0.out] at e
      omega
    have HN := Lib.hid hN
    have HM := Lib.hid hM
    have HO2 := Lib.hid hO2
    have HO3 := Lib.hid hO3
    have HA3 := Lib.hid (hO2.toLm (digs_good _))
    have HB3 := Lib.hid (hO3.toLm (digs_good _))
    have HBl3 := Lib.hid hbl
    have HAp := Lib.hid hap
    have HGG := Lib.hid hg
    have HLE := Lib.hid hle
    have HAA := Lib.hid haa
    have hc2 := HA3.out.cap
    have hx2 := HA3.out.max
    have hc3 := HB3.out.cap
    have hx3 := HB3.out.max
    clear hN hM hO2 hO3 hbl hap hg hle haa
    by_cases hm2 : 2 < m
    · have hb0 : 0 < b := by rw [← digs_pos, HM.out]; omega
      have hs3 := HBl3.out.size
      go_wp2_with fail
      refine (foresee_any _ _ _ _ _ _ _ a b HA3.out HB3.out HLE.out (by omega) (by omega)).mono ?_
      rintro e w4 ⟨c, A0, B0, A1, B1, rfl, hc9, ⟨p, s, x, y, A2', B2', hI⟩, hb4⟩
      have HI := Lib.hid hI
      have HP2 := Lib.hid (HO2.out.via hb4)
      have HP3 := Lib.hid (HO3.out.via hb4)
      have HBl4 := Lib.hid (HBl3.out.trans (hb4.mono HBl3.out.size))
      clear hI hb4
      by_cases hc : 0 < c
      · obtain ⟨u, v, hvu, huv, hsum, hua, t1, t2, t3, t4, t5, t6⟩ := leh_take HI.out hc hb0
        have HU := Lib.hid hvu
        have HUV := Lib.hid huv
        have HSum := Lib.hid hsum
        have HUA := Lib.hid hua
        have HT5 := Lib.hid t5
        have HT6 := Lib.hid t6
        obtain ⟨ga, rfl, e1, _⟩ := HP2.out.ob (by rw [HN.out]; have := digs_mono HLE.out; rw [HN.out, HM.out] at this; omega)
        obtain ⟨gb, rfl, e2, _⟩ := HP3.out.ob (by rw [HM.out]; omega)
        have HNe : Hid (ga ≠ gb) := fun e => HAp.out ga rfl (by rw [e]; rfl)
        have HUB : Hid (u < 4294967296 ^ n) := Nat.lt_of_le_of_lt hua (digs_len.1 (Nat.le_of_eq HN.out))
        have HVB : Hid (v < 4294967296 ^ n) := Nat.lt_of_le_of_lt hvu HUB.out
        have HMN : Hid (m ≤ n) := by have := digs_mono HLE.out; rw [HN.out, HM.out] at this; exact this
        have hs4 := HBl4.out.size
        clear hvu huv hsum hua t5 t6 e1 e2
        go_wp2_with fail
        refine (take_any _ w.heap.size ga gb n m c2 c3 a b c A0 B0 A1 B1 (HP2.out.alloc _) (HP3.out.alloc _) HNe.out (by simp; omega) HN.out HM.out HMN.out (by omega) (by omega) hc9 t1 t2 t3 t4 u v HUB.out HVB.out HT5.out HT6.out).mono ?_
        rintro e w6 ⟨g1, k1, g2, k2, rfl, hU6, hV6, hne6, hb6⟩
        have HU6 := Lib.hid hU6
        have HV6 := Lib.hid hV6
        have HNe6 := Lib.hid hne6
        have HBl6 := Lib.hid ((HBl4.out.alloc hs4 _).trans hb6)
        clear hU6 hV6 hne6 hb6
        go_wp2
        go_roundw
        case rel =>
          exact ⟨u, v, _, _, k1, k2, some ⟨g1, 0, none⟩, some ⟨g2, 0, none⟩, rfl, rfl, rfl, rfl, HU6.out, HV6.out, (fun g e1 e2 => by injection e1 with e1; injection e2 with e2; exact HNe6.out (e1.trans e2.symm)), HU.out, Nat.le_trans HUA.out HAA.out, HUV.out.trans HGG.out, HBl6.out⟩
        case measure =>
          rw [rdV_ow HU6.out, rdV_ow HV6.out, rdV_ow HO2.out, rdV_ow HO3.out]
          exact HSum.out
      · have hcd : decide (0 < c) = false := by simpa using hc
        have HA4 := Lib.hid (HP2.out.toLm (digs_good _))
        have HB4 := Lib.hid (HP3.out.toLm (digs_good _))
        have hs4 := HBl4.out.size
        go_wp2_with fail
        refine (divide_ow _ A2 B3 n m c2 c3 a b (HA4.out.box _) (HB4.out.box _) HLE.out (by omega) (by omega)).mono ?_
        rintro e w6 ⟨Q, cq, R, cr, rfl, _, hR6, hb6⟩
        have HR6 := Lib.hid hR6
        have HP6 := Lib.hid ((HP3.out.alloc _).via hb6)
        have HBl6 := Lib.hid ((HBl4.out.alloc hs4 _).trans (hb6.mono (by simp; omega)))
        have HX : Hid (w.heap.size ≤ w4.heap.size + 1) := by show _ ≤ _; omega
        clear hR6 hb6
        go_wp2
        go_roundw
        case rel =>
          exact ⟨b, a % b, m, _, c3, cr, B3, R, rfl, rfl, HM.out, rfl, HP6.out, HR6.out.mono (by simp only [World.size_alloc]; exact HX.out), (fun g e1 e2 => by
            have l1 := (World.ownsRow.lt HP3.out g e1).2
            have l2 := (World.ownsRow.lt HR6.out g e2).1
            simp only [World.size_alloc] at l2
            omega), Nat.le_of_lt (Nat.mod_lt a hb0), Nat.le_trans HLE.out HAA.out, by rw [← HGG.out, Nat.gcd_comm b, ← Nat.gcd_rec, Nat.gcd_comm], HBl6.out⟩
        case measure =>
          rw [rdV_ow HP6.out, rdV_ow HR6.out, rdV_ow HO2.out, rdV_ow HO3.out]
          have := Nat.mod_lt a hb0
          have := HLE.out
          omega
    · have hb9 : b < 18446744073709551616 := two_lt (by rw [HM.out]; omega)
      have HWb := Lib.hid (win_0 hb9)
      have hm2' : m ≤ 2 := by omega
      clear hm2
      rcases Nat.eq_zero_or_pos m with h0 | h0
      · have HG : Hid (Nat.gcd a b = a) := by
          show _ = _
          obtain rfl : b = 0 := digs_nil.1 (List.eq_nil_of_length_eq_zero (by rw [HM.out]; exact h0))
          exact Nat.gcd_zero_right a
        subst h0
        go_wp2
        go_ret
        rw [← HGG.out, HG.out]
        exact ⟨A2, c2, by rw [HN.out]; rfl, by rw [HN.out]; exact HA3.out, HBl3.out⟩
      · have hb0 : 0 < b := by rw [← digs_pos, HM.out]; exact h0
        have hmz : ((m : Int) == 0) = false := by simp; omega
        go_wp2_with fail
        refine (divide_any wr A2 B3 n m c2 c3 a b HA3.out HB3.out hb0 (by omega)).mono ?_
        rintro e w4 ⟨Q, cq, R, cr, rfl, hQ, hR, hb4⟩
        have hr9 := Nat.mod_lt a hb0
        have HB4 := Lib.hid (HB3.out.via hb4)
        have HBl4 := Lib.hid (HBl3.out.trans (hb4.mono HBl3.out.size))
        have HR4 := Lib.hid hR
        have HWr : Hid (win (a % b) 0 = a % b) := win_0 (by omega)
        clear hQ hR hb4
        go_wp2_with fail
        refine (window_any w4 B3 m c3 (digs b) b 0 HB4.out (digs_val b) (by omega) (by omega)).mono ?_
        rintro e w5 ⟨rfl, d5, rfl⟩
        go_wp2_with fail
        refine (window_any _ R _ cr (digs (a % b)) (a % b) 0 (HR4.out.drewN d5) (digs_val _) (by omega) (by omega)).mono ?_
        rintro e w6 ⟨rfl, d6, rfl⟩
        rw [show (Int.toNat 0) = 0 from rfl, HWb.out, HWr.out]
        have HG : Hid (Nat.gcd b (a % b) = Nat.gcd a b) := by show _ = _; rw [Nat.gcd_comm b, ← Nat.gcd_rec, Nat.gcd_comm]
        obtain ⟨r, hr⟩ : ∃ r, a % b = r := ⟨_, rfl⟩
        rw [hr] at HG hr9 ⊢
        have HR := Lib.hid hr
        clear hr
        go_wp2
        go_loopw [10, 11] (fun x y wr => ∃ p q d : Nat, x = .int .u64 (p : Int) ∧ y = .int .u64 (q : Int) ∧ p < 18446744073709551616 ∧ q < 18446744073709551616 ∧ Nat.gcd p q = Nat.gcd a b ∧ wr = w4.drewN d) (fun _ y _ => (intOf y).toNat)
        case atStart => exact ⟨b, r, _, rfl, rfl, hb9, by omega, HG.out, rfl⟩
        case round =>
          obtain ⟨p, q, d, rfl, rfl, hp, hq, hg, rfl⟩ := hrel
          have HGp := Lib.hid hg
          clear hg
          by_cases hq0 : q = 0
          · subst hq0
            have HGq : Hid (p = Nat.gcd a b) := by show _ = _; rw [← HGp.out, Nat.gcd_zero_right]
            go_wp2_with fail
            refine (trim_any _ _ _ _ _ _ p (Lm.two _ _ _ (p % 4294967296) (p / 4294967296 % 4294967296) _ _ rfl (by omega) (by omega) (by omega) (by omega)) (val2 p hp)).mono ?_
            rintro e w7 ⟨rfl, rfl⟩
            go_wp2
            go_ret
            rw [← HGG.out, ← HGq.out]
            exact ⟨_, _, rfl, ((Lm.two _ _ _ (p % 4294967296) (p / 4294967296 % 4294967296) _ _ rfl (by omega) (by omega) (by omega) (by omega)).trim' (val2 p hp)).mono (by simp), (bdrewN HBl4.out d).alloc HBl4.out.size _⟩
          · have hq1 : 0 < q := Nat.pos_of_ne_zero hq0
            have hqi : ¬ ((q : Int) = 0) := by omega
            have hm0 : (p : Int) % (q : Int) = ((p % q : Nat) : Int) := by rw [← Int.natCast_emod]
            have hm1 : (p : Int).tmod (q : Int) = ((p % q : Nat) : Int) := by rw [Int.tmod_eq_emod_of_nonneg (by omega), ← Int.natCast_emod]
            have hl := Nat.mod_lt p hq1
            have HG2 : Hid (Nat.gcd q (p % q) = Nat.gcd a b) := by show _ = _; rw [Nat.gcd_comm q, ← Nat.gcd_rec, Nat.gcd_comm, HGp.out]
            generalize p % q = s at *
            clear hq0
            go_wp2_with fail
            go_quiet (fail)
            go_wp2
            go_roundw
            case rel => exact ⟨q, s, _, rfl, rfl, hq, by omega, HG2.out, drewN_add w4 _ _⟩
            case measure => simp [intOf]; omega

theorem divisor_any (w : World) (A B : Option Addr) (n m ca cb a b : Nat) (hA : Lm w w.heap.size A n ca (digs a)) (hB : Lm w w.heap.size B m cb (digs b)) (hn : n ≤ 4096) (hm : m ≤ 4096) :
    Calls Tryz.prog 93 #[.slice A n ca, .slice B m cb] w (RGl w (Nat.gcd a b)) := by
  rcases Nat.lt_or_ge a b with h | h
  · rw [Nat.gcd_comm]
    exact divisor_lt w B A m n cb ca b a hB hA h hm hn
  · exact divisor_ge w A B n m ca cb a b hA hB h hn hm

set_option maxRecDepth 100000 in
set_option maxHeartbeats 1000000 in
theorem gcd_any (w : World) (na nb : Bool) (A B : Option Addr) (n m ca cb a b : Nat) (hA : Lm w w.heap.size A n ca (digs a)) (hB : Lm w w.heap.size B m cb (digs b)) (hv : chkB na (digs a) nb (digs b) = 0) (hn : n ≤ 4096) (hm : m ≤ 4096) :
    Calls Tryz.prog 71 #[.agg #[.bool na, .slice A n ca], .agg #[.bool nb, .slice B m cb]] w (RW w (mkN false (Nat.gcd a b)) (mkL (Nat.gcd a b)) (mkE (Nat.gcd a b))) := by
  have HA := Lib.hid hA
  have HB := Lib.hid hB
  have HV := Lib.hid hv
  clear hv
  go_enter Tryz.func71, Tryz.ntmps71
  go_wp2_with fail
  refine (both_any _ _ _ _ _ _ _ _ _ _ _ 0 (((HA.out.box _).box _).box _) (((HB.out.box _).box _).box _) HV.out).mono ?_
  rintro e w1 ⟨rfl, hb1⟩
  have ⟨hx0, hx1, hy0, hy1, hz0, hz1, hf0, hf1, hsz⟩ := box3 hb1
  have HA1 := Lib.hid ((((HA.out.box _).box _).box _).via hb1)
  have HB1 := Lib.hid ((((HB.out.box _).box _).box _).via hb1)
  have HBl1 := Lib.hid (bbox (bbox (bbox hb1)))
  clear hb1
  go_wp2_with fail
  refine (divisor_any w1 A B n m ca cb a b HA1.out HB1.out hn hm).mono ?_
  rintro e w2 ⟨A2, c2, rfl, hL2, hb2⟩
  have hz2 := keep2 hb2 hsz ⟨hz0, hz1⟩
  have hf2 := keepF hb2 hsz ⟨hf0, hf1⟩
  have hs2 := Nat.lt_of_lt_of_le hsz hb2.size
  have HBl2 := Lib.hid (HBl1.out.trans (hb2.mono HBl1.out.size))
  clear hb2
  go_wp2_with fail
  refine (made_any _ _ _ _ _ (Nat.gcd a b) hL2).mono ?_
  rintro e w3 ⟨A3, n3, c3, rfl, hL3, hb3⟩
  have hz3 := keep2 hb3 hs2 hz2
  have hf3 := keepF hb3 hs2 hf2
  have hs3 := Nat.lt_of_lt_of_le hs2 hb3.size
  have HBl3 := Lib.hid (HBl2.out.trans (hb3.mono HBl2.out.size))
  have HL3 := Lib.hid hL3
  clear hb3 hL3 hL2 hz2 hf2 hx0 hx1 hy0 hy1 hz0 hz1 hf0 hf1
  obtain ⟨z0, z1⟩ := hz3
  obtain ⟨f0, f1⟩ := hf3
  go_wp2
  exact post_ws Tryz.results71 rfl rfl z0 z1 ⟨A3, n3, c3, rfl, HL3.out.set2 z0 z1 _ _, below_set2 HBl3.out (by omega) _ _⟩
theorem gcd_small (w : World) (na nb : Bool) (A B : Option Addr) (n m ca cb a b : Nat) (hA : Lm w w.heap.size A n ca (digs a)) (hB : Lm w w.heap.size B m cb (digs b)) (hv : chkB na (digs a) nb (digs b) = 0) (hn : n ≤ 2) (hm : m ≤ 2) :
    Calls Tryz.prog 71 #[.agg #[.bool na, .slice A n ca], .agg #[.bool nb, .slice B m cb]] w (RW w (mkN false (Nat.gcd a b)) (mkL (Nat.gcd a b)) (mkE (Nat.gcd a b))) :=
  gcd_any w na nb A B n m ca cb a b hA hB hv (by omega) (by omega)
end Go.Proofs.YtglgfjknhplajaaGreatDoor

/- Gcd of any two numbers, valid or not, on both sides. -/
namespace Go.Proofs.YtglgfjknhplajaaGreatDoor
open Go.RowKit

set_option maxRecDepth 100000 in
set_option maxHeartbeats 400000 in
theorem gcd_bad (w : World) (na nb : Bool) (A B : Option Addr) (n m ca cb : Nat) (xs ys : List Nat) (hA : Lm w w.heap.size A n ca xs) (hB : Lm w w.heap.size B m cb ys) (hv : chkB na xs nb ys = 8) :
    Calls Tryz.prog 71 #[.agg #[.bool na, .slice A n ca], .agg #[.bool nb, .slice B m cb]] w (RW w false [] 8) := by
  have HA := Lib.hid hA
  have HB := Lib.hid hB
  have HV := Lib.hid hv
  clear hv
  go_enter Tryz.func71, Tryz.ntmps71
  go_wp2_with (go_at_call 72; refine (both_any _ _ _ _ _ _ _ _ _ _ _ 8 (((HA.out.box _).box _).box _) (((HB.out.box _).box _).box _) HV.out).mono ?_; rintro e w1 ⟨rfl, hb1⟩; have ⟨hx0, hx1, hy0, hy1, hz0, hz1, hf0, hf1, hsz⟩ := box3 hb1)
  exact post_ws Tryz.results71 rfl rfl hz0 hz1 ⟨none, 0, 0, rfl, Lm.nil _ _, below_set2 (bbox (bbox (bbox hb1))) (by omega) _ _⟩
theorem gcd_both (na nb : Bool) (xs ys : List Nat) (gx : Good xs) (gy : Good ys) : ∃ g l e, (∀ (w : World) (A B : Option Addr) (n m ca cb : Nat), Lm w w.heap.size A n ca xs → Lm w w.heap.size B m cb ys → Calls Tryz.prog 71 #[.agg #[.bool na, .slice A n ca], .agg #[.bool nb, .slice B m cb]] w (RW w g l e)) ∧ (∀ (w : World) (A B : Option Addr) (n m ca cb : Nat), Lm w w.heap.size A n ca xs → Lm w w.heap.size B m cb ys → Calls Tryz.prog 51 #[.agg #[.bool na, .slice A n ca], .agg #[.bool nb, .slice B m cb]] w (RW w g l e)) := by
  rcases chkB_cases na xs nb ys with hc | hc
  · have hc1 := (chkB_ok.1 hc).1
    have hc2 := (chkB_ok.1 hc).2
    have e1 := chk_digs hc1 gx
    have e2 := chk_digs hc2 gy
    have l1 := (chk_ok.1 hc1).1
    have l2 := (chk_ok.1 hc2).1
    rw [e1, e2] at hc
    rw [e1] at l1 ⊢
    rw [e2] at l2 ⊢
    exact ⟨_, _, _, fun w A B n m ca cb hA hB => gcd_any w na nb A B n m ca cb _ _ hA hB hc (by rw [← hA.len]; exact l1) (by rw [← hB.len]; exact l2), fun w A B n m ca cb hA hB => rgcd_ok w na nb A B n m ca cb _ _ hA hB hc⟩
  · exact ⟨_, _, _, fun w A B n m ca cb hA hB => gcd_bad w na nb A B n m ca cb xs ys hA hB hc, fun w A B n m ca cb hA hB => rgcd_bad w na nb A B n m ca cb xs ys hA hB hc⟩
end Go.Proofs.YtglgfjknhplajaaGreatDoor

/- Package frac: ratio.reduced. -/
namespace Go.Proofs.YtglgfjknhplajaaGreatDoor
open Go.RowKit

/-- The divisor by which a ratio is reduced: it has the sign of the second number. -/
def dvr (x y : Int) : Int := if y < 0 then -(Nat.gcd x.natAbs y.natAbs : Int) else (Nat.gcd x.natAbs y.natAbs : Int)
theorem dvr_ne {x y : Int} (hy : y ≠ 0) : dvr x y ≠ 0 := by
  have h : 0 < Nat.gcd x.natAbs y.natAbs := Nat.gcd_pos_of_pos_right _ (by omega)
  unfold dvr
  split <;> omega
theorem dvr_dvd_left (x y : Int) : dvr x y ∣ x := by
  have h : ((Nat.gcd x.natAbs y.natAbs : Nat) : Int) ∣ x := Int.ofNat_dvd_left.2 (Nat.gcd_dvd_left _ _)
  unfold dvr
  split
  · exact Int.neg_dvd.2 h
  · exact h
theorem dvr_dvd_right (x y : Int) : dvr x y ∣ y := by
  have h : ((Nat.gcd x.natAbs y.natAbs : Nat) : Int) ∣ y := Int.ofNat_dvd_left.2 (Nat.gcd_dvd_right _ _)
  unfold dvr
  split
  · exact Int.neg_dvd.2 h
  · exact h
theorem dvr_left (x y : Int) : x = x / dvr x y * dvr x y := (Int.ediv_mul_cancel (dvr_dvd_left x y)).symm
theorem dvr_right (x y : Int) : y = y / dvr x y * dvr x y := (Int.ediv_mul_cancel (dvr_dvd_right x y)).symm
theorem sz_gcd2 {x y : Int} {k : Nat} (hy : Sz k y) (hy0 : y ≠ 0) : Sz k (Nat.gcd x.natAbs y.natAbs : Int) := by
  unfold Sz at *
  rw [Int.natAbs_natCast]
  exact Nat.lt_of_le_of_lt (Nat.gcd_le_right _ (by omega)) hy
theorem sz_dvr {x y : Int} {k : Nat} (hy : Sz k y) (hy0 : y ≠ 0) : Sz k (dvr x y) := by
  have h := sz_gcd2 (x := x) hy hy0
  unfold dvr
  split
  · exact h.neg
  · exact h
/-- A call returns the fraction p / q. -/
def RFr (w : World) (p q : Int) (e : Ending) (w' : World) : Prop := ∃ A n c B m c', e = .returned (fv (decide (p < 0)) A n c (decide (q < 0)) B m c') ∧ Lm w' w'.heap.size A n c (digs p.natAbs) ∧ Lm w' w'.heap.size B m c' (digs q.natAbs) ∧ Below w.heap.size w w'
section
variable (w : World) (A B : Option Addr) (n m ca cb k : Nat) (x y : Int) (hA : Lm w w.heap.size A n ca (digs x.natAbs)) (hB : Lm w w.heap.size B m cb (digs y.natAbs)) (hx : Sz k x) (hy : Sz k y) (hk : k ≤ 2000) {na nb : Bool} (ha : decide (x < 0) = na) (hb : decide (y < 0) = nb)
include hA hx hk ha
include hB hy hb
theorem gcd_n2 : Calls Tryz.prog 71 #[.agg #[.bool na, .slice A n ca], .agg #[.bool nb, .slice B m cb]] w fun e w' => ∃ A' n' c', e = .returned (.tuple #[.agg #[.bool false, .slice A' n' c'], .int .i64 0]) ∧ Lm w' w'.heap.size A' n' c' (digs (Nat.gcd x.natAbs y.natAbs)) ∧ Below w.heap.size w w' := by
  subst ha hb
  have hxl : (digs x.natAbs).length ≤ 4096 := Nat.le_trans hx.len (by omega)
  have hyl : (digs y.natAbs).length ≤ 4096 := Nat.le_trans hy.len (by omega)
  have h := gcd_any w _ _ A B n m ca cb _ _ hA hB (chkB_z hx (by omega) hy (by omega)) (by rw [← hA.len]; exact hxl) (by rw [← hB.len]; exact hyl)
  have hgl : (digs (Nat.gcd x.natAbs y.natAbs)).length ≤ 4096 := by
    rcases Nat.eq_zero_or_pos x.natAbs with h0 | h0
    · rw [h0, Nat.gcd_zero_left]; exact hyl
    · exact Nat.le_trans (digs_mono (Nat.gcd_le_left _ h0)) hxl
  refine h.mono fun e w' hr => ?_
  obtain ⟨A', n', c', he, hL, hb⟩ := rw_rn (neg := false) hgl hr
  have e1 : decide (toI false (Nat.gcd x.natAbs y.natAbs) < 0) = false := by unfold toI; simp
  rw [e1] at he
  have e2 : (toI false (Nat.gcd x.natAbs y.natAbs)).natAbs = Nat.gcd x.natAbs y.natAbs := toI_abs _ _
  rw [e2] at hL
  exact ⟨A', n', c', he, hL, hb⟩
end
theorem sign_n2 (w : World) (A : Option Addr) (n c k : Nat) (y : Int) (h : Lm w w.heap.size A n c (digs y.natAbs)) (hy : Sz k y) (hk : k ≤ 2000) {nb : Bool} (hb : decide (y < 0) = nb) (s : Int) (hs : s = if y < 0 then -1 else if y = 0 then 0 else 1) :
    Calls Tryz.prog 70 #[.agg #[.bool nb, .slice A n c]] w fun e w' => e = .returned (.tuple #[.int .i64 s, .int .i64 0]) ∧ Below w.heap.size w w' := by
  have hc := chk_z hy (show k ≤ 4096 by omega)
  rw [hb] at hc
  have h2 := sign_ok w nb A n c _ h hc
  have e1 : signZ nb y.natAbs = s := by
    subst hs hb
    unfold signZ sideZ
    by_cases h0 : y < 0
    · rw [decide_eq_true h0, if_pos h0]; simp; omega
    · rw [decide_eq_false h0, if_neg h0]
      by_cases h1 : y = 0
      · simp [h1]
      · rw [if_neg h1]; simp; try omega
  rw [e1] at h2
  exact h2

end Go.Proofs.YtglgfjknhplajaaGreatDoor

/- Package frac: ratio.reduced of valid numbers. -/
namespace Go.Proofs.YtglgfjknhplajaaGreatDoor
open Go.RowKit

end Go.Proofs.YtglgfjknhplajaaGreatDoor

/- Package frac: attempt, which makes a panic a result. -/
namespace Go.Proofs.YtglgfjknhplajaaGreatDoor
open Go.RowKit

/-- A store into a cell that holds an int touches no limb. -/
theorem Lm.err {w : World} {n c : Nat} {A : Option Addr} {xs : List Nat} (h : Lm w w.heap.size A n c xs) {g i : Nat} {z : Int} (hc : w.cell? ⟨g, i, none⟩ = some (.int .i64 z)) (v : Value) : Lm (w.setCell ⟨g, i, none⟩ v) (w.setCell ⟨g, i, none⟩ v).heap.size A n c xs := by
  rw [World.size_setCell]
  refine ⟨h.len, h.good, h.cap, h.max, h.nil_, fun hn => ?_⟩
  obtain ⟨b, off, e, hb, hcs⟩ := h.at_ hn
  refine ⟨b, off, e, hb, fun j hj => ?_⟩
  have hcj := hcs j hj
  rw [World.cell?_setCell_other]
  · exact hcj
  · intro e2
    rw [← e2, hc] at hcj
    have := Option.some.inj hcj
    injection this with h1 h2
    cases h1
theorem Qd.far1 {w : World} {g h : Nat} {x0 x1 x2 x3 : Value} (p : Qd w g x0 x1 x2 x3) (hne : g ≠ h) (i : Nat) (v : Value) : Qd (w.setCell ⟨h, i, none⟩ v) g x0 x1 x2 x3 := by
  have e : ∀ j, (⟨h, i, none⟩ : Addr) ≠ ⟨g, j, none⟩ := fun j e => hne (congrArg Addr.block e).symm
  exact ⟨(World.cell?_setCell_other _ _ _ _ (e 0)).trans p.c0, (World.cell?_setCell_other _ _ _ _ (e 1)).trans p.c1, (World.cell?_setCell_other _ _ _ _ (e 2)).trans p.c2, (World.cell?_setCell_other _ _ _ _ (e 3)).trans p.c3,
    by have := p.f0; simpa using this, by have := p.f1; simpa using this, by have := p.f2; simpa using this, by have := p.f3; simpa using this, by rw [World.size_setCell]; exact p.lt⟩

/-- A call returns a fraction and no error. -/
def RFE (w : World) (p q : Int) (e : Ending) (w' : World) : Prop := ∃ A n c B m c', e = .returned (.tuple #[fv (decide (p < 0)) A n c (decide (q < 0)) B m c', .int .i64 0]) ∧ Lm w' w'.heap.size A n c (digs p.natAbs) ∧ Lm w' w'.heap.size B m c' (digs q.natAbs) ∧ Below w.heap.size w w'
/-- A call returns an error. -/
def RFX (w : World) (x : Int) (e : Ending) (w' : World) : Prop := e = .returned (.tuple #[fv false none 0 0 false none 0 0, .int .i64 x]) ∧ Below w.heap.size w w'
/-- The world in which attempt calls: with the boxes of its two results. -/
def Wat (w : World) : World := (w.alloc (.cells #[.bool false, .slice none 0 0, .bool false, .slice none 0 0] 31)).alloc (.cells #[.int .i64 0] 34)
theorem wat_below (w : World) : Below w.heap.size w (Wat w) := ((Below.refl _ _).alloc (Nat.le_refl _) _).alloc (by simp) _
theorem wat_qd (w : World) : Qd (Wat w) w.heap.size (.bool false) (.slice none 0 0) (.bool false) (.slice none 0 0) := (Qd.new w _ rfl _ _ _ _ _).alloc _
theorem wat_c (w : World) : (Wat w).cell? ⟨w.heap.size + 1, 0, none⟩ = some (.int .i64 0) ∧ (Wat w).frozen? ⟨w.heap.size + 1, 0, none⟩ = false := by unfold Wat; constructor <;> go_simp
theorem wat_size (w : World) : (Wat w).heap.size = w.heap.size + 1 + 1 := by unfold Wat; simp

end Go.Proofs.YtglgfjknhplajaaGreatDoor

/-
  The contracts of both sides for any number, valid or not: what the functions of the chapter return, as functions of the number's reading.
-/
namespace Go.Proofs.YtglgfjknhplajaaGreatDoor
open Go.RowKit

def intVT (neg : Bool) (xs : List Nat) : Int := if chk neg xs = 0 then intV neg (val xs) else 0
def intET (neg : Bool) (xs : List Nat) : Int := if chk neg xs = 0 then intE neg (val xs) else 8
def unN (neg' neg : Bool) (xs : List Nat) : Bool := if chk neg xs = 0 then mkN neg' (val xs) else false
def unL (neg : Bool) (xs : List Nat) : List Nat := if chk neg xs = 0 then mkL (val xs) else []
def unE (neg : Bool) (xs : List Nat) : Int := if chk neg xs = 0 then mkE (val xs) else 8
def cmpVT (na : Bool) (xs : List Nat) (nb : Bool) (ys : List Nat) : Int := if chkB na xs nb ys = 0 then cmpZ (toI na (val xs)) (toI nb (val ys)) else 0
def cmpET (na : Bool) (xs : List Nat) (nb : Bool) (ys : List Nat) : Int := if chkB na xs nb ys = 0 then 0 else 8
def signVT (neg : Bool) (xs : List Nat) : Int := if chk neg xs = 0 then signZ neg (val xs) else 0
def errT (neg : Bool) (xs : List Nat) : Int := if chk neg xs = 0 then 0 else 8
def bitsVT (neg : Bool) (xs : List Nat) : Int := if chk neg xs = 0 then (lenS xs : Int) else 0
theorem not_zero {x : Int} (h : x = 8) : ¬ x = 0 := by omega

theorem int_t (w : World) (neg : Bool) (A : Option Addr) (n c : Nat) (xs : List Nat) (h : Lm w w.heap.size A n c xs) :
    Calls Tryz.prog 47 #[.agg #[.bool neg, .slice A n c]] w fun e w' => e = .returned (.tuple #[.int .i64 (intVT neg xs), .int .i64 (intET neg xs)]) ∧ Below w.heap.size w w' := by
  unfold intVT intET
  rcases chk_cases neg xs with hc | hc
  · rw [if_pos hc, if_pos hc]
    exact int_ok w neg A n c xs _ h hc rfl
  · rw [if_neg (not_zero hc), if_neg (not_zero hc)]
    exact int_bad w neg A n c xs h hc

theorem rneg_t (w : World) (neg : Bool) (A : Option Addr) (n c : Nat) (xs : List Nat) (h : Lm w w.heap.size A n c xs) :
    Calls Tryz.prog 52 #[.agg #[.bool neg, .slice A n c]] w (RW w (unN (!neg) neg xs) (unL neg xs) (unE neg xs)) := by
  unfold unN unL unE
  rcases chk_cases neg xs with hc | hc
  · rw [if_pos hc, if_pos hc, if_pos hc]
    have e := chk_digs hc h.good
    rw [e] at h hc
    exact rneg_ok w neg A n c _ h hc
  · rw [if_neg (not_zero hc), if_neg (not_zero hc), if_neg (not_zero hc)]
    exact rneg_bad w neg A n c xs h hc

theorem cmp_t (w : World) (na nb : Bool) (A B : Option Addr) (n m ca cb : Nat) (xs ys : List Nat) (hA : Lm w w.heap.size A n ca xs) (hB : Lm w w.heap.size B m cb ys) :
    Calls Tryz.prog 105 #[.agg #[.bool na, .slice A n ca], .agg #[.bool nb, .slice B m cb]] w fun e w' => e = .returned (.tuple #[.int .i64 (cmpVT na xs nb ys), .int .i64 (cmpET na xs nb ys)]) ∧ Below w.heap.size w w' := by
  unfold cmpVT cmpET
  rcases chkB_cases na xs nb ys with hc | hc
  · rw [if_pos hc, if_pos hc]
    have e1 := chk_digs (chkB_ok.1 hc).1 hA.good
    have e2 := chk_digs (chkB_ok.1 hc).2 hB.good
    rw [e1] at hA hc
    rw [e2] at hB hc
    exact cmp_ok w na nb A B n m ca cb _ _ hA hB hc
  · rw [if_neg (not_zero hc), if_neg (not_zero hc)]
    exact cmp_bad w na nb A B n m ca cb xs ys hA hB hc

theorem sign_t (w : World) (neg : Bool) (A : Option Addr) (n c : Nat) (xs : List Nat) (h : Lm w w.heap.size A n c xs) :
    Calls Tryz.prog 70 #[.agg #[.bool neg, .slice A n c]] w fun e w' => e = .returned (.tuple #[.int .i64 (signVT neg xs), .int .i64 (errT neg xs)]) ∧ Below w.heap.size w w' := by
  unfold signVT errT
  rcases chk_cases neg xs with hc | hc
  · rw [if_pos hc, if_pos hc]
    have e := chk_digs hc h.good
    rw [e] at h hc
    exact sign_ok w neg A n c _ h hc
  · rw [if_neg (not_zero hc), if_neg (not_zero hc)]
    exact sign_bad w neg A n c xs h hc

theorem rsame_self (w : World) (na : Bool) (A B : Option Addr) (n m ca cb : Nat) (xs : List Nat) (hA : Lm w w.heap.size A n ca xs) (hB : Lm w w.heap.size B m cb xs) :
    Calls Tryz.prog 91 #[.agg #[.bool na, .slice A n ca], .agg #[.bool na, .slice B m cb]] w fun e w' => e = .returned (.bool true) ∧ Below w.heap.size w w' :=
  (rsame_any w na na A B n m ca cb xs xs hA hB).mono fun _ _ ⟨he, hb⟩ => ⟨by rw [he, sameB_self], hb⟩

end Go.Proofs.YtglgfjknhplajaaGreatDoor

/- Package frac: Check, Make, Of. -/
namespace Go.Proofs.YtglgfjknhplajaaGreatDoor
open Go.RowKit

theorem btr {a b c : World} (h : Below a.heap.size a b) (h' : Below b.heap.size b c) : Below a.heap.size a c := h.trans (h'.mono h.size)
/-- The error of a fraction: whether it is valid. -/
def fchk (nn : Bool) (xs : List Nat) (dn : Bool) (ys : List Nat) : Int := if chk nn xs = 0 ∧ chk dn ys = 0 ∧ dn = false ∧ ys ≠ [] ∧ Nat.gcd (val xs) (val ys) = 1 then 0 else 8
theorem digs1 : digs 1 = [1] := by decide
theorem eq_one {xs : List Nat} (g : Good xs) (hn : Norm xs) (h : val xs = 1) : xs = [1] := by rw [← digs1]; exact eq_digs g hn h

set_option maxRecDepth 100000 in
set_option maxHeartbeats 1000000 in
theorem fcheck_one (w : World) (nn dn : Bool) (A B : Option Addr) (n m ca cb : Nat) (xs ys : List Nat) (hA : Lm w w.heap.size A n ca xs) (hB : Lm w w.heap.size B m cb ys) (hd : dn = false) (hy : ys = digs 1) :
    Calls Tryz.prog 45 #[fv nn A n ca dn B m cb] w fun e w' => e = .returned (.int .i64 (chk nn xs)) ∧ Below w.heap.size w w' := by
  have HA := Lib.hid hA
  have HB := Lib.hid hB
  clear hA hB
  subst hd hy
  go_enter Tryz.func45, Tryz.ntmps45
  go_wp2_with fail
  refine (isOne_yes _ B m cb (HB.out.box _)).mono ?_
  rintro e w1 ⟨rfl, hb1⟩
  have Q1 := (Qd.new w _ rfl (.bool nn) (.slice A n ca) (.bool false) (.slice B m cb) 31).via hb1
  have LA := Lib.hid ((HA.out.box _).via hb1)
  have LB := Lib.hid ((HB.out.box _).via hb1)
  have B1 := Lib.hid (bbox hb1)
  have HQ := Lib.hid Q1
  have ⟨q0, q1, q2, q3, _, _, _, _, ql⟩ := Q1
  clear hb1 Q1 HA HB
  go_wp2_with fail
  refine (check_any _ nn A n ca xs LA.out).mono ?_
  rintro e w2 ⟨rfl, hb2⟩
  go_wp2
  go_ret
  exact ⟨rfl, btr B1.out hb2⟩
set_option maxRecDepth 100000 in
set_option maxHeartbeats 1000000 in
theorem fcheck_sign (w : World) (nn dn : Bool) (A B : Option Addr) (n m ca cb : Nat) (xs ys : List Nat) (hA : Lm w w.heap.size A n ca xs) (hB : Lm w w.heap.size B m cb ys) (hno : dn = true ∨ ys ≠ [1]) (s t : Int) (hst : t ≠ 0 ∨ t = 0 ∧ s ≤ 0) (hS : ∀ W, Lm W W.heap.size B m cb ys → Calls Tryz.prog 70 #[.agg #[.bool dn, .slice B m cb]] W fun e w' => e = .returned (.tuple #[.int .i64 s, .int .i64 t]) ∧ Below W.heap.size W w') :
    Calls Tryz.prog 45 #[fv nn A n ca dn B m cb] w fun e w' => e = .returned (.int .i64 8) ∧ Below w.heap.size w w' := by
  have HA := Lib.hid hA
  have HB := Lib.hid hB
  clear hA hB
  have HNO := Lib.hid hno
  clear hno
  have HS := Lib.hid hS
  clear hS
  have hst2 : (t != 0) = true ∨ t = 0 ∧ s ≤ 0 := by
    rcases hst with h | h
    · exact .inl (by simpa using h)
    · exact .inr h
  clear hst
  go_enter Tryz.func45, Tryz.ntmps45
  go_wp2_with fail
  refine (isOne_no _ dn B m cb ys (HB.out.box _) HNO.out).mono ?_
  rintro e w1 ⟨rfl, hb1⟩
  have Q1 := (Qd.new w _ rfl (.bool nn) (.slice A n ca) (.bool dn) (.slice B m cb) 31).via hb1
  have LA := Lib.hid ((HA.out.box _).via hb1)
  have LB := Lib.hid ((HB.out.box _).via hb1)
  have B1 := Lib.hid (bbox hb1)
  have HQ := Lib.hid Q1
  have ⟨q0, q1, q2, q3, _, _, _, _, ql⟩ := Q1
  clear hb1 Q1 HA HB
  go_wp2_with fail
  refine (HS.out _ LB.out).mono ?_
  rintro e w2 ⟨rfl, hb2⟩
  have B2 := Lib.hid (btr B1.out hb2)
  clear hb2 q0 q1 q2 q3 ql
  rcases hst2 with h | ⟨rfl, h⟩
  · go_wp2
    go_ret
    exact ⟨rfl, B2.out⟩
  · go_wp2
    go_ret
    exact ⟨rfl, B2.out⟩
set_option maxRecDepth 100000 in
set_option maxHeartbeats 1000000 in
theorem fcheck_gbad (w : World) (nn dn : Bool) (A B : Option Addr) (n m ca cb : Nat) (xs ys : List Nat) (hA : Lm w w.heap.size A n ca xs) (hB : Lm w w.heap.size B m cb ys) (hno : dn = true ∨ ys ≠ [1]) (hS : ∀ W, Lm W W.heap.size B m cb ys → Calls Tryz.prog 70 #[.agg #[.bool dn, .slice B m cb]] W fun e w' => e = .returned (.tuple #[.int .i64 1, .int .i64 0]) ∧ Below W.heap.size W w') (hv : chkB nn xs dn ys = 8) :
    Calls Tryz.prog 45 #[fv nn A n ca dn B m cb] w fun e w' => e = .returned (.int .i64 8) ∧ Below w.heap.size w w' := by
  have HA := Lib.hid hA
  have HB := Lib.hid hB
  clear hA hB
  have HNO := Lib.hid hno
  clear hno
  have HS := Lib.hid hS
  have HV := Lib.hid hv
  clear hS hv
  go_enter Tryz.func45, Tryz.ntmps45
  go_wp2_with fail
  refine (isOne_no _ dn B m cb ys (HB.out.box _) HNO.out).mono ?_
  rintro e w1 ⟨rfl, hb1⟩
  have Q1 := (Qd.new w _ rfl (.bool nn) (.slice A n ca) (.bool dn) (.slice B m cb) 31).via hb1
  have LA := Lib.hid ((HA.out.box _).via hb1)
  have LB := Lib.hid ((HB.out.box _).via hb1)
  have B1 := Lib.hid (bbox hb1)
  have HQ := Lib.hid Q1
  have ⟨q0, q1, q2, q3, _, _, _, _, ql⟩ := Q1
  clear hb1 Q1 HA HB
  go_wp2_with fail
  refine (HS.out _ LB.out).mono ?_
  rintro e w2 ⟨rfl, hb2⟩
  have Q2 := HQ.out.via hb2
  have LA2 := Lib.hid (LA.out.via hb2)
  have LB2 := Lib.hid (LB.out.via hb2)
  have B2 := Lib.hid (btr B1.out hb2)
  clear hb2 q0 q1 q2 q3 ql LA LB B1 HQ
  have ⟨q0, q1, q2, q3, _, _, _, _, ql⟩ := Q2
  go_wp2_with fail
  refine (gcd_bad _ nn dn A B n m ca cb xs ys LA2.out LB2.out HV.out).mono ?_
  rintro e w3 ⟨A3, n3, c3, rfl, _, hb3⟩
  have B3 := Lib.hid (btr B2.out hb3)
  clear hb3 q0 q1 q2 q3 ql Q2
  go_wp2
  go_ret
  exact ⟨rfl, B3.out.alloc B3.out.size _⟩
set_option maxRecDepth 100000 in
set_option maxHeartbeats 1000000 in
theorem fcheck_gno (w : World) (nn dn : Bool) (A B : Option Addr) (n m ca cb : Nat) (xs ys : List Nat) (hA : Lm w w.heap.size A n ca xs) (hB : Lm w w.heap.size B m cb ys) (hno : dn = true ∨ ys ≠ [1]) (hS : ∀ W, Lm W W.heap.size B m cb ys → Calls Tryz.prog 70 #[.agg #[.bool dn, .slice B m cb]] W fun e w' => e = .returned (.tuple #[.int .i64 1, .int .i64 0]) ∧ Below W.heap.size W w') (g : Nat) (hg : g ≠ 1) (HGG : ∀ W, Lm W W.heap.size A n ca xs → Lm W W.heap.size B m cb ys → Calls Tryz.prog 71 #[.agg #[.bool nn, .slice A n ca], .agg #[.bool dn, .slice B m cb]] W (RW W false (digs g) 0)) :
    Calls Tryz.prog 45 #[fv nn A n ca dn B m cb] w fun e w' => e = .returned (.int .i64 8) ∧ Below w.heap.size w w' := by
  have HA := Lib.hid hA
  have HB := Lib.hid hB
  clear hA hB
  have HNO := Lib.hid hno
  clear hno
  have HS := Lib.hid hS
  have HG := Lib.hid HGG
  have HN : Hid (false = true ∨ digs g ≠ [1]) := .inr fun e => hg (by rw [← digs_val g, e]; rfl)
  clear hS HGG hg
  go_enter Tryz.func45, Tryz.ntmps45
  go_wp2_with fail
  refine (isOne_no _ dn B m cb ys (HB.out.box _) HNO.out).mono ?_
  rintro e w1 ⟨rfl, hb1⟩
  have Q1 := (Qd.new w _ rfl (.bool nn) (.slice A n ca) (.bool dn) (.slice B m cb) 31).via hb1
  have LA := Lib.hid ((HA.out.box _).via hb1)
  have LB := Lib.hid ((HB.out.box _).via hb1)
  have B1 := Lib.hid (bbox hb1)
  have HQ := Lib.hid Q1
  have ⟨q0, q1, q2, q3, _, _, _, _, ql⟩ := Q1
  clear hb1 Q1 HA HB
  go_wp2_with fail
  refine (HS.out _ LB.out).mono ?_
  rintro e w2 ⟨rfl, hb2⟩
  have Q2 := HQ.out.via hb2
  have LA2 := Lib.hid (LA.out.via hb2)
  have LB2 := Lib.hid (LB.out.via hb2)
  have B2 := Lib.hid (btr B1.out hb2)
  clear hb2 q0 q1 q2 q3 ql LA LB B1 HQ
  have ⟨q0, q1, q2, q3, _, _, _, _, ql⟩ := Q2
  go_wp2_with fail
  refine (HG.out _ LA2.out LB2.out).mono ?_
  rintro e w3 ⟨A3, n3, c3, rfl, hL3, hb3⟩
  have B3 := Lib.hid (btr B2.out hb3)
  have L3 := Lib.hid hL3
  clear hb3 hL3 q0 q1 q2 q3 ql Q2
  go_wp2_with fail
  refine (isOne_no _ false A3 n3 c3 (digs g) (L3.out.box _) HN.out).mono ?_
  rintro e w4 ⟨rfl, hb4⟩
  go_wp2
  go_ret
  exact ⟨rfl, btr B3.out (bbox hb4)⟩
set_option maxRecDepth 100000 in
set_option maxHeartbeats 1000000 in
theorem fcheck_gyes (w : World) (nn dn : Bool) (A B : Option Addr) (n m ca cb : Nat) (xs ys : List Nat) (hA : Lm w w.heap.size A n ca xs) (hB : Lm w w.heap.size B m cb ys) (hno : dn = true ∨ ys ≠ [1]) (hS : ∀ W, Lm W W.heap.size B m cb ys → Calls Tryz.prog 70 #[.agg #[.bool dn, .slice B m cb]] W fun e w' => e = .returned (.tuple #[.int .i64 1, .int .i64 0]) ∧ Below W.heap.size W w') (g : Nat) (hg : g = 1) (HGG : ∀ W, Lm W W.heap.size A n ca xs → Lm W W.heap.size B m cb ys → Calls Tryz.prog 71 #[.agg #[.bool nn, .slice A n ca], .agg #[.bool dn, .slice B m cb]] W (RW W false (digs g) 0)) :
    Calls Tryz.prog 45 #[fv nn A n ca dn B m cb] w fun e w' => e = .returned (.int .i64 0) ∧ Below w.heap.size w w' := by
  have HA := Lib.hid hA
  have HB := Lib.hid hB
  clear hA hB
  subst hg
  have HNO := Lib.hid hno
  clear hno
  have HS := Lib.hid hS
  have HG := Lib.hid HGG
  clear hS HGG
  go_enter Tryz.func45, Tryz.ntmps45
  go_wp2_with fail
  refine (isOne_no _ dn B m cb ys (HB.out.box _) HNO.out).mono ?_
  rintro e w1 ⟨rfl, hb1⟩
  have Q1 := (Qd.new w _ rfl (.bool nn) (.slice A n ca) (.bool dn) (.slice B m cb) 31).via hb1
  have LA := Lib.hid ((HA.out.box _).via hb1)
  have LB := Lib.hid ((HB.out.box _).via hb1)
  have B1 := Lib.hid (bbox hb1)
  have HQ := Lib.hid Q1
  have ⟨q0, q1, q2, q3, _, _, _, _, ql⟩ := Q1
  clear hb1 Q1 HA HB
  go_wp2_with fail
  refine (HS.out _ LB.out).mono ?_
  rintro e w2 ⟨rfl, hb2⟩
  have Q2 := HQ.out.via hb2
  have LA2 := Lib.hid (LA.out.via hb2)
  have LB2 := Lib.hid (LB.out.via hb2)
  have B2 := Lib.hid (btr B1.out hb2)
  clear hb2 q0 q1 q2 q3 ql LA LB B1 HQ
  have ⟨q0, q1, q2, q3, _, _, _, _, ql⟩ := Q2
  go_wp2_with fail
  refine (HG.out _ LA2.out LB2.out).mono ?_
  rintro e w3 ⟨A3, n3, c3, rfl, hL3, hb3⟩
  have B3 := Lib.hid (btr B2.out hb3)
  have L3 := Lib.hid hL3
  clear hb3 hL3 q0 q1 q2 q3 ql Q2
  go_wp2_with fail
  refine (isOne_yes _ A3 n3 c3 (L3.out.box _)).mono ?_
  rintro e w4 ⟨rfl, hb4⟩
  go_wp2
  go_ret
  exact ⟨rfl, btr B3.out (bbox hb4)⟩
theorem fcheck_any (w : World) (nn dn : Bool) (A B : Option Addr) (n m ca cb : Nat) (xs ys : List Nat) (hA : Lm w w.heap.size A n ca xs) (hB : Lm w w.heap.size B m cb ys) :
    Calls Tryz.prog 45 #[fv nn A n ca dn B m cb] w fun e w' => e = .returned (.int .i64 (fchk nn xs dn ys)) ∧ Below w.heap.size w w' := by
  by_cases h1 : dn = false ∧ ys = [1]
  · obtain ⟨rfl, rfl⟩ := h1
    have e : fchk nn xs false [1] = chk nn xs := by
      unfold fchk
      rcases chk_cases nn xs with hc | hc
      · rw [if_pos ⟨hc, by decide, rfl, by simp, by simp [val_cons, val_nil]⟩, hc]
      · rw [if_neg (fun h => by have := h.1; omega), hc]
    rw [e]
    exact fcheck_one w nn false A B n m ca cb xs [1] hA hB rfl digs1.symm
  · have hno : dn = true ∨ ys ≠ [1] := by
      cases dn
      · exact .inr fun h => h1 ⟨rfl, h⟩
      · exact .inl rfl
    rcases chk_cases dn ys with hc | hc
    · by_cases h2 : dn = false ∧ ys ≠ []
      · obtain ⟨rfl, h2⟩ := h2
        have hd := chk_digs hc hB.good
        have hvp : 0 < val ys := val_pos (chk_ok.1 hc).2.1 h2
        have hS : ∀ W, Lm W W.heap.size B m cb ys → Calls Tryz.prog 70 #[.agg #[.bool false, .slice B m cb]] W fun e w' => e = .returned (.tuple #[.int .i64 1, .int .i64 0]) ∧ Below W.heap.size W w' := by
          intro W hW
          have hc2 := hc
          rw [hd] at hW hc2
          have h := sign_ok W false B m cb _ hW hc2
          have e1 : signZ false (val ys) = 1 := by unfold signZ sideZ; rw [if_neg (by omega)]; rfl
          rw [e1] at h
          exact h
        rcases chk_cases nn xs with hn | hn
        · have hd2 := chk_digs hn hA.good
          have hB2 : chkB nn xs false ys = 0 := chkB_ok.2 ⟨hn, hc⟩
          have hG : ∀ W, Lm W W.heap.size A n ca xs → Lm W W.heap.size B m cb ys → Calls Tryz.prog 71 #[.agg #[.bool nn, .slice A n ca], .agg #[.bool false, .slice B m cb]] W (RW W false (digs (Nat.gcd (val xs) (val ys))) 0) := by
            intro W h3 h4
            have l1 := (chk_ok.1 hn).1
            have l2 := (chk_ok.1 hc).1
            have hB3 := hB2
            rw [hd2] at h3 l1 hB3
            rw [hd] at h4 l2 hB3
            have h := gcd_any W nn false A B n m ca cb _ _ h3 h4 hB3 (by rw [← h3.len]; exact l1) (by rw [← h4.len]; exact l2)
            have hgl : (digs (Nat.gcd (val xs) (val ys))).length ≤ 4096 := Nat.le_trans (digs_mono (Nat.gcd_le_right _ hvp)) l2
            have e1 : mkN false (Nat.gcd (val xs) (val ys)) = false := by unfold mkN; simp
            have e2 : mkL (Nat.gcd (val xs) (val ys)) = digs (Nat.gcd (val xs) (val ys)) := by unfold mkL; rw [if_pos hgl]
            have e3 : mkE (Nat.gcd (val xs) (val ys)) = 0 := by unfold mkE; rw [if_pos hgl]
            rw [e1, e2, e3] at h
            exact h
          by_cases hg : Nat.gcd (val xs) (val ys) = 1
          · have e : fchk nn xs false ys = 0 := by unfold fchk; rw [if_pos ⟨hn, hc, rfl, h2, hg⟩]
            rw [e]
            exact fcheck_gyes w nn false A B n m ca cb xs ys hA hB hno hS _ hg hG
          · have e : fchk nn xs false ys = 8 := by unfold fchk; rw [if_neg (fun h => hg h.2.2.2.2)]
            rw [e]
            exact fcheck_gno w nn false A B n m ca cb xs ys hA hB hno hS _ hg hG
        · have e : fchk nn xs false ys = 8 := by unfold fchk; rw [if_neg (fun h => by have := h.1; omega)]
          rw [e]
          exact fcheck_gbad w nn false A B n m ca cb xs ys hA hB hno hS (by rcases chkB_cases nn xs false ys with h | h; (have := (chkB_ok.1 h).1; omega); exact h)
      · have e : fchk nn xs dn ys = 8 := by unfold fchk; rw [if_neg (fun h => h2 ⟨h.2.2.1, h.2.2.2.1⟩)]
        rw [e]
        have hd := chk_digs hc hB.good
        refine fcheck_sign w nn dn A B n m ca cb xs ys hA hB hno (signZ dn (val ys)) 0 (.inr ⟨rfl, ?_⟩) fun W hW => ?_
        · unfold signZ sideZ
          cases dn
          · have : ys = [] := Classical.byContradiction fun h => h2 ⟨rfl, h⟩
            subst this
            simp [val_nil]
          · split <;> simp
        · have hc2 := hc
          rw [hd] at hW hc2
          exact sign_ok W dn B m cb _ hW hc2
    · have e : fchk nn xs dn ys = 8 := by unfold fchk; rw [if_neg (fun h => by have := h.2.1; omega)]
      rw [e]
      exact fcheck_sign w nn dn A B n m ca cb xs ys hA hB hno 0 8 (.inl (by decide)) fun W hW => sign_bad W dn B m cb ys hW hc
end Go.Proofs.YtglgfjknhplajaaGreatDoor

/- Fractions in lowest terms and what they are worth: in whole numbers. -/
namespace Go.Proofs.YtglgfjknhplajaaGreatDoor
open Go.RowKit

/-- p / q is in lowest terms, of at most k limbs each, and worth u / v. -/
structure FrV (k : Nat) (p q u v : Int) : Prop where
  pos : 0 < q
  eq : p * v = u * q
  ok : fchk (decide (p < 0)) (digs p.natAbs) false (digs q.natAbs) = 0
  sp : Sz k p
  sq : Sz k q
theorem FrV.mono {k l : Nat} {p q u v : Int} (h : FrV k p q u v) (hl : k ≤ l) : FrV l p q u v := ⟨h.pos, h.eq, h.ok, h.sp.mono hl, h.sq.mono hl⟩
theorem natAbs_le_mul {p g : Int} (hg : g ≠ 0) : p.natAbs ≤ (p * g).natAbs := by
  rw [Int.natAbs_mul]
  exact Nat.le_mul_of_pos_right _ (by omega)
theorem red_fr {k : Nat} {x y : Int} (hx : Sz k x) (hy : Sz k y) (hk : k ≤ 2000) (hy0 : y ≠ 0) : FrV k (x / dvr x y) (y / dvr x y) x y := by
  have hg := dvr_ne (x := x) hy0
  have e1 := dvr_left x y
  have e2 := dvr_right x y
  have hG : 0 < Nat.gcd x.natAbs y.natAbs := Nat.gcd_pos_of_pos_right _ (by omega)
  have hgn : (dvr x y).natAbs = Nat.gcd x.natAbs y.natAbs := by unfold dvr; split <;> omega
  have hgs : dvr x y < 0 ↔ y < 0 := by unfold dvr; split <;> omega
  generalize dvr x y = g at *
  generalize x / g = p at *
  generalize y / g = q at *
  have hq : 0 < q := by
    rcases Int.lt_trichotomy q 0 with h | h | h
    · exfalso
      by_cases hy : y < 0
      · have := Int.mul_pos_of_neg_of_neg h (hgs.2 hy); omega
      · have := Int.mul_neg_of_neg_of_pos h (show 0 < g by have := mt hgs.1 hy; omega); omega
    · subst h; omega
    · exact h
  have sp : Sz k p := by
    have h := natAbs_le_mul (p := p) hg
    rw [← e1] at h
    unfold Sz at *; omega
  have sq : Sz k q := by
    have h := natAbs_le_mul (p := q) hg
    rw [← e2] at h
    unfold Sz at *; omega
  refine ⟨hq, by rw [e2, e1]; grind, ?_, sp, sq⟩
  have hn : Nat.gcd p.natAbs q.natAbs = 1 := by
    have a1 : x.natAbs = p.natAbs * Nat.gcd x.natAbs y.natAbs := by rw [← hgn, ← Int.natAbs_mul, ← e1]
    have a2 : y.natAbs = q.natAbs * Nat.gcd x.natAbs y.natAbs := by rw [← hgn, ← Int.natAbs_mul, ← e2]
    generalize hGG : Nat.gcd x.natAbs y.natAbs = G at *
    have a3 : G = Nat.gcd p.natAbs q.natAbs * G := by
      conv => lhs; rw [← hGG, a1, a2, Nat.gcd_mul_right]
    exact Nat.eq_of_mul_eq_mul_right hG (by rw [Nat.one_mul]; exact a3.symm)
  have c1 := chk_z sp (show k ≤ 4096 by omega)
  have c2 := chk_z sq (show k ≤ 4096 by omega)
  rw [decide_eq_false (show ¬ q < 0 by omega)] at c2
  unfold fchk
  rw [if_pos ⟨c1, c2, rfl, fun e => by have := digs_nil.1 e; omega, by rw [digs_val, digs_val]; exact hn⟩]
theorem frv_to {k : Nat} {p q u v u' v' : Int} (h : FrV k p q u v) (hv : v ≠ 0) (e : u * v' = u' * v) : FrV k p q u' v' := by
  refine ⟨h.pos, ?_, h.ok, h.sp, h.sq⟩
  have h1 := h.eq
  refine Int.eq_of_mul_eq_mul_right hv ?_
  have a1 : p * v' * v = p * v * v' := by grind
  have a2 : u' * q * v = u' * v * q := by grind
  rw [a1, a2, h1, ← e]
  grind
/-- Sums, differences, products and quotients of fractions that are worth u / v and s / t. -/
theorem frv_add {p q u v r z s t : Int} (h1 : p * v = u * q) (h2 : r * t = s * z) : (p * z + r * q) * (v * t) = (u * t + s * v) * (q * z) := by
  have a1 : (p * z + r * q) * (v * t) = (p * v) * (z * t) + (r * t) * (q * v) := by grind
  rw [a1, h1, h2]; grind
theorem frv_sub {p q u v r z s t : Int} (h1 : p * v = u * q) (h2 : r * t = s * z) : (p * z - r * q) * (v * t) = (u * t - s * v) * (q * z) := by
  have a1 : (p * z - r * q) * (v * t) = (p * v) * (z * t) - (r * t) * (q * v) := by grind
  rw [a1, h1, h2]; grind
theorem frv_mul {p q u v r z s t : Int} (h1 : p * v = u * q) (h2 : r * t = s * z) : (p * r) * (v * t) = (u * s) * (q * z) := by
  have a1 : (p * r) * (v * t) = (p * v) * (r * t) := by grind
  rw [a1, h1, h2]; grind
theorem frv_div {p q u v r z s t : Int} (h1 : p * v = u * q) (h2 : r * t = s * z) : (p * z) * (v * s) = (u * t) * (q * r) := by
  have a1 : (p * z) * (v * s) = (p * v) * (s * z) := by grind
  rw [a1, h1, ← h2]; grind
/-- The order of two fractions is that of what they are worth. -/
theorem frv_cmp {p q u v r z s t : Int} (hq : 0 < q) (hz : 0 < z) (hv : 0 < v) (ht : 0 < t) (h1 : p * v = u * q) (h2 : r * t = s * z) : (p * z ≤ r * q ↔ u * t ≤ s * v) ∧ (p * z < r * q ↔ u * t < s * v) := by
  have hvt : 0 < v * t := Int.mul_pos hv ht
  have hqz : 0 < q * z := Int.mul_pos hq hz
  have a1 : p * z * (v * t) = u * t * (q * z) := by
    have : p * z * (v * t) = (p * v) * (z * t) := by grind
    rw [this, h1]; grind
  have a2 : r * q * (v * t) = s * v * (q * z) := by
    have : r * q * (v * t) = (r * t) * (q * v) := by grind
    rw [this, h2]; grind
  constructor
  · constructor
    · intro h
      have h' := Int.mul_le_mul_of_nonneg_right h (show 0 ≤ v * t by omega)
      rw [a1, a2] at h'
      exact Int.le_of_mul_le_mul_right h' hqz
    · intro h
      have h' := Int.mul_le_mul_of_nonneg_right h (show 0 ≤ q * z by omega)
      rw [← a1, ← a2] at h'
      exact Int.le_of_mul_le_mul_right h' hvt
  · constructor
    · intro h
      have h' := Int.mul_lt_mul_of_pos_right h hvt
      rw [a1, a2] at h'
      exact Int.lt_of_mul_lt_mul_right h' (by omega)
    · intro h
      have h' := Int.mul_lt_mul_of_pos_right h hqz
      rw [← a1, ← a2] at h'
      exact Int.lt_of_mul_lt_mul_right h' (by omega)
end Go.Proofs.YtglgfjknhplajaaGreatDoor

/- The reference's DivMod. -/
namespace Go.Proofs.YtglgfjknhplajaaGreatDoor
open Go.RowKit

set_option maxRecDepth 100000 in
set_option maxHeartbeats 2000000 in
theorem rdivmod_bad (w : World) (na nb : Bool) (A B : Option Addr) (n m ca cb : Nat) (xs ys : List Nat) (hA : Lm w w.heap.size A n ca xs) (hB : Lm w w.heap.size B m cb ys) (hv : chkB na xs nb ys = 8) :
    Calls Tryz.prog 53 #[.agg #[.bool na, .slice A n ca], .agg #[.bool nb, .slice B m cb]] w (RWW w false [] false [] 8) := by
  have HA := Lib.hid hA
  have HB := Lib.hid hB
  have HV := Lib.hid hv
  clear hv
  go_enter Tryz.func53, Tryz.ntmps53
  go_wp2_with fail
  refine (rboth_any _ _ _ _ _ _ _ _ _ _ _ ((((HA.out.box _).box _).box _).box _) ((((HB.out.box _).box _).box _).box _) 8 HV.out).mono ?_
  rintro e w1 ⟨rfl, hb1⟩
  have ⟨PA, PB, PQ, PR⟩ := boxes4 hb1
  have LA1 := Lib.hid (((((HA.out.box _).box _).box _).box _).via hb1)
  have LB1 := Lib.hid (((((HB.out.box _).box _).box _).box _).via hb1)
  have HB1 := Lib.hid (bbox (bbox (bbox (bbox hb1))))
  have ⟨a0, a1, _, _, _⟩ := PA
  have ⟨b0, b1, _, _, _⟩ := PB
  clear hb1
  go_wp2_with fail
  refine (rboth_any _ _ _ _ _ _ _ _ _ _ _ LA1.out LB1.out 8 HV.out).mono ?_
  rintro e w2 ⟨rfl, hb2⟩
  have PQ2 := PQ.via hb2
  have PR2 := PR.via hb2
  have HB2 := Lib.hid (HB1.out.trans (hb2.mono HB1.out.size))
  clear PQ PR hb2
  have ⟨q0, q1, qf0, qf1, ql⟩ := PQ2
  have ⟨r0, r1, rf0, rf1, rl⟩ := PR2
  go_wp2
  refine post_ww Tryz.results53 rfl rfl rfl ((PQ2.set _ _).far (by omega) _ _) ((PR2.far (by omega) _ _).set _ _) ⟨none, 0, 0, none, 0, 0, rfl, Lm.nil _ _, Lm.nil _ _, below_set2 (below_set2 HB2.out (by omega) _ _) (by omega) _ _⟩

set_option maxRecDepth 100000 in
set_option maxHeartbeats 2000000 in
theorem rdivmod_zero (w : World) (na nb : Bool) (A B : Option Addr) (n ca cb : Nat) (xs : List Nat) (hA : Lm w w.heap.size A n ca xs) (hB : Lm w w.heap.size B 0 cb []) (hv : chkB na xs nb [] = 0) :
    Calls Tryz.prog 53 #[.agg #[.bool na, .slice A n ca], .agg #[.bool nb, .slice B 0 cb]] w (RWW w false [] false [] 18) := by
  have HA := Lib.hid hA
  have HB := Lib.hid hB
  have HV := Lib.hid hv
  clear hv
  go_enter Tryz.func53, Tryz.ntmps53
  go_wp2_with fail
  refine (rboth_any _ _ _ _ _ _ _ _ _ _ _ ((((HA.out.box _).box _).box _).box _) ((((HB.out.box _).box _).box _).box _) 0 HV.out).mono ?_
  rintro e w1 ⟨rfl, hb1⟩
  have ⟨_, PB, PQ, PR⟩ := boxes4 hb1
  have HB1 := Lib.hid (bbox (bbox (bbox (bbox hb1))))
  have ⟨b0, b1, _, _, _⟩ := PB
  have ⟨q0, q1, qf0, qf1, ql⟩ := PQ
  have ⟨r0, r1, rf0, rf1, rl⟩ := PR
  clear hb1
  go_wp2
  refine post_ww Tryz.results53 rfl rfl rfl ((PQ.set _ _).far (by omega) _ _) ((PR.far (by omega) _ _).set _ _) ⟨none, 0, 0, none, 0, 0, rfl, Lm.nil _ _, Lm.nil _ _, below_set2 (below_set2 HB1.out (by omega) _ _) (by omega) _ _⟩

set_option maxRecDepth 100000 in
set_option maxHeartbeats 2000000 in
theorem rdivmod_same (w : World) (na nb : Bool) (A B : Option Addr) (n m ca cb a b : Nat) (hA : Lm w w.heap.size A n ca (digs a)) (hB : Lm w w.heap.size B m cb (digs b)) (hv : chkB na (digs a) nb (digs b) = 0) (hb : 0 < b) (hs : na = nb) (z : Bool) (hz : decide (0 < a % b) = z) :
    Calls Tryz.prog 53 #[.agg #[.bool na, .slice A n ca], .agg #[.bool nb, .slice B m cb]] w (RWW w (mkN false (a / b)) (digs (a / b)) (mkN nb (a % b)) (digs (a % b)) 0) := by
  have h41 := (chk_ok.1 (chkB_ok.1 hv).1).1
  have h42 := (chk_ok.1 (chkB_ok.1 hv).2).1
  have hml := Nat.mod_lt a hb
  have hq0 : (digs (a / b)).length ≤ 4096 := Nat.le_trans (digs_mono (Nat.div_le_self a b)) h41
  have hr0 : (digs (a % b)).length ≤ 4096 := Nat.le_trans (digs_mono (Nat.le_of_lt hml)) h42
  have HLq : Hid (mkL (a / b) = digs (a / b)) := by show _ = _; unfold mkL; rw [if_pos hq0]
  have HLr : Hid (mkL (a % b) = digs (a % b)) := by show _ = _; unfold mkL; rw [if_pos hr0]
  have HEq : Hid (mkE (a / b) = 0) := by show _ = _; unfold mkE; rw [if_pos hq0]
  have HEr : Hid (mkE (a % b) = 0) := by show _ = _; unfold mkE; rw [if_pos hr0]
  rw [hA.len] at h41
  rw [hB.len] at h42
  have hm0 : 0 < m := by rw [← hB.len, digs_pos]; exact hb
  have hm1 : ((m : Int) == 0) = false := by simp; omega
  have hcB := hB.cap
  have hxB := hB.max
  have HA := Lib.hid hA
  have HB := Lib.hid hB
  have HV := Lib.hid hv
  have HVq : Hid (val (digs (a / b)) = a / b) := digs_val _
  have HVr : Hid (val (digs (a % b)) = a % b) := digs_val _
  have hrl : decide (0 < (digs (a % b)).length) = decide (0 < a % b) := decide_eq_decide.2 digs_pos
  rw [hz] at hrl
  clear hz
  clear hv hA hB hml
  subst hs
  cases na <;> cases z
  · go_enter Tryz.func53, Tryz.ntmps53
    go_wp2_with fail
    refine (rboth_any _ _ _ _ _ _ _ _ _ _ _ ((((HA.out.box _).box _).box _).box _) ((((HB.out.box _).box _).box _).box _) 0 HV.out).mono ?_
    rintro e w1 ⟨rfl, hb1⟩
    have ⟨PA, PB, PQ, PR⟩ := boxes4 hb1
    have LA1 := Lib.hid (((((HA.out.box _).box _).box _).box _).via hb1)
    have LB1 := Lib.hid (((((HB.out.box _).box _).box _).box _).via hb1)
    have HB1 := Lib.hid (bbox (bbox (bbox (bbox hb1))))
    have ⟨a0, a1, _, _, _⟩ := PA
    have ⟨b0, b1, _, _, _⟩ := PB
    clear hb1
    go_wp2_with fail
    refine (rover_any w1 A B n m ca cb a b LA1.out LB1.out hb (by omega)).mono ?_
    rintro e w2 ⟨Q, cq, R, cr, rfl, hQ, hR, hb2⟩
    have PA2 := PA.via hb2
    have PB2 := PB.via hb2
    have PQ2 := PQ.via hb2
    have PR2 := PR.via hb2
    have HB2 := Lib.hid (HB1.out.trans (hb2.mono HB1.out.size))
    have HQ := Lib.hid hQ
    have HR := Lib.hid hR
    have LB2 := Lib.hid (LB1.out.via hb2)
    clear PA PB PQ PR LA1 LB1 HB1 a0 a1 b0 b1 hb2 hQ hR
    have ⟨a0, a1, _, _, _⟩ := PA2
    have ⟨b0, b1, _, _, _⟩ := PB2
    go_wp2_with fail
    refine (rmade_any w2 _ _ _ _ _ (a / b) HQ.out HVq.out (by omega)).mono ?_
    rintro e w3 ⟨A3, n3, c3, rfl, hL3, hb3⟩
    rw [HLq.out] at hL3
    rw [HEq.out]
    have PA4 := (PA2.via hb3).alloc (.cells #[.bool (mkN false (a / b)), .slice A3 n3 c3] 29)
    have PB4 := (PB2.via hb3).alloc (.cells #[.bool (mkN false (a / b)), .slice A3 n3 c3] 29)
    have PQ4 := (PQ2.via hb3).alloc (.cells #[.bool (mkN false (a / b)), .slice A3 n3 c3] 29)
    have PR4 := (PR2.via hb3).alloc (.cells #[.bool (mkN false (a / b)), .slice A3 n3 c3] 29)
    have HB4 := Lib.hid ((HB2.out.trans (hb3.mono HB2.out.size)).alloc (HB2.out.trans (hb3.mono HB2.out.size)).size (.cells #[.bool (mkN false (a / b)), .slice A3 n3 c3] 29))
    have HR4 := Lib.hid ((HR.out.via hb3).box (.cells #[.bool (mkN false (a / b)), .slice A3 n3 c3] 29))
    have LB4 := Lib.hid ((LB2.out.via hb3).box (.cells #[.bool (mkN false (a / b)), .slice A3 n3 c3] 29))
    have HL4 := Lib.hid (hL3.box (.cells #[.bool (mkN false (a / b)), .slice A3 n3 c3] 29))
    have PX4 := Pr.new w3 w3.heap.size rfl (.bool (mkN false (a / b))) (.slice A3 n3 c3) 29
    have hlt3 : w.heap.size + 1 + 1 + 1 < w3.heap.size := (PR2.via hb3).lt
    clear PA2 PB2 PQ2 PR2 HQ HR HB2 LB2 hb3 hL3 a0 a1 b0 b1
    have ⟨a0, a1, _, _, _⟩ := PA4
    have ⟨b0, b1, _, _, _⟩ := PB4
    go_wp2_with fail
    generalize w3.alloc (.cells #[.bool (mkN false (a / b)), .slice A3 n3 c3] 29) = w4 at *
    generalize w3.heap.size = g3 at *
    refine (rmade_any w4 _ _ _ _ _ (a % b) HR4.out HVr.out (by omega)).mono ?_
    rintro e w5 ⟨A5, n5, c5, rfl, hL5, hb5⟩
    rw [HLr.out] at hL5
    rw [HEr.out]
    have PA6 := (PA4.via hb5).alloc (.cells #[.bool (mkN false (a % b)), .slice A5 n5 c5] 29)
    have PB6 := (PB4.via hb5).alloc (.cells #[.bool (mkN false (a % b)), .slice A5 n5 c5] 29)
    have PQ6 := (PQ4.via hb5).alloc (.cells #[.bool (mkN false (a % b)), .slice A5 n5 c5] 29)
    have PR6 := (PR4.via hb5).alloc (.cells #[.bool (mkN false (a % b)), .slice A5 n5 c5] 29)
    have PX6 := (PX4.via hb5).alloc (.cells #[.bool (mkN false (a % b)), .slice A5 n5 c5] 29)
    have HB6 := Lib.hid ((HB4.out.trans (hb5.mono HB4.out.size)).alloc (HB4.out.trans (hb5.mono HB4.out.size)).size (.cells #[.bool (mkN false (a % b)), .slice A5 n5 c5] 29))
    have LB6 := Lib.hid ((LB4.out.via hb5).box (.cells #[.bool (mkN false (a % b)), .slice A5 n5 c5] 29))
    have HL6 := Lib.hid ((HL4.out.via hb5).box (.cells #[.bool (mkN false (a % b)), .slice A5 n5 c5] 29))
    have HM6 := Lib.hid (hL5.box (.cells #[.bool (mkN false (a % b)), .slice A5 n5 c5] 29))
    have PY6 := Pr.new w5 w5.heap.size rfl (.bool (mkN false (a % b))) (.slice A5 n5 c5) 29
    have hlt5 : g3 < w5.heap.size := (PX4.via hb5).lt
    clear PA4 PB4 PQ4 PR4 PX4 HB4 HR4 LB4 HL4 hb5 hL5 a0 a1 b0 b1
    have ⟨a0, a1, _, _, _⟩ := PA6
    have ⟨b0, b1, _, _, _⟩ := PB6
    go_wp2_with fail
    generalize w5.alloc (.cells #[.bool (mkN false (a % b)), .slice A5 n5 c5] 29) = w6 at *
    generalize w5.heap.size = g5 at *
    have ⟨q0, q1, qf0, qf1, ql⟩ := PQ6
    have ⟨r0, r1, rf0, rf1, rl⟩ := PR6
    have ⟨x0, x1, xf0, xf1, xl⟩ := PX6
    have ⟨y0, y1, yf0, yf1, yl⟩ := PY6
    go_region
    all_goals
      go_wp2
      refine post_ww Tryz.results53 rfl rfl rfl ((PQ6.set _ _).far (by omega) _ _).drew ((PR6.far (by omega) _ _).set _ _).drew ⟨A3, n3, c3, A5, n5, c5, rfl, ?_, ?_, ?_⟩
      · exact ((HL6.out.setP PQ6 _ _).setP (PR6.far (by omega) _ _) _ _).drew
      · exact ((HM6.out.setP PQ6 _ _).setP (PR6.far (by omega) _ _) _ _).drew
      · exact (below_set2 (below_set2 HB6.out (by omega) _ _) (by omega) _ _).drew
  · go_enter Tryz.func53, Tryz.ntmps53
    go_wp2_with fail
    refine (rboth_any _ _ _ _ _ _ _ _ _ _ _ ((((HA.out.box _).box _).box _).box _) ((((HB.out.box _).box _).box _).box _) 0 HV.out).mono ?_
    rintro e w1 ⟨rfl, hb1⟩
    have ⟨PA, PB, PQ, PR⟩ := boxes4 hb1
    have LA1 := Lib.hid (((((HA.out.box _).box _).box _).box _).via hb1)
    have LB1 := Lib.hid (((((HB.out.box _).box _).box _).box _).via hb1)
    have HB1 := Lib.hid (bbox (bbox (bbox (bbox hb1))))
    have ⟨a0, a1, _, _, _⟩ := PA
    have ⟨b0, b1, _, _, _⟩ := PB
    clear hb1
    go_wp2_with fail
    refine (rover_any w1 A B n m ca cb a b LA1.out LB1.out hb (by omega)).mono ?_
    rintro e w2 ⟨Q, cq, R, cr, rfl, hQ, hR, hb2⟩
    have PA2 := PA.via hb2
    have PB2 := PB.via hb2
    have PQ2 := PQ.via hb2
    have PR2 := PR.via hb2
    have HB2 := Lib.hid (HB1.out.trans (hb2.mono HB1.out.size))
    have HQ := Lib.hid hQ
    have HR := Lib.hid hR
    have LB2 := Lib.hid (LB1.out.via hb2)
    clear PA PB PQ PR LA1 LB1 HB1 a0 a1 b0 b1 hb2 hQ hR
    have ⟨a0, a1, _, _, _⟩ := PA2
    have ⟨b0, b1, _, _, _⟩ := PB2
    go_wp2_with fail
    refine (rmade_any w2 _ _ _ _ _ (a / b) HQ.out HVq.out (by omega)).mono ?_
    rintro e w3 ⟨A3, n3, c3, rfl, hL3, hb3⟩
    rw [HLq.out] at hL3
    rw [HEq.out]
    have PA4 := (PA2.via hb3).alloc (.cells #[.bool (mkN false (a / b)), .slice A3 n3 c3] 29)
    have PB4 := (PB2.via hb3).alloc (.cells #[.bool (mkN false (a / b)), .slice A3 n3 c3] 29)
    have PQ4 := (PQ2.via hb3).alloc (.cells #[.bool (mkN false (a / b)), .slice A3 n3 c3] 29)
    have PR4 := (PR2.via hb3).alloc (.cells #[.bool (mkN false (a / b)), .slice A3 n3 c3] 29)
    have HB4 := Lib.hid ((HB2.out.trans (hb3.mono HB2.out.size)).alloc (HB2.out.trans (hb3.mono HB2.out.size)).size (.cells #[.bool (mkN false (a / b)), .slice A3 n3 c3] 29))
    have HR4 := Lib.hid ((HR.out.via hb3).box (.cells #[.bool (mkN false (a / b)), .slice A3 n3 c3] 29))
    have LB4 := Lib.hid ((LB2.out.via hb3).box (.cells #[.bool (mkN false (a / b)), .slice A3 n3 c3] 29))
    have HL4 := Lib.hid (hL3.box (.cells #[.bool (mkN false (a / b)), .slice A3 n3 c3] 29))
    have PX4 := Pr.new w3 w3.heap.size rfl (.bool (mkN false (a / b))) (.slice A3 n3 c3) 29
    have hlt3 : w.heap.size + 1 + 1 + 1 < w3.heap.size := (PR2.via hb3).lt
    clear PA2 PB2 PQ2 PR2 HQ HR HB2 LB2 hb3 hL3 a0 a1 b0 b1
    have ⟨a0, a1, _, _, _⟩ := PA4
    have ⟨b0, b1, _, _, _⟩ := PB4
    go_wp2_with fail
    generalize w3.alloc (.cells #[.bool (mkN false (a / b)), .slice A3 n3 c3] 29) = w4 at *
    generalize w3.heap.size = g3 at *
    refine (rmade_any w4 _ _ _ _ _ (a % b) HR4.out HVr.out (by omega)).mono ?_
    rintro e w5 ⟨A5, n5, c5, rfl, hL5, hb5⟩
    rw [HLr.out] at hL5
    rw [HEr.out]
    have PA6 := (PA4.via hb5).alloc (.cells #[.bool (mkN false (a % b)), .slice A5 n5 c5] 29)
    have PB6 := (PB4.via hb5).alloc (.cells #[.bool (mkN false (a % b)), .slice A5 n5 c5] 29)
    have PQ6 := (PQ4.via hb5).alloc (.cells #[.bool (mkN false (a % b)), .slice A5 n5 c5] 29)
    have PR6 := (PR4.via hb5).alloc (.cells #[.bool (mkN false (a % b)), .slice A5 n5 c5] 29)
    have PX6 := (PX4.via hb5).alloc (.cells #[.bool (mkN false (a % b)), .slice A5 n5 c5] 29)
    have HB6 := Lib.hid ((HB4.out.trans (hb5.mono HB4.out.size)).alloc (HB4.out.trans (hb5.mono HB4.out.size)).size (.cells #[.bool (mkN false (a % b)), .slice A5 n5 c5] 29))
    have LB6 := Lib.hid ((LB4.out.via hb5).box (.cells #[.bool (mkN false (a % b)), .slice A5 n5 c5] 29))
    have HL6 := Lib.hid ((HL4.out.via hb5).box (.cells #[.bool (mkN false (a % b)), .slice A5 n5 c5] 29))
    have HM6 := Lib.hid (hL5.box (.cells #[.bool (mkN false (a % b)), .slice A5 n5 c5] 29))
    have PY6 := Pr.new w5 w5.heap.size rfl (.bool (mkN false (a % b))) (.slice A5 n5 c5) 29
    have hlt5 : g3 < w5.heap.size := (PX4.via hb5).lt
    clear PA4 PB4 PQ4 PR4 PX4 HB4 HR4 LB4 HL4 hb5 hL5 a0 a1 b0 b1
    have ⟨a0, a1, _, _, _⟩ := PA6
    have ⟨b0, b1, _, _, _⟩ := PB6
    go_wp2_with fail
    generalize w5.alloc (.cells #[.bool (mkN false (a % b)), .slice A5 n5 c5] 29) = w6 at *
    generalize w5.heap.size = g5 at *
    have ⟨q0, q1, qf0, qf1, ql⟩ := PQ6
    have ⟨r0, r1, rf0, rf1, rl⟩ := PR6
    have ⟨x0, x1, xf0, xf1, xl⟩ := PX6
    have ⟨y0, y1, yf0, yf1, yl⟩ := PY6
    go_region
    all_goals
      go_wp2
      refine post_ww Tryz.results53 rfl rfl rfl ((PQ6.set _ _).far (by omega) _ _).drew ((PR6.far (by omega) _ _).set _ _).drew ⟨A3, n3, c3, A5, n5, c5, rfl, ?_, ?_, ?_⟩
      · exact ((HL6.out.setP PQ6 _ _).setP (PR6.far (by omega) _ _) _ _).drew
      · exact ((HM6.out.setP PQ6 _ _).setP (PR6.far (by omega) _ _) _ _).drew
      · exact (below_set2 (below_set2 HB6.out (by omega) _ _) (by omega) _ _).drew
  · go_enter Tryz.func53, Tryz.ntmps53
    go_wp2_with fail
    refine (rboth_any _ _ _ _ _ _ _ _ _ _ _ ((((HA.out.box _).box _).box _).box _) ((((HB.out.box _).box _).box _).box _) 0 HV.out).mono ?_
    rintro e w1 ⟨rfl, hb1⟩
    have ⟨PA, PB, PQ, PR⟩ := boxes4 hb1
    have LA1 := Lib.hid (((((HA.out.box _).box _).box _).box _).via hb1)
    have LB1 := Lib.hid (((((HB.out.box _).box _).box _).box _).via hb1)
    have HB1 := Lib.hid (bbox (bbox (bbox (bbox hb1))))
    have ⟨a0, a1, _, _, _⟩ := PA
    have ⟨b0, b1, _, _, _⟩ := PB
    clear hb1
    go_wp2_with fail
    refine (rover_any w1 A B n m ca cb a b LA1.out LB1.out hb (by omega)).mono ?_
    rintro e w2 ⟨Q, cq, R, cr, rfl, hQ, hR, hb2⟩
    have PA2 := PA.via hb2
    have PB2 := PB.via hb2
    have PQ2 := PQ.via hb2
    have PR2 := PR.via hb2
    have HB2 := Lib.hid (HB1.out.trans (hb2.mono HB1.out.size))
    have HQ := Lib.hid hQ
    have HR := Lib.hid hR
    have LB2 := Lib.hid (LB1.out.via hb2)
    clear PA PB PQ PR LA1 LB1 HB1 a0 a1 b0 b1 hb2 hQ hR
    have ⟨a0, a1, _, _, _⟩ := PA2
    have ⟨b0, b1, _, _, _⟩ := PB2
    go_wp2_with fail
    refine (rmade_any w2 _ _ _ _ _ (a / b) HQ.out HVq.out (by omega)).mono ?_
    rintro e w3 ⟨A3, n3, c3, rfl, hL3, hb3⟩
    rw [HLq.out] at hL3
    rw [HEq.out]
    have PA4 := (PA2.via hb3).alloc (.cells #[.bool (mkN false (a / b)), .slice A3 n3 c3] 29)
    have PB4 := (PB2.via hb3).alloc (.cells #[.bool (mkN false (a / b)), .slice A3 n3 c3] 29)
    have PQ4 := (PQ2.via hb3).alloc (.cells #[.bool (mkN false (a / b)), .slice A3 n3 c3] 29)
    have PR4 := (PR2.via hb3).alloc (.cells #[.bool (mkN false (a / b)), .slice A3 n3 c3] 29)
    have HB4 := Lib.hid ((HB2.out.trans (hb3.mono HB2.out.size)).alloc (HB2.out.trans (hb3.mono HB2.out.size)).size (.cells #[.bool (mkN false (a / b)), .slice A3 n3 c3] 29))
    have HR4 := Lib.hid ((HR.out.via hb3).box (.cells #[.bool (mkN false (a / b)), .slice A3 n3 c3] 29))
    have LB4 := Lib.hid ((LB2.out.via hb3).box (.cells #[.bool (mkN false (a / b)), .slice A3 n3 c3] 29))
    have HL4 := Lib.hid (hL3.box (.cells #[.bool (mkN false (a / b)), .slice A3 n3 c3] 29))
    have PX4 := Pr.new w3 w3.heap.size rfl (.bool (mkN false (a / b))) (.slice A3 n3 c3) 29
    have hlt3 : w.heap.size + 1 + 1 + 1 < w3.heap.size := (PR2.via hb3).lt
    clear PA2 PB2 PQ2 PR2 HQ HR HB2 LB2 hb3 hL3 a0 a1 b0 b1
    have ⟨a0, a1, _, _, _⟩ := PA4
    have ⟨b0, b1, _, _, _⟩ := PB4
    go_wp2_with fail
    generalize w3.alloc (.cells #[.bool (mkN false (a / b)), .slice A3 n3 c3] 29) = w4 at *
    generalize w3.heap.size = g3 at *
    refine (rmade_any w4 _ _ _ _ _ (a % b) HR4.out HVr.out (by omega)).mono ?_
    rintro e w5 ⟨A5, n5, c5, rfl, hL5, hb5⟩
    rw [HLr.out] at hL5
    rw [HEr.out]
    have PA6 := (PA4.via hb5).alloc (.cells #[.bool (mkN true (a % b)), .slice A5 n5 c5] 29)
    have PB6 := (PB4.via hb5).alloc (.cells #[.bool (mkN true (a % b)), .slice A5 n5 c5] 29)
    have PQ6 := (PQ4.via hb5).alloc (.cells #[.bool (mkN true (a % b)), .slice A5 n5 c5] 29)
    have PR6 := (PR4.via hb5).alloc (.cells #[.bool (mkN true (a % b)), .slice A5 n5 c5] 29)
    have PX6 := (PX4.via hb5).alloc (.cells #[.bool (mkN true (a % b)), .slice A5 n5 c5] 29)
    have HB6 := Lib.hid ((HB4.out.trans (hb5.mono HB4.out.size)).alloc (HB4.out.trans (hb5.mono HB4.out.size)).size (.cells #[.bool (mkN true (a % b)), .slice A5 n5 c5] 29))
    have LB6 := Lib.hid ((LB4.out.via hb5).box (.cells #[.bool (mkN true (a % b)), .slice A5 n5 c5] 29))
    have HL6 := Lib.hid ((HL4.out.via hb5).box (.cells #[.bool (mkN true (a % b)), .slice A5 n5 c5] 29))
    have HM6 := Lib.hid (hL5.box (.cells #[.bool (mkN true (a % b)), .slice A5 n5 c5] 29))
    have PY6 := Pr.new w5 w5.heap.size rfl (.bool (mkN true (a % b))) (.slice A5 n5 c5) 29
    have hlt5 : g3 < w5.heap.size := (PX4.via hb5).lt
    clear PA4 PB4 PQ4 PR4 PX4 HB4 HR4 LB4 HL4 hb5 hL5 a0 a1 b0 b1
    have ⟨a0, a1, _, _, _⟩ := PA6
    have ⟨b0, b1, _, _, _⟩ := PB6
    go_wp2_with fail
    generalize w5.alloc (.cells #[.bool (mkN true (a % b)), .slice A5 n5 c5] 29) = w6 at *
    generalize w5.heap.size = g5 at *
    have ⟨q0, q1, qf0, qf1, ql⟩ := PQ6
    have ⟨r0, r1, rf0, rf1, rl⟩ := PR6
    have ⟨x0, x1, xf0, xf1, xl⟩ := PX6
    have ⟨y0, y1, yf0, yf1, yl⟩ := PY6
    go_region
    all_goals
      go_wp2
      refine post_ww Tryz.results53 rfl rfl rfl ((PQ6.set _ _).far (by omega) _ _).drew ((PR6.far (by omega) _ _).set _ _).drew ⟨A3, n3, c3, A5, n5, c5, rfl, ?_, ?_, ?_⟩
      · exact ((HL6.out.setP PQ6 _ _).setP (PR6.far (by omega) _ _) _ _).drew
      · exact ((HM6.out.setP PQ6 _ _).setP (PR6.far (by omega) _ _) _ _).drew
      · exact (below_set2 (below_set2 HB6.out (by omega) _ _) (by omega) _ _).drew
  · go_enter Tryz.func53, Tryz.ntmps53
    go_wp2_with fail
    refine (rboth_any _ _ _ _ _ _ _ _ _ _ _ ((((HA.out.box _).box _).box _).box _) ((((HB.out.box _).box _).box _).box _) 0 HV.out).mono ?_
    rintro e w1 ⟨rfl, hb1⟩
    have ⟨PA, PB, PQ, PR⟩ := boxes4 hb1
    have LA1 := Lib.hid (((((HA.out.box _).box _).box _).box _).via hb1)
    have LB1 := Lib.hid (((((HB.out.box _).box _).box _).box _).via hb1)
    have HB1 := Lib.hid (bbox (bbox (bbox (bbox hb1))))
    have ⟨a0, a1, _, _, _⟩ := PA
    have ⟨b0, b1, _, _, _⟩ := PB
    clear hb1
    go_wp2_with fail
    refine (rover_any w1 A B n m ca cb a b LA1.out LB1.out hb (by omega)).mono ?_
    rintro e w2 ⟨Q, cq, R, cr, rfl, hQ, hR, hb2⟩
    have PA2 := PA.via hb2
    have PB2 := PB.via hb2
    have PQ2 := PQ.via hb2
    have PR2 := PR.via hb2
    have HB2 := Lib.hid (HB1.out.trans (hb2.mono HB1.out.size))
    have HQ := Lib.hid hQ
    have HR := Lib.hid hR
    have LB2 := Lib.hid (LB1.out.via hb2)
    clear PA PB PQ PR LA1 LB1 HB1 a0 a1 b0 b1 hb2 hQ hR
    have ⟨a0, a1, _, _, _⟩ := PA2
    have ⟨b0, b1, _, _, _⟩ := PB2
    go_wp2_with fail
    refine (rmade_any w2 _ _ _ _ _ (a / b) HQ.out HVq.out (by omega)).mono ?_
    rintro e w3 ⟨A3, n3, c3, rfl, hL3, hb3⟩
    rw [HLq.out] at hL3
    rw [HEq.out]
    have PA4 := (PA2.via hb3).alloc (.cells #[.bool (mkN false (a / b)), .slice A3 n3 c3] 29)
    have PB4 := (PB2.via hb3).alloc (.cells #[.bool (mkN false (a / b)), .slice A3 n3 c3] 29)
    have PQ4 := (PQ2.via hb3).alloc (.cells #[.bool (mkN false (a / b)), .slice A3 n3 c3] 29)
    have PR4 := (PR2.via hb3).alloc (.cells #[.bool (mkN false (a / b)), .slice A3 n3 c3] 29)
    have HB4 := Lib.hid ((HB2.out.trans (hb3.mono HB2.out.size)).alloc (HB2.out.trans (hb3.mono HB2.out.size)).size (.cells #[.bool (mkN false (a / b)), .slice A3 n3 c3] 29))
    have HR4 := Lib.hid ((HR.out.via hb3).box (.cells #[.bool (mkN false (a / b)), .slice A3 n3 c3] 29))
    have LB4 := Lib.hid ((LB2.out.via hb3).box (.cells #[.bool (mkN false (a / b)), .slice A3 n3 c3] 29))
    have HL4 := Lib.hid (hL3.box (.cells #[.bool (mkN false (a / b)), .slice A3 n3 c3] 29))
    have PX4 := Pr.new w3 w3.heap.size rfl (.bool (mkN false (a / b))) (.slice A3 n3 c3) 29
    have hlt3 : w.heap.size + 1 + 1 + 1 < w3.heap.size := (PR2.via hb3).lt
    clear PA2 PB2 PQ2 PR2 HQ HR HB2 LB2 hb3 hL3 a0 a1 b0 b1
    have ⟨a0, a1, _, _, _⟩ := PA4
    have ⟨b0, b1, _, _, _⟩ := PB4
    go_wp2_with fail
    generalize w3.alloc (.cells #[.bool (mkN false (a / b)), .slice A3 n3 c3] 29) = w4 at *
    generalize w3.heap.size = g3 at *
    refine (rmade_any w4 _ _ _ _ _ (a % b) HR4.out HVr.out (by omega)).mono ?_
    rintro e w5 ⟨A5, n5, c5, rfl, hL5, hb5⟩
    rw [HLr.out] at hL5
    rw [HEr.out]
    have PA6 := (PA4.via hb5).alloc (.cells #[.bool (mkN true (a % b)), .slice A5 n5 c5] 29)
    have PB6 := (PB4.via hb5).alloc (.cells #[.bool (mkN true (a % b)), .slice A5 n5 c5] 29)
    have PQ6 := (PQ4.via hb5).alloc (.cells #[.bool (mkN true (a % b)), .slice A5 n5 c5] 29)
    have PR6 := (PR4.via hb5).alloc (.cells #[.bool (mkN true (a % b)), .slice A5 n5 c5] 29)
    have PX6 := (PX4.via hb5).alloc (.cells #[.bool (mkN true (a % b)), .slice A5 n5 c5] 29)
    have HB6 := Lib.hid ((HB4.out.trans (hb5.mono HB4.out.size)).alloc (HB4.out.trans (hb5.mono HB4.out.size)).size (.cells #[.bool (mkN true (a % b)), .slice A5 n5 c5] 29))
    have LB6 := Lib.hid ((LB4.out.via hb5).box (.cells #[.bool (mkN true (a % b)), .slice A5 n5 c5] 29))
    have HL6 := Lib.hid ((HL4.out.via hb5).box (.cells #[.bool (mkN true (a % b)), .slice A5 n5 c5] 29))
    have HM6 := Lib.hid (hL5.box (.cells #[.bool (mkN true (a % b)), .slice A5 n5 c5] 29))
    have PY6 := Pr.new w5 w5.heap.size rfl (.bool (mkN true (a % b))) (.slice A5 n5 c5) 29
    have hlt5 : g3 < w5.heap.size := (PX4.via hb5).lt
    clear PA4 PB4 PQ4 PR4 PX4 HB4 HR4 LB4 HL4 hb5 hL5 a0 a1 b0 b1
    have ⟨a0, a1, _, _, _⟩ := PA6
    have ⟨b0, b1, _, _, _⟩ := PB6
    go_wp2_with fail
    generalize w5.alloc (.cells #[.bool (mkN true (a % b)), .slice A5 n5 c5] 29) = w6 at *
    generalize w5.heap.size = g5 at *
    have ⟨q0, q1, qf0, qf1, ql⟩ := PQ6
    have ⟨r0, r1, rf0, rf1, rl⟩ := PR6
    have ⟨x0, x1, xf0, xf1, xl⟩ := PX6
    have ⟨y0, y1, yf0, yf1, yl⟩ := PY6
    go_region
    all_goals
      go_wp2
      refine post_ww Tryz.results53 rfl rfl rfl ((PQ6.set _ _).far (by omega) _ _).drew ((PR6.far (by omega) _ _).set _ _).drew ⟨A3, n3, c3, A5, n5, c5, rfl, ?_, ?_, ?_⟩
      · exact ((HL6.out.setP PQ6 _ _).setP (PR6.far (by omega) _ _) _ _).drew
      · exact ((HM6.out.setP PQ6 _ _).setP (PR6.far (by omega) _ _) _ _).drew
      · exact (below_set2 (below_set2 HB6.out (by omega) _ _) (by omega) _ _).drew
set_option maxRecDepth 100000 in
set_option maxHeartbeats 2000000 in
theorem rdivmod_exact (w : World) (na nb : Bool) (A B : Option Addr) (n m ca cb a b : Nat) (hA : Lm w w.heap.size A n ca (digs a)) (hB : Lm w w.heap.size B m cb (digs b)) (hv : chkB na (digs a) nb (digs b) = 0) (hb : 0 < b) (hs : na = true ∧ nb = false ∨ na = false ∧ nb = true) (h0 : a % b = 0) :
    Calls Tryz.prog 53 #[.agg #[.bool na, .slice A n ca], .agg #[.bool nb, .slice B m cb]] w (RWW w (mkN true (a / b)) (digs (a / b)) (mkN na (a % b)) (digs (a % b)) 0) := by
  have h41 := (chk_ok.1 (chkB_ok.1 hv).1).1
  have h42 := (chk_ok.1 (chkB_ok.1 hv).2).1
  have hml := Nat.mod_lt a hb
  have hq0 : (digs (a / b)).length ≤ 4096 := Nat.le_trans (digs_mono (Nat.div_le_self a b)) h41
  have hr0 : (digs (a % b)).length ≤ 4096 := Nat.le_trans (digs_mono (Nat.le_of_lt hml)) h42
  have HLq : Hid (mkL (a / b) = digs (a / b)) := by show _ = _; unfold mkL; rw [if_pos hq0]
  have HLr : Hid (mkL (a % b) = digs (a % b)) := by show _ = _; unfold mkL; rw [if_pos hr0]
  have HEq : Hid (mkE (a / b) = 0) := by show _ = _; unfold mkE; rw [if_pos hq0]
  have HEr : Hid (mkE (a % b) = 0) := by show _ = _; unfold mkE; rw [if_pos hr0]
  rw [hA.len] at h41
  rw [hB.len] at h42
  have hm0 : 0 < m := by rw [← hB.len, digs_pos]; exact hb
  have hm1 : ((m : Int) == 0) = false := by simp; omega
  have hcB := hB.cap
  have hxB := hB.max
  have HA := Lib.hid hA
  have HB := Lib.hid hB
  have HV := Lib.hid hv
  have HVq : Hid (val (digs (a / b)) = a / b) := digs_val _
  have HVr : Hid (val (digs (a % b)) = a % b) := digs_val _
  have hrl : decide (0 < (digs (a % b)).length) = decide (0 < a % b) := decide_eq_decide.2 digs_pos
  have hrz : decide (0 < (digs (a % b)).length) = false := by rw [hrl]; simp; omega
  have H0 := Lib.hid h0
  clear hrl h0
  clear hv hA hB hml
  rcases hs with ⟨rfl, rfl⟩ | ⟨rfl, rfl⟩
  · go_enter Tryz.func53, Tryz.ntmps53
    go_wp2_with fail
    refine (rboth_any _ _ _ _ _ _ _ _ _ _ _ ((((HA.out.box _).box _).box _).box _) ((((HB.out.box _).box _).box _).box _) 0 HV.out).mono ?_
    rintro e w1 ⟨rfl, hb1⟩
    have ⟨PA, PB, PQ, PR⟩ := boxes4 hb1
    have LA1 := Lib.hid (((((HA.out.box _).box _).box _).box _).via hb1)
    have LB1 := Lib.hid (((((HB.out.box _).box _).box _).box _).via hb1)
    have HB1 := Lib.hid (bbox (bbox (bbox (bbox hb1))))
    have ⟨a0, a1, _, _, _⟩ := PA
    have ⟨b0, b1, _, _, _⟩ := PB
    clear hb1
    go_wp2_with fail
    refine (rover_any w1 A B n m ca cb a b LA1.out LB1.out hb (by omega)).mono ?_
    rintro e w2 ⟨Q, cq, R, cr, rfl, hQ, hR, hb2⟩
    have PA2 := PA.via hb2
    have PB2 := PB.via hb2
    have PQ2 := PQ.via hb2
    have PR2 := PR.via hb2
    have HB2 := Lib.hid (HB1.out.trans (hb2.mono HB1.out.size))
    have HQ := Lib.hid hQ
    have HR := Lib.hid hR
    have LB2 := Lib.hid (LB1.out.via hb2)
    clear PA PB PQ PR LA1 LB1 HB1 a0 a1 b0 b1 hb2 hQ hR
    have ⟨a0, a1, _, _, _⟩ := PA2
    have ⟨b0, b1, _, _, _⟩ := PB2
    go_wp2_with fail
    refine (rmade_any w2 _ _ _ _ _ (a / b) HQ.out HVq.out (by omega)).mono ?_
    rintro e w3 ⟨A3, n3, c3, rfl, hL3, hb3⟩
    rw [HLq.out] at hL3
    rw [HEq.out]
    have PA4 := (PA2.via hb3).alloc (.cells #[.bool (mkN true (a / b)), .slice A3 n3 c3] 29)
    have PB4 := (PB2.via hb3).alloc (.cells #[.bool (mkN true (a / b)), .slice A3 n3 c3] 29)
    have PQ4 := (PQ2.via hb3).alloc (.cells #[.bool (mkN true (a / b)), .slice A3 n3 c3] 29)
    have PR4 := (PR2.via hb3).alloc (.cells #[.bool (mkN true (a / b)), .slice A3 n3 c3] 29)
    have HB4 := Lib.hid ((HB2.out.trans (hb3.mono HB2.out.size)).alloc (HB2.out.trans (hb3.mono HB2.out.size)).size (.cells #[.bool (mkN true (a / b)), .slice A3 n3 c3] 29))
    have HR4 := Lib.hid ((HR.out.via hb3).box (.cells #[.bool (mkN true (a / b)), .slice A3 n3 c3] 29))
    have LB4 := Lib.hid ((LB2.out.via hb3).box (.cells #[.bool (mkN true (a / b)), .slice A3 n3 c3] 29))
    have HL4 := Lib.hid (hL3.box (.cells #[.bool (mkN true (a / b)), .slice A3 n3 c3] 29))
    have PX4 := Pr.new w3 w3.heap.size rfl (.bool (mkN true (a / b))) (.slice A3 n3 c3) 29
    have hlt3 : w.heap.size + 1 + 1 + 1 < w3.heap.size := (PR2.via hb3).lt
    clear PA2 PB2 PQ2 PR2 HQ HR HB2 LB2 hb3 hL3 a0 a1 b0 b1
    have ⟨a0, a1, _, _, _⟩ := PA4
    have ⟨b0, b1, _, _, _⟩ := PB4
    go_wp2_with fail
    generalize w3.alloc (.cells #[.bool (mkN true (a / b)), .slice A3 n3 c3] 29) = w4 at *
    generalize w3.heap.size = g3 at *
    refine (rmade_any w4 _ _ _ _ _ (a % b) HR4.out HVr.out (by omega)).mono ?_
    rintro e w5 ⟨A5, n5, c5, rfl, hL5, hb5⟩
    rw [HLr.out] at hL5
    rw [HEr.out]
    have PA6 := (PA4.via hb5).alloc (.cells #[.bool (mkN true (a % b)), .slice A5 n5 c5] 29)
    have PB6 := (PB4.via hb5).alloc (.cells #[.bool (mkN true (a % b)), .slice A5 n5 c5] 29)
    have PQ6 := (PQ4.via hb5).alloc (.cells #[.bool (mkN true (a % b)), .slice A5 n5 c5] 29)
    have PR6 := (PR4.via hb5).alloc (.cells #[.bool (mkN true (a % b)), .slice A5 n5 c5] 29)
    have PX6 := (PX4.via hb5).alloc (.cells #[.bool (mkN true (a % b)), .slice A5 n5 c5] 29)
    have HB6 := Lib.hid ((HB4.out.trans (hb5.mono HB4.out.size)).alloc (HB4.out.trans (hb5.mono HB4.out.size)).size (.cells #[.bool (mkN true (a % b)), .slice A5 n5 c5] 29))
    have LB6 := Lib.hid ((LB4.out.via hb5).box (.cells #[.bool (mkN true (a % b)), .slice A5 n5 c5] 29))
    have HL6 := Lib.hid ((HL4.out.via hb5).box (.cells #[.bool (mkN true (a % b)), .slice A5 n5 c5] 29))
    have HM6 := Lib.hid (hL5.box (.cells #[.bool (mkN true (a % b)), .slice A5 n5 c5] 29))
    have PY6 := Pr.new w5 w5.heap.size rfl (.bool (mkN true (a % b))) (.slice A5 n5 c5) 29
    have hlt5 : g3 < w5.heap.size := (PX4.via hb5).lt
    clear PA4 PB4 PQ4 PR4 PX4 HB4 HR4 LB4 HL4 hb5 hL5 a0 a1 b0 b1
    have ⟨a0, a1, _, _, _⟩ := PA6
    have ⟨b0, b1, _, _, _⟩ := PB6
    go_wp2_with fail
    generalize w5.alloc (.cells #[.bool (mkN true (a % b)), .slice A5 n5 c5] 29) = w6 at *
    generalize w5.heap.size = g5 at *
    have ⟨q0, q1, qf0, qf1, ql⟩ := PQ6
    have ⟨r0, r1, rf0, rf1, rl⟩ := PR6
    have ⟨x0, x1, xf0, xf1, xl⟩ := PX6
    have ⟨y0, y1, yf0, yf1, yl⟩ := PY6
    go_region
    all_goals
      go_wp2
      refine post_ww Tryz.results53 rfl rfl rfl ((PQ6.set _ _).far (by omega) _ _).drew ((PR6.far (by omega) _ _).set _ _).drew ⟨A3, n3, c3, A5, n5, c5, rfl, ?_, ?_, ?_⟩
      · exact ((HL6.out.setP PQ6 _ _).setP (PR6.far (by omega) _ _) _ _).drew
      · exact ((HM6.out.setP PQ6 _ _).setP (PR6.far (by omega) _ _) _ _).drew
      · exact (below_set2 (below_set2 HB6.out (by omega) _ _) (by omega) _ _).drew
  · go_enter Tryz.func53, Tryz.ntmps53
    go_wp2_with fail
    refine (rboth_any _ _ _ _ _ _ _ _ _ _ _ ((((HA.out.box _).box _).box _).box _) ((((HB.out.box _).box _).box _).box _) 0 HV.out).mono ?_
    rintro e w1 ⟨rfl, hb1⟩
    have ⟨PA, PB, PQ, PR⟩ := boxes4 hb1
    have LA1 := Lib.hid (((((HA.out.box _).box _).box _).box _).via hb1)
    have LB1 := Lib.hid (((((HB.out.box _).box _).box _).box _).via hb1)
    have HB1 := Lib.hid (bbox (bbox (bbox (bbox hb1))))
    have ⟨a0, a1, _, _, _⟩ := PA
    have ⟨b0, b1, _, _, _⟩ := PB
    clear hb1
    go_wp2_with fail
    refine (rover_any w1 A B n m ca cb a b LA1.out LB1.out hb (by omega)).mono ?_
    rintro e w2 ⟨Q, cq, R, cr, rfl, hQ, hR, hb2⟩
    have PA2 := PA.via hb2
    have PB2 := PB.via hb2
    have PQ2 := PQ.via hb2
    have PR2 := PR.via hb2
    have HB2 := Lib.hid (HB1.out.trans (hb2.mono HB1.out.size))
    have HQ := Lib.hid hQ
    have HR := Lib.hid hR
    have LB2 := Lib.hid (LB1.out.via hb2)
    clear PA PB PQ PR LA1 LB1 HB1 a0 a1 b0 b1 hb2 hQ hR
    have ⟨a0, a1, _, _, _⟩ := PA2
    have ⟨b0, b1, _, _, _⟩ := PB2
    go_wp2_with fail
    refine (rmade_any w2 _ _ _ _ _ (a / b) HQ.out HVq.out (by omega)).mono ?_
    rintro e w3 ⟨A3, n3, c3, rfl, hL3, hb3⟩
    rw [HLq.out] at hL3
    rw [HEq.out]
    have PA4 := (PA2.via hb3).alloc (.cells #[.bool (mkN true (a / b)), .slice A3 n3 c3] 29)
    have PB4 := (PB2.via hb3).alloc (.cells #[.bool (mkN true (a / b)), .slice A3 n3 c3] 29)
    have PQ4 := (PQ2.via hb3).alloc (.cells #[.bool (mkN true (a / b)), .slice A3 n3 c3] 29)
    have PR4 := (PR2.via hb3).alloc (.cells #[.bool (mkN true (a / b)), .slice A3 n3 c3] 29)
    have HB4 := Lib.hid ((HB2.out.trans (hb3.mono HB2.out.size)).alloc (HB2.out.trans (hb3.mono HB2.out.size)).size (.cells #[.bool (mkN true (a / b)), .slice A3 n3 c3] 29))
    have HR4 := Lib.hid ((HR.out.via hb3).box (.cells #[.bool (mkN true (a / b)), .slice A3 n3 c3] 29))
    have LB4 := Lib.hid ((LB2.out.via hb3).box (.cells #[.bool (mkN true (a / b)), .slice A3 n3 c3] 29))
    have HL4 := Lib.hid (hL3.box (.cells #[.bool (mkN true (a / b)), .slice A3 n3 c3] 29))
    have PX4 := Pr.new w3 w3.heap.size rfl (.bool (mkN true (a / b))) (.slice A3 n3 c3) 29
    have hlt3 : w.heap.size + 1 + 1 + 1 < w3.heap.size := (PR2.via hb3).lt
    clear PA2 PB2 PQ2 PR2 HQ HR HB2 LB2 hb3 hL3 a0 a1 b0 b1
    have ⟨a0, a1, _, _, _⟩ := PA4
    have ⟨b0, b1, _, _, _⟩ := PB4
    go_wp2_with fail
    generalize w3.alloc (.cells #[.bool (mkN true (a / b)), .slice A3 n3 c3] 29) = w4 at *
    generalize w3.heap.size = g3 at *
    refine (rmade_any w4 _ _ _ _ _ (a % b) HR4.out HVr.out (by omega)).mono ?_
    rintro e w5 ⟨A5, n5, c5, rfl, hL5, hb5⟩
    rw [HLr.out] at hL5
    rw [HEr.out]
    have PA6 := (PA4.via hb5).alloc (.cells #[.bool (mkN false (a % b)), .slice A5 n5 c5] 29)
    have PB6 := (PB4.via hb5).alloc (.cells #[.bool (mkN false (a % b)), .slice A5 n5 c5] 29)
    have PQ6 := (PQ4.via hb5).alloc (.cells #[.bool (mkN false (a % b)), .slice A5 n5 c5] 29)
    have PR6 := (PR4.via hb5).alloc (.cells #[.bool (mkN false (a % b)), .slice A5 n5 c5] 29)
    have PX6 := (PX4.via hb5).alloc (.cells #[.bool (mkN false (a % b)), .slice A5 n5 c5] 29)
    have HB6 := Lib.hid ((HB4.out.trans (hb5.mono HB4.out.size)).alloc (HB4.out.trans (hb5.mono HB4.out.size)).size (.cells #[.bool (mkN false (a % b)), .slice A5 n5 c5] 29))
    have LB6 := Lib.hid ((LB4.out.via hb5).box (.cells #[.bool (mkN false (a % b)), .slice A5 n5 c5] 29))
    have HL6 := Lib.hid ((HL4.out.via hb5).box (.cells #[.bool (mkN false (a % b)), .slice A5 n5 c5] 29))
    have HM6 := Lib.hid (hL5.box (.cells #[.bool (mkN false (a % b)), .slice A5 n5 c5] 29))
    have PY6 := Pr.new w5 w5.heap.size rfl (.bool (mkN false (a % b))) (.slice A5 n5 c5) 29
    have hlt5 : g3 < w5.heap.size := (PX4.via hb5).lt
    clear PA4 PB4 PQ4 PR4 PX4 HB4 HR4 LB4 HL4 hb5 hL5 a0 a1 b0 b1
    have ⟨a0, a1, _, _, _⟩ := PA6
    have ⟨b0, b1, _, _, _⟩ := PB6
    go_wp2_with fail
    generalize w5.alloc (.cells #[.bool (mkN false (a % b)), .slice A5 n5 c5] 29) = w6 at *
    generalize w5.heap.size = g5 at *
    have ⟨q0, q1, qf0, qf1, ql⟩ := PQ6
    have ⟨r0, r1, rf0, rf1, rl⟩ := PR6
    have ⟨x0, x1, xf0, xf1, xl⟩ := PX6
    have ⟨y0, y1, yf0, yf1, yl⟩ := PY6
    go_region
    all_goals
      go_wp2
      refine post_ww Tryz.results53 rfl rfl rfl ((PQ6.set _ _).far (by omega) _ _).drew ((PR6.far (by omega) _ _).set _ _).drew ⟨A3, n3, c3, A5, n5, c5, rfl, ?_, ?_, ?_⟩
      · exact ((HL6.out.setP PQ6 _ _).setP (PR6.far (by omega) _ _) _ _).drew
      · exact ((HM6.out.setP PQ6 _ _).setP (PR6.far (by omega) _ _) _ _).drew
      · exact (below_set2 (below_set2 HB6.out (by omega) _ _) (by omega) _ _).drew
end Go.Proofs.YtglgfjknhplajaaGreatDoor

