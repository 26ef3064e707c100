/- Lemmas, part 7. -/
import Derived.Shelf.Strconv.Itoa0
import Derived.Shelf.Bits.Mul64
import Derived.Lib.ItoaNum
import Derived.Deep.QuietTactic
import Derived.BigQuiet
import Derived.Deep.DeepCutAuto
import Derived.Deep.CutBlock
import Derived.Deep.RegionHeld3
import Derived.RegionTactic
import Derived.ChangeAlike
import Derived.BigRegion
import Derived.Shelf.Spec.TrailingZeros
import Derived.Test.YtglgfjknhplajaaGreatDoorSH6
/- Intervals: hull of one and of three others; Hull's closure. -/
namespace Go.Proofs.YtglgfjknhplajaaGreatDoor
open Go.RowKit

/-- The cells of intervals from off on in block g. -/
structure Iv1 (w : World) (g off : Nat) (l h : Int) : Prop where
  c0 : w.cell? ⟨g, off, none⟩ = some (.int .i64 l)
  c1 : w.cell? ⟨g, off + 1, none⟩ = some (.int .i64 h)
  lt : g < w.heap.size
theorem Iv1.via {w w' : World} {g off : Nat} {l h : Int} (p : Iv1 w g off l h) (hb : Below w.heap.size w w') : Iv1 w' g off l h :=
  ⟨(hb.cell (p := ⟨g, off, none⟩) p.lt).trans p.c0, (hb.cell (p := ⟨g, off + 1, none⟩) p.lt).trans p.c1, Nat.lt_of_lt_of_le p.lt hb.size⟩
theorem Iv1.al {w : World} {g off : Nat} {l h : Int} (p : Iv1 w g off l h) (o : Obj) : Iv1 (w.alloc o) g off l h := p.via ((Below.refl _ _).alloc (Nat.le_refl _) o)
theorem Iv1.far {w : World} {g off k : Nat} {l h : Int} (p : Iv1 w g off l h) (hne : g ≠ k) (x y : Value) : Iv1 ((w.setCell ⟨k, 0, none⟩ x).setCell ⟨k, 1, none⟩ y) g off l h := by
  have e : ∀ (i j : Nat), (⟨k, i, none⟩ : Addr) ≠ ⟨g, j, none⟩ := fun i j e => hne (congrArg Addr.block e).symm
  refine ⟨?_, ?_, by simpa [World.size_setCell] using p.lt⟩
  · rw [World.cell?_setCell_other _ _ _ _ (e _ _), World.cell?_setCell_other _ _ _ _ (e _ _)]; exact p.c0
  · rw [World.cell?_setCell_other _ _ _ _ (e _ _), World.cell?_setCell_other _ _ _ _ (e _ _)]; exact p.c1
set_option maxRecDepth 100000 in
set_option maxHeartbeats 2000000 in
theorem hull1_any (w : World) (g : Nat) (l0 h0 l1 h1 : Int) (hC1 : Iv1 w g 0 l1 h1) :
    Calls Tryz.prog 85 #[iv l0 h0, .slice (some ⟨g, 0, none⟩) 1 1] w (RV w (min l0 l1) (max h0 h1)) := by
  have HC1 := Lib.hid hC1
  clear hC1
  have PA := Lib.hid ((Pr.new w w.heap.size rfl (.int .i64 l0) (.int .i64 h0) 23).alloc (ivB 0 0))
  have PR := Lib.hid (Pr.new (w.alloc (ivB l0 h0)) (w.heap.size + 1) (by simp) (.int .i64 0) (.int .i64 0) 23)
  have BW : Hid (Below w.heap.size w ((w.alloc (ivB l0 h0)).alloc (ivB 0 0))) := sbal (sbal (Below.refl _ _) _) _
  have hgl : g < w.heap.size := HC1.out.lt
  have IC1 := Lib.hid (HC1.out.via BW.out)
  clear HC1
  go_enter Tryz.func85, Tryz.ntmps85
  go_wp2
  generalize (w.alloc (ivB l0 h0)).alloc (ivB 0 0) = W0 at *
  go_loopw [9] (fun i wr => ∃ (k : Nat) (x y : Int), i = .int .i64 k ∧ (k = 0 ∧ x = l0 ∧ y = h0 ∨ k = 1 ∧ x = min l0 l1 ∧ y = max h0 h1) ∧ Pr wr w.heap.size (.int .i64 x) (.int .i64 y) ∧ Pr wr (w.heap.size + 1) (.int .i64 0) (.int .i64 0) ∧ Iv1 wr g 0 l1 h1 ∧ Below w.heap.size w wr) (fun i _ => 1 - (intOf i).toNat)
  case atStart => exact ⟨0, l0, h0, rfl, .inl ⟨rfl, rfl, rfl⟩, PA.out, PR.out, IC1.out, BW.out⟩
  case round =>
    obtain ⟨k, x, y, rfl, hk, pa, pr, ic1, hB⟩ := hrel
    clear PA PR BW IC1
    have SA := Lib.hid pa
    have SR := Lib.hid pr
    have HB := Lib.hid hB
    have JC1 := Lib.hid ic1
    clear pa pr hB ic1
    rcases hk with ⟨rfl, hx, hy⟩ | ⟨rfl, hx, hy⟩
    · have HX := Lib.hid hx
      have HY := Lib.hid hy
      clear hx hy
      have ⟨c0, c1, _⟩ := JC1.out
      have ⟨s0, s1, s2, s3, sl⟩ := SA.out
      have hn1 : ¬ (w.heap.size = wr.heap.size) := by omega
      have hn2 : ¬ (wr.heap.size = w.heap.size) := by omega
      go_wp2
      all_goals
        go_roundw
        case rel =>
          refine ⟨1, _, _, by go_num, .inr (⟨rfl, ?_, ?_⟩), (SA.out.set _ _).alloc _, ((SR.out.far (by omega) _ _).alloc _), (JC1.out.far (by omega) _ _).al _, sbal (below_set2 HB.out (by omega) _ _) _⟩
          all_goals (have hx := HX.out; have hy := HY.out; omega)
        case measure => simp [intOf]
    · have HX := Lib.hid hx
      have HY := Lib.hid hy
      clear hx hy
      have ⟨s0, s1, s2, s3, sl⟩ := SA.out
      have ⟨r0, r1, r2, r3, rl⟩ := SR.out
      go_wp2
      exact post_iv1 Tryz.results85 rfl rfl (SR.out.set _ _) ⟨ret_iv (by rw [HX.out]) (by rw [HY.out]), below_set2 HB.out (by omega) _ _⟩
set_option maxRecDepth 100000 in
set_option maxHeartbeats 2000000 in
theorem hull3_any (w : World) (g : Nat) (l0 h0 l1 h1 l2 h2 l3 h3 : Int) (hC1 : Iv1 w g 2 l1 h1) (hC2 : Iv1 w g 4 l2 h2) (hC3 : Iv1 w g 6 l3 h3) :
    Calls Tryz.prog 85 #[iv l0 h0, .slice (some ⟨g, 2, none⟩) 3 3] w (RV w (min (min (min l0 l1) l2) l3) (max (max (max h0 h1) h2) h3)) := by
  have HC1 := Lib.hid hC1
  have HC2 := Lib.hid hC2
  have HC3 := Lib.hid hC3
  clear hC1 hC2 hC3
  have PA := Lib.hid ((Pr.new w w.heap.size rfl (.int .i64 l0) (.int .i64 h0) 23).alloc (ivB 0 0))
  have PR := Lib.hid (Pr.new (w.alloc (ivB l0 h0)) (w.heap.size + 1) (by simp) (.int .i64 0) (.int .i64 0) 23)
  have BW : Hid (Below w.heap.size w ((w.alloc (ivB l0 h0)).alloc (ivB 0 0))) := sbal (sbal (Below.refl _ _) _) _
  have hgl : g < w.heap.size := HC1.out.lt
  have IC1 := Lib.hid (HC1.out.via BW.out)
  have IC2 := Lib.hid (HC2.out.via BW.out)
  have IC3 := Lib.hid (HC3.out.via BW.out)
  clear HC1 HC2 HC3
  go_enter Tryz.func85, Tryz.ntmps85
  go_wp2
  generalize (w.alloc (ivB l0 h0)).alloc (ivB 0 0) = W0 at *
  go_loopw [9] (fun i wr => ∃ (k : Nat) (x y : Int), i = .int .i64 k ∧ (k = 0 ∧ x = l0 ∧ y = h0 ∨ k = 1 ∧ x = min l0 l1 ∧ y = max h0 h1 ∨ k = 2 ∧ x = min (min l0 l1) l2 ∧ y = max (max h0 h1) h2 ∨ k = 3 ∧ x = min (min (min l0 l1) l2) l3 ∧ y = max (max (max h0 h1) h2) h3) ∧ Pr wr w.heap.size (.int .i64 x) (.int .i64 y) ∧ Pr wr (w.heap.size + 1) (.int .i64 0) (.int .i64 0) ∧ Iv1 wr g 2 l1 h1 ∧ Iv1 wr g 4 l2 h2 ∧ Iv1 wr g 6 l3 h3 ∧ Below w.heap.size w wr) (fun i _ => 3 - (intOf i).toNat)
  case atStart => exact ⟨0, l0, h0, rfl, .inl ⟨rfl, rfl, rfl⟩, PA.out, PR.out, IC1.out, IC2.out, IC3.out, BW.out⟩
  case round =>
    obtain ⟨k, x, y, rfl, hk, pa, pr, ic1, ic2, ic3, hB⟩ := hrel
    clear PA PR BW IC1 IC2 IC3
    have SA := Lib.hid pa
    have SR := Lib.hid pr
    have HB := Lib.hid hB
    have JC1 := Lib.hid ic1
    have JC2 := Lib.hid ic2
    have JC3 := Lib.hid ic3
    clear pa pr hB ic1 ic2 ic3
    rcases hk with ⟨rfl, hx, hy⟩ | ⟨rfl, hx, hy⟩ | ⟨rfl, hx, hy⟩ | ⟨rfl, hx, hy⟩
    · have HX := Lib.hid hx
      have HY := Lib.hid hy
      clear hx hy
      have ⟨c0, c1, _⟩ := JC1.out
      have ⟨s0, s1, s2, s3, sl⟩ := SA.out
      have hn1 : ¬ (w.heap.size = wr.heap.size) := by omega
      have hn2 : ¬ (wr.heap.size = w.heap.size) := by omega
      go_wp2
      all_goals
        go_roundw
        case rel =>
          refine ⟨1, _, _, by go_num, .inr (.inl ⟨rfl, ?_, ?_⟩), (SA.out.set _ _).alloc _, ((SR.out.far (by omega) _ _).alloc _), (JC1.out.far (by omega) _ _).al _, (JC2.out.far (by omega) _ _).al _, (JC3.out.far (by omega) _ _).al _, sbal (below_set2 HB.out (by omega) _ _) _⟩
          all_goals (have hx := HX.out; have hy := HY.out; omega)
        case measure => simp [intOf]
    · have HX := Lib.hid hx
      have HY := Lib.hid hy
      clear hx hy
      have ⟨c0, c1, _⟩ := JC2.out
      have ⟨s0, s1, s2, s3, sl⟩ := SA.out
      have hn1 : ¬ (w.heap.size = wr.heap.size) := by omega
      have hn2 : ¬ (wr.heap.size = w.heap.size) := by omega
      go_wp2
      all_goals
        go_roundw
        case rel =>
          refine ⟨2, _, _, by go_num, .inr (.inr (.inl ⟨rfl, ?_, ?_⟩)), (SA.out.set _ _).alloc _, ((SR.out.far (by omega) _ _).alloc _), (JC1.out.far (by omega) _ _).al _, (JC2.out.far (by omega) _ _).al _, (JC3.out.far (by omega) _ _).al _, sbal (below_set2 HB.out (by omega) _ _) _⟩
          all_goals (have hx := HX.out; have hy := HY.out; omega)
        case measure => simp [intOf]
    · have HX := Lib.hid hx
      have HY := Lib.hid hy
      clear hx hy
      have ⟨c0, c1, _⟩ := JC3.out
      have ⟨s0, s1, s2, s3, sl⟩ := SA.out
      have hn1 : ¬ (w.heap.size = wr.heap.size) := by omega
      have hn2 : ¬ (wr.heap.size = w.heap.size) := by omega
      go_wp2
      all_goals
        go_roundw
        case rel =>
          refine ⟨3, _, _, by go_num, .inr (.inr (.inr (⟨rfl, ?_, ?_⟩))), (SA.out.set _ _).alloc _, ((SR.out.far (by omega) _ _).alloc _), (JC1.out.far (by omega) _ _).al _, (JC2.out.far (by omega) _ _).al _, (JC3.out.far (by omega) _ _).al _, sbal (below_set2 HB.out (by omega) _ _) _⟩
          all_goals (have hx := HX.out; have hy := HY.out; omega)
        case measure => simp [intOf]
    · have HX := Lib.hid hx
      have HY := Lib.hid hy
      clear hx hy
      have ⟨s0, s1, s2, s3, sl⟩ := SA.out
      have ⟨r0, r1, r2, r3, rl⟩ := SR.out
      go_wp2
      exact post_iv1 Tryz.results85 rfl rfl (SR.out.set _ _) ⟨ret_iv (by rw [HX.out]) (by rw [HY.out]), below_set2 HB.out (by omega) _ _⟩
end Go.Proofs.YtglgfjknhplajaaGreatDoor

/- math/bits: Len64, Mul64 and LeadingZeros64 at this translation. -/
namespace Go.Proofs.YtglgfjknhplajaaGreatDoor
open Go.RowKit Go.Shelf

def lays129_ren : Go.Shelf.Ren := ⟨fun | 129 => 113 | n => n, fun | 3 => 3 | 4 => 4 | 5 => 5 | 9 => 9 | 46 => 77 | 53 => 24 | n => n, fun | n => n⟩
theorem lays129 : Go.Proofs.Lays.n129 Tryz.prog lays129_ren := {
  mixed := by kernel_rfl
  f129 := Tryz.func113.trans (congrArg some (by kernel_rfl))
  t3 := Tryz.underlying3
  a3 := Tryz.isAgg3
  z3 := Tryz.sizeOf3
  v3 := Tryz.zeroValue3
  t4 := Tryz.underlying4
  a4 := Tryz.isAgg4
  z4 := Tryz.sizeOf4
  v4 := Tryz.zeroValue4
  t5 := Tryz.underlying5
  a5 := Tryz.isAgg5
  z5 := Tryz.sizeOf5
  v5 := Tryz.zeroValue5
  t9 := Tryz.underlying9
  a9 := Tryz.isAgg9
  z9 := Tryz.sizeOf9
  v9 := Tryz.zeroValue9
  t46 := Tryz.underlying77
  a46 := Tryz.isAgg77
  z46 := Tryz.sizeOf77
  v46 := Tryz.zeroValue77
  t53 := Tryz.underlying24
  a53 := Tryz.isAgg24
  z53 := Tryz.sizeOf24
  v53 := Tryz.zeroValue24 }
theorem slen64_any (x : Nat) (w : World) (h1 : x < 18446744073709551616) :
    Calls Tryz.prog 113 #[.int .u64 (x : Int)] w fun e w' => e = .returned (.int .i64 (Lib.bitLen x)) ∧ w = w' := by
  refine (Any.bits_Len64 lays129 (x : Int) w (by omega) (by omega)).mono ?_
  rintro e w' ⟨rfl, rfl⟩
  exact ⟨by rw [Int.toNat_natCast], rfl⟩
def lays264_ren : Go.Shelf.Ren := ⟨fun | 264 => 86 | n => n, fun | 46 => 77 | 53 => 24 | n => n, fun | n => n⟩
theorem lays264 : Go.Proofs.Lays.n264 Tryz.prog lays264_ren := {
  mixed := by kernel_rfl
  f264 := Tryz.func86.trans (congrArg some (by kernel_rfl))
  t46 := Tryz.underlying77
  a46 := Tryz.isAgg77
  z46 := Tryz.sizeOf77
  v46 := Tryz.zeroValue77
  t53 := Tryz.underlying24
  a53 := Tryz.isAgg24
  z53 := Tryz.sizeOf24
  v53 := Tryz.zeroValue24 }
theorem smul64_any (x y : Nat) (hx : x < 18446744073709551616) (hy : y < 18446744073709551616) (w : World) :
    Calls Tryz.prog 86 #[.int .u64 (x : Int), .int .u64 (y : Int)] w fun e w' => e = .returned (.tuple #[.int .u64 ((x * y / 18446744073709551616 : Nat) : Int), .int .u64 ((x * y % 18446744073709551616 : Nat) : Int)]) ∧ w = w' := by
  refine (Any.bits_Mul64 lays264 x y hx hy w).mono ?_
  rintro e w' ⟨rfl, rfl⟩
  exact ⟨rfl, rfl⟩
set_option maxRecDepth 100000 in
theorem slz64_any (x : Nat) (w : World) (h1 : x < 18446744073709551616) (hl : Lib.bitLen x ≤ 64) :
    Calls Tryz.prog 112 #[.int .u64 (x : Int)] w fun e w' => e = .returned (.int .i64 (64 - (Lib.bitLen x : Int))) ∧ w = w' := by
  have H := Lib.hid (fun w => slen64_any x w h1)
  have h0 : (0 : Int) ≤ (Lib.bitLen x : Int) := by omega
  have hl' : (Lib.bitLen x : Int) ≤ 64 := by omega
  go_enter Tryz.func112, Tryz.ntmps112
  go_wp2_with fail
  refine (H.out _).mono ?_
  rintro e w' ⟨rfl, rfl⟩
  clear H
  go_wp2
  go_ret
  exact ⟨ret_int (by omega), rfl⟩
end Go.Proofs.YtglgfjknhplajaaGreatDoor

/- math/bits.Div64: the quotient and the rest of two words by one. -/
namespace Go.Proofs.YtglgfjknhplajaaGreatDoor
open Go.RowKit

set_option maxRecDepth 100000 in
set_option maxHeartbeats 4000000 in
theorem div64_main (w : World) (hi lo y s Y b1 b2 U V ua ub : Nat) (h0 : 0 < hi) (h1 : hi < y) (_ : y < 18446744073709551616) (_ : lo < 18446744073709551616) (hs : s < 64)
    (HL : ∀ w, Calls Tryz.prog 112 #[.int .u64 (y : Int)] w fun e w' => e = .returned (.int .i64 (s : Int)) ∧ w = w')
    (hY : Y = b1 * 4294967296 + b2) (hb1 : 2147483648 ≤ b1) (hb1l : b1 < 4294967296) (hb2l : b2 < 4294967296) (hUY : U < Y) (hua : ua < 4294967296) (hub : ub < 4294967296) (hV : V = ua * 4294967296 + ub)
    (e1 : IntKind.u64.wrap ((y : Int) * 2 ^ s) = (Y : Int)) (e2 : (Y : Int) / 4294967296 = (b1 : Int)) (e3 : bits .and .u64 (Y : Int) 4294967295 = (b2 : Int))
    (e4 : bits .or .u64 (IntKind.u64.wrap ((hi : Int) * 2 ^ s)) ((lo : Int) / 2 ^ (64 - s)) = (U : Int)) (e5 : IntKind.u64.wrap ((lo : Int) * 2 ^ s) = (V : Int)) (e6 : (V : Int) / 4294967296 = (ua : Int)) (e7 : bits .and .u64 (V : Int) 4294967295 = (ub : Int))
    (hq : ((U * 4294967296 + ua) * 4294967296 + ub) / Y = (hi * 18446744073709551616 + lo) / y) (hr : ((U * 4294967296 + ua) * 4294967296 + ub) % Y / 2 ^ s = (hi * 18446744073709551616 + lo) % y) :
    Calls Tryz.prog 89 #[.int .u64 (hi : Int), .int .u64 (lo : Int), .int .u64 (y : Int)] w fun e w' => e = .returned (.tuple #[.int .u64 (((hi * 18446744073709551616 + lo) / y : Nat) : Int), .int .u64 (((hi * 18446744073709551616 + lo) % y : Nat) : Int)]) ∧ ∃ d, w' = w.drewN d := by
  have H := Lib.hid HL
  have hy0 : 0 < y := by omega
  have hb1p : 0 < b1 := by omega
  have hb0 : ¬ ((b1 : Int) = 0) := by omega
  have hYl : Y < 18446744073709551616 := by omega
  have hUl : U < 18446744073709551616 := by omega
  have HY := Lib.hid hY
  have HUY := Lib.hid hUY
  have HUL := Lib.hid hua
  have HQR := Lib.hid hq
  have HRR := Lib.hid hr
  have HV := Lib.hid hV
  clear HL hq hr hV
  have hq0 : (U : Int).tdiv (b1 : Int) = ((U / b1 : Nat) : Int) := by rw [Int.tdiv_eq_ediv_of_nonneg (by omega), ← Int.natCast_ediv]
  have hq0' : (U : Int) / (b1 : Int) = ((U / b1 : Nat) : Int) := by rw [← Int.natCast_ediv]
  have hdm := Nat.div_add_mod U b1
  have hrl := Nat.mod_lt U hb1p
  have hD9 := Nat.div_le_self U b1
  obtain ⟨Q, hQ⟩ : ∃ Q, Q = gs b1 b2 (U / 4294967296) (U % 4294967296) ua := ⟨_, rfl⟩
  have hle : U / 4294967296 ≤ b1 := by have := HY.out; have := HUY.out; omega
  have hu1l : U % 4294967296 < 4294967296 := Nat.mod_lt _ (by omega)
  have hQ0 : Q ≤ U / b1 := by rw [hQ]; exact gs_start HUL.out (R := U % b1) (by rw [hdm]; omega) hrl
  have hQ9 : Q ≤ 4294967295 := by rw [hQ]; exact gs_le _ _ _ _ _
  have HQX : Hid (Q = (U * 4294967296 + ua) / Y) := by show _ = _; rw [hQ]; exact gs_exact HY.out HUY.out HUL.out
  have HI : Hid (U = U / 4294967296 * 4294967296 + U % 4294967296) := by show _ = _; omega
  have HQ := Lib.hid hQ
  clear hQ
  generalize U / b1 = D0 at *
  generalize U % b1 = R0 at *
  have hP0 : D0 * b1 ≤ U := by rw [Nat.mul_comm]; omega
  have hw1 : IntKind.u64.wrap ((D0 : Int) * (b1 : Int)) = ((D0 * b1 : Nat) : Int) := by rw [← Int.natCast_mul, IntKind.wrap_u64]; omega
  have hw2 : (U : Int) - ((D0 * b1 : Nat) : Int) = (R0 : Int) := by rw [Nat.mul_comm D0 b1]; omega
  have hw3 : IntKind.u64.wrap ((U : Int) - ((D0 * b1 : Nat) : Int)) = (R0 : Int) := by rw [hw2, IntKind.wrap_u64]; omega
  have HW4 : Hid ((U : Int) - (D0 : Int) * (b1 : Int) = (R0 : Int)) := by show _ = _; rw [← Int.natCast_mul]; exact hw2
  have HDM0 : Hid (D0 * b1 + R0 = U) := by show _ = _; rw [Nat.mul_comm]; exact hdm
  have HR0 : Hid (R0 < 4294967296) := by show _ < _; omega
  have HQ0 := Lib.hid hQ0
  clear hdm hQ0
  clear hY
  go_enter Tryz.func89, Tryz.ntmps89
  go_wp2_with fail
  refine (H.out _).mono ?_
  rintro e w' ⟨rfl, rfl⟩
  clear H
  go_upto_block 0 with (fail)
  go_cut [15] (fun s7 wx => s7 = .int .u64 (Q : Int) ∧ w = wx)
  case first =>
    go_wp2
    go_loopw [15, 16] (fun x r wr => ∃ D R : Nat, x = .int .u64 (D : Int) ∧ r = .int .u64 (R : Int) ∧ D * b1 + R = U ∧ R < 4294967296 ∧ Q ≤ D ∧ wr = w) (fun x _ _ => (intOf x).toNat)
    case atStart => exact ⟨D0, R0, rfl, congrArg (Value.int .u64) HW4.out, HDM0.out, HR0.out, HQ0.out, rfl⟩
    case round =>
      obtain ⟨D, R, rfl, rfl, hDR, hR, hQD, rfl⟩ := hrel
      have hDle : D ≤ U := by
        have := Nat.le_mul_of_pos_right D hb1p
        omega
      have HDR := Lib.hid hDR
      clear hDR
      by_cases hd : 4294967296 ≤ D
      · have hlt : Q < D := by rw [HQ.out]; exact gs_lt hb1p (by rw [← HI.out]; exact HDR.out) (.inl (by omega))
        have HDM : Hid ((D - 1) * b1 + (R + b1) = D * b1 + R) := by show _ = _; rw [Nat.sub_mul, Nat.one_mul]; have := Nat.le_mul_of_pos_left b1 (show 0 < D by omega); omega
        have hdi : (4294967296 : Int) ≤ (D : Int) := by omega
        by_cases hR2 : R + b1 < 4294967296
        case' pos => have hR2d : decide ((4294967296 : Int) ≤ (R : Int) + (b1 : Int)) = false := by simp; omega
        case' neg => have hR2i : (4294967296 : Int) ≤ (R : Int) + (b1 : Int) := by omega
        case' neg => have hQE : Q = D - 1 := by rw [HQ.out]; exact gs_break hb1p hb2l hu1l hle (by rw [← HI.out, ← HDR.out]; exact HDM.out) (by omega) (by rw [← HQ.out]; omega)
        case' neg => have HQE := Lib.hid hQE
        case' neg => clear hQE
        all_goals clear hd
        all_goals go_wp2
        · go_meet
          have := HQE.out
          exact ⟨by go_num, rfl⟩
        · go_roundw
          case rel => exact ⟨D - 1, R + b1, by go_num, by go_num, by rw [← HDR.out]; exact HDM.out, by omega, by omega, by first | trivial | rfl⟩
          case measure => simp [intOf]; omega
      · have hdd : decide ((4294967296 : Int) ≤ (D : Int)) = false := by simp; omega
        have hmul := mul_bd (show D < 4294967296 by omega) hb2l
        obtain ⟨P, hP⟩ : ∃ P : Nat, P = D * b2 := ⟨_, rfl⟩
        have hbit1 : IntKind.u64.wrap ((D : Int) * (b2 : Int)) = (P : Int) := by rw [← Int.natCast_mul, ← hP, IntKind.wrap_u64]; omega
        obtain ⟨T, hT⟩ : ∃ T : Nat, T = R * 4294967296 + ua := ⟨_, rfl⟩
        have hbit2 : (4294967296 : Int) * (R : Int) + (ua : Int) = (T : Int) := by omega
        have hbit3 : IntKind.u64.wrap (4294967296 * (R : Int)) = 4294967296 * (R : Int) := by rw [IntKind.wrap_u64]; omega
        have hbit4 : IntKind.u64.wrap (4294967296 * (R : Int) + (ua : Int)) = (T : Int) := by rw [IntKind.wrap_u64]; omega
        have hT9 : T ≤ 18446744073709551615 := by omega
        have HT := Lib.hid hT
        have HP := Lib.hid hP
        rw [← hP] at hmul
        clear hT hP
        by_cases hp : T < P
        · have hlt : Q < D := by rw [HQ.out]; exact gs_lt hb1p (by rw [← HI.out]; exact HDR.out) (.inr (by rw [← HT.out, ← HP.out]; exact hp))
          have HDM : Hid ((D - 1) * b1 + (R + b1) = D * b1 + R) := by show _ = _; rw [Nat.sub_mul, Nat.one_mul]; have := Nat.le_mul_of_pos_left b1 (show 0 < D by omega); omega
          have hpi : (T : Int) < (P : Int) := by omega
          by_cases hR2 : R + b1 < 4294967296
          case' pos => have hR2d : decide ((4294967296 : Int) ≤ (R : Int) + (b1 : Int)) = false := by simp; omega
          case' neg => have hR2i : (4294967296 : Int) ≤ (R : Int) + (b1 : Int) := by omega
          case' neg => have hQE : Q = D - 1 := by rw [HQ.out]; exact gs_break hb1p hb2l hu1l hle (by rw [← HI.out, ← HDR.out]; exact HDM.out) (by omega) (by rw [← HQ.out]; omega)
          case' neg => have HQE := Lib.hid hQE
          case' neg => clear hQE
          all_goals clear hd hp
          all_goals go_wp2
          · go_meet
            have := HQE.out
            exact ⟨by go_num, rfl⟩
          · go_roundw
            case rel => exact ⟨D - 1, R + b1, by go_num, by go_num, by rw [← HDR.out]; exact HDM.out, by omega, by omega, by first | trivial | rfl⟩
            case measure => simp [intOf]; omega
        · have hpd : decide (T < P) = false := decide_eq_false hp
          have hQE : Q = D := by rw [HQ.out]; exact gs_eq hb1p (by rw [← HI.out]; exact HDR.out) (by omega) (by rw [← HP.out, ← HT.out]; omega) (by rw [← HQ.out]; exact hQD)
          have HQE := Lib.hid hQE
          clear hQE hd hp
          go_wp2
          go_meet
          have := HQE.out
          exact ⟨by go_num, rfl⟩
  case rest =>
    obtain ⟨rfl, rfl⟩ := hcut
    have hQY := HQX.out
    clear hq0 hq0' hrl hD9 hle hu1l hP0 hw1 hw2 hw3 HDM0 HR0 HQ0 HQ HI HW4 hQ9
    obtain ⟨U2, hU2⟩ : ∃ U2, U2 = (U * 4294967296 + ua) % Y := ⟨_, rfl⟩
    have hYp : 0 < Y := by omega
    have hUY2 : U2 < Y := by rw [hU2]; exact Nat.mod_lt _ hYp
    have hrw := rest_wrap hQY hYp hYl
    rw [← hU2] at hrw
    have HUY2 := Lib.hid hUY2
    have HUL2 := Lib.hid hub
    have HU2 := Lib.hid hU2
    obtain ⟨A, hA⟩ : ∃ A, A = (U * 4294967296) % 18446744073709551616 := ⟨_, rfl⟩
    obtain ⟨B, hB⟩ : ∃ B, B = (A + ua) % 18446744073709551616 := ⟨_, rfl⟩
    obtain ⟨C, hC⟩ : ∃ C, C = (Q * Y) % 18446744073709551616 := ⟨_, rfl⟩
    rw [← hA, ← hB, ← hC] at hrw
    have f1 : IntKind.u64.wrap ((U : Int) * 4294967296) = (A : Int) := by rw [IntKind.wrap_u64, hA]; omega
    have f2 : IntKind.u64.wrap ((A : Int) + (ua : Int)) = (B : Int) := by rw [IntKind.wrap_u64, hB]; omega
    have f3 : IntKind.u64.wrap ((Q : Int) * (Y : Int)) = (C : Int) := by rw [← Int.natCast_mul, IntKind.wrap_u64, hC]; omega
    have f4 : IntKind.u64.wrap ((B : Int) - (C : Int)) = (U2 : Int) := by rw [IntKind.wrap_u64]; omega
    have hU2l : U2 < 18446744073709551616 := by omega
    clear hU2 hA hB hC hrw hQY hYp hUY2
    have hq0 : (U2 : Int).tdiv (b1 : Int) = ((U2 / b1 : Nat) : Int) := by rw [Int.tdiv_eq_ediv_of_nonneg (by omega), ← Int.natCast_ediv]
    have hq0' : (U2 : Int) / (b1 : Int) = ((U2 / b1 : Nat) : Int) := by rw [← Int.natCast_ediv]
    have hdm := Nat.div_add_mod U2 b1
    have hrl := Nat.mod_lt U2 hb1p
    have hD9 := Nat.div_le_self U2 b1
    obtain ⟨Q2, hQ⟩ : ∃ Q2, Q2 = gs b1 b2 (U2 / 4294967296) (U2 % 4294967296) ub := ⟨_, rfl⟩
    have hle : U2 / 4294967296 ≤ b1 := by have := HY.out; have := HUY2.out; omega
    have hu1l : U2 % 4294967296 < 4294967296 := Nat.mod_lt _ (by omega)
    have hQ0 : Q2 ≤ U2 / b1 := by rw [hQ]; exact gs_start HUL2.out (R := U2 % b1) (by rw [hdm]; omega) hrl
    have hQ9 : Q2 ≤ 4294967295 := by rw [hQ]; exact gs_le _ _ _ _ _
    have HQX2 : Hid (Q2 = (U2 * 4294967296 + ub) / Y) := by show _ = _; rw [hQ]; exact gs_exact HY.out HUY2.out HUL2.out
    have HI2 : Hid (U2 = U2 / 4294967296 * 4294967296 + U2 % 4294967296) := by show _ = _; omega
    have HQ2 := Lib.hid hQ
    clear hQ
    generalize U2 / b1 = E0 at *
    generalize U2 % b1 = S0 at *
    have hP0 : E0 * b1 ≤ U2 := by rw [Nat.mul_comm]; omega
    have hw1 : IntKind.u64.wrap ((E0 : Int) * (b1 : Int)) = ((E0 * b1 : Nat) : Int) := by rw [← Int.natCast_mul, IntKind.wrap_u64]; omega
    have hw2 : (U2 : Int) - ((E0 * b1 : Nat) : Int) = (S0 : Int) := by rw [Nat.mul_comm E0 b1]; omega
    have hw3 : IntKind.u64.wrap ((U2 : Int) - ((E0 * b1 : Nat) : Int)) = (S0 : Int) := by rw [hw2, IntKind.wrap_u64]; omega
    have HW4 : Hid ((U2 : Int) - (E0 : Int) * (b1 : Int) = (S0 : Int)) := by show _ = _; rw [← Int.natCast_mul]; exact hw2
    have HDM0 : Hid (E0 * b1 + S0 = U2) := by show _ = _; rw [Nat.mul_comm]; exact hdm
    have HR0 : Hid (S0 < 4294967296) := by show _ < _; omega
    have HQ0 := Lib.hid hQ0
    clear hdm hQ0
    go_upto_block 2 with (fail)
    go_cut [18] (fun s7 wx => s7 = .int .u64 (Q2 : Int) ∧ w = wx)
    case first =>
      go_wp2
      go_loopw [18, 16] (fun x r wr => ∃ D R : Nat, x = .int .u64 (D : Int) ∧ r = .int .u64 (R : Int) ∧ D * b1 + R = U2 ∧ R < 4294967296 ∧ Q2 ≤ D ∧ wr = w) (fun x _ _ => (intOf x).toNat)
      case atStart => exact ⟨E0, S0, rfl, congrArg (Value.int .u64) HW4.out, HDM0.out, HR0.out, HQ0.out, rfl⟩
      case round =>
        obtain ⟨D, R, rfl, rfl, hDR, hR, hQD, rfl⟩ := hrel
        have hDle : D ≤ U2 := by
          have := Nat.le_mul_of_pos_right D hb1p
          omega
        have HDR := Lib.hid hDR
        clear hDR
        by_cases hd : 4294967296 ≤ D
        · have hlt : Q2 < D := by rw [HQ2.out]; exact gs_lt hb1p (by rw [← HI2.out]; exact HDR.out) (.inl (by omega))
          have HDM : Hid ((D - 1) * b1 + (R + b1) = D * b1 + R) := by show _ = _; rw [Nat.sub_mul, Nat.one_mul]; have := Nat.le_mul_of_pos_left b1 (show 0 < D by omega); omega
          have hdi : (4294967296 : Int) ≤ (D : Int) := by omega
          by_cases hR2 : R + b1 < 4294967296
          case' pos => have hR2d : decide ((4294967296 : Int) ≤ (R : Int) + (b1 : Int)) = false := by simp; omega
          case' neg => have hR2i : (4294967296 : Int) ≤ (R : Int) + (b1 : Int) := by omega
          case' neg => have hQE : Q2 = D - 1 := by rw [HQ2.out]; exact gs_break hb1p hb2l hu1l hle (by rw [← HI2.out, ← HDR.out]; exact HDM.out) (by omega) (by rw [← HQ2.out]; omega)
          case' neg => have HQE := Lib.hid hQE
          case' neg => clear hQE
          all_goals clear hd
          all_goals go_wp2
          · go_meet
            have := HQE.out
            exact ⟨by go_num, rfl⟩
          · go_roundw
            case rel => exact ⟨D - 1, R + b1, by go_num, by go_num, by rw [← HDR.out]; exact HDM.out, by omega, by omega, by first | trivial | rfl⟩
            case measure => simp [intOf]; omega
        · have hdd : decide ((4294967296 : Int) ≤ (D : Int)) = false := by simp; omega
          have hmul := mul_bd (show D < 4294967296 by omega) hb2l
          obtain ⟨P, hP⟩ : ∃ P : Nat, P = D * b2 := ⟨_, rfl⟩
          have hbit1 : IntKind.u64.wrap ((D : Int) * (b2 : Int)) = (P : Int) := by rw [← Int.natCast_mul, ← hP, IntKind.wrap_u64]; omega
          obtain ⟨T, hT⟩ : ∃ T : Nat, T = R * 4294967296 + ub := ⟨_, rfl⟩
          have hbit2 : (4294967296 : Int) * (R : Int) + (ub : Int) = (T : Int) := by omega
          have hbit3 : IntKind.u64.wrap (4294967296 * (R : Int)) = 4294967296 * (R : Int) := by rw [IntKind.wrap_u64]; omega
          have hbit4 : IntKind.u64.wrap (4294967296 * (R : Int) + (ub : Int)) = (T : Int) := by rw [IntKind.wrap_u64]; omega
          have hT9 : T ≤ 18446744073709551615 := by omega
          have HT := Lib.hid hT
          have HP := Lib.hid hP
          rw [← hP] at hmul
          clear hT hP
          by_cases hp : T < P
          · have hlt : Q2 < D := by rw [HQ2.out]; exact gs_lt hb1p (by rw [← HI2.out]; exact HDR.out) (.inr (by rw [← HT.out, ← HP.out]; exact hp))
            have HDM : Hid ((D - 1) * b1 + (R + b1) = D * b1 + R) := by show _ = _; rw [Nat.sub_mul, Nat.one_mul]; have := Nat.le_mul_of_pos_left b1 (show 0 < D by omega); omega
            have hpi : (T : Int) < (P : Int) := by omega
            by_cases hR2 : R + b1 < 4294967296
            case' pos => have hR2d : decide ((4294967296 : Int) ≤ (R : Int) + (b1 : Int)) = false := by simp; omega
            case' neg => have hR2i : (4294967296 : Int) ≤ (R : Int) + (b1 : Int) := by omega
            case' neg => have hQE : Q2 = D - 1 := by rw [HQ2.out]; exact gs_break hb1p hb2l hu1l hle (by rw [← HI2.out, ← HDR.out]; exact HDM.out) (by omega) (by rw [← HQ2.out]; omega)
            case' neg => have HQE := Lib.hid hQE
            case' neg => clear hQE
            all_goals clear hd hp
            all_goals go_wp2
            · go_meet
              have := HQE.out
              exact ⟨by go_num, rfl⟩
            · go_roundw
              case rel => exact ⟨D - 1, R + b1, by go_num, by go_num, by rw [← HDR.out]; exact HDM.out, by omega, by omega, by first | trivial | rfl⟩
              case measure => simp [intOf]; omega
          · have hpd : decide (T < P) = false := decide_eq_false hp
            have hQE : Q2 = D := by rw [HQ2.out]; exact gs_eq hb1p (by rw [← HI2.out]; exact HDR.out) (by omega) (by rw [← HP.out, ← HT.out]; omega) (by rw [← HQ2.out]; exact hQD)
            have HQE := Lib.hid hQE
            clear hQE hd hp
            go_wp2
            go_meet
            have := HQE.out
            exact ⟨by go_num, rfl⟩
    case rest =>
      obtain ⟨rfl, rfl⟩ := hcut
      have hts := two_steps (U := U) (u1 := ua) (u0 := ub) (show 0 < Y by omega)
      have hz1 : Q * 4294967296 + Q2 = (hi * 18446744073709551616 + lo) / y := by rw [← HQR.out, HQX.out, HQX2.out, HU2.out]; exact hts.1
      have hz2 : (U2 * 4294967296 + ub) % Y / 2 ^ s = (hi * 18446744073709551616 + lo) % y := by rw [← HRR.out, HU2.out, hts.2]
      have hrw := rest_wrap HQX2.out (show 0 < Y by omega) hYl
      have HZ1 := Lib.hid hz1
      have HZ2 := Lib.hid hz2
      have HRW := Lib.hid hrw
      have hQl : Q ≤ 4294967295 := by
        rw [HQX.out]
        have : (U * 4294967296 + ua) / Y < 4294967296 := by
          rw [Nat.div_lt_iff_lt_mul (by omega), Nat.mul_comm 4294967296 Y]
          have := Nat.mul_le_mul_right 4294967296 (show U + 1 ≤ Y from HUY.out)
          have := HUL.out
          omega
        omega
      clear hts hz1 hz2 hrw hq0 hq0' hrl hD9 hle hu1l hP0 hw1 hw2 hw3 HDM0 HR0 HQ0 HW4
      go_wp2
      go_ret2
      refine ⟨ret2_int ?_ ?_, 0, rfl⟩
      · rw [← HZ1.out]
        omega
      · have h := HRW.out
        have e : IntKind.u64.wrap (IntKind.u64.wrap (IntKind.u64.wrap ((U2 : Int) * 4294967296) + (ub : Int)) - IntKind.u64.wrap ((Q2 : Int) * (Y : Int))) = (((U2 * 4294967296 + ub) % Y : Nat) : Int) := by
          rw [← h, ← Int.natCast_mul]
          generalize Q2 * Y = Z
          rw [IntKind.wrap_u64, IntKind.wrap_u64, IntKind.wrap_u64, IntKind.wrap_u64]
          omega
        rw [e, cast_shr, HZ2.out]
theorem bitLen_bd {x : Nat} (h0 : 0 < x) (h : x < 18446744073709551616) : 1 ≤ Lib.bitLen x ∧ Lib.bitLen x ≤ 64 ∧ 2 ^ (Lib.bitLen x - 1) ≤ x ∧ x < 2 ^ Lib.bitLen x := by
  have h1 := Lib.bitLenAux_bounds 64 x h (by omega)
  have h2 := Lib.bitLen_le x 64 (by omega) h
  exact ⟨h1.1, h2, h1.2.1, h1.2.2⟩
set_option maxRecDepth 100000 in
theorem div64_zero (w : World) (lo y : Nat) (h1 : 0 < y) (h2 : y < 18446744073709551616) (h3 : lo < 18446744073709551616) :
    Calls Tryz.prog 89 #[.int .u64 ((0 : Nat) : Int), .int .u64 (lo : Int), .int .u64 (y : Int)] w fun e w' => e = .returned (.tuple #[.int .u64 ((lo / y : Nat) : Int), .int .u64 ((lo % y : Nat) : Int)]) ∧ ∃ d, w' = w.drewN d := by
  have hq0 : (lo : Int).tdiv (y : Int) = ((lo / y : Nat) : Int) := by rw [Int.tdiv_eq_ediv_of_nonneg (by omega), ← Int.natCast_ediv]
  have hr0 : (lo : Int).tmod (y : Int) = ((lo % y : Nat) : Int) := by rw [Int.tmod_eq_emod_of_nonneg (by omega), ← Int.natCast_emod]
  have hq0' : (lo : Int) / (y : Int) = ((lo / y : Nat) : Int) := by rw [← Int.natCast_ediv]
  have hr0' : (lo : Int) % (y : Int) = ((lo % y : Nat) : Int) := by rw [← Int.natCast_emod]
  have hq9 := Nat.div_le_self lo y
  have hr9 := Nat.mod_lt lo h1
  have hb0 : ¬ ((y : Int) = 0) := by omega
  generalize lo / y = Q at *
  generalize lo % y = R at *
  go_enter Tryz.func89, Tryz.ntmps89
  go_wp2
  go_quiet (fail)
  go_wp2
  go_ret2
  exact ⟨ret2_int (by first | rfl | omega) (by first | rfl | omega), _, rfl⟩
theorem d64_scale {hi lo s : Nat} (hs : s < 64) (hlo : lo < 18446744073709551616) :
    lo / 2 ^ (64 - s) < 2 ^ s ∧ (hi * 18446744073709551616 + lo) * 2 ^ s = (hi * 2 ^ s + lo / 2 ^ (64 - s)) * 18446744073709551616 + lo * 2 ^ s % 18446744073709551616 := by
  have e : (18446744073709551616 : Nat) = 2 ^ (64 - s) * 2 ^ s := by rw [← Nat.pow_add, show 64 - s + s = 64 by omega]
  have hp : 0 < 2 ^ s := Nat.pow_pos (by omega)
  have hp2 : 0 < 2 ^ (64 - s) := Nat.pow_pos (by omega)
  have hd : lo * 2 ^ s / 18446744073709551616 = lo / 2 ^ (64 - s) := by
    rw [show lo * 2 ^ s / 18446744073709551616 = lo * 2 ^ s / (2 ^ (64 - s) * 2 ^ s) by rw [← e], Nat.mul_div_mul_right _ _ hp]
  refine ⟨by rw [Nat.div_lt_iff_lt_mul hp2, Nat.mul_comm, ← e]; exact hlo, ?_⟩
  have hm := Nat.div_add_mod (lo * 2 ^ s) 18446744073709551616
  rw [hd] at hm
  have h1 : (hi * 18446744073709551616 + lo) * 2 ^ s = hi * 2 ^ s * 18446744073709551616 + lo * 2 ^ s := by
    rw [Nat.add_mul, Nat.mul_assoc, Nat.mul_assoc, Nat.mul_comm 18446744073709551616]
  rw [h1, Nat.add_mul]
  omega
theorem d64_norm {y : Nat} (h0 : 0 < y) (h : y < 18446744073709551616) : 9223372036854775808 ≤ y * 2 ^ (64 - Lib.bitLen y) ∧ y * 2 ^ (64 - Lib.bitLen y) < 18446744073709551616 := by
  obtain ⟨b1, b2, b3, b4⟩ := bitLen_bd h0 h
  generalize Lib.bitLen y = L at *
  have hp : 0 < 2 ^ (64 - L) := Nat.pow_pos (by omega)
  have e1 : 2 ^ (L - 1) * 2 ^ (64 - L) = 9223372036854775808 := by rw [← Nat.pow_add, show L - 1 + (64 - L) = 63 by omega]
  have e2 : 2 ^ L * 2 ^ (64 - L) = 18446744073709551616 := by rw [← Nat.pow_add, show L + (64 - L) = 64 by omega]
  refine ⟨by rw [← e1]; exact Nat.mul_le_mul_right _ b3, by rw [← e2]; exact Nat.mul_lt_mul_of_pos_right b4 hp⟩
theorem div64_any (w : World) (hi lo y : Nat) (h1 : hi < y) (h2 : y < 18446744073709551616) (h3 : lo < 18446744073709551616) :
    Calls Tryz.prog 89 #[.int .u64 (hi : Int), .int .u64 (lo : Int), .int .u64 (y : Int)] w fun e w' => e = .returned (.tuple #[.int .u64 (((hi * 18446744073709551616 + lo) / y : Nat) : Int), .int .u64 (((hi * 18446744073709551616 + lo) % y : Nat) : Int)]) ∧ ∃ d, w' = w.drewN d := by
  rcases Nat.eq_zero_or_pos hi with rfl | h0
  · have := div64_zero w lo y h1 h2 h3
    rw [Nat.zero_mul, Nat.zero_add]
    exact this
  · obtain ⟨c1, c2, c3, c4⟩ := bitLen_bd (show 0 < y by omega) h2
    have hnm := d64_norm (show 0 < y by omega) h2
    obtain ⟨s, hs⟩ : ∃ s, s = 64 - Lib.bitLen y := ⟨_, rfl⟩
    rw [← hs] at hnm
    have hs64 : s < 64 := by omega
    obtain ⟨k1, k2⟩ := d64_scale (hi := hi) hs64 h3
    have hp : 0 < 2 ^ s := Nat.pow_pos (by omega)
    have hHL : ∀ w, Calls Tryz.prog 112 #[.int .u64 (y : Int)] w fun e w' => e = .returned (.int .i64 (s : Int)) ∧ w = w' := fun w => by
      refine (slz64_any y w h2 c2).mono ?_
      rintro e w' ⟨rfl, rfl⟩
      exact ⟨ret_int (by omega), rfl⟩
    have hle : hi * 2 ^ s + 2 ^ s ≤ y * 2 ^ s := by
      have := Nat.mul_le_mul_right (2 ^ s) (show hi + 1 ≤ y from h1)
      rw [Nat.add_mul, Nat.one_mul] at this
      exact this
    have hsd := shifted_div (hi * 18446744073709551616 + lo) y s (by omega)
    obtain ⟨Y, hY⟩ : ∃ Y, Y = y * 2 ^ s := ⟨_, rfl⟩
    obtain ⟨G, hG⟩ : ∃ G, G = lo / 2 ^ (64 - s) := ⟨_, rfl⟩
    obtain ⟨V, hV⟩ : ∃ V, V = lo * 2 ^ s % 18446744073709551616 := ⟨_, rfl⟩
    obtain ⟨U, hU⟩ : ∃ U, U = hi * 2 ^ s + G := ⟨_, rfl⟩
    rw [← hY] at hnm hle hsd
    rw [← hG] at k1
    rw [← hG, ← hV, ← hU] at k2
    rw [k2] at hsd
    have hVl : V < 18446744073709551616 := by rw [hV]; exact Nat.mod_lt _ (by omega)
    have hhl : hi * 2 ^ s < 18446744073709551616 := by omega
    have hsplit : U * 18446744073709551616 + V = (U * 4294967296 + V / 4294967296) * 4294967296 + V % 4294967296 := by omega
    rw [hsplit] at hsd
    refine div64_main w hi lo y s Y (Y / 4294967296) (Y % 4294967296) U V (V / 4294967296) (V % 4294967296) h0 h1 h2 h3 hs64 hHL (by omega) (by omega) (by omega) (by omega) (by omega) (by omega) (by omega) (by omega) ?_ (by omega) ?_ ?_ ?_ (by omega) ?_ hsd.1 hsd.2
    · rw [cast_shl, Nat.mul_comm, ← hY, wrap_nat, Nat.mod_eq_of_lt hnm.2]
    · exact Mul64.maskN Y hnm.2
    · rw [cast_shl, Nat.mul_comm, wrap_nat, Nat.mod_eq_of_lt hhl, cast_shr, ← hG, bits_or _ _ hhl (by omega), Nat.or_comm, Nat.mul_comm, or_add k1, hU, Nat.mul_comm, Nat.add_comm]
    · rw [cast_shl, Nat.mul_comm, wrap_nat, ← hV]
    · exact Mul64.maskN V hVl
end Go.Proofs.YtglgfjknhplajaaGreatDoor

/- Products of two words: size, multiply, Times, around, over on both sides. -/
namespace Go.Proofs.YtglgfjknhplajaaGreatDoor
open Go.RowKit

abbrev pv (neg : Bool) (N : Nat) : Value := .agg #[.bool neg, .int .u64 ((N / 18446744073709551616 : Nat) : Int), .int .u64 ((N % 18446744073709551616 : Nat) : Int)]
/-- Block g holds three cells, and may be written. -/
structure C3 (w : World) (g : Nat) (x0 x1 x2 : Value) : Prop where
  c0 : w.cell? ⟨g, 0, none⟩ = some x0
  c1 : w.cell? ⟨g, 1, none⟩ = some x1
  c2 : w.cell? ⟨g, 2, none⟩ = some x2
  f0 : w.frozen? ⟨g, 0, none⟩ = false
  f1 : w.frozen? ⟨g, 1, none⟩ = false
  f2 : w.frozen? ⟨g, 2, none⟩ = false
  lt : g < w.heap.size
theorem C3.new (w : World) (k : Nat) (hk : w.heap.size = k) (x0 x1 x2 : Value) (t : TypeId) : C3 (w.alloc (.cells #[x0, x1, x2] t)) k x0 x1 x2 := by
  subst hk
  refine ⟨?_, ?_, ?_, ?_, ?_, ?_, by simp⟩ <;> go_simp
theorem C3.via {w w' : World} {g : Nat} {x0 x1 x2 : Value} (p : C3 w g x0 x1 x2) (hb : Below w.heap.size w w') : C3 w' g x0 x1 x2 :=
  ⟨(hb.cell (p := ⟨g, 0, none⟩) p.lt).trans p.c0, (hb.cell (p := ⟨g, 1, none⟩) p.lt).trans p.c1, (hb.cell (p := ⟨g, 2, none⟩) p.lt).trans p.c2, (hb.frozen (p := ⟨g, 0, none⟩) p.lt).trans p.f0, (hb.frozen (p := ⟨g, 1, none⟩) p.lt).trans p.f1, (hb.frozen (p := ⟨g, 2, none⟩) p.lt).trans p.f2, Nat.lt_of_lt_of_le p.lt hb.size⟩
theorem C3.alloc {w : World} {g : Nat} {x0 x1 x2 : Value} (p : C3 w g x0 x1 x2) (o : Obj) : C3 (w.alloc o) g x0 x1 x2 := p.via ((Below.refl _ _).alloc (Nat.le_refl _) o)
theorem C3.drewN {w : World} {g : Nat} {x0 x1 x2 : Value} (p : C3 w g x0 x1 x2) (k : Nat) : C3 (w.drewN k) g x0 x1 x2 := ⟨p.c0, p.c1, p.c2, p.f0, p.f1, p.f2, p.lt⟩
theorem res_p3 {fn : Func} {r : Nat} (hr : fn.results = #[.cell r 80]) {tmps : Array Value} {w : World} {g : Nat} {x y z : Value} (ht : tmps.getD r undef = .pointer (some ⟨g, 0, none⟩))
    (p : C3 w g x y z) : (results fn tmps).run Tryz.prog w = .ok (.agg #[x, y, z]) w := by
  have h0 := p.c0; have h1 := p.c1; have h2 := p.c2
  rw [Array.getD_eq_getD_getElem?] at ht
  simp [results, hr, go_sem, ht, h0, h1, h2]
set_option maxRecDepth 100000 in
theorem ssize_any (w : World) (x : Int) (h1 : -9223372036854775808 ≤ x) (h2 : x ≤ 9223372036854775807) : Calls Tryz.prog 87 #[.int .i64 x] w fun e w' => e = .returned (.int .u64 (x.natAbs : Int)) ∧ w = w' := by
  by_cases h : x < 0
  · have e1 : IntKind.u64.wrap x = x + 18446744073709551616 := by rw [IntKind.wrap_u64]; omega
    have e2 : IntKind.u64.wrap (-(x + 18446744073709551616)) = -x := by rw [IntKind.wrap_u64]; omega
    go_enter Tryz.func87, Tryz.ntmps87
    go_wp2
    go_ret
    exact ⟨ret_int (by omega), rfl⟩
  · go_enter Tryz.func87, Tryz.ntmps87
    go_wp2
    go_ret
    exact ⟨ret_int (by omega), rfl⟩
theorem natAbs_lt {x : Int} (h1 : -9223372036854775808 ≤ x) (h2 : x ≤ 9223372036854775807) : x.natAbs < 18446744073709551616 := by omega
/-- A call returns a product with a sign; what was there is kept. -/
def RP (w : World) (neg : Bool) (N : Nat) (e : Ending) (w' : World) : Prop := e = .returned (pv neg N) ∧ Below w.heap.size w w'
/-- The sign of a product. -/
def sgB (x y : Int) : Bool := decide (x < 0) != decide (y < 0)
set_option maxRecDepth 100000 in
set_option maxHeartbeats 1000000 in
theorem smul_any (w : World) (x y : Int) (hx1 : -9223372036854775808 ≤ x) (hx2 : x ≤ 9223372036854775807) (hy1 : -9223372036854775808 ≤ y) (hy2 : y ≤ 9223372036854775807) :
    Calls Tryz.prog 60 #[.int .i64 x, .int .i64 y] w (RP w (sgB x y) (x.natAbs * y.natAbs)) := by
  have HX := Lib.hid (fun w => ssize_any w x hx1 hx2)
  have HY := Lib.hid (fun w => ssize_any w y hy1 hy2)
  have HM := Lib.hid (fun w => smul64_any x.natAbs y.natAbs (natAbs_lt hx1 hx2) (natAbs_lt hy1 hy2) w)
  generalize x.natAbs = a at *
  generalize y.natAbs = b at *
  clear hx1 hx2 hy1 hy2
  obtain ⟨H, hH⟩ : ∃ H, H = a * b / 18446744073709551616 := ⟨_, rfl⟩
  obtain ⟨L, hL⟩ : ∃ L, L = a * b % 18446744073709551616 := ⟨_, rfl⟩
  rw [← hH, ← hL] at HM
  have HE : Hid (pv (sgB x y) (a * b) = .agg #[.bool (sgB x y), .int .u64 (H : Int), .int .u64 (L : Int)]) := by show _ = _; unfold pv; rw [← hH, ← hL]
  
  clear hH hL
  go_enter Tryz.func60, Tryz.ntmps60
  go_wp2_with fail
  refine (HX.out _).mono ?_
  rintro e w1 ⟨rfl, rfl⟩
  go_wp2_with fail
  refine (HY.out _).mono ?_
  rintro e w1 ⟨rfl, rfl⟩
  go_wp2_with fail
  refine (HM.out _).mono ?_
  rintro e w1 ⟨rfl, rfl⟩
  clear HX HY HM
  go_wp2
  refine bodyPost_ret (v := pv (sgB x y) (a * b)) ?_ rfl ⟨rfl, by go_grown⟩
  rw [HE.out]
  refine res_p3 Tryz.results60 rfl ?_
  unfold sgB
  exact C3.new _ _ (by simp) _ _ _ _
theorem neg_cases (x : Int) : x < 0 ∨ decide (x < 0) = false ∧ 0 ≤ x := by
  by_cases h : x < 0
  · exact .inl h
  · exact .inr ⟨decide_eq_false h, by omega⟩
theorem pos_cases (L : Nat) : ((0 : Int) < (L : Int) ∧ 0 < L) ∨ (decide ((0 : Int) < (L : Int)) = false ∧ decide (0 < L) = false ∧ (L : Int) ≤ 0) := by
  by_cases h : 0 < L
  · exact .inl ⟨by omega, h⟩
  · exact .inr ⟨decide_eq_false (by omega), decide_eq_false h, by omega⟩
/-- The sign of the reference's product: 0 is not negative. -/
def sgT (x y : Int) : Bool := sgB x y && decide (0 < x.natAbs * y.natAbs)
theorem sgT_iff (x y : Int) : sgT x y = true ↔ (x < 0 ∧ ¬ y < 0 ∨ ¬ x < 0 ∧ y < 0) ∧ 0 < x.natAbs * y.natAbs := by
  unfold sgT sgB
  by_cases hx : x < 0 <;> by_cases hy : y < 0 <;> simp [hx, hy]
end Go.Proofs.YtglgfjknhplajaaGreatDoor

/- Intervals: around, over on both sides. -/
namespace Go.Proofs.YtglgfjknhplajaaGreatDoor
open Go.RowKit

set_option maxRecDepth 100000 in
set_option maxHeartbeats 1000000 in
theorem around_any (w : World) (neg more : Bool) (q : Nat) (hq9 : q < 18446744073709551616) :
    Calls Tryz.prog 88 #[.bool neg, .int .u64 (q : Int), .bool more] w (RV w (ovLo neg q more) (ovHi neg q more)) := by
  obtain ⟨m, hm⟩ : ∃ m : Int, m = arLo q := ⟨_, rfl⟩
  have hm0 : 0 ≤ m := by rw [hm]; unfold arLo; omega
  have hm1 : m ≤ 2305843009213693953 := by rw [hm]; unfold arLo; omega
  have HL : Hid (ovLo neg q more = if neg then -(m + (if more then 1 else 0)) else m) := by show _ = _; unfold ovLo arHi; rw [hm]
  have HH : Hid (ovHi neg q more = if neg then -m else m + (if more then 1 else 0)) := by show _ = _; unfold ovHi arHi; rw [hm]
  generalize ovLo neg q more = lo at *
  generalize ovHi neg q more = hi at *
  rcases Nat.lt_or_ge q 2305843009213693953 with hq | hq
  · have hmq : m = (q : Int) := by rw [hm]; unfold arLo; omega
    subst hmq
    have hqi : (q : Int) < 2305843009213693953 := by omega
    clear hq hq9 hm
    cases neg <;> cases more
    · go_enter Tryz.func88, Tryz.ntmps88
      go_wp2
      have hl := HL.out
      have hh := HH.out
      exact post_iv1 Tryz.results88 rfl rfl ((Pr.new w _ rfl _ _ _).alloc _) ⟨ret_iv (by simp at hl; omega) (by simp at hh; omega), by go_grown⟩
    · go_enter Tryz.func88, Tryz.ntmps88
      go_wp2
      have hl := HL.out
      have hh := HH.out
      exact post_iv1 Tryz.results88 rfl rfl ((Pr.new w _ rfl _ _ _).alloc _) ⟨ret_iv (by simp at hl; omega) (by simp at hh; omega), by go_grown⟩
    · go_enter Tryz.func88, Tryz.ntmps88
      go_wp2_with fail
      refine (negative_any _ _ _ (by omega) (by omega) (by omega) (by omega)).mono ?_
      rintro e w1 ⟨rfl, hb⟩
      have PR := ((Pr.new w w.heap.size rfl (.int .i64 0) (.int .i64 0) 23).alloc _).via hb
      have B1 := Lib.hid (sbtr (sbal (sbal (Below.refl _ _) _) _) hb)
      have ⟨r0, r1, r2, r3, rl⟩ := PR
      clear hb
      go_wp2
      have hl := HL.out
      have hh := HH.out
      exact post_iv1 Tryz.results88 rfl rfl (PR.set _ _) ⟨ret_iv (by simp at hl; omega) (by simp at hh; omega), below_set2 B1.out (by omega) _ _⟩
    · go_enter Tryz.func88, Tryz.ntmps88
      go_wp2_with fail
      refine (negative_any _ _ _ (by omega) (by omega) (by omega) (by omega)).mono ?_
      rintro e w1 ⟨rfl, hb⟩
      have PR := ((Pr.new w w.heap.size rfl (.int .i64 0) (.int .i64 0) 23).alloc _).via hb
      have B1 := Lib.hid (sbtr (sbal (sbal (Below.refl _ _) _) _) hb)
      have ⟨r0, r1, r2, r3, rl⟩ := PR
      clear hb
      go_wp2
      have hl := HL.out
      have hh := HH.out
      exact post_iv1 Tryz.results88 rfl rfl (PR.set _ _) ⟨ret_iv (by simp at hl; omega) (by simp at hh; omega), below_set2 B1.out (by omega) _ _⟩
  · have hmq : m = 2305843009213693953 := by rw [hm]; unfold arLo; omega
    subst hmq
    have hqi : (2305843009213693953 : Int) ≤ (q : Int) := by omega
    clear hq hm
    cases neg <;> cases more
    · go_enter Tryz.func88, Tryz.ntmps88
      go_wp2
      have hl := HL.out
      have hh := HH.out
      exact post_iv1 Tryz.results88 rfl rfl ((Pr.new w _ rfl _ _ _).alloc _) ⟨ret_iv (by simp at hl; omega) (by simp at hh; omega), by go_grown⟩
    · go_enter Tryz.func88, Tryz.ntmps88
      go_wp2
      have hl := HL.out
      have hh := HH.out
      exact post_iv1 Tryz.results88 rfl rfl ((Pr.new w _ rfl _ _ _).alloc _) ⟨ret_iv (by simp at hl; omega) (by simp at hh; omega), by go_grown⟩
    · go_enter Tryz.func88, Tryz.ntmps88
      go_wp2_with fail
      refine (negative_any _ _ _ (by omega) (by omega) (by omega) (by omega)).mono ?_
      rintro e w1 ⟨rfl, hb⟩
      have PR := ((Pr.new w w.heap.size rfl (.int .i64 0) (.int .i64 0) 23).alloc _).via hb
      have B1 := Lib.hid (sbtr (sbal (sbal (Below.refl _ _) _) _) hb)
      have ⟨r0, r1, r2, r3, rl⟩ := PR
      clear hb
      go_wp2
      have hl := HL.out
      have hh := HH.out
      exact post_iv1 Tryz.results88 rfl rfl (PR.set _ _) ⟨ret_iv (by simp at hl; omega) (by simp at hh; omega), below_set2 B1.out (by omega) _ _⟩
    · go_enter Tryz.func88, Tryz.ntmps88
      go_wp2_with fail
      refine (negative_any _ _ _ (by omega) (by omega) (by omega) (by omega)).mono ?_
      rintro e w1 ⟨rfl, hb⟩
      have PR := ((Pr.new w w.heap.size rfl (.int .i64 0) (.int .i64 0) 23).alloc _).via hb
      have B1 := Lib.hid (sbtr (sbal (sbal (Below.refl _ _) _) _) hb)
      have ⟨r0, r1, r2, r3, rl⟩ := PR
      clear hb
      go_wp2
      have hl := HL.out
      have hh := HH.out
      exact post_iv1 Tryz.results88 rfl rfl (PR.set _ _) ⟨ret_iv (by simp at hl; omega) (by simp at hh; omega), below_set2 B1.out (by omega) _ _⟩
set_option maxRecDepth 100000 in
set_option maxHeartbeats 2000000 in
theorem over_great (w : World) (neg : Bool) (H L : Nat) (d : Int) (hd1 : -9223372036854775808 ≤ d) (hd2 : d ≤ 9223372036854775807) (hge : d.natAbs ≤ H) :
    Calls Tryz.prog 61 #[.agg #[.bool neg, .int .u64 (H : Int), .int .u64 (L : Int)], .int .i64 d] w (RV w (ovLo (neg != decide (d < 0)) 2305843009213693953 false) (ovHi (neg != decide (d < 0)) 2305843009213693953 false)) := by
  have HS := Lib.hid (fun w => ssize_any w d hd1 hd2)
  have HB : Hid (Below w.heap.size w ((w.alloc (.cells #[.bool neg, .int .u64 (H : Int), .int .u64 (L : Int)] 80)).alloc (ivB 0 0))) := sbal (sbal (Below.refl _ _) _) _
  have PR := Lib.hid (Pr.new (w.alloc (.cells #[.bool neg, .int .u64 (H : Int), .int .u64 (L : Int)] 80)) (w.heap.size + 1) (by simp) (.int .i64 0) (.int .i64 0) 23)
  have P3 := Lib.hid ((C3.new w w.heap.size rfl (.bool neg) (.int .u64 (H : Int)) (.int .u64 (L : Int)) 80).alloc (ivB 0 0))
  obtain ⟨b, hb⟩ : ∃ b, decide (d < 0) = b := ⟨_, rfl⟩
  rw [hb]
  obtain ⟨ng, hng⟩ : ∃ ng, (neg != b) = ng := ⟨_, rfl⟩
  rw [hng]
  have hng2 : (!neg == b) = ng := by rw [← hng]; cases neg <;> cases b <;> rfl
  have HA := Lib.hid (fun W => around_any W ng false 2305843009213693953 (by omega))
  have hgi : (d.natAbs : Int) ≤ (H : Int) := by omega
  generalize d.natAbs = D at *
  clear hd1 hd2
  go_enter Tryz.func61, Tryz.ntmps61
  go_wp2_with fail
  generalize ((w.alloc (.cells #[.bool neg, .int .u64 (H : Int), .int .u64 (L : Int)] 80)).alloc (ivB 0 0)) = W0 at *
  have ⟨p0, p1, p2, _, _, _, _⟩ := P3.out
  go_quiet ((go_at_call 87; exact quiet_eq (HS.out _)))
  go_wp2_with fail
  refine (HA.out _).mono ?_
  rintro e w1 ⟨rfl, hb1⟩
  have P4 := Lib.hid ((PR.out.drewN _).via hb1)
  have B4 := Lib.hid (sbtr (bdrewN HB.out _) hb1)
  clear hb1 PR HB HA HS P3 p0 p1 p2
  have ⟨r0, r1, r2, r3, rl⟩ := P4.out
  go_wp2
  exact post_iv1 Tryz.results61 rfl rfl (P4.out.set _ _) ⟨rfl, below_set2 B4.out (by omega) _ _⟩
set_option maxRecDepth 100000 in
set_option maxHeartbeats 2000000 in
theorem over_fit (w : World) (neg : Bool) (H L : Nat) (d : Int) (hd1 : -9223372036854775808 ≤ d) (hd2 : d ≤ 9223372036854775807) (hlt : H < d.natAbs) (hL : L < 18446744073709551616) :
    Calls Tryz.prog 61 #[.agg #[.bool neg, .int .u64 (H : Int), .int .u64 (L : Int)], .int .i64 d] w (RV w (ovLo (neg != decide (d < 0)) ((H * 18446744073709551616 + L) / d.natAbs) (decide (0 < (H * 18446744073709551616 + L) % d.natAbs))) (ovHi (neg != decide (d < 0)) ((H * 18446744073709551616 + L) / d.natAbs) (decide (0 < (H * 18446744073709551616 + L) % d.natAbs)))) := by
  have HS := Lib.hid (fun w => ssize_any w d hd1 hd2)
  have HB : Hid (Below w.heap.size w ((w.alloc (.cells #[.bool neg, .int .u64 (H : Int), .int .u64 (L : Int)] 80)).alloc (ivB 0 0))) := sbal (sbal (Below.refl _ _) _) _
  have PR := Lib.hid (Pr.new (w.alloc (.cells #[.bool neg, .int .u64 (H : Int), .int .u64 (L : Int)] 80)) (w.heap.size + 1) (by simp) (.int .i64 0) (.int .i64 0) 23)
  have P3 := Lib.hid ((C3.new w w.heap.size rfl (.bool neg) (.int .u64 (H : Int)) (.int .u64 (L : Int)) 80).alloc (ivB 0 0))
  obtain ⟨b, hb⟩ : ∃ b, decide (d < 0) = b := ⟨_, rfl⟩
  rw [hb]
  obtain ⟨ng, hng⟩ : ∃ ng, (neg != b) = ng := ⟨_, rfl⟩
  rw [hng]
  have hng2 : (!neg == b) = ng := by rw [← hng]; cases neg <;> cases b <;> rfl
  have HD := Lib.hid (fun W => div64_any W H L d.natAbs hlt (natAbs_lt hd1 hd2) hL)
  have hq9 : (H * 18446744073709551616 + L) / d.natAbs < 18446744073709551616 := by
    rw [Nat.div_lt_iff_lt_mul (by omega), Nat.mul_comm]
    have := Nat.mul_le_mul_right 18446744073709551616 (show H + 1 ≤ d.natAbs from hlt)
    omega
  have hdf : decide (d.natAbs ≤ H) = false := decide_eq_false (by omega)
  have hdf2 : decide ((d.natAbs : Int) ≤ (H : Int)) = false := decide_eq_false (by omega)
  generalize (H * 18446744073709551616 + L) / d.natAbs = q at *
  generalize (H * 18446744073709551616 + L) % d.natAbs = r at *
  generalize d.natAbs = D at *
  obtain ⟨more, hmo⟩ : ∃ more, decide (0 < r) = more := ⟨_, rfl⟩
  have hmo2 : decide ((0 : Int) < (r : Int)) = more := by rw [← hmo]; simp
  rw [hmo]
  have HA := Lib.hid (fun W => around_any W ng more q hq9)
  clear hd1 hd2 hlt hL hq9
  go_enter Tryz.func61, Tryz.ntmps61
  go_wp2_with fail
  generalize ((w.alloc (.cells #[.bool neg, .int .u64 (H : Int), .int .u64 (L : Int)] 80)).alloc (ivB 0 0)) = W0 at *
  have ⟨p0, p1, p2, _, _, _, _⟩ := P3.out
  go_quiet ((go_at_call 87; exact quiet_eq (HS.out _)))
  have Q3 := Lib.hid (P3.out.drewN nq)
  have QR := Lib.hid (PR.out.drewN nq)
  have QB := Lib.hid (bdrewN HB.out nq)
  clear P3 PR HB p0 p1 p2
  generalize W0.drewN nq = W1 at *
  go_wp2_with fail
  have ⟨p0, p1, p2, _, _, _, _⟩ := Q3.out
  go_quiet ((first | (go_at_call 87; exact quiet_eq (HS.out _)) | (go_at_call 89; exact Calls.quiet_of (HD.out _))))
  go_wp2_with fail
  refine (HA.out _).mono ?_
  rintro e w1 ⟨rfl, hb1⟩
  have P4 := Lib.hid ((QR.out.drewN _).via hb1)
  have B4 := Lib.hid (sbtr (bdrewN QB.out _) hb1)
  clear hb1 QR QB HA HS HD Q3 p0 p1 p2
  have ⟨r0, r1, r2, r3, rl⟩ := P4.out
  go_wp2
  exact post_iv1 Tryz.results61 rfl rfl (P4.out.set _ _) ⟨rfl, below_set2 B4.out (by omega) _ _⟩
end Go.Proofs.YtglgfjknhplajaaGreatDoor

/- Intervals: over of the reference; over, the closures of times and quotient, as clamped quotients. -/
namespace Go.Proofs.YtglgfjknhplajaaGreatDoor
open Go.RowKit

theorem roK_big {N d : Nat} {b : Bool} (h : 4611686018427387904 ≤ N / d) : roK N d b = 4611686018427387904 := by unfold roK; rw [if_pos h]
theorem roK_more {N d : Nat} {b : Bool} (h : N / d < 4611686018427387904) (hb : b = true) (hr : 0 < N % d) : roK N d b = N / d + 1 := by
  unfold roK; rw [if_neg (by omega), hb, decide_eq_true hr]; rfl
theorem roK_same {N d : Nat} {b : Bool} (h : N / d < 4611686018427387904) (hb : b = false ∨ N % d = 0) : roK N d b = N / d := by
  unfold roK; rw [if_neg (by omega)]
  rcases hb with hb | hb
  · rw [hb]; rfl
  · rw [hb, decide_eq_false (by omega), Bool.and_false]; rfl
theorem rov_t {up : Bool} {N d : Nat} : rov true up N d = -(roK N d (up != true) : Int) := by unfold rov sgn; rfl
theorem rov_f {up : Bool} {N d : Nat} : rov false up N d = (roK N d (up != false) : Int) := by unfold rov sgn; rfl
theorem split128 (N : Nat) (hN : N < 340282366920938463463374607431768211456) : N / 18446744073709551616 < 18446744073709551616 ∧ N / 18446744073709551616 * 18446744073709551616 + N % 18446744073709551616 = N := by omega
theorem over_ex (neg : Bool) (N : Nat) (d : Int) (hd0 : d ≠ 0) (hd1 : -9223372036854775808 ≤ d) (hd2 : d ≤ 9223372036854775807) :
    ∃ lo hi, lo ≤ hi ∧ cl lo = cl (sgn (neg != decide (d < 0)) N / (d.natAbs : Int)) ∧ cl hi = cl (cdiv (sgn (neg != decide (d < 0)) N) (d.natAbs : Int)) ∧ ∀ w, Calls Tryz.prog 61 #[pv neg N, .int .i64 d] w (RV w lo hi) := by
  have hD : 0 < d.natAbs := by omega
  have hs : N / 18446744073709551616 * 18446744073709551616 + N % 18446744073709551616 = N := by omega
  rcases Nat.lt_or_ge (N / 18446744073709551616) d.natAbs with h | h
  · refine ⟨_, _, ov_le _ _ _, ?_, ?_, fun w => over_fit w neg (N / 18446744073709551616) (N % 18446744073709551616) d hd1 hd2 h (by omega)⟩
    · rw [hs]; exact ovLo_cl _ N d.natAbs hD _ (fun e => by simp at e; omega) (fun e => by simp at e; omega)
    · rw [hs]; exact ovHi_cl _ N d.natAbs hD _ (fun e => by simp at e; omega) (fun e => by simp at e; omega)
  · have hbig : 18446744073709551616 ≤ N / d.natAbs := by
      rw [Nat.le_div_iff_mul_le hD]
      have := Nat.mul_le_mul_right 18446744073709551616 h
      rw [Nat.mul_comm]
      omega
    have e1 : ∀ g, ovLo g 2305843009213693953 false = ovLo g (N / d.natAbs) false := fun g => by
      have : arLo 2305843009213693953 = arLo (N / d.natAbs) := by unfold arLo; omega
      unfold ovLo arHi; rw [this]
    have e2 : ∀ g, ovHi g 2305843009213693953 false = ovHi g (N / d.natAbs) false := fun g => by
      have : arLo 2305843009213693953 = arLo (N / d.natAbs) := by unfold arLo; omega
      unfold ovHi arHi; rw [this]
    refine ⟨_, _, ov_le _ _ _, ?_, ?_, fun w => over_great w neg (N / 18446744073709551616) (N % 18446744073709551616) d hd1 hd2 h⟩
    · rw [e1]; exact ovLo_cl _ N d.natAbs hD _ (fun e => by cases e) (fun _ => .inr (by omega))
    · rw [e2]; exact ovHi_cl _ N d.natAbs hD _ (fun e => by cases e) (fun _ => .inr (by omega))
/-- The sign of a product and its absolute value make the product. -/
theorem sgn_mul (x y : Int) : sgn (sgB x y) (x.natAbs * y.natAbs) = x * y := by
  unfold sgn sgB
  rcases Int.lt_or_le x 0 with hx | hx <;> rcases Int.lt_or_le y 0 with hy | hy
  · have e1 : (x.natAbs : Int) = -x := by omega
    have e2 : (y.natAbs : Int) = -y := by omega
    rw [decide_eq_true hx, decide_eq_true hy, Int.natCast_mul, e1, e2]
    simp [Int.neg_mul, Int.mul_neg]
  · have e1 : (x.natAbs : Int) = -x := by omega
    have e2 : (y.natAbs : Int) = y := by omega
    rw [decide_eq_true hx, decide_eq_false (by omega), Int.natCast_mul, e1, e2]
    simp [Int.neg_mul]
  · have e1 : (x.natAbs : Int) = x := by omega
    have e2 : (y.natAbs : Int) = -y := by omega
    rw [decide_eq_false (by omega), decide_eq_true hy, Int.natCast_mul, e1, e2]
    simp [Int.mul_neg]
  · have e1 : (x.natAbs : Int) = x := by omega
    have e2 : (y.natAbs : Int) = y := by omega
    rw [decide_eq_false (by omega), decide_eq_false (by omega), Int.natCast_mul, e1, e2]
    simp
theorem sgn_zero (b : Bool) : sgn b 0 = 0 := by cases b <;> rfl
theorem sgnT_mul (x y : Int) : sgn (sgT x y) (x.natAbs * y.natAbs) = x * y := by
  by_cases h : 0 < x.natAbs * y.natAbs
  · have e : sgT x y = sgB x y := by unfold sgT; rw [decide_eq_true h, Bool.and_true]
    rw [e]; exact sgn_mul x y
  · have e : x.natAbs * y.natAbs = 0 := by omega
    have h2 := sgn_mul x y
    rw [e, sgn_zero] at h2
    rw [e, sgn_zero, h2]
end Go.Proofs.YtglgfjknhplajaaGreatDoor

/- Intervals: the closures of times and quotient; square. -/
namespace Go.Proofs.YtglgfjknhplajaaGreatDoor
open Go.RowKit

def qn (x y : Int) : Int := if y < 0 then -(x * 1099511627776) else x * 1099511627776
theorem sgn_not (b : Bool) (N : Nat) : sgn (!b) N = -sgn b N := by cases b <;> simp [sgn]
set_option maxRecDepth 100000 in
theorem tclos_ex (x y : Int) (hx1 : -2305843009213693952 ≤ x) (hx2 : x ≤ 2305843009213693952) (hy1 : -2305843009213693952 ≤ y) (hy2 : y ≤ 2305843009213693952) :
    ∃ lo hi, lo ≤ hi ∧ cl lo = cl (x * y / 1099511627776) ∧ cl hi = cl (cdiv (x * y) 1099511627776) ∧ ∀ w, Calls Tryz.prog 59 #[.int .i64 x, .int .i64 y] w (RV w lo hi) := by
  obtain ⟨lo, hi, h1, h2, h3, h4⟩ := over_ex (sgB (x) (y)) ((x).natAbs * (y).natAbs) (1099511627776 : Int) (by omega) (by omega) (by omega)
  have e : (sgB x y != decide ((1099511627776 : Int) < 0)) = sgB x y := by cases sgB x y <;> rfl
  rw [e, sgn_mul] at h2 h3
  refine ⟨lo, hi, h1, h2, h3, fun w => ?_⟩
  have H4 := Lib.hid h4
  have HM := Lib.hid (fun w => smul_any w (x) (y) (by omega) (by omega) (by omega) (by omega))
  have HB : Hid (Below w.heap.size w (w.alloc (ivB 0 0))) := sbal (Below.refl _ _) _
  have PR := Lib.hid (Pr.new w w.heap.size rfl (.int .i64 0) (.int .i64 0) 23)
  clear h1 h2 h3 h4
  go_enter Tryz.func59, Tryz.ntmps59
  go_wp2_with fail
  generalize w.alloc (ivB 0 0) = W0 at *
  refine (HM.out _).mono ?_
  rintro e w1 ⟨rfl, hb⟩
  have P1 := Lib.hid (PR.out.via hb)
  have B1 := Lib.hid (sbtr HB.out hb)
  clear hb PR HB HM
  go_wp2_with fail
  refine (H4.out _).mono ?_
  rintro e w2 ⟨rfl, hb⟩
  have P2 := Lib.hid (P1.out.via hb)
  have B2 := Lib.hid (sbtr B1.out hb)
  clear hb P1 B1 H4
  have ⟨r0, r1, r2, r3, rl⟩ := P2.out
  go_wp2
  exact post_iv1 Tryz.results59 rfl rfl (P2.out.set _ _) ⟨rfl, below_set2 B2.out (by omega) _ _⟩
set_option maxRecDepth 100000 in
theorem qclos_ex (x y : Int) (hx1 : -2305843009213693952 ≤ x) (hx2 : x ≤ 2305843009213693952) (hy1 : -2305843009213693952 ≤ y) (hy2 : y ≤ 2305843009213693952) (hy0 : y ≠ 0) :
    ∃ lo hi, lo ≤ hi ∧ cl lo = cl (qn x y / (y.natAbs : Int)) ∧ cl hi = cl (cdiv (qn x y) (y.natAbs : Int)) ∧ ∀ w, Calls Tryz.prog 62 #[.int .i64 x, .int .i64 y] w (RV w lo hi) := by
  obtain ⟨lo, hi, h1, h2, h3, h4⟩ := over_ex (sgB (x) (1099511627776 : Int)) ((x).natAbs * (1099511627776 : Int).natAbs) (y) (by omega) (by omega) (by omega)
  have e : sgn (sgB x 1099511627776 != decide (y < 0)) (x.natAbs * (1099511627776 : Int).natAbs) = qn x y := by
    have h := sgn_mul x 1099511627776
    unfold qn
    rcases neg_cases y with hy | ⟨hy, hy'⟩
    · rw [if_pos hy, decide_eq_true hy, show (sgB x 1099511627776 != true) = !sgB x 1099511627776 by cases sgB x 1099511627776 <;> rfl, sgn_not, h]
    · rw [if_neg (by omega), hy, show (sgB x 1099511627776 != false) = sgB x 1099511627776 by cases sgB x 1099511627776 <;> rfl, h]
  rw [e] at h2 h3
  refine ⟨lo, hi, h1, h2, h3, fun w => ?_⟩
  have H4 := Lib.hid h4
  have HM := Lib.hid (fun w => smul_any w (x) (1099511627776 : Int) (by omega) (by omega) (by omega) (by omega))
  have HB : Hid (Below w.heap.size w (w.alloc (ivB 0 0))) := sbal (Below.refl _ _) _
  have PR := Lib.hid (Pr.new w w.heap.size rfl (.int .i64 0) (.int .i64 0) 23)
  clear h1 h2 h3 h4
  go_enter Tryz.func62, Tryz.ntmps62
  go_wp2_with fail
  generalize w.alloc (ivB 0 0) = W0 at *
  refine (HM.out _).mono ?_
  rintro e w1 ⟨rfl, hb⟩
  have P1 := Lib.hid (PR.out.via hb)
  have B1 := Lib.hid (sbtr HB.out hb)
  clear hb PR HB HM
  go_wp2_with fail
  refine (H4.out _).mono ?_
  rintro e w2 ⟨rfl, hb⟩
  have P2 := Lib.hid (P1.out.via hb)
  have B2 := Lib.hid (sbtr B1.out hb)
  clear hb P1 B1 H4
  have ⟨r0, r1, r2, r3, rl⟩ := P2.out
  go_wp2
  exact post_iv1 Tryz.results62 rfl rfl (P2.out.set _ _) ⟨rfl, below_set2 B2.out (by omega) _ _⟩
set_option maxRecDepth 100000 in
theorem square_ex (x : Int) (hx1 : -2305843009213693952 ≤ x) (hx2 : x ≤ 2305843009213693952) :
    ∃ lo hi, lo ≤ hi ∧ cl lo = cl (x * x / 1099511627776) ∧ cl hi = cl (cdiv (x * x) 1099511627776) ∧ ∀ w, Calls Tryz.prog 36 #[.int .i64 x] w (RV w lo hi) := by
  obtain ⟨lo, hi, h1, h2, h3, h4⟩ := over_ex (sgB (x) (x)) ((x).natAbs * (x).natAbs) (1099511627776 : Int) (by omega) (by omega) (by omega)
  have e : (sgB x x != decide ((1099511627776 : Int) < 0)) = sgB x x := by cases sgB x x <;> rfl
  rw [e, sgn_mul] at h2 h3
  refine ⟨lo, hi, h1, h2, h3, fun w => ?_⟩
  have H4 := Lib.hid h4
  have HM := Lib.hid (fun w => smul_any w (x) (x) (by omega) (by omega) (by omega) (by omega))
  have HB : Hid (Below w.heap.size w (w.alloc (ivB 0 0))) := sbal (Below.refl _ _) _
  have PR := Lib.hid (Pr.new w w.heap.size rfl (.int .i64 0) (.int .i64 0) 23)
  clear h1 h2 h3 h4
  go_enter Tryz.func36, Tryz.ntmps36
  go_wp2_with fail
  generalize w.alloc (ivB 0 0) = W0 at *
  refine (HM.out _).mono ?_
  rintro e w1 ⟨rfl, hb⟩
  have P1 := Lib.hid (PR.out.via hb)
  have B1 := Lib.hid (sbtr HB.out hb)
  clear hb PR HB HM
  go_wp2_with fail
  refine (H4.out _).mono ?_
  rintro e w2 ⟨rfl, hb⟩
  have P2 := Lib.hid (P1.out.via hb)
  have B2 := Lib.hid (sbtr B1.out hb)
  clear hb P1 B1 H4
  have ⟨r0, r1, r2, r3, rl⟩ := P2.out
  go_wp2
  exact post_iv1 Tryz.results36 rfl rfl (P2.out.set _ _) ⟨rfl, below_set2 B2.out (by omega) _ _⟩
end Go.Proofs.YtglgfjknhplajaaGreatDoor

/- Intervals: corners: an operation at the four pairs of ends. -/
namespace Go.Proofs.YtglgfjknhplajaaGreatDoor
open Go.RowKit

/-- Block g has eight cells that may be written, and the first m of them are done. -/
structure Arr (w : World) (g m : Nat) (L : List Int) : Prop where
  any : ∀ j, j < 8 → (w.cell? ⟨g, j, none⟩).isSome = true ∧ w.frozen? ⟨g, j, none⟩ = false
  done : ∀ j, j < m → w.cell? ⟨g, j, none⟩ = some (.int .i64 (L[j]?.getD 0))
  lt : g < w.heap.size
theorem Arr.via {w w' : World} {g m : Nat} {L : List Int} (p : Arr w g m L) (hb : Below w.heap.size w w') : Arr w' g m L :=
  ⟨fun j hj => by
    have h1 := p.any j hj
    rw [hb.cell (p := ⟨g, j, none⟩) p.lt, hb.frozen (p := ⟨g, j, none⟩) p.lt]
    exact h1, fun j hj => (hb.cell (p := ⟨g, j, none⟩) p.lt).trans (p.done j hj), Nat.lt_of_lt_of_le p.lt hb.size⟩
theorem Arr.alloc {w : World} {g m : Nat} {L : List Int} (p : Arr w g m L) (o : Obj) : Arr (w.alloc o) g m L := p.via ((Below.refl _ _).alloc (Nat.le_refl _) o)
theorem Arr.new (w : World) (k : Nat) (hk : w.heap.size = k) (L : List Int) : Arr (w.alloc (.cells #[.int .i64 0, .int .i64 0, .int .i64 0, .int .i64 0, .int .i64 0, .int .i64 0, .int .i64 0, .int .i64 0] 23)) k 0 L := by
  subst hk
  refine ⟨fun j hj => ?_, fun j hj => absurd hj (by omega), by simp⟩
  rcases (show j = 0 ∨ j = 1 ∨ j = 2 ∨ j = 3 ∨ j = 4 ∨ j = 5 ∨ j = 6 ∨ j = 7 by omega) with rfl | rfl | rfl | rfl | rfl | rfl | rfl | rfl <;> constructor <;> go_simp
theorem Arr.put {w : World} {g m : Nat} {L : List Int} (p : Arr w g m L) (hm : m + 1 < 8) (x y : Int) (hx : L[m]?.getD 0 = x) (hy : L[m + 1]?.getD 0 = y) :
    Arr ((w.setCell ⟨g, m, none⟩ (.int .i64 x)).setCell ⟨g, m + 1, none⟩ (.int .i64 y)) g (m + 2) L := by
  have ne : ∀ i j : Nat, i ≠ j → (⟨g, i, none⟩ : Addr) ≠ ⟨g, j, none⟩ := fun i j h e => h (congrArg Addr.off e)
  obtain ⟨u, hu⟩ := Option.isSome_iff_exists.1 (p.any m (by omega)).1
  obtain ⟨v, hv⟩ := Option.isSome_iff_exists.1 (p.any (m + 1) (by omega)).1
  have c0 : ((w.setCell ⟨g, m, none⟩ (.int .i64 x)).setCell ⟨g, m + 1, none⟩ (.int .i64 y)).cell? ⟨g, m, none⟩ = some (.int .i64 x) := by
    rw [World.cell?_setCell_other _ _ _ _ (ne _ _ (by omega))]
    exact World.cell?_setCell_same _ _ _ hu
  have c1 : ((w.setCell ⟨g, m, none⟩ (.int .i64 x)).setCell ⟨g, m + 1, none⟩ (.int .i64 y)).cell? ⟨g, m + 1, none⟩ = some (.int .i64 y) := by
    refine World.cell?_setCell_same (u := v) _ _ _ ?_
    rw [World.cell?_setCell_other _ _ _ _ (ne _ _ (by omega))]
    exact hv
  have co : ∀ j, j ≠ m → j ≠ m + 1 → ((w.setCell ⟨g, m, none⟩ (.int .i64 x)).setCell ⟨g, m + 1, none⟩ (.int .i64 y)).cell? ⟨g, j, none⟩ = w.cell? ⟨g, j, none⟩ := fun j h1 h2 => by
    rw [World.cell?_setCell_other _ _ _ _ (ne _ _ (by omega)), World.cell?_setCell_other _ _ _ _ (ne _ _ (by omega))]
  refine ⟨fun j hj => ⟨?_, by have := (p.any j hj).2; simpa using this⟩, fun j hj => ?_, by simpa [World.size_setCell] using p.lt⟩
  · by_cases h1 : j = m
    · subst h1; rw [c0]; rfl
    · by_cases h2 : j = m + 1
      · subst h2; rw [c1]; rfl
      · rw [co j h1 h2]; exact (p.any j hj).1
  · by_cases h1 : j = m
    · subst h1; rw [c0, hx]
    · by_cases h2 : j = m + 1
      · subst h2; rw [c1, hy]
      · rw [co j h1 h2]; exact p.done j (by omega)
theorem Arr.far {w : World} {g h m : Nat} {L : List Int} (p : Arr w g m L) (hne : g ≠ h) (x y : Value) : Arr ((w.setCell ⟨h, 0, none⟩ x).setCell ⟨h, 1, none⟩ y) g m L := by
  have e : ∀ (i j : Nat), (⟨h, i, none⟩ : Addr) ≠ ⟨g, j, none⟩ := fun i j e => hne (congrArg Addr.block e).symm
  refine ⟨fun j hj => ?_, fun j hj => ?_, by simpa [World.size_setCell] using p.lt⟩
  · rw [World.cell?_setCell_other _ _ _ _ (e _ _), World.cell?_setCell_other _ _ _ _ (e _ _)]
    have := p.any j hj
    simpa using this
  · rw [World.cell?_setCell_other _ _ _ _ (e _ _), World.cell?_setCell_other _ _ _ _ (e _ _)]
    exact p.done j hj
theorem Pr.farAt {w : World} {g h m : Nat} {a b : Value} (p : Pr w g a b) (hne : g ≠ h) (x y : Value) : Pr ((w.setCell ⟨h, m, none⟩ x).setCell ⟨h, m + 1, none⟩ y) g a b := by
  have e : ∀ (i j : Nat), (⟨h, i, none⟩ : Addr) ≠ ⟨g, j, none⟩ := fun i j e => hne (congrArg Addr.block e).symm
  refine ⟨?_, ?_, by have := p.f0; simpa using this, by have := p.f1; simpa using this, by simpa [World.size_setCell] using p.lt⟩
  · rw [World.cell?_setCell_other _ _ _ _ (e _ _), World.cell?_setCell_other _ _ _ _ (e _ _)]; exact p.c0
  · rw [World.cell?_setCell_other _ _ _ _ (e _ _), World.cell?_setCell_other _ _ _ _ (e _ _)]; exact p.c1
theorem below_setAt {B : Nat} {w w1 : World} (h : Below B w w1) {g m : Nat} (hg : B ≤ g) (x y : Value) : Below B w ((w1.setCell ⟨g, m, none⟩ x).setCell ⟨g, m + 1, none⟩ y) :=
  (h.setCell (p := ⟨g, m, none⟩) hg x).setCell (p := ⟨g, m + 1, none⟩) hg y
theorem Iv1.of {w : World} {g m k : Nat} {L : List Int} (p : Arr w g m L) (hk : k + 1 < m) {x y : Int} (hx : L[k]?.getD 0 = x) (hy : L[k + 1]?.getD 0 = y) : Iv1 w g k x y :=
  ⟨by rw [p.done k (by omega), hx], by rw [p.done (k + 1) hk, hy], p.lt⟩
theorem iv_info : (Tryz.prog.info? 23).map (fun i => (i.zero, i.size, i.bytes)) = some (some (.agg #[.int .i64 0, .int .i64 0]), 2, 16) := by kernel_rfl
/-- append of one interval to a slice that has room. -/
theorem wpList_append_iv (w : World) {ops : Array Oper} {rest : List Oper} {o : Oper} {a : Act} {Q : Exit → Act → World → Prop} (hgd : o.guard = none) (s x : Operand)
    (ho : o.op = .call { callee := .builtin .append, args := #[s, x], argTypes := #[82, 82] }) (g n m : Nat) (L : List Int) (hs : a.eval s = .slice (some ⟨g, 0, none⟩) n 4) (hm : m = n * 2) (hn : n < 4) (hA : Arr w g m L)
    (h : Nat) (hx : a.eval x = .slice (some ⟨h, 0, none⟩) 1 1) (lo hi : Int) (hC : Iv1 w h 0 lo hi)
    (hK : wpList Tryz.prog ops Q rest (a.put o.dst (.slice (some ⟨g, 0, none⟩) (n + 1) 4)) ((w.setCell ⟨g, m, none⟩ (.int .i64 lo)).setCell ⟨g, m + 1, none⟩ (.int .i64 hi))) :
    wpList Tryz.prog ops Q (o :: rest) a w := by
  obtain ⟨i0, hi0, hz0, hz1, hz2⟩ := info_parts iv_info
  refine wpList_plain hgd fun K hKK => ?_
  have hr := run_append_room_cells (P := Tryz.prog) w 82 o.type 23 i0 Tryz.underlying82 hi0 g 0 n 4 ⟨h, 0, none⟩ 1 1 [.int .i64 lo, .int .i64 hi] (by rw [hz1]; rfl)
    (fun j u hu => by
      match j, hu with
      | 0, hu => simp at hu; subst hu; exact hC.c0
      | 1, hu => simp at hu; subst hu; exact hC.c1) (by simp [Value.oneCell']) (by omega) (fun j hj => by rw [hz1]; simp at hj; exact (hA.any _ (by omega)).1) (fun j hj => by rw [hz1]; simp at hj; exact (hA.any _ (by omega)).2)
  rw [hz1, Nat.zero_add, ← hm] at hr
  unfold Oper.wp execOp
  simp only [ho, resolve, invoke, builtin, Sem.run_bind, Sem.run_pure, Result.andThen_ok, List.map_toArray, List.map_cons, List.map_nil, hs, hx, hr]
  exact hKK _ _ hK
set_option maxRecDepth 100000 in
set_option maxHeartbeats 4000000 in
theorem corners_any (w : World) (f : FuncId) (al ah bl bh l0 h0 l1 h1 l2 h2 l3 h3 : Int) (hcf : ∀ (u v : Value) (W : World), (callFunc f #[u, v]).run Tryz.prog W = .ok (.enter f #[u, v]) W)
    (k0 : ∀ W, Calls Tryz.prog f #[.int .i64 al, .int .i64 bl] W (RV W l0 h0)) (k1 : ∀ W, Calls Tryz.prog f #[.int .i64 al, .int .i64 bh] W (RV W l1 h1)) (k2 : ∀ W, Calls Tryz.prog f #[.int .i64 ah, .int .i64 bl] W (RV W l2 h2)) (k3 : ∀ W, Calls Tryz.prog f #[.int .i64 ah, .int .i64 bh] W (RV W l3 h3)) :
    Calls Tryz.prog 58 #[iv al ah, iv bl bh, .func (.func f) #[] #[]] w (RV w (mn4 l0 l1 l2 l3) (mx4 h0 h1 h2 h3)) := by
  have hmk : ∀ w : World, (Instr.makeSlice 82 (.int .i64 0) (.int .i64 4)).run Tryz.prog w = .ok (.slice (some ⟨w.heap.size, 0, none⟩) 0 4) (w.alloc (.cells #[.int .i64 0, .int .i64 0, .int .i64 0, .int .i64 0, .int .i64 0, .int .i64 0, .int .i64 0, .int .i64 0] 23)) := fun _ => by kernel_rfl
  have ia0 : ∀ (w : World) (x y : Value), (Instr.index 102 (.agg #[x, y]) (.int .i64 0)).run Tryz.prog w = .ok x w := fun _ _ _ => by kernel_rfl
  have ia1 : ∀ (w : World) (x y : Value), (Instr.index 102 (.agg #[x, y]) (.int .i64 1)).run Tryz.prog w = .ok y w := fun _ _ _ => by kernel_rfl
  have K0 := Lib.hid k0
  have K1 := Lib.hid k1
  have K2 := Lib.hid k2
  have K3 := Lib.hid k3
  clear k0 k1 k2 k3
  obtain ⟨L, hL⟩ : ∃ L : List Int, L = [l0, h0, l1, h1, l2, h2, l3, h3] := ⟨_, rfl⟩
  have HL := Lib.hid hL
  clear hL
  have PA := Lib.hid ((((Pr.new w w.heap.size rfl (.int .i64 al) (.int .i64 ah) 23).alloc (ivB bl bh)).alloc (ivB 0 0)).alloc (.cells #[.int .i64 0, .int .i64 0, .int .i64 0, .int .i64 0, .int .i64 0, .int .i64 0, .int .i64 0, .int .i64 0] 23))
  have PB := Lib.hid (((Pr.new (w.alloc (ivB al ah)) (w.heap.size + 1) (by simp) (.int .i64 bl) (.int .i64 bh) 23).alloc (ivB 0 0)).alloc (.cells #[.int .i64 0, .int .i64 0, .int .i64 0, .int .i64 0, .int .i64 0, .int .i64 0, .int .i64 0, .int .i64 0] 23))
  have PR := Lib.hid ((Pr.new ((w.alloc (ivB al ah)).alloc (ivB bl bh)) (w.heap.size + 1 + 1) (by simp) (.int .i64 0) (.int .i64 0) 23).alloc (.cells #[.int .i64 0, .int .i64 0, .int .i64 0, .int .i64 0, .int .i64 0, .int .i64 0, .int .i64 0, .int .i64 0] 23))
  have BW : Hid (Below w.heap.size w ((((w.alloc (ivB al ah)).alloc (ivB bl bh)).alloc (ivB 0 0)).alloc (.cells #[.int .i64 0, .int .i64 0, .int .i64 0, .int .i64 0, .int .i64 0, .int .i64 0, .int .i64 0, .int .i64 0] 23))) := sbal (sbal (sbal (sbal (Below.refl _ _) _) _) _) _
  have AW := Lib.hid (Arr.new (((w.alloc (ivB al ah)).alloc (ivB bl bh)).alloc (ivB 0 0)) (w.heap.size + 1 + 1 + 1) (by simp) L)
  go_enter Tryz.func58, Tryz.ntmps58
  go_wp2_with fail
  generalize (((w.alloc (ivB al ah)).alloc (ivB bl bh)).alloc (ivB 0 0)).alloc (.cells #[.int .i64 0, .int .i64 0, .int .i64 0, .int .i64 0, .int .i64 0, .int .i64 0, .int .i64 0, .int .i64 0] 23) = W0 at *
  go_loopw [7, 18] (fun s i wr => ∃ m : Nat, (s = .slice (some ⟨w.heap.size + 1 + 1 + 1, 0, none⟩) 0 4 ∧ i = .int .i64 0 ∧ m = 0 ∨ s = .slice (some ⟨w.heap.size + 1 + 1 + 1, 0, none⟩) 2 4 ∧ i = .int .i64 1 ∧ m = 4 ∨ s = .slice (some ⟨w.heap.size + 1 + 1 + 1, 0, none⟩) 4 4 ∧ i = .int .i64 2 ∧ m = 8) ∧ Pr wr (w.heap.size + 1) (.int .i64 bl) (.int .i64 bh) ∧ Pr wr (w.heap.size + 1 + 1) (.int .i64 0) (.int .i64 0) ∧ Arr wr (w.heap.size + 1 + 1 + 1) m L ∧ Below w.heap.size w wr) (fun _ i _ => 2 - (intOf i).toNat)
  case atStart => exact ⟨0, .inl ⟨rfl, rfl, rfl⟩, PB.out, PR.out, AW.out, BW.out⟩
  case round =>
    obtain ⟨m, hk, pb, pr, aw, bw⟩ := hrel
    clear PA PB PR AW BW
    have PB := Lib.hid pb
    have PR := Lib.hid pr
    have AW := Lib.hid aw
    have BW := Lib.hid bw
    clear pb pr aw bw
    obtain ⟨wo, rfl⟩ : ∃ wo : World, wo = wr := ⟨_, rfl⟩
    rcases hk with ⟨rfl, rfl, rfl⟩ | ⟨rfl, rfl, rfl⟩ | ⟨rfl, rfl, rfl⟩
    · have ⟨b0, b1, _, _, _⟩ := PB.out
      go_wp2_with fail
      clear b0 b1
      go_loopw [7, 26] (fun s i wr => ∃ m : Nat, (s = .slice (some ⟨w.heap.size + 1 + 1 + 1, 0, none⟩) 0 4 ∧ i = .int .i64 0 ∧ m = 0 ∨ s = .slice (some ⟨w.heap.size + 1 + 1 + 1, 0, none⟩) 1 4 ∧ i = .int .i64 1 ∧ m = 2 ∨ s = .slice (some ⟨w.heap.size + 1 + 1 + 1, 0, none⟩) 2 4 ∧ i = .int .i64 2 ∧ m = 4) ∧ Pr wr (w.heap.size + 1) (.int .i64 bl) (.int .i64 bh) ∧ Pr wr (w.heap.size + 1 + 1) (.int .i64 0) (.int .i64 0) ∧ Arr wr (w.heap.size + 1 + 1 + 1) m L ∧ Below w.heap.size w wr) (fun _ i _ => 2 - (intOf i).toNat)
      case atStart => exact ⟨0, .inl ⟨rfl, rfl, rfl⟩, PB.out, PR.out, AW.out, BW.out⟩
      case round =>
        obtain ⟨m, hj, pb, pr, aw, bw⟩ := hrel
        clear PB PR AW BW
        have PB := Lib.hid pb
        have PR := Lib.hid pr
        have AW := Lib.hid aw
        have BW := Lib.hid bw
        clear pb pr aw bw
        rcases hj with ⟨rfl, rfl, rfl⟩ | ⟨rfl, rfl, rfl⟩ | ⟨rfl, rfl, rfl⟩
        · go_wp2_with fail
          refine (K0.out _).mono ?_
          rintro e w1 ⟨rfl, hb⟩
          have IC : Hid (Iv1 (w1.alloc (ivB l0 h0)) w1.heap.size 0 l0 h0) := (by
            have p := Pr.new w1 _ rfl (.int .i64 l0) (.int .i64 h0) 23
            exact ⟨p.c0, p.c1, p.lt⟩)
          have A1 := Lib.hid ((AW.out.via hb).alloc (ivB l0 h0))
          have Q1 := Lib.hid ((PB.out.via hb).alloc (ivB l0 h0))
          have R1 := Lib.hid ((PR.out.via hb).alloc (ivB l0 h0))
          have B1 := Lib.hid (sbal (sbtr BW.out hb) (ivB l0 h0))
          have A2 := Lib.hid (A1.out.put (by omega) l0 h0 (by rw [HL.out]; rfl) (by rw [HL.out]; rfl))
          have hgl := PB.out.lt
          clear hb
          go_wp2_with (at_builtin; refine wpList_append_iv _ rfl _ _ rfl (w.heap.size + 1 + 1 + 1) 0 0 L rfl rfl (by omega) A1.out w1.heap.size rfl l0 h0 IC.out ?_)
          go_roundw
          case rel => exact ⟨2, .inr (.inl ⟨rfl, rfl, rfl⟩), Q1.out.farAt (by omega) _ _, R1.out.farAt (by omega) _ _, A2.out, below_setAt B1.out (by omega) _ _⟩
          case measure => simp [intOf]
        · go_wp2_with fail
          refine (K1.out _).mono ?_
          rintro e w1 ⟨rfl, hb⟩
          have IC : Hid (Iv1 (w1.alloc (ivB l1 h1)) w1.heap.size 0 l1 h1) := (by
            have p := Pr.new w1 _ rfl (.int .i64 l1) (.int .i64 h1) 23
            exact ⟨p.c0, p.c1, p.lt⟩)
          have A1 := Lib.hid ((AW.out.via hb).alloc (ivB l1 h1))
          have Q1 := Lib.hid ((PB.out.via hb).alloc (ivB l1 h1))
          have R1 := Lib.hid ((PR.out.via hb).alloc (ivB l1 h1))
          have B1 := Lib.hid (sbal (sbtr BW.out hb) (ivB l1 h1))
          have A2 := Lib.hid (A1.out.put (by omega) l1 h1 (by rw [HL.out]; rfl) (by rw [HL.out]; rfl))
          have hgl := PB.out.lt
          clear hb
          go_wp2_with (at_builtin; refine wpList_append_iv _ rfl _ _ rfl (w.heap.size + 1 + 1 + 1) 1 2 L rfl rfl (by omega) A1.out w1.heap.size rfl l1 h1 IC.out ?_)
          go_roundw
          case rel => exact ⟨4, .inr (.inr ⟨rfl, rfl, rfl⟩), Q1.out.farAt (by omega) _ _, R1.out.farAt (by omega) _ _, A2.out, below_setAt B1.out (by omega) _ _⟩
          case measure => simp [intOf]
        · go_wp2
          go_roundw
          case rel => exact ⟨4, .inr (.inl ⟨rfl, rfl, rfl⟩), PB.out, PR.out, AW.out, BW.out⟩
          case measure => simp [intOf]
    · have ⟨b0, b1, _, _, _⟩ := PB.out
      go_wp2_with fail
      clear b0 b1
      go_loopw [7, 26] (fun s i wr => ∃ m : Nat, (s = .slice (some ⟨w.heap.size + 1 + 1 + 1, 0, none⟩) 2 4 ∧ i = .int .i64 0 ∧ m = 4 ∨ s = .slice (some ⟨w.heap.size + 1 + 1 + 1, 0, none⟩) 3 4 ∧ i = .int .i64 1 ∧ m = 6 ∨ s = .slice (some ⟨w.heap.size + 1 + 1 + 1, 0, none⟩) 4 4 ∧ i = .int .i64 2 ∧ m = 8) ∧ Pr wr (w.heap.size + 1) (.int .i64 bl) (.int .i64 bh) ∧ Pr wr (w.heap.size + 1 + 1) (.int .i64 0) (.int .i64 0) ∧ Arr wr (w.heap.size + 1 + 1 + 1) m L ∧ Below w.heap.size w wr) (fun _ i _ => 2 - (intOf i).toNat)
      case atStart => exact ⟨4, .inl ⟨rfl, rfl, rfl⟩, PB.out, PR.out, AW.out, BW.out⟩
      case round =>
        obtain ⟨m, hj, pb, pr, aw, bw⟩ := hrel
        clear PB PR AW BW
        have PB := Lib.hid pb
        have PR := Lib.hid pr
        have AW := Lib.hid aw
        have BW := Lib.hid bw
        clear pb pr aw bw
        rcases hj with ⟨rfl, rfl, rfl⟩ | ⟨rfl, rfl, rfl⟩ | ⟨rfl, rfl, rfl⟩
        · go_wp2_with fail
          refine (K2.out _).mono ?_
          rintro e w1 ⟨rfl, hb⟩
          have IC : Hid (Iv1 (w1.alloc (ivB l2 h2)) w1.heap.size 0 l2 h2) := (by
            have p := Pr.new w1 _ rfl (.int .i64 l2) (.int .i64 h2) 23
            exact ⟨p.c0, p.c1, p.lt⟩)
          have A1 := Lib.hid ((AW.out.via hb).alloc (ivB l2 h2))
          have Q1 := Lib.hid ((PB.out.via hb).alloc (ivB l2 h2))
          have R1 := Lib.hid ((PR.out.via hb).alloc (ivB l2 h2))
          have B1 := Lib.hid (sbal (sbtr BW.out hb) (ivB l2 h2))
          have A2 := Lib.hid (A1.out.put (by omega) l2 h2 (by rw [HL.out]; rfl) (by rw [HL.out]; rfl))
          have hgl := PB.out.lt
          clear hb
          go_wp2_with (at_builtin; refine wpList_append_iv _ rfl _ _ rfl (w.heap.size + 1 + 1 + 1) 2 4 L rfl rfl (by omega) A1.out w1.heap.size rfl l2 h2 IC.out ?_)
          go_roundw
          case rel => exact ⟨6, .inr (.inl ⟨rfl, rfl, rfl⟩), Q1.out.farAt (by omega) _ _, R1.out.farAt (by omega) _ _, A2.out, below_setAt B1.out (by omega) _ _⟩
          case measure => simp [intOf]
        · go_wp2_with fail
          refine (K3.out _).mono ?_
          rintro e w1 ⟨rfl, hb⟩
          have IC : Hid (Iv1 (w1.alloc (ivB l3 h3)) w1.heap.size 0 l3 h3) := (by
            have p := Pr.new w1 _ rfl (.int .i64 l3) (.int .i64 h3) 23
            exact ⟨p.c0, p.c1, p.lt⟩)
          have A1 := Lib.hid ((AW.out.via hb).alloc (ivB l3 h3))
          have Q1 := Lib.hid ((PB.out.via hb).alloc (ivB l3 h3))
          have R1 := Lib.hid ((PR.out.via hb).alloc (ivB l3 h3))
          have B1 := Lib.hid (sbal (sbtr BW.out hb) (ivB l3 h3))
          have A2 := Lib.hid (A1.out.put (by omega) l3 h3 (by rw [HL.out]; rfl) (by rw [HL.out]; rfl))
          have hgl := PB.out.lt
          clear hb
          go_wp2_with (at_builtin; refine wpList_append_iv _ rfl _ _ rfl (w.heap.size + 1 + 1 + 1) 3 6 L rfl rfl (by omega) A1.out w1.heap.size rfl l3 h3 IC.out ?_)
          go_roundw
          case rel => exact ⟨8, .inr (.inr ⟨rfl, rfl, rfl⟩), Q1.out.farAt (by omega) _ _, R1.out.farAt (by omega) _ _, A2.out, below_setAt B1.out (by omega) _ _⟩
          case measure => simp [intOf]
        · go_wp2
          go_roundw
          case rel => exact ⟨8, .inr (.inr ⟨rfl, rfl, rfl⟩), PB.out, PR.out, AW.out, BW.out⟩
          case measure => simp [intOf]
    · go_wp2_with fail
      have I0 := Lib.hid (Iv1.of AW.out (k := 0) (by omega) (x := l0) (y := h0) (by rw [HL.out]; rfl) (by rw [HL.out]; rfl))
      have I1 := Lib.hid (Iv1.of AW.out (k := 2) (by omega) (x := l1) (y := h1) (by rw [HL.out]; rfl) (by rw [HL.out]; rfl))
      have I2 := Lib.hid (Iv1.of AW.out (k := 4) (by omega) (x := l2) (y := h2) (by rw [HL.out]; rfl) (by rw [HL.out]; rfl))
      have I3 := Lib.hid (Iv1.of AW.out (k := 6) (by omega) (x := l3) (y := h3) (by rw [HL.out]; rfl) (by rw [HL.out]; rfl))
      clear AW PB HL K0 K1 K2 K3 ia0 ia1 hmk hcf
      have HKS : Hid (∀ X : World, Below wo.heap.size wo X → X.cell? ⟨w.heap.size + 1 + 1 + 1, 0, none⟩ = some (.int .i64 l0) ∧ X.cell? ⟨w.heap.size + 1 + 1 + 1, 1, none⟩ = some (.int .i64 h0)) := fun X h => ⟨(I0.out.via h).c0, (I0.out.via h).c1⟩
      have ⟨r0, r1, f0, f1, rl⟩ := PR.out
      go_region_held3 (fun w' => w'.cell? ⟨w.heap.size + 1 + 1 + 1, 0, none⟩ = some (.int .i64 l0) ∧ w'.cell? ⟨w.heap.size + 1 + 1 + 1, 1, none⟩ = some (.int .i64 h0))
        (first
         | exact HKS.out _ (Below.refl _ _)
         | exact HKS.out _ (Below.refl _ _).drew
         | exact HKS.out _ B2
         | exact ⟨((I0.out.via B2).far (by omega) _ _).c0, ((I0.out.via B2).far (by omega) _ _).c1⟩)
        (first
         | (go_at_call 85; refine (hull3_any _ (w.heap.size + 1 + 1 + 1) l0 h0 l1 h1 l2 h2 l3 h3 (by first | exact I1.out | exact I1.out.via (Below.refl _ _).drew) (by first | exact I2.out | exact I2.out.via (Below.refl _ _).drew) (by first | exact I3.out | exact I3.out.via (Below.refl _ _).drew)).mono ?_; rintro e w2 ⟨rfl, hb2⟩; have B2 : Below wo.heap.size wo w2 := (by first | exact (Below.refl _ _).drew.trans hb2 | exact hb2); have P2 := PR.out.via B2; have ⟨q0, q1, g0, g1, ql⟩ := P2)
         | fail)
      all_goals
        go_wp2
        exact post_iv1 Tryz.results58 rfl rfl (P2.set _ _) ⟨ret_iv (by unfold mn4; omega) (by unfold mx4; omega), below_set2 (sbtr BW.out B2) (by omega) _ _⟩
end Go.Proofs.YtglgfjknhplajaaGreatDoor

/- Intervals: Add, Sub, Min, Max, Hull, Neg, Abs of package span. -/
namespace Go.Proofs.YtglgfjknhplajaaGreatDoor
open Go.RowKit

theorem ivIn_of {lo hi : Int} (h : ivC lo hi = 0) : IvIn lo hi := ivC_le h
set_option maxRecDepth 100000 in
theorem sadd_any (w : World) (al ah bl bh : Int) : Calls Tryz.prog 8 #[iv al ah, iv bl bh] w (RO w (j2 al ah bl bh (mkI (al + bl) (ah + bh)))) := by
  have PR := Lib.hid (Pr.new ((w.alloc (ivB al ah)).alloc (ivB bl bh)) (w.heap.size + 1 + 1) (by simp) (.int .i64 0) (.int .i64 0) 23)
  have BW : Hid (Below w.heap.size w (((w.alloc (ivB al ah)).alloc (ivB bl bh)).alloc (ivB 0 0))) := sbal (sbal (sbal (Below.refl _ _) _) _) _
  have hcf : ∀ (u v : Value) (W : World), (callFunc 27 #[u, v]).run Tryz.prog W = .ok (.enter 27 #[u, v]) W := fun u v W => by go_simp
  have J := Lib.hid (fun W => join_any W 27 al ah bl bh (al + bl) (ah + bh) hcf fun ha hb => ⟨(by have := ivC_le ha; have := ivC_le hb; omega), fun W' => ssum_any W' al ah bl bh (ivIn_of ha) (ivIn_of hb)⟩)
  clear hcf
  go_enter Tryz.func8, Tryz.ntmps8
  go_wp2_with fail
  generalize ((w.alloc (ivB al ah)).alloc (ivB bl bh)).alloc (ivB 0 0) = W0 at *
  refine (J.out _).mono ?_
  rintro e w1 ⟨rfl, hb⟩
  have P3 := Lib.hid (PR.out.via hb)
  have B1 := Lib.hid (sbtr BW.out hb)
  clear hb PR BW J
  have ⟨r0, r1, f0, f1, rl⟩ := P3.out
  go_wp2
  exact post_iv Tryz.results8 rfl rfl (P3.out.set _ _) ⟨rfl, below_set2 B1.out (by omega) _ _⟩
set_option maxRecDepth 100000 in
theorem ssub_any (w : World) (al ah bl bh : Int) : Calls Tryz.prog 10 #[iv al ah, iv bl bh] w (RO w (j2 al ah bl bh (mkI (al - bh) (ah - bl)))) := by
  have PR := Lib.hid (Pr.new ((w.alloc (ivB al ah)).alloc (ivB bl bh)) (w.heap.size + 1 + 1) (by simp) (.int .i64 0) (.int .i64 0) 23)
  have BW : Hid (Below w.heap.size w (((w.alloc (ivB al ah)).alloc (ivB bl bh)).alloc (ivB 0 0))) := sbal (sbal (sbal (Below.refl _ _) _) _) _
  have hcf : ∀ (u v : Value) (W : World), (callFunc 29 #[u, v]).run Tryz.prog W = .ok (.enter 29 #[u, v]) W := fun u v W => by go_simp
  have J := Lib.hid (fun W => join_any W 29 al ah bl bh (al - bh) (ah - bl) hcf fun ha hb => ⟨(by have := ivC_le ha; have := ivC_le hb; omega), fun W' => sdiff_any W' al ah bl bh (ivIn_of ha) (ivIn_of hb)⟩)
  clear hcf
  go_enter Tryz.func10, Tryz.ntmps10
  go_wp2_with fail
  generalize ((w.alloc (ivB al ah)).alloc (ivB bl bh)).alloc (ivB 0 0) = W0 at *
  refine (J.out _).mono ?_
  rintro e w1 ⟨rfl, hb⟩
  have P3 := Lib.hid (PR.out.via hb)
  have B1 := Lib.hid (sbtr BW.out hb)
  clear hb PR BW J
  have ⟨r0, r1, f0, f1, rl⟩ := P3.out
  go_wp2
  exact post_iv Tryz.results10 rfl rfl (P3.out.set _ _) ⟨rfl, below_set2 B1.out (by omega) _ _⟩
end Go.Proofs.YtglgfjknhplajaaGreatDoor

/- Intervals: order, Meet, In, Cmp, Mid on both sides; Add, Sub, Neg, Abs, Min, Max, Hull of the reference. -/
namespace Go.Proofs.YtglgfjknhplajaaGreatDoor
open Go.RowKit

def RB2 (w : World) (v : Bool) (err : Int) (e : Ending) (w' : World) : Prop := e = .returned (.tuple #[.bool v, .int .i64 err]) ∧ Below w.heap.size w w'
def RI2 (w : World) (v err : Int) (e : Ending) (w' : World) : Prop := e = .returned (.tuple #[.int .i64 v, .int .i64 err]) ∧ Below w.heap.size w w'
def ordI (al ah bl bh : Int) : Int := if ah < bl then -1 else if bh < al then 1 else 0
def inR (al ah bl bh : Int) : Bool := decide (ivB2 al ah bl bh = 0) && (decide (bl ≤ al) && decide (ah ≤ bh))
def ordR (al ah bl bh : Int) : Int := if ivB2 al ah bl bh = 0 then ordI al ah bl bh else 0
def meetO (al ah bl bh : Int) : Out := if ordI al ah bl bh = 0 then mkI (max al bl) (min ah bh) else ⟨0, 0, 6⟩
def midR (al ah : Int) : Int := if ivC al ah = 0 then (al + ah) / 2 else 0
theorem ret_bi {a b : Bool} {c d : Int} (h1 : a = b) (h2 : c = d) : Ending.returned (.tuple #[.bool a, .int .i64 c]) = .returned (.tuple #[.bool b, .int .i64 d]) := by rw [h1, h2]
theorem ret_ii {a b c d : Int} (h1 : a = b) (h2 : c = d) : Ending.returned (.tuple #[.int .i64 a, .int .i64 c]) = .returned (.tuple #[.int .i64 b, .int .i64 d]) := by rw [h1, h2]
end Go.Proofs.YtglgfjknhplajaaGreatDoor

/- Intervals: Add, Sub, Neg, Min, Max, Hull, Abs of the reference; Meet on both sides. -/
namespace Go.Proofs.YtglgfjknhplajaaGreatDoor
open Go.RowKit

theorem j2_ok {al ah bl bh : Int} {o : Out} (h : ivB2 al ah bl bh = 0) : j2 al ah bl bh o = o := by unfold j2; rw [if_pos h]
theorem j2_bad {al ah bl bh : Int} {o : Out} (h : ivB2 al ah bl bh = 8) : j2 al ah bl bh o = ⟨0, 0, 8⟩ := by unfold j2; rw [if_neg (by rw [h]; decide), h]
theorem j1_ok {al ah : Int} {o : Out} (h : ivC al ah = 0) : j1 al ah o = o := by unfold j1; rw [if_pos h]
theorem j1_bad {al ah : Int} {o : Out} (h : ivC al ah = 8) : j1 al ah o = ⟨0, 0, 8⟩ := by unfold j1; rw [if_neg (by rw [h]; decide), h]
theorem mk_eq {a b c d : Int} (h1 : a = c) (h2 : b = d) : mkI a b = mkI c d := by rw [h1, h2]
theorem ret_mk {X Y : Int} {o : Out} (h : mkI X Y = o) : Ending.returned (.tuple #[iv (mkI X Y).lo (mkI X Y).hi, .int .i64 (mkI X Y).err]) = .returned (.tuple #[iv o.lo o.hi, .int .i64 o.err]) := by rw [h]
theorem ret_out {a b c : Int} {o : Out} (h : o = ⟨a, b, c⟩) : Ending.returned (.tuple #[iv a b, .int .i64 c]) = .returned (.tuple #[iv o.lo o.hi, .int .i64 o.err]) := by rw [h]
theorem out_eq {a b c d : Int} (h1 : a = c) (h2 : b = d) : (⟨a, b, 0⟩ : Out) = ⟨c, d, 0⟩ := by rw [h1, h2]
theorem meet_no {al ah bl bh : Int} (g : ah < bl ∨ bh < al) : meetO al ah bl bh = ⟨0, 0, 6⟩ := by
  unfold meetO ordI
  by_cases h1 : ah < bl
  · rw [if_pos h1, if_neg (by decide)]
  · have h2 : bh < al := by omega
    rw [if_neg h1, if_pos h2, if_neg (by decide)]
theorem meet_yes {al ah bl bh : Int} (g : ¬ (ah < bl ∨ bh < al)) : meetO al ah bl bh = mkI (max al bl) (min ah bh) := by
  unfold meetO ordI
  have h1 : ¬ ah < bl := by omega
  have h2 : ¬ bh < al := by omega
  rw [if_neg h1, if_neg h2, if_pos rfl]
end Go.Proofs.YtglgfjknhplajaaGreatDoor

/- Intervals: Meet of package span; the laws of the words of both sides. -/
namespace Go.Proofs.YtglgfjknhplajaaGreatDoor
open Go.RowKit

theorem ord_no {al ah bl bh : Int} (g : ah < bl ∨ bh < al) : ordI al ah bl bh = -1 ∨ ordI al ah bl bh = 1 := by
  unfold ordI
  by_cases h1 : ah < bl
  · rw [if_pos h1]; exact .inl rfl
  · have h2 : bh < al := by omega
    rw [if_neg h1, if_pos h2]; exact .inr rfl
theorem ord_yes {al ah bl bh : Int} (g : ¬ (ah < bl ∨ bh < al)) : ordI al ah bl bh = 0 := by
  have h1 : ¬ ah < bl := by omega
  have h2 : ¬ bh < al := by omega
  unfold ordI; rw [if_neg h1, if_neg h2]
end Go.Proofs.YtglgfjknhplajaaGreatDoor

/- Intervals: times, quotient, Mul and Div of package span. -/
namespace Go.Proofs.YtglgfjknhplajaaGreatDoor
open Go.RowKit

def mulLo (al ah bl bh : Int) : Int := mn4 (al * bl) (al * bh) (ah * bl) (ah * bh) / 1099511627776
def mulHi (al ah bl bh : Int) : Int := cdiv (mx4 (al * bl) (al * bh) (ah * bl) (ah * bh)) 1099511627776
theorem mul_le (al ah bl bh : Int) : mulLo al ah bl bh ≤ mulHi al ah bl bh := by
  unfold mulLo mulHi
  have h : mn4 (al * bl) (al * bh) (ah * bl) (ah * bh) ≤ mx4 (al * bl) (al * bh) (ah * bl) (ah * bh) := mn_mx (Int.le_refl _) (Int.le_refl _) (Int.le_refl _) (Int.le_refl _)
  exact Int.le_trans (fdiv_le_cdiv (by omega)) (cdiv_mono (by omega) h)
/-- The ends of the quotients, the divisors greater than 0. -/
def dvLo (p q c d : Int) : Int := mn4 (p / c) (p / d) (q / c) (q / d)
def dvHi (p q c d : Int) : Int := mx4 (cdiv p c) (cdiv p d) (cdiv q c) (cdiv q d)
theorem dv_le {p q c d : Int} (hc : 0 < c) (hd : 0 < d) : dvLo p q c d ≤ dvHi p q c d := mn_mx (fdiv_le_cdiv hc) (fdiv_le_cdiv hd) (fdiv_le_cdiv hc) (fdiv_le_cdiv hd)
def divO (al ah bl bh : Int) : Out :=
  if bl ≤ 0 ∧ 0 ≤ bh then ⟨0, 0, 18⟩ else if 0 < bl then mkI (dvLo (al * 1099511627776) (ah * 1099511627776) bl bh) (dvHi (al * 1099511627776) (ah * 1099511627776) bl bh)
    else mkI (dvLo (-(ah * 1099511627776)) (-(al * 1099511627776)) (-bh) (-bl)) (dvHi (-(ah * 1099511627776)) (-(al * 1099511627776)) (-bh) (-bl))
set_option maxRecDepth 100000 in
theorem times_ex (al ah bl bh : Int) (ha : IvIn al ah) (hb : IvIn bl bh)  :
    ∃ lo hi, lo ≤ hi ∧ cl lo = cl (mulLo al ah bl bh) ∧ cl hi = cl (mulHi al ah bl bh) ∧ ∀ w, Calls Tryz.prog 30 #[iv al ah, iv bl bh] w (RV w lo hi) := by
  obtain ⟨x1, x2, x3⟩ := ha
  obtain ⟨y1, y2, y3⟩ := hb
  obtain ⟨l0, h0, u0, q0, r0, k0⟩ := tclos_ex al bl (by omega) (by omega) (by omega) (by omega)
  obtain ⟨l1, h1, u1, q1, r1, k1⟩ := tclos_ex al bh (by omega) (by omega) (by omega) (by omega)
  obtain ⟨l2, h2, u2, q2, r2, k2⟩ := tclos_ex ah bl (by omega) (by omega) (by omega) (by omega)
  obtain ⟨l3, h3, u3, q3, r3, k3⟩ := tclos_ex ah bh (by omega) (by omega) (by omega) (by omega)
  refine ⟨mn4 l0 l1 l2 l3, mx4 h0 h1 h2 h3, mn_mx u0 u1 u2 u3, ?_, ?_, fun w => ?_⟩
  · unfold mulLo; rw [mn4_cl q0 q1 q2 q3, mn4_fdiv (by omega)]
  · unfold mulHi; rw [mx4_cl r0 r1 r2 r3, mx4_cdiv (by omega)]
  have hcf : ∀ (u v : Value) (W : World), (callFunc 59 #[u, v]).run Tryz.prog W = .ok (.enter 59 #[u, v]) W := fun u v W => by go_simp
  have J := Lib.hid (fun W => corners_any W 59 al ah bl bh l0 h0 l1 h1 l2 h2 l3 h3 hcf k0 k1 k2 k3)
  have PR := Lib.hid (Pr.new ((w.alloc (ivB al ah)).alloc (ivB bl bh)) (w.heap.size + 1 + 1) (by simp) (.int .i64 0) (.int .i64 0) 23)
  have BW : Hid (Below w.heap.size w (((w.alloc (ivB al ah)).alloc (ivB bl bh)).alloc (ivB 0 0))) := sbal (sbal (sbal (Below.refl _ _) _) _) _
  clear hcf k0 k1 k2 k3 u0 u1 u2 u3 q0 q1 q2 q3 r0 r1 r2 r3
  generalize mn4 l0 l1 l2 l3 = lo at *
  generalize mx4 h0 h1 h2 h3 = hi at *
  go_enter Tryz.func30, Tryz.ntmps30
  go_wp2_with fail
  generalize ((w.alloc (ivB al ah)).alloc (ivB bl bh)).alloc (ivB 0 0) = W0 at *
  refine (J.out _).mono ?_
  rintro e w1 ⟨rfl, hb⟩
  have P3 := Lib.hid (PR.out.via hb)
  have B1 := Lib.hid (sbtr BW.out hb)
  clear hb PR BW J
  have ⟨r0, r1, f0, f1, rl⟩ := P3.out
  go_wp2
  exact post_iv1 Tryz.results30 rfl rfl (P3.out.set _ _) ⟨rfl, below_set2 B1.out (by omega) _ _⟩
set_option maxRecDepth 100000 in
theorem quotient_pos (al ah bl bh : Int) (ha : IvIn al ah) (hb : IvIn bl bh) (hp : 0 < bl) :
    ∃ lo hi, lo ≤ hi ∧ cl lo = cl (dvLo (al * 1099511627776) (ah * 1099511627776) bl bh) ∧ cl hi = cl (dvHi (al * 1099511627776) (ah * 1099511627776) bl bh) ∧ ∀ w, Calls Tryz.prog 39 #[iv al ah, iv bl bh] w (RV w lo hi) := by
  obtain ⟨x1, x2, x3⟩ := ha
  obtain ⟨y1, y2, y3⟩ := hb
  obtain ⟨l0, h0, u0, q0, r0, k0⟩ := qclos_ex al bl (by omega) (by omega) (by omega) (by omega) (by omega)
  obtain ⟨l1, h1, u1, q1, r1, k1⟩ := qclos_ex al bh (by omega) (by omega) (by omega) (by omega) (by omega)
  obtain ⟨l2, h2, u2, q2, r2, k2⟩ := qclos_ex ah bl (by omega) (by omega) (by omega) (by omega) (by omega)
  obtain ⟨l3, h3, u3, q3, r3, k3⟩ := qclos_ex ah bh (by omega) (by omega) (by omega) (by omega) (by omega)
  have e1 : ∀ x, qn x bl = x * 1099511627776 := fun x => by unfold qn; rw [if_neg (by omega)]
  have e2 : ∀ x, qn x bh = x * 1099511627776 := fun x => by unfold qn; rw [if_neg (by omega)]
  have n1 : (bl.natAbs : Int) = bl := by omega
  have n2 : (bh.natAbs : Int) = bh := by omega
  refine ⟨mn4 l0 l1 l2 l3, mx4 h0 h1 h2 h3, mn_mx u0 u1 u2 u3, ?_, ?_, fun w => ?_⟩
  · rw [mn4_cl q0 q1 q2 q3, e1, e1, e2, e2, n1, n2]; rfl
  · rw [mx4_cl r0 r1 r2 r3, e1, e1, e2, e2, n1, n2]; rfl
  have hcf : ∀ (u v : Value) (W : World), (callFunc 62 #[u, v]).run Tryz.prog W = .ok (.enter 62 #[u, v]) W := fun u v W => by go_simp
  have J := Lib.hid (fun W => corners_any W 62 al ah bl bh l0 h0 l1 h1 l2 h2 l3 h3 hcf k0 k1 k2 k3)
  have PR := Lib.hid (Pr.new ((w.alloc (ivB al ah)).alloc (ivB bl bh)) (w.heap.size + 1 + 1) (by simp) (.int .i64 0) (.int .i64 0) 23)
  have BW : Hid (Below w.heap.size w (((w.alloc (ivB al ah)).alloc (ivB bl bh)).alloc (ivB 0 0))) := sbal (sbal (sbal (Below.refl _ _) _) _) _
  clear e1 e2 n1 n2 hcf k0 k1 k2 k3 u0 u1 u2 u3 q0 q1 q2 q3 r0 r1 r2 r3
  generalize mn4 l0 l1 l2 l3 = lo at *
  generalize mx4 h0 h1 h2 h3 = hi at *
  go_enter Tryz.func39, Tryz.ntmps39
  go_wp2_with fail
  generalize ((w.alloc (ivB al ah)).alloc (ivB bl bh)).alloc (ivB 0 0) = W0 at *
  refine (J.out _).mono ?_
  rintro e w1 ⟨rfl, hb⟩
  have P3 := Lib.hid (PR.out.via hb)
  have B1 := Lib.hid (sbtr BW.out hb)
  clear hb PR BW J
  have ⟨r0, r1, f0, f1, rl⟩ := P3.out
  go_wp2
  exact post_iv1 Tryz.results39 rfl rfl (P3.out.set _ _) ⟨rfl, below_set2 B1.out (by omega) _ _⟩
set_option maxRecDepth 100000 in
theorem quotient_neg (al ah bl bh : Int) (ha : IvIn al ah) (hb : IvIn bl bh) (hp : bh < 0) :
    ∃ lo hi, lo ≤ hi ∧ cl lo = cl (dvLo (-(ah * 1099511627776)) (-(al * 1099511627776)) (-bh) (-bl)) ∧ cl hi = cl (dvHi (-(ah * 1099511627776)) (-(al * 1099511627776)) (-bh) (-bl)) ∧ ∀ w, Calls Tryz.prog 39 #[iv al ah, iv bl bh] w (RV w lo hi) := by
  obtain ⟨x1, x2, x3⟩ := ha
  obtain ⟨y1, y2, y3⟩ := hb
  obtain ⟨l0, h0, u0, q0, r0, k0⟩ := qclos_ex al bl (by omega) (by omega) (by omega) (by omega) (by omega)
  obtain ⟨l1, h1, u1, q1, r1, k1⟩ := qclos_ex al bh (by omega) (by omega) (by omega) (by omega) (by omega)
  obtain ⟨l2, h2, u2, q2, r2, k2⟩ := qclos_ex ah bl (by omega) (by omega) (by omega) (by omega) (by omega)
  obtain ⟨l3, h3, u3, q3, r3, k3⟩ := qclos_ex ah bh (by omega) (by omega) (by omega) (by omega) (by omega)
  have e1 : ∀ x, qn x bl = -(x * 1099511627776) := fun x => by unfold qn; rw [if_pos (by omega)]
  have e2 : ∀ x, qn x bh = -(x * 1099511627776) := fun x => by unfold qn; rw [if_pos (by omega)]
  have n1 : (bl.natAbs : Int) = -bl := by omega
  have n2 : (bh.natAbs : Int) = -bh := by omega
  refine ⟨mn4 l0 l1 l2 l3, mx4 h0 h1 h2 h3, mn_mx u0 u1 u2 u3, ?_, ?_, fun w => ?_⟩
  · rw [mn4_cl q0 q1 q2 q3, e1, e1, e2, e2, n1, n2]; congr 1; unfold dvLo mn4; omega
  · rw [mx4_cl r0 r1 r2 r3, e1, e1, e2, e2, n1, n2]; congr 1; unfold dvHi mx4; omega
  have hcf : ∀ (u v : Value) (W : World), (callFunc 62 #[u, v]).run Tryz.prog W = .ok (.enter 62 #[u, v]) W := fun u v W => by go_simp
  have J := Lib.hid (fun W => corners_any W 62 al ah bl bh l0 h0 l1 h1 l2 h2 l3 h3 hcf k0 k1 k2 k3)
  have PR := Lib.hid (Pr.new ((w.alloc (ivB al ah)).alloc (ivB bl bh)) (w.heap.size + 1 + 1) (by simp) (.int .i64 0) (.int .i64 0) 23)
  have BW : Hid (Below w.heap.size w (((w.alloc (ivB al ah)).alloc (ivB bl bh)).alloc (ivB 0 0))) := sbal (sbal (sbal (Below.refl _ _) _) _) _
  clear e1 e2 n1 n2 hcf k0 k1 k2 k3 u0 u1 u2 u3 q0 q1 q2 q3 r0 r1 r2 r3
  generalize mn4 l0 l1 l2 l3 = lo at *
  generalize mx4 h0 h1 h2 h3 = hi at *
  go_enter Tryz.func39, Tryz.ntmps39
  go_wp2_with fail
  generalize ((w.alloc (ivB al ah)).alloc (ivB bl bh)).alloc (ivB 0 0) = W0 at *
  refine (J.out _).mono ?_
  rintro e w1 ⟨rfl, hb⟩
  have P3 := Lib.hid (PR.out.via hb)
  have B1 := Lib.hid (sbtr BW.out hb)
  clear hb PR BW J
  have ⟨r0, r1, f0, f1, rl⟩ := P3.out
  go_wp2
  exact post_iv1 Tryz.results39 rfl rfl (P3.out.set _ _) ⟨rfl, below_set2 B1.out (by omega) _ _⟩
theorem j2_bad2 {al ah bl bh : Int} (o o' : Out) (h : ivB2 al ah bl bh = 8) : j2 al ah bl bh o = j2 al ah bl bh o' := by rw [j2_bad h, j2_bad h]
set_option maxRecDepth 100000 in
theorem smulp_any (w : World) (al ah bl bh : Int) : Calls Tryz.prog 12 #[iv al ah, iv bl bh] w (RO w (j2 al ah bl bh (mkI (mulLo al ah bl bh) (mulHi al ah bl bh)))) := by
  have hcf : ∀ (u v : Value) (W : World), (callFunc 30 #[u, v]).run Tryz.prog W = .ok (.enter 30 #[u, v]) W := fun u v W => by go_simp
  have hJ : ∀ W, Calls Tryz.prog 26 #[iv al ah, iv bl bh, .func (.func 30) #[] #[]] W (RO W (j2 al ah bl bh (mkI (mulLo al ah bl bh) (mulHi al ah bl bh)))) := fun W => by
    rcases ivB2_cases al ah bl bh with ⟨h, ha, hb⟩ | h
    · obtain ⟨lo, hi, h1, h2, h3, h4⟩ := times_ex al ah bl bh (ivIn_of ha) (ivIn_of hb)
      rw [← mkI_cl h2 h3 h1 (mul_le _ _ _ _)]
      exact join_any W 30 al ah bl bh lo hi hcf fun _ _ => ⟨h1, h4⟩
    · rw [j2_bad2 _ (mkI 0 0) h]
      exact join_any W 30 al ah bl bh 0 0 hcf fun ha hb => by rw [ivB2_ok ha, hb] at h; cases h
  have J := Lib.hid hJ
  clear hJ hcf
  generalize j2 al ah bl bh (mkI (mulLo al ah bl bh) (mulHi al ah bl bh)) = o at *
  have PR := Lib.hid (Pr.new ((w.alloc (ivB al ah)).alloc (ivB bl bh)) (w.heap.size + 1 + 1) (by simp) (.int .i64 0) (.int .i64 0) 23)
  have BW : Hid (Below w.heap.size w (((w.alloc (ivB al ah)).alloc (ivB bl bh)).alloc (ivB 0 0))) := sbal (sbal (sbal (Below.refl _ _) _) _) _
  go_enter Tryz.func12, Tryz.ntmps12
  go_wp2_with fail
  generalize ((w.alloc (ivB al ah)).alloc (ivB bl bh)).alloc (ivB 0 0) = W0 at *
  refine (J.out _).mono ?_
  rintro e w1 ⟨rfl, hb⟩
  have P3 := Lib.hid (PR.out.via hb)
  have B1 := Lib.hid (sbtr BW.out hb)
  clear hb PR BW J
  have ⟨r0, r1, f0, f1, rl⟩ := P3.out
  go_wp2
  exact post_iv Tryz.results12 rfl rfl (P3.out.set _ _) ⟨rfl, below_set2 B1.out (by omega) _ _⟩
set_option maxRecDepth 100000 in
set_option maxHeartbeats 1000000 in
theorem sdiv_any (w : World) (al ah bl bh : Int) : Calls Tryz.prog 16 #[iv al ah, iv bl bh] w (RO w (j2 al ah bl bh (divO al ah bl bh))) := by
  have PA := Lib.hid (((Pr.new w (w.heap.size) rfl (.int .i64 al) (.int .i64 ah) 23).alloc (ivB bl bh)).alloc (ivB 0 0))
  have PB := Lib.hid ((Pr.new (w.alloc (ivB al ah)) (w.heap.size + 1) (by simp) (.int .i64 bl) (.int .i64 bh) 23).alloc (ivB 0 0))
  have PR := Lib.hid (Pr.new ((w.alloc (ivB al ah)).alloc (ivB bl bh)) (w.heap.size + 1 + 1) (by simp) (.int .i64 0) (.int .i64 0) 23)
  have BW : Hid (Below w.heap.size w (((w.alloc (ivB al ah)).alloc (ivB bl bh)).alloc (ivB 0 0))) := (sbal (sbal (sbal (Below.refl _ _) _) _) _)
  have hs : (((w.alloc (ivB al ah)).alloc (ivB bl bh)).alloc (ivB 0 0)).heap.size = w.heap.size + 1 + 1 + 1 := by simp
  have HS := Lib.hid hs
  clear hs
  go_enter Tryz.func16, Tryz.ntmps16
  go_wp2_with fail
  generalize ((w.alloc (ivB al ah)).alloc (ivB bl bh)).alloc (ivB 0 0) = W0 at *
  refine (checkall_any _ _ al ah bl bh (C4.new W0 _ HS.out _ _ _ _ _)).mono ?_
  rintro e w1 ⟨rfl, hb⟩
  have P1 := Lib.hid (PA.out.via (bbox hb))
  have P2 := Lib.hid (PB.out.via (bbox hb))
  have P3 := Lib.hid (PR.out.via (bbox hb))
  have B1 := Lib.hid (sbtr BW.out (bbox hb))
  clear hb PA PB PR BW HS
  rcases ivB2_cases al ah bl bh with ⟨h, ha, hbb⟩ | h
  · rw [h]
    have HH := Lib.hid h
    have HA := Lib.hid ha
    have HB := Lib.hid hbb
    have ⟨x1, x2, x3⟩ := ivC_le ha
    have ⟨y1, y2, y3⟩ := ivC_le hbb
    clear h ha hbb
    have ⟨a0, a1, a2, a3, a4⟩ := P1.out
    have ⟨b0, b1, b2, b3, b4⟩ := P2.out
    by_cases g1 : bl ≤ 0
    · by_cases g2 : 0 ≤ bh
      · have HM : Hid (divO al ah bl bh = ⟨0, 0, 18⟩) := by show _ = _; unfold divO; rw [if_pos ⟨g1, g2⟩]
        have ⟨r0, r1, r2, r3, r4⟩ := P3.out
        go_wp2
        exact post_iv Tryz.results16 rfl rfl (P3.out.set _ _) ⟨ret_out ((j2_ok HH.out).trans HM.out), below_set2 B1.out (by omega) _ _⟩
      · obtain ⟨lo, hi, h1, h2, h3, h4⟩ := quotient_neg al ah bl bh (ivIn_of HA.out) (ivIn_of HB.out) (by omega)
        have HM : Hid (divO al ah bl bh = mkI lo hi) := by show _ = _; unfold divO; rw [if_neg (by omega), if_neg (by omega), mkI_cl h2 h3 h1 (dv_le (by omega) (by omega))]
        have HQ := Lib.hid h4
        clear h2 h3 h4 HA HB
        have hd : decide (0 ≤ bh) = false := decide_eq_false g2
        go_wp2_with fail
        refine (HQ.out _).mono ?_
        rintro e w2 ⟨rfl, hb⟩
        have B2 := Lib.hid (sbtr B1.out hb)
        have Q3 := Lib.hid (P3.out.via hb)
        clear hb HQ a0 a1 a2 a3 a4 b0 b1 b2 b3 b4
        go_wp2_with fail
        refine (smade_any _ lo hi h1).mono ?_
        rintro e w3 ⟨rfl, hb⟩
        have B3 := Lib.hid (sbtr B2.out hb)
        have P5 := Lib.hid (Q3.out.via hb)
        clear hb
        have ⟨r0, r1, r2, r3, r4⟩ := P5.out
        go_wp2
        exact post_iv Tryz.results16 rfl rfl (P5.out.set _ _) ⟨ret_mk (HM.out.symm.trans (j2_ok HH.out).symm), below_set2 B3.out (by omega) _ _⟩
    · obtain ⟨lo, hi, h1, h2, h3, h4⟩ := quotient_pos al ah bl bh (ivIn_of HA.out) (ivIn_of HB.out) (by omega)
      have HM : Hid (divO al ah bl bh = mkI lo hi) := by show _ = _; unfold divO; rw [if_neg (by omega), if_pos (by omega), mkI_cl h2 h3 h1 (dv_le (by omega) (by omega))]
      have HQ := Lib.hid h4
      clear h2 h3 h4 HA HB
      have hd : decide (bl ≤ 0) = false := decide_eq_false g1
      go_wp2_with fail
      refine (HQ.out _).mono ?_
      rintro e w2 ⟨rfl, hb⟩
      have B2 := Lib.hid (sbtr B1.out hb)
      have Q3 := Lib.hid (P3.out.via hb)
      clear hb HQ a0 a1 a2 a3 a4 b0 b1 b2 b3 b4
      go_wp2_with fail
      refine (smade_any _ lo hi h1).mono ?_
      rintro e w3 ⟨rfl, hb⟩
      have B3 := Lib.hid (sbtr B2.out hb)
      have P5 := Lib.hid (Q3.out.via hb)
      clear hb
      have ⟨r0, r1, r2, r3, r4⟩ := P5.out
      go_wp2
      exact post_iv Tryz.results16 rfl rfl (P5.out.set _ _) ⟨ret_mk (HM.out.symm.trans (j2_ok HH.out).symm), below_set2 B3.out (by omega) _ _⟩
  · rw [h]
    have HH := Lib.hid h
    clear h
    have ⟨r0, r1, r2, r3, r4⟩ := P3.out
    go_wp2
    exact post_iv Tryz.results16 rfl rfl (P3.out.set _ _) ⟨by rw [j2_bad HH.out]; rfl, below_set2 B1.out (by omega) _ _⟩
end Go.Proofs.YtglgfjknhplajaaGreatDoor

/- Intervals: less of the reference. -/
namespace Go.Proofs.YtglgfjknhplajaaGreatDoor
open Go.RowKit

def RB1 (w : World) (v : Bool) (e : Ending) (w' : World) : Prop := e = .returned (.bool v) ∧ Below w.heap.size w w'
def ltB (H L H' L' : Nat) : Bool := decide (H < H') || (decide (H = H') && decide (L < L'))
theorem sdrew {B : Nat} {a w : World} (h : Below B a w) : Below B a w.drew := bdrewN h 1
theorem ltB_iff (N M : Nat) : ltB (N / 18446744073709551616) (N % 18446744073709551616) (M / 18446744073709551616) (M % 18446744073709551616) = decide (N < M) := by
  unfold ltB
  by_cases h : N < M
  · rw [decide_eq_true h]
    by_cases h1 : N / 18446744073709551616 < M / 18446744073709551616
    · rw [decide_eq_true h1]; rfl
    · have h2 : N / 18446744073709551616 = M / 18446744073709551616 := by omega
      have h3 : N % 18446744073709551616 < M % 18446744073709551616 := by omega
      rw [decide_eq_true h2, decide_eq_true h3]; simp
  · rw [decide_eq_false h]
    have h1 : ¬ N / 18446744073709551616 < M / 18446744073709551616 := by omega
    rw [decide_eq_false h1]
    by_cases h2 : N / 18446744073709551616 = M / 18446744073709551616
    · have h3 : ¬ N % 18446744073709551616 < M % 18446744073709551616 := by omega
      rw [decide_eq_false h3]; simp
    · rw [decide_eq_false h2]; rfl
theorem sgT_pos {x y : Int} (h : sgT x y = true) : 0 < x.natAbs * y.natAbs := ((sgT_iff x y).1 h).2
end Go.Proofs.YtglgfjknhplajaaGreatDoor

/- Fractions of the reference by what they are worth: number, Plus, Minus, Times, Over, Neg, Cmp. -/
namespace Go.Proofs.YtglgfjknhplajaaGreatDoor
open Go.RowKit

/-- A call returns a fraction in lowest terms that is worth u / v. -/
def RF1 (w : World) (k : Nat) (u v : Int) (e : Ending) (w' : World) : Prop := ∃ p q z A n c B m cb, decide (p < 0) = z ∧ FrV k p q u v ∧ e = .returned (fv z A n c false B m cb) ∧ Lm w' w'.heap.size A n c (digs p.natAbs) ∧ Lm w' w'.heap.size B m cb (digs q.natAbs) ∧ Below w.heap.size w w'
def RF2 (w : World) (k : Nat) (u v : Int) (e : Ending) (w' : World) : Prop := ∃ p q z A n c B m cb, decide (p < 0) = z ∧ FrV k p q u v ∧ e = .returned (.tuple #[fv z A n c false B m cb, .int .i64 0]) ∧ Lm w' w'.heap.size A n c (digs p.natAbs) ∧ Lm w' w'.heap.size B m cb (digs q.natAbs) ∧ Below w.heap.size w w'
theorem rfr_rf1 {w : World} {k : Nat} {p q u v : Int} (h : FrV k p q u v) {e : Ending} {w' : World} (hr : RFr w p q e w') : RF1 w k u v e w' := by
  obtain ⟨A, n, c, B, m, cb, he, h1, h2, h3⟩ := hr
  refine ⟨p, q, _, A, n, c, B, m, cb, rfl, h, ?_, h1, h2, h3⟩
  rw [he, decide_eq_false (show ¬ q < 0 by have := h.pos; omega)]
theorem rfe_rf2 {w : World} {k : Nat} {p q u v : Int} (h : FrV k p q u v) {e : Ending} {w' : World} (hr : RFE w p q e w') : RF2 w k u v e w' := by
  obtain ⟨A, n, c, B, m, cb, he, h1, h2, h3⟩ := hr
  refine ⟨p, q, _, A, n, c, B, m, cb, rfl, h, ?_, h1, h2, h3⟩
  rw [he, decide_eq_false (show ¬ q < 0 by have := h.pos; omega)]
/-- Block g is a box of a fraction in lowest terms that is worth u / v. -/
def Fx (w : World) (g k : Nat) (u v : Int) : Prop := ∃ p q z A n c B m cb, decide (p < 0) = z ∧ FrV k p q u v ∧ Qd w g (.bool z) (.slice A n c) (.bool false) (.slice B m cb) ∧ Lm w w.heap.size A n c (digs p.natAbs) ∧ Lm w w.heap.size B m cb (digs q.natAbs)
theorem Fx.via {w w' : World} {g k : Nat} {u v : Int} (h : Fx w g k u v) (hb : Below w.heap.size w w') : Fx w' g k u v := by
  obtain ⟨p, q, z, A, n, c, B, m, cb, h1, h2, h3, h4, h5⟩ := h
  exact ⟨p, q, z, A, n, c, B, m, cb, h1, h2, h3.via hb, h4.via hb, h5.via hb⟩
theorem Fx.alloc {w : World} {g k : Nat} {u v : Int} (h : Fx w g k u v) (o : Obj) : Fx (w.alloc o) g k u v := h.via ((Below.refl _ _).alloc (Nat.le_refl _) o)
theorem Fx.drew {w : World} {g k : Nat} {u v : Int} (h : Fx w g k u v) : Fx w.drew g k u v := h.via (sdrew (Below.refl _ _))
theorem Fx.lt {w : World} {g k : Nat} {u v : Int} (h : Fx w g k u v) : g < w.heap.size := by
  obtain ⟨p, q, z, A, n, c, B, m, cb, h1, h2, h3, h4, h5⟩ := h
  exact h3.lt
theorem Fx.mono {w : World} {g k l : Nat} {u v : Int} (h : Fx w g k u v) (hl : k ≤ l) : Fx w g l u v := by
  obtain ⟨p, q, z, A, n, c, B, m, cb, h1, h2, h3, h4, h5⟩ := h
  exact ⟨p, q, z, A, n, c, B, m, cb, h1, h2.mono hl, h3, h4, h5⟩
theorem Fx.new {w : World} {k : Nat} {u v p q : Int} {z : Bool} {A : Option Addr} {n c : Nat} {B : Option Addr} {m cb : Nat} (t : TypeId) (hz : decide (p < 0) = z) (hf : FrV k p q u v) (hA : Lm w w.heap.size A n c (digs p.natAbs)) (hB : Lm w w.heap.size B m cb (digs q.natAbs)) :
    Fx (w.alloc (.cells #[.bool z, .slice A n c, .bool false, .slice B m cb] t)) w.heap.size k u v :=
  ⟨p, q, z, A, n, c, B, m, cb, hz, hf, Qd.new w _ rfl _ _ _ _ t, hA.box _, hB.box _⟩
set_option maxRecDepth 100000 in
set_option maxHeartbeats 4000000 in
theorem rplus_w (w : World) (na nb nc nd : Bool) (A B C D : Option Addr) (n m r s ca cb cc cd : Nat) (xs ys us vs : List Nat) (hA : Lm w w.heap.size A n ca xs) (hB : Lm w w.heap.size B m cb ys) (hC : Lm w w.heap.size C r cc us) (hD : Lm w w.heap.size D s cd vs) (p q : Int)
    (H : ∀ W, Lm W W.heap.size A n ca xs → Lm W W.heap.size B m cb ys → Lm W W.heap.size C r cc us → Lm W W.heap.size D s cd vs → Calls Tryz.prog 28 #[fv na A n ca nb B m cb, fv nc C r cc nd D s cd, .bool false] W (RFE W p q)) :
    Calls Tryz.prog 9 #[fv na A n ca nb B m cb, fv nc C r cc nd D s cd] w (RFE w p q) := by
  have HA := Lib.hid hA
  have HB := Lib.hid hB
  have HC := Lib.hid hC
  have HD := Lib.hid hD
  clear hA hB hC hD
  have HH := Lib.hid H
  clear H
  go_enter Tryz.func9, Tryz.ntmps9
  have QA := Lib.hid (((Qd.new w (w.heap.size) rfl (.bool na) (.slice A n ca) (.bool nb) (.slice B m cb) 31).alloc (.cells #[.bool nc, .slice C r cc, .bool nd, .slice D s cd] 31)).alloc (.cells #[.bool false, .slice none 0 0, .bool false, .slice none 0 0] 31))
  have QB := Lib.hid ((Qd.new (w.alloc (.cells #[.bool na, .slice A n ca, .bool nb, .slice B m cb] 31)) (w.heap.size + 1) (by simp) (.bool nc) (.slice C r cc) (.bool nd) (.slice D s cd) 31).alloc (.cells #[.bool false, .slice none 0 0, .bool false, .slice none 0 0] 31))
  have QR := Lib.hid (Qd.new ((w.alloc (.cells #[.bool na, .slice A n ca, .bool nb, .slice B m cb] 31)).alloc (.cells #[.bool nc, .slice C r cc, .bool nd, .slice D s cd] 31)) (w.heap.size + 1 + 1) (by simp) (.bool false) (.slice none 0 0) (.bool false) (.slice none 0 0) 31)
  have LA := Lib.hid (((HA.out.box (.cells #[.bool na, .slice A n ca, .bool nb, .slice B m cb] 31)).box (.cells #[.bool nc, .slice C r cc, .bool nd, .slice D s cd] 31)).box (.cells #[.bool false, .slice none 0 0, .bool false, .slice none 0 0] 31))
  have LB := Lib.hid (((HB.out.box (.cells #[.bool na, .slice A n ca, .bool nb, .slice B m cb] 31)).box (.cells #[.bool nc, .slice C r cc, .bool nd, .slice D s cd] 31)).box (.cells #[.bool false, .slice none 0 0, .bool false, .slice none 0 0] 31))
  have LC := Lib.hid (((HC.out.box (.cells #[.bool na, .slice A n ca, .bool nb, .slice B m cb] 31)).box (.cells #[.bool nc, .slice C r cc, .bool nd, .slice D s cd] 31)).box (.cells #[.bool false, .slice none 0 0, .bool false, .slice none 0 0] 31))
  have LD := Lib.hid (((HD.out.box (.cells #[.bool na, .slice A n ca, .bool nb, .slice B m cb] 31)).box (.cells #[.bool nc, .slice C r cc, .bool nd, .slice D s cd] 31)).box (.cells #[.bool false, .slice none 0 0, .bool false, .slice none 0 0] 31))
  have BW : Hid (Below w.heap.size w (((w.alloc (.cells #[.bool na, .slice A n ca, .bool nb, .slice B m cb] 31)).alloc (.cells #[.bool nc, .slice C r cc, .bool nd, .slice D s cd] 31)).alloc (.cells #[.bool false, .slice none 0 0, .bool false, .slice none 0 0] 31))) := (sbal (sbal (sbal (Below.refl _ _) _) _) _)
  clear HA HB HC HD
  go_wp2_with fail
  generalize ((w.alloc (.cells #[.bool na, .slice A n ca, .bool nb, .slice B m cb] 31)).alloc (.cells #[.bool nc, .slice C r cc, .bool nd, .slice D s cd] 31)).alloc (.cells #[.bool false, .slice none 0 0, .bool false, .slice none 0 0] 31) = W0 at *
  refine (HH.out _ LA.out LB.out LC.out LD.out).mono ?_
  rintro e w1 ⟨A5, n5, c5, A6, n6, c6, rfl, hL5, hL6, hb⟩
  clear LA
  clear LB
  clear LC
  clear LD
  clear QA
  clear QB
  replace QR := Lib.hid (QR.out.via hb)
  replace BW := Lib.hid (btr BW.out hb)
  have L5 := Lib.hid hL5
  have L6 := Lib.hid hL6
  clear hb hL5 hL6
  obtain ⟨z5, hz5⟩ : ∃ b, decide (p < 0) = b := ⟨_, rfl⟩
  rw [hz5]
  have Hz5 := Lib.hid hz5
  clear hz5
  obtain ⟨z6, hz6⟩ : ∃ b, decide (q < 0) = b := ⟨_, rfl⟩
  rw [hz6]
  have Hz6 := Lib.hid hz6
  clear hz6
  have ⟨rQR0, rQR1, rQR2, rQR3, rQR4, rQR5, rQR6, rQR7, rQRl⟩ := QR.out
  go_wp2
  exact post_f Tryz.results9 rfl rfl (QR.out.set (.bool z5) (.slice A5 n5 c5) (.bool z6) (.slice A6 n6 c6)) ⟨A5, n5, c5, A6, n6, c6, by rw [Hz5.out, Hz6.out]; rfl, L5.out.put4 QR.out _ _ _ _, L6.out.put4 QR.out _ _ _ _, below_put4 BW.out (by omega) _ _ _ _⟩

set_option maxRecDepth 100000 in
set_option maxHeartbeats 4000000 in
theorem rminus_w (w : World) (na nb nc nd : Bool) (A B C D : Option Addr) (n m r s ca cb cc cd : Nat) (xs ys us vs : List Nat) (hA : Lm w w.heap.size A n ca xs) (hB : Lm w w.heap.size B m cb ys) (hC : Lm w w.heap.size C r cc us) (hD : Lm w w.heap.size D s cd vs) (p q : Int)
    (H : ∀ W, Lm W W.heap.size A n ca xs → Lm W W.heap.size B m cb ys → Lm W W.heap.size C r cc us → Lm W W.heap.size D s cd vs → Calls Tryz.prog 28 #[fv na A n ca nb B m cb, fv nc C r cc nd D s cd, .bool true] W (RFE W p q)) :
    Calls Tryz.prog 11 #[fv na A n ca nb B m cb, fv nc C r cc nd D s cd] w (RFE w p q) := by
  have HA := Lib.hid hA
  have HB := Lib.hid hB
  have HC := Lib.hid hC
  have HD := Lib.hid hD
  clear hA hB hC hD
  have HH := Lib.hid H
  clear H
  go_enter Tryz.func11, Tryz.ntmps11
  have QA := Lib.hid (((Qd.new w (w.heap.size) rfl (.bool na) (.slice A n ca) (.bool nb) (.slice B m cb) 31).alloc (.cells #[.bool nc, .slice C r cc, .bool nd, .slice D s cd] 31)).alloc (.cells #[.bool false, .slice none 0 0, .bool false, .slice none 0 0] 31))
  have QB := Lib.hid ((Qd.new (w.alloc (.cells #[.bool na, .slice A n ca, .bool nb, .slice B m cb] 31)) (w.heap.size + 1) (by simp) (.bool nc) (.slice C r cc) (.bool nd) (.slice D s cd) 31).alloc (.cells #[.bool false, .slice none 0 0, .bool false, .slice none 0 0] 31))
  have QR := Lib.hid (Qd.new ((w.alloc (.cells #[.bool na, .slice A n ca, .bool nb, .slice B m cb] 31)).alloc (.cells #[.bool nc, .slice C r cc, .bool nd, .slice D s cd] 31)) (w.heap.size + 1 + 1) (by simp) (.bool false) (.slice none 0 0) (.bool false) (.slice none 0 0) 31)
  have LA := Lib.hid (((HA.out.box (.cells #[.bool na, .slice A n ca, .bool nb, .slice B m cb] 31)).box (.cells #[.bool nc, .slice C r cc, .bool nd, .slice D s cd] 31)).box (.cells #[.bool false, .slice none 0 0, .bool false, .slice none 0 0] 31))
  have LB := Lib.hid (((HB.out.box (.cells #[.bool na, .slice A n ca, .bool nb, .slice B m cb] 31)).box (.cells #[.bool nc, .slice C r cc, .bool nd, .slice D s cd] 31)).box (.cells #[.bool false, .slice none 0 0, .bool false, .slice none 0 0] 31))
  have LC := Lib.hid (((HC.out.box (.cells #[.bool na, .slice A n ca, .bool nb, .slice B m cb] 31)).box (.cells #[.bool nc, .slice C r cc, .bool nd, .slice D s cd] 31)).box (.cells #[.bool false, .slice none 0 0, .bool false, .slice none 0 0] 31))
  have LD := Lib.hid (((HD.out.box (.cells #[.bool na, .slice A n ca, .bool nb, .slice B m cb] 31)).box (.cells #[.bool nc, .slice C r cc, .bool nd, .slice D s cd] 31)).box (.cells #[.bool false, .slice none 0 0, .bool false, .slice none 0 0] 31))
  have BW : Hid (Below w.heap.size w (((w.alloc (.cells #[.bool na, .slice A n ca, .bool nb, .slice B m cb] 31)).alloc (.cells #[.bool nc, .slice C r cc, .bool nd, .slice D s cd] 31)).alloc (.cells #[.bool false, .slice none 0 0, .bool false, .slice none 0 0] 31))) := (sbal (sbal (sbal (Below.refl _ _) _) _) _)
  clear HA HB HC HD
  go_wp2_with fail
  generalize ((w.alloc (.cells #[.bool na, .slice A n ca, .bool nb, .slice B m cb] 31)).alloc (.cells #[.bool nc, .slice C r cc, .bool nd, .slice D s cd] 31)).alloc (.cells #[.bool false, .slice none 0 0, .bool false, .slice none 0 0] 31) = W0 at *
  refine (HH.out _ LA.out LB.out LC.out LD.out).mono ?_
  rintro e w1 ⟨A5, n5, c5, A6, n6, c6, rfl, hL5, hL6, hb⟩
  clear LA
  clear LB
  clear LC
  clear LD
  clear QA
  clear QB
  replace QR := Lib.hid (QR.out.via hb)
  replace BW := Lib.hid (btr BW.out hb)
  have L5 := Lib.hid hL5
  have L6 := Lib.hid hL6
  clear hb hL5 hL6
  obtain ⟨z5, hz5⟩ : ∃ b, decide (p < 0) = b := ⟨_, rfl⟩
  rw [hz5]
  have Hz5 := Lib.hid hz5
  clear hz5
  obtain ⟨z6, hz6⟩ : ∃ b, decide (q < 0) = b := ⟨_, rfl⟩
  rw [hz6]
  have Hz6 := Lib.hid hz6
  clear hz6
  have ⟨rQR0, rQR1, rQR2, rQR3, rQR4, rQR5, rQR6, rQR7, rQRl⟩ := QR.out
  go_wp2
  exact post_f Tryz.results11 rfl rfl (QR.out.set (.bool z5) (.slice A5 n5 c5) (.bool z6) (.slice A6 n6 c6)) ⟨A5, n5, c5, A6, n6, c6, by rw [Hz5.out, Hz6.out]; rfl, L5.out.put4 QR.out _ _ _ _, L6.out.put4 QR.out _ _ _ _, below_put4 BW.out (by omega) _ _ _ _⟩

set_option maxRecDepth 100000 in
set_option maxHeartbeats 4000000 in
theorem rtimes_w (w : World) (na nb nc nd : Bool) (A B C D : Option Addr) (n m r s ca cb cc cd : Nat) (xs ys us vs : List Nat) (hA : Lm w w.heap.size A n ca xs) (hB : Lm w w.heap.size B m cb ys) (hC : Lm w w.heap.size C r cc us) (hD : Lm w w.heap.size D s cd vs) (p q : Int)
    (H : ∀ W, Lm W W.heap.size A n ca xs → Lm W W.heap.size B m cb ys → Lm W W.heap.size C r cc us → Lm W W.heap.size D s cd vs → Calls Tryz.prog 31 #[.agg #[.bool na, .slice A n ca], .agg #[.bool nc, .slice C r cc], .agg #[.bool nb, .slice B m cb], .agg #[.bool nd, .slice D s cd]] W (RFE W p q)) :
    Calls Tryz.prog 13 #[fv na A n ca nb B m cb, fv nc C r cc nd D s cd] w (RFE w p q) := by
  have HA := Lib.hid hA
  have HB := Lib.hid hB
  have HC := Lib.hid hC
  have HD := Lib.hid hD
  clear hA hB hC hD
  have HH := Lib.hid H
  clear H
  go_enter Tryz.func13, Tryz.ntmps13
  have QA := Lib.hid (((Qd.new w (w.heap.size) rfl (.bool na) (.slice A n ca) (.bool nb) (.slice B m cb) 31).alloc (.cells #[.bool nc, .slice C r cc, .bool nd, .slice D s cd] 31)).alloc (.cells #[.bool false, .slice none 0 0, .bool false, .slice none 0 0] 31))
  have QB := Lib.hid ((Qd.new (w.alloc (.cells #[.bool na, .slice A n ca, .bool nb, .slice B m cb] 31)) (w.heap.size + 1) (by simp) (.bool nc) (.slice C r cc) (.bool nd) (.slice D s cd) 31).alloc (.cells #[.bool false, .slice none 0 0, .bool false, .slice none 0 0] 31))
  have QR := Lib.hid (Qd.new ((w.alloc (.cells #[.bool na, .slice A n ca, .bool nb, .slice B m cb] 31)).alloc (.cells #[.bool nc, .slice C r cc, .bool nd, .slice D s cd] 31)) (w.heap.size + 1 + 1) (by simp) (.bool false) (.slice none 0 0) (.bool false) (.slice none 0 0) 31)
  have LA := Lib.hid (((HA.out.box (.cells #[.bool na, .slice A n ca, .bool nb, .slice B m cb] 31)).box (.cells #[.bool nc, .slice C r cc, .bool nd, .slice D s cd] 31)).box (.cells #[.bool false, .slice none 0 0, .bool false, .slice none 0 0] 31))
  have LB := Lib.hid (((HB.out.box (.cells #[.bool na, .slice A n ca, .bool nb, .slice B m cb] 31)).box (.cells #[.bool nc, .slice C r cc, .bool nd, .slice D s cd] 31)).box (.cells #[.bool false, .slice none 0 0, .bool false, .slice none 0 0] 31))
  have LC := Lib.hid (((HC.out.box (.cells #[.bool na, .slice A n ca, .bool nb, .slice B m cb] 31)).box (.cells #[.bool nc, .slice C r cc, .bool nd, .slice D s cd] 31)).box (.cells #[.bool false, .slice none 0 0, .bool false, .slice none 0 0] 31))
  have LD := Lib.hid (((HD.out.box (.cells #[.bool na, .slice A n ca, .bool nb, .slice B m cb] 31)).box (.cells #[.bool nc, .slice C r cc, .bool nd, .slice D s cd] 31)).box (.cells #[.bool false, .slice none 0 0, .bool false, .slice none 0 0] 31))
  have BW : Hid (Below w.heap.size w (((w.alloc (.cells #[.bool na, .slice A n ca, .bool nb, .slice B m cb] 31)).alloc (.cells #[.bool nc, .slice C r cc, .bool nd, .slice D s cd] 31)).alloc (.cells #[.bool false, .slice none 0 0, .bool false, .slice none 0 0] 31))) := (sbal (sbal (sbal (Below.refl _ _) _) _) _)
  clear HA HB HC HD
  go_wp2_with fail
  generalize ((w.alloc (.cells #[.bool na, .slice A n ca, .bool nb, .slice B m cb] 31)).alloc (.cells #[.bool nc, .slice C r cc, .bool nd, .slice D s cd] 31)).alloc (.cells #[.bool false, .slice none 0 0, .bool false, .slice none 0 0] 31) = W0 at *
  refine (HH.out _ LA.out LB.out LC.out LD.out).mono ?_
  rintro e w1 ⟨A5, n5, c5, A6, n6, c6, rfl, hL5, hL6, hb⟩
  clear LA
  clear LB
  clear LC
  clear LD
  clear QA
  clear QB
  replace QR := Lib.hid (QR.out.via hb)
  replace BW := Lib.hid (btr BW.out hb)
  have L5 := Lib.hid hL5
  have L6 := Lib.hid hL6
  clear hb hL5 hL6
  obtain ⟨z5, hz5⟩ : ∃ b, decide (p < 0) = b := ⟨_, rfl⟩
  rw [hz5]
  have Hz5 := Lib.hid hz5
  clear hz5
  obtain ⟨z6, hz6⟩ : ∃ b, decide (q < 0) = b := ⟨_, rfl⟩
  rw [hz6]
  have Hz6 := Lib.hid hz6
  clear hz6
  have ⟨rQR0, rQR1, rQR2, rQR3, rQR4, rQR5, rQR6, rQR7, rQRl⟩ := QR.out
  go_wp2
  exact post_f Tryz.results13 rfl rfl (QR.out.set (.bool z5) (.slice A5 n5 c5) (.bool z6) (.slice A6 n6 c6)) ⟨A5, n5, c5, A6, n6, c6, by rw [Hz5.out, Hz6.out]; rfl, L5.out.put4 QR.out _ _ _ _, L6.out.put4 QR.out _ _ _ _, below_put4 BW.out (by omega) _ _ _ _⟩

set_option maxRecDepth 100000 in
set_option maxHeartbeats 4000000 in
theorem rover_w (w : World) (na nb nc nd : Bool) (A B C D : Option Addr) (n m r s ca cb cc cd : Nat) (xs ys us vs : List Nat) (hA : Lm w w.heap.size A n ca xs) (hB : Lm w w.heap.size B m cb ys) (hC : Lm w w.heap.size C r cc us) (hD : Lm w w.heap.size D s cd vs) (p q : Int)
    (H : ∀ W, Lm W W.heap.size A n ca xs → Lm W W.heap.size B m cb ys → Lm W W.heap.size C r cc us → Lm W W.heap.size D s cd vs → Calls Tryz.prog 31 #[.agg #[.bool na, .slice A n ca], .agg #[.bool nd, .slice D s cd], .agg #[.bool nb, .slice B m cb], .agg #[.bool nc, .slice C r cc]] W (RFE W p q)) :
    Calls Tryz.prog 17 #[fv na A n ca nb B m cb, fv nc C r cc nd D s cd] w (RFE w p q) := by
  have HA := Lib.hid hA
  have HB := Lib.hid hB
  have HC := Lib.hid hC
  have HD := Lib.hid hD
  clear hA hB hC hD
  have HH := Lib.hid H
  clear H
  go_enter Tryz.func17, Tryz.ntmps17
  have QA := Lib.hid (((Qd.new w (w.heap.size) rfl (.bool na) (.slice A n ca) (.bool nb) (.slice B m cb) 31).alloc (.cells #[.bool nc, .slice C r cc, .bool nd, .slice D s cd] 31)).alloc (.cells #[.bool false, .slice none 0 0, .bool false, .slice none 0 0] 31))
  have QB := Lib.hid ((Qd.new (w.alloc (.cells #[.bool na, .slice A n ca, .bool nb, .slice B m cb] 31)) (w.heap.size + 1) (by simp) (.bool nc) (.slice C r cc) (.bool nd) (.slice D s cd) 31).alloc (.cells #[.bool false, .slice none 0 0, .bool false, .slice none 0 0] 31))
  have QR := Lib.hid (Qd.new ((w.alloc (.cells #[.bool na, .slice A n ca, .bool nb, .slice B m cb] 31)).alloc (.cells #[.bool nc, .slice C r cc, .bool nd, .slice D s cd] 31)) (w.heap.size + 1 + 1) (by simp) (.bool false) (.slice none 0 0) (.bool false) (.slice none 0 0) 31)
  have LA := Lib.hid (((HA.out.box (.cells #[.bool na, .slice A n ca, .bool nb, .slice B m cb] 31)).box (.cells #[.bool nc, .slice C r cc, .bool nd, .slice D s cd] 31)).box (.cells #[.bool false, .slice none 0 0, .bool false, .slice none 0 0] 31))
  have LB := Lib.hid (((HB.out.box (.cells #[.bool na, .slice A n ca, .bool nb, .slice B m cb] 31)).box (.cells #[.bool nc, .slice C r cc, .bool nd, .slice D s cd] 31)).box (.cells #[.bool false, .slice none 0 0, .bool false, .slice none 0 0] 31))
  have LC := Lib.hid (((HC.out.box (.cells #[.bool na, .slice A n ca, .bool nb, .slice B m cb] 31)).box (.cells #[.bool nc, .slice C r cc, .bool nd, .slice D s cd] 31)).box (.cells #[.bool false, .slice none 0 0, .bool false, .slice none 0 0] 31))
  have LD := Lib.hid (((HD.out.box (.cells #[.bool na, .slice A n ca, .bool nb, .slice B m cb] 31)).box (.cells #[.bool nc, .slice C r cc, .bool nd, .slice D s cd] 31)).box (.cells #[.bool false, .slice none 0 0, .bool false, .slice none 0 0] 31))
  have BW : Hid (Below w.heap.size w (((w.alloc (.cells #[.bool na, .slice A n ca, .bool nb, .slice B m cb] 31)).alloc (.cells #[.bool nc, .slice C r cc, .bool nd, .slice D s cd] 31)).alloc (.cells #[.bool false, .slice none 0 0, .bool false, .slice none 0 0] 31))) := (sbal (sbal (sbal (Below.refl _ _) _) _) _)
  clear HA HB HC HD
  go_wp2_with fail
  generalize ((w.alloc (.cells #[.bool na, .slice A n ca, .bool nb, .slice B m cb] 31)).alloc (.cells #[.bool nc, .slice C r cc, .bool nd, .slice D s cd] 31)).alloc (.cells #[.bool false, .slice none 0 0, .bool false, .slice none 0 0] 31) = W0 at *
  refine (HH.out _ LA.out LB.out LC.out LD.out).mono ?_
  rintro e w1 ⟨A5, n5, c5, A6, n6, c6, rfl, hL5, hL6, hb⟩
  clear LA
  clear LB
  clear LC
  clear LD
  clear QA
  clear QB
  replace QR := Lib.hid (QR.out.via hb)
  replace BW := Lib.hid (btr BW.out hb)
  have L5 := Lib.hid hL5
  have L6 := Lib.hid hL6
  clear hb hL5 hL6
  obtain ⟨z5, hz5⟩ : ∃ b, decide (p < 0) = b := ⟨_, rfl⟩
  rw [hz5]
  have Hz5 := Lib.hid hz5
  clear hz5
  obtain ⟨z6, hz6⟩ : ∃ b, decide (q < 0) = b := ⟨_, rfl⟩
  rw [hz6]
  have Hz6 := Lib.hid hz6
  clear hz6
  have ⟨rQR0, rQR1, rQR2, rQR3, rQR4, rQR5, rQR6, rQR7, rQRl⟩ := QR.out
  go_wp2
  exact post_f Tryz.results17 rfl rfl (QR.out.set (.bool z5) (.slice A5 n5 c5) (.bool z6) (.slice A6 n6 c6)) ⟨A5, n5, c5, A6, n6, c6, by rw [Hz5.out, Hz6.out]; rfl, L5.out.put4 QR.out _ _ _ _, L6.out.put4 QR.out _ _ _ _, below_put4 BW.out (by omega) _ _ _ _⟩

theorem rplus_f (w : World) (z1 z2 : Bool) (A B C D : Option Addr) (n m r s ca cb cc cd k : Nat) (p q x z u v a b : Int) (e1 : decide (p < 0) = z1) (e2 : decide (x < 0) = z2) (hA : Lm w w.heap.size A n ca (digs p.natAbs)) (hB : Lm w w.heap.size B m cb (digs q.natAbs)) (hC : Lm w w.heap.size C r cc (digs x.natAbs)) (hD : Lm w w.heap.size D s cd (digs z.natAbs)) (f : FrV k p q u v) (g : FrV k x z a b) (hk : k ≤ 300) : Calls Tryz.prog 9 #[fv z1 A n ca false B m cb, fv z2 C r cc false D s cd] w (RF2 w (k + k + 1) (u * b + a * v) (v * b)) := by
  have h0 : 0 < q * z := Int.mul_pos f.pos g.pos
  have hf := red_fr (k := k + k + 1) (x := p * z + x * q) (y := q * z) (by first | exact (f.sp.mul g.sq).add (g.sp.mul f.sq) | exact (f.sp.mul g.sq).sub (g.sp.mul f.sq)) ((f.sq.mul g.sq).mono (by omega)) (by omega) (by omega)
  have hw := frv_to hf (by omega) (u' := u * b + a * v) (v' := v * b) (by have := frv_add f.eq g.eq; grind)
  refine (rplus_w w _ _ _ _ A B C D n m r s ca cb cc cd _ _ _ _ hA hB hC hD _ _ fun W h1 h2 h3 h4 => radded_add W A B C D n m r s ca cb cc cd k p x q z h1 f.sp e1 h3 g.sp e2 h2 f.sq (decide_eq_false (show ¬ q < 0 by have := f.pos; omega)) h4 g.sq (decide_eq_false (show ¬ z < 0 by have := g.pos; omega)) hk f.pos g.pos).mono fun e w' h => rfe_rf2 hw h
theorem rminus_f (w : World) (z1 z2 : Bool) (A B C D : Option Addr) (n m r s ca cb cc cd k : Nat) (p q x z u v a b : Int) (e1 : decide (p < 0) = z1) (e2 : decide (x < 0) = z2) (hA : Lm w w.heap.size A n ca (digs p.natAbs)) (hB : Lm w w.heap.size B m cb (digs q.natAbs)) (hC : Lm w w.heap.size C r cc (digs x.natAbs)) (hD : Lm w w.heap.size D s cd (digs z.natAbs)) (f : FrV k p q u v) (g : FrV k x z a b) (hk : k ≤ 300) : Calls Tryz.prog 11 #[fv z1 A n ca false B m cb, fv z2 C r cc false D s cd] w (RF2 w (k + k + 1) (u * b - a * v) (v * b)) := by
  have h0 : 0 < q * z := Int.mul_pos f.pos g.pos
  have hf := red_fr (k := k + k + 1) (x := p * z - x * q) (y := q * z) (by first | exact (f.sp.mul g.sq).add (g.sp.mul f.sq) | exact (f.sp.mul g.sq).sub (g.sp.mul f.sq)) ((f.sq.mul g.sq).mono (by omega)) (by omega) (by omega)
  have hw := frv_to hf (by omega) (u' := u * b - a * v) (v' := v * b) (by have := frv_sub f.eq g.eq; grind)
  refine (rminus_w w _ _ _ _ A B C D n m r s ca cb cc cd _ _ _ _ hA hB hC hD _ _ fun W h1 h2 h3 h4 => radded_sub W A B C D n m r s ca cb cc cd k p x q z h1 f.sp e1 h3 g.sp e2 h2 f.sq (decide_eq_false (show ¬ q < 0 by have := f.pos; omega)) h4 g.sq (decide_eq_false (show ¬ z < 0 by have := g.pos; omega)) hk f.pos g.pos).mono fun e w' h => rfe_rf2 hw h
theorem rtimes_f (w : World) (z1 z2 : Bool) (A B C D : Option Addr) (n m r s ca cb cc cd k : Nat) (p q x z u v a b : Int) (e1 : decide (p < 0) = z1) (e2 : decide (x < 0) = z2) (hA : Lm w w.heap.size A n ca (digs p.natAbs)) (hB : Lm w w.heap.size B m cb (digs q.natAbs)) (hC : Lm w w.heap.size C r cc (digs x.natAbs)) (hD : Lm w w.heap.size D s cd (digs z.natAbs)) (f : FrV k p q u v) (g : FrV k x z a b) (hk : k ≤ 300) : Calls Tryz.prog 13 #[fv z1 A n ca false B m cb, fv z2 C r cc false D s cd] w (RF2 w (k + k) (u * a) (v * b)) := by
  have h0 : 0 < q * z := Int.mul_pos f.pos g.pos
  have hf := red_fr (k := k + k) (x := p * x) (y := q * z) (f.sp.mul g.sp) (f.sq.mul g.sq) (by omega) (by omega)
  have hw := frv_to hf (by omega) (u' := u * a) (v' := v * b) (by have := frv_mul f.eq g.eq; grind)
  refine (rtimes_w w _ _ _ _ A B C D n m r s ca cb cc cd _ _ _ _ hA hB hC hD _ _ fun W h1 h2 h3 h4 => rprod_pos W A B C D n m r s ca cb cc cd k p x q z h1 f.sp e1 h3 g.sp e2 h2 f.sq (decide_eq_false (show ¬ q < 0 by have := f.pos; omega)) h4 g.sq (decide_eq_false (show ¬ z < 0 by have := g.pos; omega)) hk h0).mono fun e w' h => rfe_rf2 hw h
theorem rover_f (w : World) (z1 z2 : Bool) (A B C D : Option Addr) (n m r s ca cb cc cd k : Nat) (p q x z u v a b : Int) (e1 : decide (p < 0) = z1) (e2 : decide (x < 0) = z2) (hA : Lm w w.heap.size A n ca (digs p.natAbs)) (hB : Lm w w.heap.size B m cb (digs q.natAbs)) (hC : Lm w w.heap.size C r cc (digs x.natAbs)) (hD : Lm w w.heap.size D s cd (digs z.natAbs)) (f : FrV k p q u v) (g : FrV k x z a b) (hk : k ≤ 300) (hx : x ≠ 0) : Calls Tryz.prog 17 #[fv z1 A n ca false B m cb, fv z2 C r cc false D s cd] w (RF2 w (k + k) (u * b) (v * a)) := by
  have hq := f.pos
  have h0 : q * x ≠ 0 := Int.mul_ne_zero (by omega) hx
  have hf := red_fr (k := k + k) (x := p * z) (y := q * x) (f.sp.mul g.sq) (f.sq.mul g.sp) (by omega) h0
  have hw := frv_to hf h0 (u' := u * b) (v' := v * a) (by have := frv_div f.eq g.eq; grind)
  refine (rover_w w _ _ _ _ A B C D n m r s ca cb cc cd _ _ _ _ hA hB hC hD _ _ fun W h1 h2 h3 h4 => ?_).mono fun e w' h => rfe_rf2 hw h
  rcases Int.lt_or_lt_of_ne h0 with hn | hp
  · exact rprod_neg W A B D C n m s r ca cb cd cc k p z q x h1 f.sp e1 h4 g.sq (decide_eq_false (show ¬ z < 0 by have := g.pos; omega)) h2 f.sq (decide_eq_false (show ¬ q < 0 by have := f.pos; omega)) h3 g.sp e2 hk hn
  · exact rprod_pos W A B D C n m s r ca cb cd cc k p z q x h1 f.sp e1 h4 g.sq (decide_eq_false (show ¬ z < 0 by have := g.pos; omega)) h2 f.sq (decide_eq_false (show ¬ q < 0 by have := f.pos; omega)) h3 g.sp e2 hk hp
theorem rcmp_f (w : World) (z1 z2 : Bool) (A B C D : Option Addr) (n m r s ca cb cc cd k : Nat) (p q x z u v a b : Int) (e1 : decide (p < 0) = z1) (e2 : decide (x < 0) = z2) (hA : Lm w w.heap.size A n ca (digs p.natAbs)) (hB : Lm w w.heap.size B m cb (digs q.natAbs)) (hC : Lm w w.heap.size C r cc (digs x.natAbs)) (hD : Lm w w.heap.size D s cd (digs z.natAbs)) (f : FrV k p q u v) (g : FrV k x z a b) (hk : k ≤ 300) (hv : 0 < v) (hb : 0 < b) : Calls Tryz.prog 19 #[fv z1 A n ca false B m cb, fv z2 C r cc false D s cd] w (fun e w' => ∃ c : Int, e = .returned (.tuple #[.int .i64 c, .int .i64 0]) ∧ (c ≤ 0 ↔ u * b ≤ a * v) ∧ (c < 0 ↔ u * b < a * v) ∧ Below w.heap.size w w') := by
  refine (rcmp_g w z1 z2 A B C D n m r s ca cb cc cd k p q x z hA f.sp hB f.sq hC g.sp hD g.sq hk e1 e2 f.pos g.pos (by rw [← e1]; exact f.ok) (by rw [← e2]; exact g.ok)).mono ?_
  rintro e w' ⟨rfl, h⟩
  have hc := frv_cmp f.pos g.pos hv hb f.eq g.eq
  refine ⟨_, rfl, ?_, ?_, h⟩
  · rw [← hc.1]; unfold cmpZ; repeat' split
    all_goals omega
  · rw [← hc.2]; unfold cmpZ; repeat' split
    all_goals omega
set_option maxRecDepth 100000 in
set_option maxHeartbeats 4000000 in
theorem lnumber_any (w : World) (i : Int) (h1 : -9223372036854775808 ≤ i) (h2 : i ≤ 9223372036854775807) : Calls Tryz.prog 6 #[.int .i64 i] w (RF1 w 2 i 1099511627776) := by
  have hs1 : Sz 2 i := by unfold Sz; omega
  have hs2 : Sz 2 1099511627776 := by unfold Sz; decide
  have hf := red_fr (k := 2) (x := i) (y := 1099511627776) hs1 hs2 (by omega) (by omega)
  have HF := Lib.hid hf
  have HI := Lib.hid (And.intro h1 h2)
  have HS := Lib.hid (And.intro hs1 hs2)
  obtain ⟨zi, hzi⟩ : ∃ b, decide (i < 0) = b := ⟨_, rfl⟩
  have HZ := Lib.hid hzi
  clear h1 h2 hs1 hs2 hf hzi
  go_enter Tryz.func6, Tryz.ntmps6
  have QR := Lib.hid (Qd.new w (w.heap.size) rfl (.bool false) (.slice none 0 0) (.bool false) (.slice none 0 0) 31)
  have BW : Hid (Below w.heap.size w (w.alloc (.cells #[.bool false, .slice none 0 0, .bool false, .slice none 0 0] 31))) := (sbal (Below.refl _ _) _)
  go_wp2_with fail
  generalize w.alloc (.cells #[.bool false, .slice none 0 0, .bool false, .slice none 0 0] 31) = W0 at *
  refine (rfrom_any _ i HI.out.1 HI.out.2).mono ?_
  rintro e w1 ⟨A1, n1, c1, rfl, hL1, hb⟩
  replace QR := Lib.hid (QR.out.via hb)
  replace BW := Lib.hid (btr BW.out hb)
  have L1 := Lib.hid hL1
  clear hb hL1
  rw [HZ.out]
  go_wp2_with fail
  refine (rfrom_any _ 1099511627776 (by decide) (by decide)).mono ?_
  rintro e w2 ⟨A2, n2, c2, rfl, hL2, hb⟩
  replace QR := Lib.hid (QR.out.via hb)
  replace L1 := Lib.hid (L1.out.via hb)
  replace BW := Lib.hid (btr BW.out hb)
  have L2 := Lib.hid hL2
  clear hb hL2
  go_wp2_with fail
  refine (rreduced_pos _ A1 A2 n1 n2 c1 c2 2 i 1099511627776 L1.out L2.out HS.out.1 HS.out.2 (by omega) HZ.out (by decide) (by decide)).mono ?_
  rintro e w3 ⟨A5, n5, c5, A6, n6, c6, rfl, hL5, hL6, hb⟩
  clear L1
  clear L2
  replace QR := Lib.hid (QR.out.via hb)
  replace BW := Lib.hid (btr BW.out hb)
  have L5 := Lib.hid hL5
  have L6 := Lib.hid hL6
  clear hb hL5 hL6
  have hq0 : decide (1099511627776 / dvr i 1099511627776 < 0) = false := decide_eq_false (by have := HF.out.pos; omega)
  rw [hq0]
  obtain ⟨p, hp⟩ : ∃ p, i / dvr i 1099511627776 = p := ⟨_, rfl⟩
  obtain ⟨q, hq⟩ : ∃ q, 1099511627776 / dvr i 1099511627776 = q := ⟨_, rfl⟩
  rw [hp, hq] at HF
  rw [hp] at L5 ⊢
  rw [hq] at L6
  clear hp hq hq0
  obtain ⟨z5, hz5⟩ : ∃ b, decide (p < 0) = b := ⟨_, rfl⟩
  rw [hz5]
  have Hz5 := Lib.hid hz5
  clear hz5
  have ⟨rQR0, rQR1, rQR2, rQR3, rQR4, rQR5, rQR6, rQR7, rQRl⟩ := QR.out
  go_wp2
  exact post_f1 Tryz.results6 rfl rfl (QR.out.set (.bool z5) (.slice A5 n5 c5) (.bool false) (.slice A6 n6 c6)) ⟨p, q, z5, A5, n5, c5, A6, n6, c6, Hz5.out, HF.out, rfl, L5.out.put4 QR.out _ _ _ _, L6.out.put4 QR.out _ _ _ _, below_put4 BW.out (by omega) _ _ _ _⟩
end Go.Proofs.YtglgfjknhplajaaGreatDoor

/- bits.TrailingZeros32 and wide.zeros, over the library's table. -/
namespace Go.Proofs.YtglgfjknhplajaaGreatDoor
open Go.RowKit

/-- The table of package bits lies in its variable. -/
def TabD (w : World) : Prop := ∀ j, j < 32 → w.cell? ⟨2, j, none⟩ = some (.int .u8 (Lib.deBruijn32tab.getD j 0))
theorem TabD.below {w w' : World} {B : Nat} (h : TabD w) (hb : Below B w w') (hB : 2 < B) : TabD w' := fun j hj => (hb.cell (p := ⟨2, j, none⟩) hB).trans (h j hj)
theorem TabD.lt {w : World} (h : TabD w) : 2 < w.heap.size := by
  refine Nat.lt_of_not_le fun hle => ?_
  have h0 := h 0 (by omega)
  have hn : w.heap[2]? = none := Array.getElem?_eq_none hle
  simp [World.cell?, hn] at h0
theorem TabD.via {w w' : World} (h : TabD w) (hb : Below w.heap.size w w') : TabD w' := h.below hb h.lt
theorem TabD.box {w : World} (h : TabD w) (o : Obj) : TabD (w.alloc o) := h.via ((Below.refl _ _).alloc (Nat.le_refl _) o)

theorem pow_odd {v t m : Nat} (h : v = 2 ^ t * (2 * m + 1)) (k : Nat) : v % 2 ^ k = 0 ↔ k ≤ t := by
  subst h
  constructor
  · intro h0
    refine Nat.le_of_not_lt fun hk => ?_
    obtain ⟨d, rfl⟩ : ∃ d, k = t + (d + 1) := ⟨k - t - 1, by omega⟩
    have h1 := Nat.div_add_mod (2 ^ t * (2 * m + 1)) (2 ^ (t + (d + 1)))
    rw [h0, Nat.add_zero, Nat.pow_add, Nat.mul_assoc] at h1
    have h2 := Nat.eq_of_mul_eq_mul_left (Nat.pow_pos (by omega)) h1
    rw [Nat.pow_succ] at h2
    generalize 2 ^ t * (2 * m + 1) / (2 ^ t * (2 ^ d * 2)) = q at h2
    have h3 : 2 ^ d * 2 * q = 2 * (2 ^ d * q) := by rw [Nat.mul_comm (2 ^ d) 2, Nat.mul_assoc]
    omega
  · intro hk
    obtain ⟨d, rfl⟩ : ∃ d, t = k + d := ⟨t - k, by omega⟩
    rw [Nat.pow_add, Nat.mul_assoc]
    exact Nat.mul_mod_right _ _

set_option maxRecDepth 100000 in
set_option maxHeartbeats 1000000 in
theorem tz32_core (x k idx : Nat) (w : World) (hx0 : ((x : Int) == 0) = false)
    (key : bits BinOp.and IntKind.u32 (x : Int) (-(x : Int) % 4294967296) * 125613361 % 4294967296 / 134217728 = (idx : Int))
    (hi : idx < 32) (hk : k < 32) (hcell : w.cell? ⟨2, idx, none⟩ = some (.int .u8 k)) :
    Calls Tryz.prog 125 #[.int .u32 x] w fun e w' => e = .returned (.int .i64 k) ∧ w = w' := by
  go_enter Tryz.func125, Tryz.ntmps125
  go_wp2_with (simp only [key])
  go_ret
  exact ⟨rfl, rfl⟩
theorem tz32_any (x : Nat) (hx : x < 4294967296) (hx0 : x ≠ 0) (w : World) (hT : TabD w) :
    Calls Tryz.prog 125 #[.int .u32 x] w fun e w' => e = .returned (.int .i64 (Lib.ctz 32 x)) ∧ w = w' := by
  obtain ⟨hlow, hk⟩ := Lib.lowest_bit 32 x hx0 hx
  obtain ⟨hi, htab⟩ := Lib.deBruijn32_at _ hk
  have hcell := hT _ hi
  rw [htab] at hcell
  exact tz32_core x _ _ w (by simp; omega) (tz32_key x _ hx hx0 hlow) hi hk hcell

/-- How many digits 0 the number v ends with. -/
def Zs (v t : Nat) : Prop := ∀ k, v % 2 ^ k = 0 ↔ k ≤ t
theorem zs_of {xs : List Nat} (g : Good xs) {j : Nat} (hj : j < xs.length) (h0 : val (xs.take j) = 0) (hx : xs[j]?.getD 0 ≠ 0) : Zs (val xs) (32 * j + Lib.ctz 32 (xs[j]?.getD 0)) ∧ Lib.ctz 32 (xs[j]?.getD 0) < 32 := by
  have hg := g.get j
  obtain ⟨m, hm, hc⟩ := Lib.ctzFrom_spec 32 (xs[j]?.getD 0) (by omega) hg
  have hcz : Lib.ctz 32 (xs[j]?.getD 0) = Lib.ctzFrom 32 (xs[j]?.getD 0) := by unfold Lib.ctz; rw [if_neg hx]
  rw [hcz]
  refine ⟨fun k => ?_, hc⟩
  have h1 := val_split xs j (by omega)
  rw [h0, val_step, Nat.zero_add] at h1
  generalize val (xs.drop (j + 1)) = r at h1
  generalize Lib.ctzFrom 32 (xs[j]?.getD 0) = t at *
  rw [hm] at h1
  refine pow_odd (m := m + 2 ^ (31 - t) * r) ?_ k
  rw [h1, Nat.pow_add, Nat.pow_mul, show (2 : Nat) ^ 32 = 4294967296 from rfl, Nat.mul_assoc]
  congr 1
  have e : (4294967296 : Nat) = 2 ^ t * (2 * 2 ^ (31 - t)) := by
    rw [show 2 * 2 ^ (31 - t) = 2 ^ (32 - t) from by rw [show 32 - t = (31 - t) + 1 from by omega, Nat.pow_succ]; omega, ← Nat.pow_add, show t + (32 - t) = 32 from by omega]
  rw [e, Nat.mul_assoc, ← Nat.mul_add]
  congr 1
  grind

set_option maxRecDepth 100000 in
set_option maxHeartbeats 1000000 in
theorem zeros_any (w : World) (A : Option Addr) (n c : Nat) (xs : List Nat) (v : Nat) (hA : Lm w w.heap.size A n c xs) (hv : val xs = v) (hv0 : 0 < v) (hn : n ≤ 1000000) (hT : TabD w) :
    Calls Tryz.prog 103 #[.slice A n c] w fun e w' => ∃ t : Nat, Zs v t ∧ t ≤ 32 * n ∧ e = .returned (.int .i64 t) ∧ w = w' := by
  have HA := Lib.hid hA
  have HT := Lib.hid hT
  have HV := Lib.hid hv
  have hca := hA.cap
  have hxa := hA.max
  clear hA hT hv
  go_enter Tryz.func103, Tryz.ntmps103
  go_wp2
  go_loop [7] (fun k => ∃ j : Nat, j ≤ n ∧ k = .int .i64 j ∧ val (xs.take j) = 0) (fun k => n - (intOf k).toNat)
  case atStart => exact ⟨0, Nat.zero_le _, rfl, rfl⟩
  case round =>
    obtain ⟨j, hj, rfl, hz⟩ := hrel
    have HZ := Lib.hid hz
    clear hz
    by_cases hlt : j < n
    · obtain ⟨b, off, rfl, hb, hc⟩ := HA.out.cell hlt
      have hgx := HA.out.good.get j
      have HS : Hid (val (xs.take (j + 1)) = 4294967296 ^ j * xs[j]?.getD 0) := by show _ = _; rw [val_take_succ', HZ.out, Nat.zero_add]
      have HC : Hid (xs[j]?.getD 0 ≠ 0 → Zs (val xs) (32 * j + Lib.ctz 32 (xs[j]?.getD 0)) ∧ Lib.ctz 32 (xs[j]?.getD 0) < 32) := zs_of HA.out.good (by rw [HA.out.len]; exact hlt) HZ.out
      generalize xs[j]?.getD 0 = x at *
      by_cases hx : x = 0
      · subst hx
        go_wp2
        go_round
        case rel => exact ⟨j + 1, by omega, by go_num, by rw [HS.out, Nat.mul_zero]⟩
        case measure => simp [intOf]; omega
      · have hxb : ((x : Int) != 0) = true := by simp; omega
        have HC2 := Lib.hid (HC.out hx)
        have hct := HC2.out.2
        go_wp2_with fail
        refine (tz32_any x hgx hx w HT.out).mono ?_
        rintro e w1 ⟨rfl, rfl⟩
        go_wp2
        go_ret
        refine ⟨32 * j + Lib.ctz 32 x, by rw [← HV.out]; exact HC2.out.1, by omega, ret_int (by omega), rfl⟩
    · exfalso
      have h1 := HZ.out
      rw [List.take_of_length_le (by rw [HA.out.len]; omega), HV.out] at h1
      omega
end Go.Proofs.YtglgfjknhplajaaGreatDoor

/- wide.Shift. -/
namespace Go.Proofs.YtglgfjknhplajaaGreatDoor
open Go.RowKit

set_option maxRecDepth 100000 in
set_option maxHeartbeats 400000 in
theorem shift_bad (w : World) (neg : Bool) (A : Option Addr) (n c : Nat) (xs : List Nat) (k : Int) (h : Lm w w.heap.size A n c xs) (hc : chk neg xs = 8) :
    Calls Tryz.prog 78 #[.agg #[.bool neg, .slice A n c], .int .i64 k] w (RW w false [] 8) := by
  have HH := Lib.hid h
  have HC := Lib.hid hc
  clear hc
  go_enter Tryz.func78, Tryz.ntmps78
  go_wp2_with (go_at_call 69; refine (check_bad _ _ _ _ _ _ ((HH.out.box _).box _) HC.out).mono ?_; rintro e w1 ⟨rfl, hb1⟩; have ⟨hx0, hx1, hy0, hy1, hf0, hf1, hsz⟩ := box2 hb1)
  exact post_ws Tryz.results78 rfl rfl hy0 hy1 ⟨none, 0, 0, rfl, Lm.nil _ _, below_set2 (bbox (bbox hb1)) (by omega) _ _⟩
set_option maxRecDepth 100000 in
set_option maxHeartbeats 400000 in
theorem shift_arg (w : World) (neg : Bool) (A : Option Addr) (n c : Nat) (xs : List Nat) (k : Int) (h : Lm w w.heap.size A n c xs) (hc : chk neg xs = 0) (hk : k < -131072 ∨ 131072 < k) :
    Calls Tryz.prog 78 #[.agg #[.bool neg, .slice A n c], .int .i64 k] w (RW w false [] 2) := by
  have HH := Lib.hid h
  have HC := Lib.hid hc
  clear hc
  by_cases h1 : k < -131072
  · clear hk
    go_enter Tryz.func78, Tryz.ntmps78
    go_wp2_with (go_at_call 69; refine (check_ok _ _ _ _ _ _ ((HH.out.box _).box _) HC.out).mono ?_; rintro e w1 ⟨rfl, hb1⟩; have ⟨hx0, hx1, hy0, hy1, hf0, hf1, hsz⟩ := box2 hb1)
    exact post_ws Tryz.results78 rfl rfl hy0 hy1 ⟨none, 0, 0, rfl, Lm.nil _ _, below_set2 (bbox (bbox hb1)) (by omega) _ _⟩
  · have h2 : 131072 < k := by omega
    clear hk
    go_enter Tryz.func78, Tryz.ntmps78
    go_wp2_with (go_at_call 69; refine (check_ok _ _ _ _ _ _ ((HH.out.box _).box _) HC.out).mono ?_; rintro e w1 ⟨rfl, hb1⟩; have ⟨hx0, hx1, hy0, hy1, hf0, hf1, hsz⟩ := box2 hb1)
    exact post_ws Tryz.results78 rfl rfl hy0 hy1 ⟨none, 0, 0, rfl, Lm.nil _ _, below_set2 (bbox (bbox hb1)) (by omega) _ _⟩

set_option maxRecDepth 100000 in
set_option maxHeartbeats 1000000 in
theorem shift_up (w : World) (neg : Bool) (A : Option Addr) (n c v k : Nat) (h : Lm w w.heap.size A n c (digs v)) (hc : chk neg (digs v) = 0) (hk : k ≤ 131072) :
    Calls Tryz.prog 78 #[.agg #[.bool neg, .slice A n c], .int .i64 (k : Int)] w (RW w (mkN neg (v * 2 ^ k)) (mkL (v * 2 ^ k)) (mkE (v * 2 ^ k))) := by
  have hl := (chk_ok.1 hc).1
  rw [h.len] at hl
  have HH := Lib.hid h
  have HC := Lib.hid hc
  have HV := Lib.hid (digs_val v)
  clear hc
  go_enter Tryz.func78, Tryz.ntmps78
  go_wp2_with (go_at_call 69; refine (check_ok _ _ _ _ _ _ ((HH.out.box _).box _) HC.out).mono ?_; rintro e w1 ⟨rfl, hb1⟩; have ⟨hx0, hx1, hy0, hy1, hf0, hf1, hsz⟩ := box2 hb1)
  have HL := Lib.hid (((HH.out.box _).box _).via hb1)
  go_region_held3 (fun w' => w'.cell? ⟨w.heap.size, 0, none⟩ = some (.bool neg) ∧ w'.cell? ⟨w.heap.size, 1, none⟩ = some (.slice A n c))
    (first | exact ⟨hx0, hx1⟩ | exact hk2 | exact hk3 | go_keep)
    (first
     | (go_at_call 101; refine (left_any _ _ _ _ k (digs v) (v * 2 ^ k) (by first | exact HL.out | exact HL.out.drew) (by omega) (by omega) (by rw [HV.out])).mono ?_; rintro e w2 ⟨A2, c2, rfl, hL2, hb2⟩; have hg2 : w.heap.size + 1 < w2.heap.size := Nat.lt_of_lt_of_le hsz hb2.size; have hk2 := keep2 hb2 (Nat.lt_of_succ_lt hsz) ⟨hx0, hx1⟩; have hky2 := keep2 hb2 hsz ⟨hy0, hy1⟩; have hkf2 := keepF hb2 hsz ⟨hf0, hf1⟩)
     | (go_at_call 76; refine (made_any _ _ _ _ _ (v * 2 ^ k) hL2).mono ?_; rintro e w3 ⟨A3, n3, c3, rfl, hL3, hb3⟩; have hk3 := keep2 hb3 (Nat.lt_of_succ_lt hg2) hk2; have hky3 := keep2 hb3 hg2 hky2; have hkf3 := keepF hb3 hg2 hkf2))
  go_wp2
  exact post_ws Tryz.results78 rfl rfl hky3.1 hky3.2 ⟨A3, n3, c3, rfl, hL3.set2 hky3.1 hky3.2 _ _,
    below_set2 (((bbox (bbox hb1)).drew.trans (hb2.mono (show w.heap.size ≤ w1.heap.size from by omega))).trans (hb3.mono (by omega))) (by omega) _ _⟩
theorem boxes2 {w w1 : World} {t0 t1 : TypeId} {a0 a1 b0 b1 : Value} (hb : Below ((w.alloc (.cells #[a0, a1] t0)).alloc (.cells #[b0, b1] t1)).heap.size ((w.alloc (.cells #[a0, a1] t0)).alloc (.cells #[b0, b1] t1)) w1) :
    Pr w1 w.heap.size a0 a1 ∧ Pr w1 (w.heap.size + 1) b0 b1 :=
  ⟨((Pr.new w _ rfl a0 a1 t0).alloc _).via hb, (Pr.new _ _ (by simp) b0 b1 t1).via hb⟩

set_option maxRecDepth 100000 in
set_option maxHeartbeats 1000000 in
theorem shift_down_pos (w : World) (A : Option Addr) (n c v j : Nat) (z : Int) (h : Lm w w.heap.size A n c (digs v)) (hc : chk false (digs v) = 0) (hz : z = -(j : Int)) (hj0 : 0 < j) (hj : j ≤ 131072) :
    Calls Tryz.prog 78 #[.agg #[.bool false, .slice A n c], .int .i64 z] w (RW w (mkN false (v / 2 ^ j)) (mkL (v / 2 ^ j)) (mkE (v / 2 ^ j))) := by
  have hl := (chk_ok.1 hc).1
  rw [h.len] at hl
  have HH := Lib.hid h
  have HC := Lib.hid hc
  have HV := Lib.hid (digs_val v)
  have hcA := h.cap
  have hxA := h.max
  have hz1 : z < 0 := by omega
  have hz2 : -131072 ≤ z := by omega
  have HZ : Hid (-z = (j : Int)) := by show _ = _; omega
  clear hc h hz
  go_enter Tryz.func78, Tryz.ntmps78
  go_wp2_with fail
  refine (check_ok _ _ _ _ _ _ ((HH.out.box _).box _) HC.out).mono ?_
  rintro e w1 ⟨rfl, hb1⟩
  have ⟨P1, P2⟩ : Pr w1 w.heap.size (.bool false) (.slice A n c) ∧ Pr w1 (w.heap.size + 1) (.bool false) (.slice none 0 0) := boxes2 hb1
  have HL1 := Lib.hid (((HH.out.box _).box _).via hb1)
  have HB1 := Lib.hid (bbox (bbox hb1))
  clear hb1
  have ⟨a0, a1, _, _, _⟩ := P1
  go_wp2_with fail
  rw [HZ.out]
  refine (right_any w1 A n c j v (v / 2 ^ j) HL1.out (by omega) (by omega) rfl).mono ?_
  rintro e w2 ⟨A2, c2, rfl, hL2, hb2⟩
  have P1' := P1.via hb2
  have P2' := P2.via hb2
  have HB2 := Lib.hid (HB1.out.trans (hb2.mono HB1.out.size))
  have HL2 := Lib.hid hL2
  have hc2 := hL2.cap
  have hx2 := hL2.max
  have hl2 : (digs (v / 2 ^ j)).length ≤ 4096 := by
    have := digs_mono (Nat.div_le_self v (2 ^ j))
    rw [HH.out.len] at this
    omega
  clear hL2 hb2 a0 a1 P1 P2 HB1
  have ⟨a0, a1, _, _, _⟩ := P1'
  go_wp2_with fail
  refine (made_any _ _ _ _ _ (v / 2 ^ j) HL2.out).mono ?_
  rintro e w8 ⟨A3, n3, c3, rfl, hL3, hb3⟩
  have P8 := P2'.via hb3
  have HB8 := Lib.hid (HB2.out.trans (hb3.mono HB2.out.size))
  have HL8 := Lib.hid hL3
  clear hL3 hb3
  have ⟨k0, k1, f0, f1, kl⟩ := P8
  go_wp2
  exact post_ws Tryz.results78 rfl rfl k0 k1 ⟨A3, n3, c3, rfl, HL8.out.set2 k0 k1 _ _, below_set2 HB8.out (by omega) _ _⟩

set_option maxRecDepth 100000 in
set_option maxHeartbeats 1000000 in
theorem shift_down_even (w : World) (A : Option Addr) (n c v j : Nat) (z : Int) (h : Lm w w.heap.size A n c (digs v)) (hc : chk true (digs v) = 0) (hz : z = -(j : Int)) (hj0 : 0 < j) (hj : j ≤ 131072) (hT : TabD w) (h0 : v % 2 ^ j = 0) :
    Calls Tryz.prog 78 #[.agg #[.bool true, .slice A n c], .int .i64 z] w (RW w (mkN true (v / 2 ^ j)) (mkL (v / 2 ^ j)) (mkE (v / 2 ^ j))) := by
  have hl := (chk_ok.1 hc).1
  rw [h.len] at hl
  have hv0 : 0 < v := Nat.pos_of_ne_zero fun e => (chk_ok.1 hc).2.2 rfl (digs_nil.2 e)
  have HH := Lib.hid h
  have HC := Lib.hid hc
  have HV := Lib.hid (digs_val v)
  have hcA := h.cap
  have hxA := h.max
  have hz1 : z < 0 := by omega
  have hz2 : -131072 ≤ z := by omega
  have HZ : Hid (-z = (j : Int)) := by show _ = _; omega
  clear hc h hz
  go_enter Tryz.func78, Tryz.ntmps78
  go_wp2_with fail
  refine (check_ok _ _ _ _ _ _ ((HH.out.box _).box _) HC.out).mono ?_
  rintro e w1 ⟨rfl, hb1⟩
  have ⟨P1, P2⟩ : Pr w1 w.heap.size (.bool true) (.slice A n c) ∧ Pr w1 (w.heap.size + 1) (.bool false) (.slice none 0 0) := boxes2 hb1
  have HL1 := Lib.hid (((HH.out.box _).box _).via hb1)
  have HB1 := Lib.hid (bbox (bbox hb1))
  have HT1 := Lib.hid (((hT.box _).box _).via hb1)
  clear hT
  clear hb1
  have ⟨a0, a1, _, _, _⟩ := P1
  go_wp2_with fail
  rw [HZ.out]
  refine (right_any w1 A n c j v (v / 2 ^ j) HL1.out (by omega) (by omega) rfl).mono ?_
  rintro e w2 ⟨A2, c2, rfl, hL2, hb2⟩
  have P1' := P1.via hb2
  have P2' := P2.via hb2
  have HB2 := Lib.hid (HB1.out.trans (hb2.mono HB1.out.size))
  have HL2 := Lib.hid hL2
  have HT2 := Lib.hid (HT1.out.via hb2)
  have HL1b := Lib.hid (HL1.out.via hb2)
  have hc2 := hL2.cap
  have hx2 := hL2.max
  have hl2 : (digs (v / 2 ^ j)).length ≤ 4096 := by
    have := digs_mono (Nat.div_le_self v (2 ^ j))
    rw [HH.out.len] at this
    omega
  clear hL2 hb2 a0 a1 P1 P2 HB1
  have ⟨a0, a1, _, _, _⟩ := P1'
  go_wp2_with fail
  refine (zeros_any w2 A n c (digs v) v (by first | exact HL1b.out) HV.out hv0 (by omega) HT2.out).mono ?_
  rintro e w3 ⟨t, ht, ht9, rfl, rfl⟩
  have htz : -z ≤ (t : Int) := by have e1 := (ht j).1 h0; have e2 := HZ.out; omega
  go_wp2_with fail
  refine (made_any _ _ _ _ _ (v / 2 ^ j) HL2.out).mono ?_
  rintro e w8 ⟨A3, n3, c3, rfl, hL3, hb3⟩
  have P8 := P2'.via hb3
  have HB8 := Lib.hid (HB2.out.trans (hb3.mono HB2.out.size))
  have HL8 := Lib.hid hL3
  clear hL3 hb3
  have ⟨k0, k1, f0, f1, kl⟩ := P8
  go_wp2
  exact post_ws Tryz.results78 rfl rfl k0 k1 ⟨A3, n3, c3, rfl, HL8.out.set2 k0 k1 _ _, below_set2 HB8.out (by omega) _ _⟩

set_option maxRecDepth 100000 in
set_option maxHeartbeats 1000000 in
theorem shift_down_lost (w : World) (A : Option Addr) (n c v j : Nat) (z : Int) (h : Lm w w.heap.size A n c (digs v)) (hc : chk true (digs v) = 0) (hz : z = -(j : Int)) (hj0 : 0 < j) (hj : j ≤ 131072) (hT : TabD w) (h0 : v % 2 ^ j ≠ 0) :
    Calls Tryz.prog 78 #[.agg #[.bool true, .slice A n c], .int .i64 z] w (RW w (mkN true (v / 2 ^ j + 1)) (mkL (v / 2 ^ j + 1)) (mkE (v / 2 ^ j + 1))) := by
  have hl := (chk_ok.1 hc).1
  rw [h.len] at hl
  have hv0 : 0 < v := Nat.pos_of_ne_zero fun e => (chk_ok.1 hc).2.2 rfl (digs_nil.2 e)
  have HH := Lib.hid h
  have HC := Lib.hid hc
  have HV := Lib.hid (digs_val v)
  have hcA := h.cap
  have hxA := h.max
  have hz1 : z < 0 := by omega
  have hz2 : -131072 ≤ z := by omega
  have HZ : Hid (-z = (j : Int)) := by show _ = _; omega
  clear hc h hz
  go_enter Tryz.func78, Tryz.ntmps78
  go_wp2_with fail
  refine (check_ok _ _ _ _ _ _ ((HH.out.box _).box _) HC.out).mono ?_
  rintro e w1 ⟨rfl, hb1⟩
  have ⟨P1, P2⟩ : Pr w1 w.heap.size (.bool true) (.slice A n c) ∧ Pr w1 (w.heap.size + 1) (.bool false) (.slice none 0 0) := boxes2 hb1
  have HL1 := Lib.hid (((HH.out.box _).box _).via hb1)
  have HB1 := Lib.hid (bbox (bbox hb1))
  have HT1 := Lib.hid (((hT.box _).box _).via hb1)
  clear hT
  clear hb1
  have ⟨a0, a1, _, _, _⟩ := P1
  go_wp2_with fail
  rw [HZ.out]
  refine (right_any w1 A n c j v (v / 2 ^ j) HL1.out (by omega) (by omega) rfl).mono ?_
  rintro e w2 ⟨A2, c2, rfl, hL2, hb2⟩
  have P1' := P1.via hb2
  have P2' := P2.via hb2
  have HB2 := Lib.hid (HB1.out.trans (hb2.mono HB1.out.size))
  have HL2 := Lib.hid hL2
  have HT2 := Lib.hid (HT1.out.via hb2)
  have HL1b := Lib.hid (HL1.out.via hb2)
  have hc2 := hL2.cap
  have hx2 := hL2.max
  have hl2 : (digs (v / 2 ^ j)).length ≤ 4096 := by
    have := digs_mono (Nat.div_le_self v (2 ^ j))
    rw [HH.out.len] at this
    omega
  clear hL2 hb2 a0 a1 P1 P2 HB1
  have ⟨a0, a1, _, _, _⟩ := P1'
  go_wp2_with fail
  refine (zeros_any w2 A n c (digs v) v (by first | exact HL1b.out) HV.out hv0 (by omega) HT2.out).mono ?_
  rintro e w3 ⟨t, ht, ht9, rfl, rfl⟩
  have htz : (t : Int) < -z := by have e1 : ¬ j ≤ t := fun e => h0 ((ht j).2 e); have e2 := HZ.out; omega
  go_wp2_with fail
  refine (sum_any _ _ _ _ _ _ _ (digs (v / 2 ^ j)) [1] (v / 2 ^ j + 1) (HL2.out.box _) (Lm.one w2 1 1 rfl (by omega)) (by omega) (by omega) (by rw [digs_val, val_one])).mono ?_
  rintro e w4 ⟨A4, c4, rfl, hL4, hb4⟩
  have P2q := P2'.via (bbox hb4)
  have HB4 := Lib.hid (HB2.out.trans ((bbox hb4).mono HB2.out.size))
  have HL4 := Lib.hid hL4
  have hb4q := Lib.hid hb4
  clear hL4 hb4
  have P1q := P1'.via (bbox hb4q.out)
  clear P2' P1' a0 a1
  have ⟨a0, a1, _, _, _⟩ := P1q
  have P2' := P2q
  go_wp2_with fail
  refine (made_any _ _ _ _ _ (v / 2 ^ j + 1) HL4.out).mono ?_
  rintro e w8 ⟨A3, n3, c3, rfl, hL3, hb3⟩
  have P8 := P2'.via hb3
  have HB8 := Lib.hid (HB4.out.trans (hb3.mono HB4.out.size))
  have HL8 := Lib.hid hL3
  clear hL3 hb3
  have ⟨k0, k1, f0, f1, kl⟩ := P8
  go_wp2
  exact post_ws Tryz.results78 rfl rfl k0 k1 ⟨A3, n3, c3, rfl, HL8.out.set2 k0 k1 _ _, below_set2 HB8.out (by omega) _ _⟩
end Go.Proofs.YtglgfjknhplajaaGreatDoor

