
/-
  For any two intervals a and b the law SpanReckons returns true: Add, Sub, Mul, Div, Min, Max, Hull, Meet, In and Cmp of package span return what the reference returns, result and error, whether the intervals are valid or not, and leave their arguments as they are. Condition: none.
-/
import Derived.Deep.RegionHeld3
import Derived.Deep.RegionWith
import Derived.Deep.DeepCutAuto
import Derived.Deep.CutBlock
import Derived.RegionTactic
import Derived.BigRegion
import Derived.Test.YtchhndlpngidcaaRows
import Derived.Test.YtchhndlpngidcaaSR2
/- Intervals: ends of the reference. -/
namespace Go.Proofs.Ytchhndlpngidcaa
open Go.RowKit

/-- Block g has twelve cells that hold these values, and may be written. -/
structure D12 (w : World) (g : Nat) (vs : List Value) : Prop where
  len : vs.length = 12
  at_ : ∀ j (h : j < vs.length), w.cell? ⟨g, j, none⟩ = some vs[j]
  free : ∀ j, j < 12 → w.frozen? ⟨g, j, none⟩ = false
  lt : g < w.heap.size
theorem D12.via {w w' : World} {g : Nat} {vs : List Value} (p : D12 w g vs) (hb : Below w.heap.size w w') : D12 w' g vs :=
  ⟨p.len, fun j h => (hb.cell (p := ⟨g, j, none⟩) p.lt).trans (p.at_ j h), fun j h => (hb.frozen (p := ⟨g, j, none⟩) p.lt).trans (p.free j h), Nat.lt_of_lt_of_le p.lt hb.size⟩
theorem D12.alloc {w : World} {g : Nat} {vs : List Value} (p : D12 w g vs) (o : Obj) : D12 (w.alloc o) g vs := p.via ((Below.refl _ _).alloc (Nat.le_refl _) o)
theorem D12.drew {w : World} {g : Nat} {vs : List Value} (p : D12 w g vs) : D12 w.drew g vs := ⟨p.len, p.at_, p.free, p.lt⟩
theorem D12.new (w : World) (k : Nat) (hk : w.heap.size = k) (v0 v1 v2 v3 v4 v5 v6 v7 v8 v9 v10 v11 : Value) (t : TypeId) : D12 (w.alloc (.cells #[v0, v1, v2, v3, v4, v5, v6, v7, v8, v9, v10, v11] t)) k [v0, v1, v2, v3, v4, v5, v6, v7, v8, v9, v10, v11] := by
  subst hk
  refine ⟨rfl, fun j h => ?_, fun j h => ?_, by simp⟩
  · simp only [List.length_cons, List.length_nil] at h
    rcases (show j = 0 ∨ j = 1 ∨ j = 2 ∨ j = 3 ∨ j = 4 ∨ j = 5 ∨ j = 6 ∨ j = 7 ∨ j = 8 ∨ j = 9 ∨ j = 10 ∨ j = 11 by omega) with rfl | rfl | rfl | rfl | rfl | rfl | rfl | rfl | rfl | rfl | rfl | rfl <;> go_simp
  · rcases (show j = 0 ∨ j = 1 ∨ j = 2 ∨ j = 3 ∨ j = 4 ∨ j = 5 ∨ j = 6 ∨ j = 7 ∨ j = 8 ∨ j = 9 ∨ j = 10 ∨ j = 11 by omega) with rfl | rfl | rfl | rfl | rfl | rfl | rfl | rfl | rfl | rfl | rfl | rfl <;> go_simp
theorem D12.raw {w : World} {g : Nat} {v0 v1 v2 v3 v4 v5 v6 v7 v8 v9 v10 v11 : Value} (p : D12 w g [v0, v1, v2, v3, v4, v5, v6, v7, v8, v9, v10, v11]) : w.cell? ⟨g, 0, none⟩ = some v0 ∧ w.cell? ⟨g, 1, none⟩ = some v1 ∧ w.cell? ⟨g, 2, none⟩ = some v2 ∧ w.cell? ⟨g, 3, none⟩ = some v3 ∧ w.cell? ⟨g, 4, none⟩ = some v4 ∧ w.cell? ⟨g, 5, none⟩ = some v5 ∧ w.cell? ⟨g, 6, none⟩ = some v6 ∧ w.cell? ⟨g, 7, none⟩ = some v7 ∧ w.cell? ⟨g, 8, none⟩ = some v8 ∧ w.cell? ⟨g, 9, none⟩ = some v9 ∧ w.cell? ⟨g, 10, none⟩ = some v10 ∧ w.cell? ⟨g, 11, none⟩ = some v11 ∧ w.frozen? ⟨g, 0, none⟩ = false ∧ w.frozen? ⟨g, 1, none⟩ = false ∧ w.frozen? ⟨g, 2, none⟩ = false ∧ w.frozen? ⟨g, 3, none⟩ = false ∧ w.frozen? ⟨g, 4, none⟩ = false ∧ w.frozen? ⟨g, 5, none⟩ = false ∧ w.frozen? ⟨g, 6, none⟩ = false ∧ w.frozen? ⟨g, 7, none⟩ = false ∧ w.frozen? ⟨g, 8, none⟩ = false ∧ w.frozen? ⟨g, 9, none⟩ = false ∧ w.frozen? ⟨g, 10, none⟩ = false ∧ w.frozen? ⟨g, 11, none⟩ = false :=
  ⟨p.at_ 0 (by simp), p.at_ 1 (by simp), p.at_ 2 (by simp), p.at_ 3 (by simp), p.at_ 4 (by simp), p.at_ 5 (by simp), p.at_ 6 (by simp), p.at_ 7 (by simp), p.at_ 8 (by simp), p.at_ 9 (by simp), p.at_ 10 (by simp), p.at_ 11 (by simp), p.free 0 (by omega), p.free 1 (by omega), p.free 2 (by omega), p.free 3 (by omega), p.free 4 (by omega), p.free 5 (by omega), p.free 6 (by omega), p.free 7 (by omega), p.free 8 (by omega), p.free 9 (by omega), p.free 10 (by omega), p.free 11 (by omega)⟩
theorem size_setCells (b : Nat) : ∀ (vs : List Value) (o : Nat) (w : World), (w.setCells b o vs).heap.size = w.heap.size
  | [], _, _ => rfl
  | v :: r, o, w => by rw [World.setCells, size_setCells b r]; simp [World.size_setCell]
theorem D12.set {w : World} {g : Nat} {vs : List Value} (p : D12 w g vs) (us : List Value) (hu : us.length = 12) : D12 (w.setCells g 0 us) g us :=
  ⟨hu, fun j h => by
    have := World.cell?_setCells_in g us 0 w (fun i hi => by rw [Nat.zero_add, p.at_ i (by rw [p.len]; omega)]; rfl) j h
    rwa [Nat.zero_add] at this, fun j h => by rw [World.frozen?_setCells]; exact p.free j h, by rw [size_setCells]; exact p.lt⟩
theorem below_setCells {B g : Nat} (hg : B ≤ g) : ∀ (vs : List Value) (o : Nat) (w w1 : World), Below B w w1 → Below B w (w1.setCells g o vs)
  | [], _, _, _, h => h
  | v :: r, o, w, _, h => below_setCells hg r (o + 1) w _ (h.setCell (p := ⟨g, o, none⟩) hg v)
theorem set12_eq (w : World) (g : Nat) (v0 v1 v2 v3 v4 v5 v6 v7 v8 v9 v10 v11 : Value) : (((((((((((w.setCell ⟨g, 0, none⟩ v0).setCell ⟨g, 1, none⟩ v1).setCell ⟨g, 2, none⟩ v2).setCell ⟨g, 3, none⟩ v3).setCell ⟨g, 4, none⟩ v4).setCell ⟨g, 5, none⟩ v5).setCell ⟨g, 6, none⟩ v6).setCell ⟨g, 7, none⟩ v7).setCell ⟨g, 8, none⟩ v8).setCell ⟨g, 9, none⟩ v9).setCell ⟨g, 10, none⟩ v10).setCell ⟨g, 11, none⟩ v11 = w.setCells g 0 [v0, v1, v2, v3, v4, v5, v6, v7, v8, v9, v10, v11] := rfl
/-- The first slot points to the four products. -/
def EndsAt (W : World) (us : List Value) (s : Value) (wx : World) : Prop := ∃ g, s = .pointer (some ⟨g, 0, none⟩) ∧ D12 wx g us ∧ W.heap.size ≤ g ∧ Below W.heap.size W wx
theorem efin1 {W w : World} (hB : Below W.heap.size W w) (v0 v1 v2 v3 v4 v5 v6 v7 v8 v9 v10 v11 : Value) (t : TypeId) : EndsAt W [v0, v1, v2, v3, v4, v5, v6, v7, v8, v9, v10, v11] (.pointer (some ⟨w.heap.size, 0, none⟩)) (w.alloc (.cells #[v0, v1, v2, v3, v4, v5, v6, v7, v8, v9, v10, v11] t)) :=
  ⟨_, rfl, D12.new w _ rfl v0 v1 v2 v3 v4 v5 v6 v7 v8 v9 v10 v11 t, hB.size, sbal hB _⟩
theorem efin2 {W w : World} {g : Nat} {zs : List Value} (hB : Below W.heap.size W w) (p : D12 w g zs) (hg : W.heap.size ≤ g) (v0 v1 v2 v3 v4 v5 v6 v7 v8 v9 v10 v11 : Value) : EndsAt W [v0, v1, v2, v3, v4, v5, v6, v7, v8, v9, v10, v11] (.pointer (some ⟨g, 0, none⟩)) (w.setCells g 0 [v0, v1, v2, v3, v4, v5, v6, v7, v8, v9, v10, v11]) :=
  ⟨_, rfl, p.set _ rfl, hg, below_setCells hg _ _ _ _ hB⟩
/-- The number of a product of two words. -/
def sv (s : Bool) (H L : Nat) : Int := sgn s (H * 18446744073709551616 + L)
/-- A product as the reference has it. -/
structure Lg (s : Bool) (H L : Nat) : Prop where
  pos : s = true → 0 < H * 18446744073709551616 + L
  low : L < 18446744073709551616
abbrev lv (s : Bool) (H L : Nat) : Value := .agg #[.bool s, .int .u64 (H : Int), .int .u64 (L : Int)]
def RL (w : World) (s : Bool) (H L : Nat) (e : Ending) (w' : World) : Prop := e = .returned (lv s H L) ∧ Below w.heap.size w w'
theorem split_hl (H : Nat) {L : Nat} (h : L < 18446744073709551616) : (H * 18446744073709551616 + L) / 18446744073709551616 = H ∧ (H * 18446744073709551616 + L) % 18446744073709551616 = L := by omega
theorem C3.setC {w : World} {g : Nat} {x0 x1 x2 : Value} (p : C3 w g x0 x1 x2) (y0 y1 y2 : Value) : C3 (w.setCells g 0 [y0, y1, y2]) g y0 y1 y2 := by
  have h := World.cell?_setCells_in g [y0, y1, y2] 0 w (fun i hi => by
    simp at hi
    rcases (show i = 0 ∨ i = 1 ∨ i = 2 by omega) with rfl | rfl | rfl
    · rw [Nat.zero_add, p.c0]; rfl
    · rw [Nat.zero_add, p.c1]; rfl
    · rw [Nat.zero_add, p.c2]; rfl)
  exact ⟨h 0 (by simp), h 1 (by simp), h 2 (by simp), by rw [World.frozen?_setCells]; exact p.f0, by rw [World.frozen?_setCells]; exact p.f1, by rw [World.frozen?_setCells]; exact p.f2, by rw [size_setCells]; exact p.lt⟩
theorem far_cell {w : World} {g h : Nat} (hne : g ≠ h) (vs : List Value) (j : Nat) : (w.setCells h 0 vs).cell? ⟨g, j, none⟩ = w.cell? ⟨g, j, none⟩ :=
  World.cell?_setCells_out h vs 0 w ⟨g, j, none⟩ (fun e => absurd e hne)
theorem C3.farC {w : World} {g h : Nat} {x0 x1 x2 : Value} (p : C3 w g x0 x1 x2) (hne : g ≠ h) (vs : List Value) : C3 (w.setCells h 0 vs) g x0 x1 x2 :=
  ⟨(far_cell hne vs 0).trans p.c0, (far_cell hne vs 1).trans p.c1, (far_cell hne vs 2).trans p.c2, by rw [World.frozen?_setCells]; exact p.f0, by rw [World.frozen?_setCells]; exact p.f1, by rw [World.frozen?_setCells]; exact p.f2, by rw [size_setCells]; exact p.lt⟩
theorem D12.farC {w : World} {g h : Nat} {us : List Value} (p : D12 w g us) (hne : g ≠ h) (vs : List Value) : D12 (w.setCells h 0 vs) g us :=
  ⟨p.len, fun j hj => (far_cell hne vs j).trans (p.at_ j hj), fun j hj => by rw [World.frozen?_setCells]; exact p.free j hj, by rw [size_setCells]; exact p.lt⟩
theorem set3_eq (w : World) (g : Nat) (x y z : Value) : ((w.setCell ⟨g, 0, none⟩ x).setCell ⟨g, 1, none⟩ y).setCell ⟨g, 2, none⟩ z = w.setCells g 0 [x, y, z] := rfl
theorem res_ll {fn : Func} {r s : Nat} (hr : fn.results = #[.cell r 55, .cell s 55]) {tmps : Array Value} {w : World} {g h : Nat} {x y z x' y' z' : Value} (ht : tmps.getD r undef = .pointer (some ⟨g, 0, none⟩)) (hs : tmps.getD s undef = .pointer (some ⟨h, 0, none⟩))
    (p : C3 w g x y z) (q : C3 w h x' y' z') : (results fn tmps).run Try.prog w = .ok (.tuple #[.agg #[x, y, z], .agg #[x', y', z']]) w := by
  have h0 := p.c0; have h1 := p.c1; have h2 := p.c2; have k0 := q.c0; have k1 := q.c1; have k2 := q.c2
  rw [Array.getD_eq_getD_getElem?] at ht hs
  simp [results, hr, go_sem, ht, hs, h0, h1, h2, k0, k1, k2]
theorem less_lg (w : World) {s s' : Bool} {H L H' L' : Nat} (a : Lg s H L) (b : Lg s' H' L') :
    Calls Try.prog 66 #[lv s H L, lv s' H' L'] w (RB1 w (decide (sv s H L < sv s' H' L'))) := by
  have h := less_any w s s' (H * 18446744073709551616 + L) (H' * 18446744073709551616 + L') a.pos b.pos
  have e1 := split_hl H a.low
  have e2 := split_hl H' b.low
  unfold pv at h
  rw [e1.1, e1.2, e2.1, e2.2] at h
  exact h
theorem times_lg (x y : Int) (hx1 : -9223372036854775808 ≤ x) (hx2 : x ≤ 9223372036854775807) (hy1 : -9223372036854775808 ≤ y) (hy2 : y ≤ 9223372036854775807) :
    ∃ s H L, Lg s H L ∧ sv s H L = x * y ∧ ∀ w, Calls Try.prog 50 #[.int .i64 x, .int .i64 y] w (RL w s H L) := by
  have hs := sgnT_mul x y
  have hp : sgT x y = true → 0 < x.natAbs * y.natAbs := sgT_pos
  have hc := fun w => rtimes_any w x y hx1 hx2 hy1 hy2
  generalize x.natAbs * y.natAbs = P at *
  have e : P / 18446744073709551616 * 18446744073709551616 + P % 18446744073709551616 = P := Nat.div_add_mod' _ _
  exact ⟨sgT x y, P / 18446744073709551616, P % 18446744073709551616, ⟨fun h => by rw [e]; exact hp h, by omega⟩, by unfold sv; rw [e]; exact hs, hc⟩
theorem tfin1 {w : World} {g : Nat} (hg : g < w.heap.size) (x y z : Value) (t : TypeId) : ∃ p q, (Value.pointer (some ⟨w.heap.size, 0, none⟩)) = .pointer (some ⟨p, 0, none⟩) ∧ (Value.pointer (some ⟨w.heap.size + 1, 0, none⟩)) = .pointer (some ⟨q, 0, none⟩) ∧ C3 (((w.alloc (.cells #[x, y, z] t)).alloc (.cells #[x, y, z] t)).drew) p x y z ∧ C3 (((w.alloc (.cells #[x, y, z] t)).alloc (.cells #[x, y, z] t)).drew) q x y z ∧ p ≠ q ∧ g < p ∧ g < q ∧ Below w.heap.size w (((w.alloc (.cells #[x, y, z] t)).alloc (.cells #[x, y, z] t)).drew) :=
  ⟨_, _, rfl, rfl, ((C3.new w _ rfl x y z t).alloc _).drewN 1, (C3.new (w.alloc _) _ (by simp) x y z t).drewN 1, by omega, by omega, by omega, bdrewN (sbal (sbal (Below.refl _ _) _) _) 1⟩
theorem tfin2 {w : World} {g : Nat} (hg : g < w.heap.size) (x y z : Value) (t : TypeId) : ∃ p q, (Value.pointer (some ⟨w.heap.size + 1, 0, none⟩)) = .pointer (some ⟨p, 0, none⟩) ∧ (Value.pointer (some ⟨w.heap.size, 0, none⟩)) = .pointer (some ⟨q, 0, none⟩) ∧ C3 (((w.alloc (.cells #[x, y, z] t)).alloc (.cells #[x, y, z] t)).drew) p x y z ∧ C3 (((w.alloc (.cells #[x, y, z] t)).alloc (.cells #[x, y, z] t)).drew) q x y z ∧ p ≠ q ∧ g < p ∧ g < q ∧ Below w.heap.size w (((w.alloc (.cells #[x, y, z] t)).alloc (.cells #[x, y, z] t)).drew) :=
  ⟨_, _, rfl, rfl, (C3.new (w.alloc _) _ (by simp) x y z t).drewN 1, ((C3.new w _ rfl x y z t).alloc _).drewN 1, by omega, by omega, by omega, bdrewN (sbal (sbal (Below.refl _ _) _) _) 1⟩
/-- The least and the greatest of four numbers are returned as products. -/
def RE2 (w : World) (v0 v1 v2 v3 : Int) (e : Ending) (w' : World) : Prop := ∃ s H L s' H' L', Lg s H L ∧ Lg s' H' L' ∧ sv s H L = mn4 v0 v1 v2 v3 ∧ sv s' H' L' = mx4 v0 v1 v2 v3 ∧ e = .returned (.tuple #[lv s H L, lv s' H' L']) ∧ Below w.heap.size w w'
set_option maxRecDepth 100000 in
set_option maxHeartbeats 8000000 in
theorem ends_g (w : World) (al ah bl bh : Int) (s0 s1 s2 s3 : Bool) (H0 H1 H2 H3 L0 L1 L2 L3 : Nat) (g0 : Lg s0 H0 L0) (g1 : Lg s1 H1 L1) (g2 : Lg s2 H2 L2) (g3 : Lg s3 H3 L3)
    (t0 : ∀ w, Calls Try.prog 50 #[.int .i64 al, .int .i64 bl] w (RL w s0 H0 L0)) (t1 : ∀ w, Calls Try.prog 50 #[.int .i64 al, .int .i64 bh] w (RL w s1 H1 L1))
    (t2 : ∀ w, Calls Try.prog 50 #[.int .i64 ah, .int .i64 bl] w (RL w s2 H2 L2)) (t3 : ∀ w, Calls Try.prog 50 #[.int .i64 ah, .int .i64 bh] w (RL w s3 H3 L3)) :
    Calls Try.prog 45 #[iv al ah, iv bl bh] w (RE2 w (sv s0 H0 L0) (sv s1 H1 L1) (sv s2 H2 L2) (sv s3 H3 L3)) := by
  have T0 := Lib.hid t0
  have T1 := Lib.hid t1
  have T2 := Lib.hid t2
  have T3 := Lib.hid t3
  have G0 := Lib.hid g0
  have G1 := Lib.hid g1
  have G2 := Lib.hid g2
  have G3 := Lib.hid g3
  clear t0 t1 t2 t3 g0 g1 g2 g3
  have PA := Lib.hid ((((Pr.new w w.heap.size rfl (.int .i64 al) (.int .i64 ah) 23).alloc (ivB bl bh)).alloc (.cells #[.bool false, .int .u64 0, .int .u64 0] 55)).alloc (.cells #[.bool false, .int .u64 0, .int .u64 0] 55))
  have PB := Lib.hid (((Pr.new (w.alloc (ivB al ah)) (w.heap.size + 1) (by simp) (.int .i64 bl) (.int .i64 bh) 23).alloc (.cells #[.bool false, .int .u64 0, .int .u64 0] 55)).alloc (.cells #[.bool false, .int .u64 0, .int .u64 0] 55))
  have R1 := Lib.hid ((C3.new ((w.alloc (ivB al ah)).alloc (ivB bl bh)) (w.heap.size + 1 + 1) (by simp) (.bool false) (.int .u64 0) (.int .u64 0) 55).alloc (.cells #[.bool false, .int .u64 0, .int .u64 0] 55))
  have R2 := Lib.hid (C3.new (((w.alloc (ivB al ah)).alloc (ivB bl bh)).alloc (.cells #[.bool false, .int .u64 0, .int .u64 0] 55)) (w.heap.size + 1 + 1 + 1) (by simp) (.bool false) (.int .u64 0) (.int .u64 0) 55)
  have BW : Hid (Below w.heap.size w ((((w.alloc (ivB al ah)).alloc (ivB bl bh)).alloc (.cells #[.bool false, .int .u64 0, .int .u64 0] 55)).alloc (.cells #[.bool false, .int .u64 0, .int .u64 0] 55))) := sbal (sbal (sbal (sbal (Below.refl _ _) _) _) _) _
  go_enter Try.func45, Try.ntmps45
  go_wp2_with fail
  generalize (((w.alloc (ivB al ah)).alloc (ivB bl bh)).alloc (.cells #[.bool false, .int .u64 0, .int .u64 0] 55)).alloc (.cells #[.bool false, .int .u64 0, .int .u64 0] 55) = W0 at *
  have HKS : Hid (∀ X : World, Below W0.heap.size W0 X → X.cell? ⟨w.heap.size, 0, none⟩ = some (.int .i64 al) ∧ X.cell? ⟨w.heap.size, 1, none⟩ = some (.int .i64 ah) ∧ X.cell? ⟨w.heap.size + 1, 0, none⟩ = some (.int .i64 bl) ∧ X.cell? ⟨w.heap.size + 1, 1, none⟩ = some (.int .i64 bh)) := fun X h => ⟨(PA.out.via h).c0, (PA.out.via h).c1, (PB.out.via h).c0, (PB.out.via h).c1⟩
  go_cut [6] (fun s6 wx => EndsAt W0 [.bool s0, .int .u64 (H0 : Int), .int .u64 (L0 : Int), .bool s1, .int .u64 (H1 : Int), .int .u64 (L1 : Int), .bool s2, .int .u64 (H2 : Int), .int .u64 (L2 : Int), .bool s3, .int .u64 (H3 : Int), .int .u64 (L3 : Int)] s6 wx)
  case first =>
    go_region_held3 (fun w' => w'.cell? ⟨w.heap.size, 0, none⟩ = some (.int .i64 al) ∧ w'.cell? ⟨w.heap.size, 1, none⟩ = some (.int .i64 ah) ∧ w'.cell? ⟨w.heap.size + 1, 0, none⟩ = some (.int .i64 bl) ∧ w'.cell? ⟨w.heap.size + 1, 1, none⟩ = some (.int .i64 bh))
      (first | (refine HKS.out _ ?_; (repeat' (first | with_reducible exact B3 | with_reducible exact B2 | with_reducible exact B1 | with_reducible exact B0 | with_reducible exact (Below.refl _ _).drew | with_reducible exact Below.refl _ _ | with_reducible refine Below.drew ?_ | with_reducible refine Below.setCell ?_ ?_ _ | with_reducible refine Below.alloc ?_ ?_ _)); all_goals (first | omega | (simp; done) | (simp [World.size_setCell]; omega))))
      (first
       | (have _t := B2; go_at_call 50; refine (T3.out _).mono ?_; rintro e w6 ⟨rfl, hb3⟩; have B3 : Below W0.heap.size W0 w6 := (by first | with_reducible exact sbtr B2 hb3 | with_reducible exact sbtr B2 (bbox hb3)); have s3_ := B3.size; (try (have F0 := F0.via hb3)); (try (have F1 := F1.via hb3)); (try (have F2 := F2.via hb3)); (try (have F3 : D12 w6 w5.heap.size [.bool false, .int .u64 0, .int .u64 0, .bool false, .int .u64 0, .int .u64 0, .bool false, .int .u64 0, .int .u64 0, .bool false, .int .u64 0, .int .u64 0] := (by with_reducible exact (D12.new w5 _ rfl (.bool false) (.int .u64 0) (.int .u64 0) (.bool false) (.int .u64 0) (.int .u64 0) (.bool false) (.int .u64 0) (.int .u64 0) (.bool false) (.int .u64 0) (.int .u64 0) 77).via hb3))); (try (obtain ⟨c0_0, c0_1, c0_2, c0_3, c0_4, c0_5, c0_6, c0_7, c0_8, c0_9, c0_10, c0_11, c0_12, c0_13, c0_14, c0_15, c0_16, c0_17, c0_18, c0_19, c0_20, c0_21, c0_22, c0_23⟩ := F0.raw)); (try (obtain ⟨c1_0, c1_1, c1_2, c1_3, c1_4, c1_5, c1_6, c1_7, c1_8, c1_9, c1_10, c1_11, c1_12, c1_13, c1_14, c1_15, c1_16, c1_17, c1_18, c1_19, c1_20, c1_21, c1_22, c1_23⟩ := F1.raw)); (try (obtain ⟨c2_0, c2_1, c2_2, c2_3, c2_4, c2_5, c2_6, c2_7, c2_8, c2_9, c2_10, c2_11, c2_12, c2_13, c2_14, c2_15, c2_16, c2_17, c2_18, c2_19, c2_20, c2_21, c2_22, c2_23⟩ := F2.raw)); (try (obtain ⟨c3_0, c3_1, c3_2, c3_3, c3_4, c3_5, c3_6, c3_7, c3_8, c3_9, c3_10, c3_11, c3_12, c3_13, c3_14, c3_15, c3_16, c3_17, c3_18, c3_19, c3_20, c3_21, c3_22, c3_23⟩ := F3.raw)))
       | (have _t := B1; go_at_call 50; refine (T2.out _).mono ?_; rintro e w5 ⟨rfl, hb2⟩; have B2 : Below W0.heap.size W0 w5 := (by first | with_reducible exact sbtr B1 hb2 | with_reducible exact sbtr B1 (bbox hb2)); have s2_ := B2.size; (try (have F0 := F0.via hb2)); (try (have F1 := F1.via hb2)); (try (have F2 : D12 w5 w4.heap.size [.bool false, .int .u64 0, .int .u64 0, .bool false, .int .u64 0, .int .u64 0, .bool false, .int .u64 0, .int .u64 0, .bool false, .int .u64 0, .int .u64 0] := (by with_reducible exact (D12.new w4 _ rfl (.bool false) (.int .u64 0) (.int .u64 0) (.bool false) (.int .u64 0) (.int .u64 0) (.bool false) (.int .u64 0) (.int .u64 0) (.bool false) (.int .u64 0) (.int .u64 0) 77).via hb2))))
       | (have _t := B0; go_at_call 50; refine (T1.out _).mono ?_; rintro e w4 ⟨rfl, hb1⟩; have B1 : Below W0.heap.size W0 w4 := (by first | with_reducible exact sbtr B0 hb1 | with_reducible exact sbtr B0 (bbox hb1)); have s1_ := B1.size; (try (have F0 := F0.via hb1)); (try (have F1 : D12 w4 w3.heap.size [.bool false, .int .u64 0, .int .u64 0, .bool false, .int .u64 0, .int .u64 0, .bool false, .int .u64 0, .int .u64 0, .bool false, .int .u64 0, .int .u64 0] := (by with_reducible exact (D12.new w3 _ rfl (.bool false) (.int .u64 0) (.int .u64 0) (.bool false) (.int .u64 0) (.int .u64 0) (.bool false) (.int .u64 0) (.int .u64 0) (.bool false) (.int .u64 0) (.int .u64 0) 77).via hb1))))
       | (go_at_call 50; refine (T0.out _).mono ?_; rintro e w3 ⟨rfl, hb0⟩; have B0 : Below W0.heap.size W0 w3 := (by first | with_reducible exact b_one_d hb0 | exact (Below.refl _ _).drew.trans hb0); have s0_ := B0.size; (try (have F0 : D12 w3 W0.heap.size [.bool false, .int .u64 0, .int .u64 0, .bool false, .int .u64 0, .int .u64 0, .bool false, .int .u64 0, .int .u64 0, .bool false, .int .u64 0, .int .u64 0] := (by with_reducible exact ((D12.new W0 _ rfl (.bool false) (.int .u64 0) (.int .u64 0) (.bool false) (.int .u64 0) (.int .u64 0) (.bool false) (.int .u64 0) (.int .u64 0) (.bool false) (.int .u64 0) (.int .u64 0) 77).drew).via hb0))))
       | fail)
    all_goals
      go_wp2_with fail
      go_meet
      (try rw [set12_eq])
      first
      | with_reducible exact efin1 B3 _ _ _ _ _ _ _ _ _ _ _ _ _
      | with_reducible exact efin2 B3 F0 (Nat.le_refl _) _ _ _ _ _ _ _ _ _ _ _ _
      | with_reducible exact efin2 B3 F1 s0_ _ _ _ _ _ _ _ _ _ _ _ _
      | with_reducible exact efin2 B3 F2 s1_ _ _ _ _ _ _ _ _ _ _ _ _
      | with_reducible exact efin2 B3 F3 s2_ _ _ _ _ _ _ _ _ _ _ _ _
  case rest =>
    obtain ⟨g, rfl, dg, hg, hB⟩ := hcut
    have DG := Lib.hid dg
    have Q1 := Lib.hid (R1.out.via hB)
    have Q2 := Lib.hid (R2.out.via hB)
    have BX := Lib.hid (sbtr BW.out hB)
    have hgw : w.heap.size + 1 + 1 + 1 < g := by have := R2.out.lt; omega
    clear dg hB PA PB R1 R2 BW T0 T1 T2 T3 HKS hg
    obtain ⟨d0, d1, d2, d3, d4, d5, d6, d7, d8, d9, d10, d11, d12, d13, d14, d15, d16, d17, d18, d19, d20, d21, d22, d23⟩ := DG.out.raw
    go_wp2_with fail
    go_cut [7, 8] (fun s7 s8 wx => ∃ p q, s7 = .pointer (some ⟨p, 0, none⟩) ∧ s8 = .pointer (some ⟨q, 0, none⟩) ∧ C3 wx p (.bool s0) (.int .u64 (H0 : Int)) (.int .u64 (L0 : Int)) ∧ C3 wx q (.bool s0) (.int .u64 (H0 : Int)) (.int .u64 (L0 : Int)) ∧ p ≠ q ∧ g < p ∧ g < q ∧ Below wc.heap.size wc wx)
    case first =>
      have k1 := fun o => ((DG.out.alloc o).raw).1
      have k2 := fun o => ((DG.out.alloc o).raw).2.1
      have k3 := fun o => ((DG.out.alloc o).raw).2.2.1
      have k4 := fun o o' => (((DG.out.alloc o).alloc o').raw).1
      have k5 := fun o o' => (((DG.out.alloc o).alloc o').raw).2.1
      have k6 := fun o o' => (((DG.out.alloc o).alloc o').raw).2.2.1
      have k7 := Nat.ne_of_lt DG.out.lt
      have k8 := Nat.ne_of_gt DG.out.lt
      go_region
      all_goals
        go_wp2_with fail
        go_meet
        first
        | exact tfin1 (by have := DG.out.lt; omega) _ _ _ _
        | exact tfin2 (by have := DG.out.lt; omega) _ _ _ _
    case rest =>
      obtain ⟨p, q, rfl, rfl, cp, cq, hpq, hgp, hgq, hB⟩ := hcut
      clear d0 d1 d2 d3 d4 d5 d6 d7 d8 d9 d10 d11 d12 d13 d14 d15 d16 d17 d18 d19 d20 d21 d22 d23
      replace DG := Lib.hid (DG.out.via hB)
      replace Q1 := Lib.hid (Q1.out.via hB)
      replace Q2 := Lib.hid (Q2.out.via hB)
      replace BX := Lib.hid (sbtr BX.out hB)
      have CP := Lib.hid cp
      have CQ := Lib.hid cq
      clear cp cq hB
      obtain ⟨v0, hv0⟩ : ∃ v, v = sv s0 H0 L0 := ⟨_, rfl⟩
      obtain ⟨v1, hv1⟩ : ∃ v, v = sv s1 H1 L1 := ⟨_, rfl⟩
      obtain ⟨v2, hv2⟩ : ∃ v, v = sv s2 H2 L2 := ⟨_, rfl⟩
      obtain ⟨v3, hv3⟩ : ∃ v, v = sv s3 H3 L3 := ⟨_, rfl⟩
      have V0 := Lib.hid hv0
      have V1 := Lib.hid hv1
      have V2 := Lib.hid hv2
      have V3 := Lib.hid hv3
      clear hv0 hv1 hv2 hv3
      go_wp2_with fail
      go_loopw [9] (fun i wr => ∃ (s : Bool) (H L : Nat) (s' : Bool) (H' L' : Nat), Lg s H L ∧ Lg s' H' L' ∧ (i = .int .i64 1 ∧ sv s H L = v0 ∧ sv s' H' L' = v0 ∨ i = .int .i64 2 ∧ sv s H L = min v0 v1 ∧ sv s' H' L' = max v0 v1 ∨ i = .int .i64 3 ∧ sv s H L = min (min v0 v1) v2 ∧ sv s' H' L' = max (max v0 v1) v2 ∨ i = .int .i64 4 ∧ sv s H L = min (min (min v0 v1) v2) v3 ∧ sv s' H' L' = max (max (max v0 v1) v2) v3) ∧ C3 wr p (.bool s) (.int .u64 (H : Int)) (.int .u64 (L : Int)) ∧ C3 wr q (.bool s') (.int .u64 (H' : Int)) (.int .u64 (L' : Int)) ∧ D12 wr g [.bool s0, .int .u64 (H0 : Int), .int .u64 (L0 : Int), .bool s1, .int .u64 (H1 : Int), .int .u64 (L1 : Int), .bool s2, .int .u64 (H2 : Int), .int .u64 (L2 : Int), .bool s3, .int .u64 (H3 : Int), .int .u64 (L3 : Int)] ∧ C3 wr (w.heap.size + 1 + 1) (.bool false) (.int .u64 0) (.int .u64 0) ∧ C3 wr (w.heap.size + 1 + 1 + 1) (.bool false) (.int .u64 0) (.int .u64 0) ∧ Below w.heap.size w wr) (fun i _ => 4 - (intOf i).toNat)
      case atStart => exact ⟨s0, H0, L0, s0, H0, L0, G0.out, G0.out, .inl ⟨rfl, V0.out.symm, V0.out.symm⟩, CP.out, CQ.out, DG.out, Q1.out, Q2.out, BX.out⟩
      case round =>
        obtain ⟨s, H, L, s', H', L', la, lb, hk, cp, cq, dg, q1, q2, bx⟩ := hrel
        clear CP CQ DG Q1 Q2 BX
        have LA := Lib.hid la
        have LB := Lib.hid lb
        have CP := Lib.hid cp
        have CQ := Lib.hid cq
        have DG := Lib.hid dg
        have Q1 := Lib.hid q1
        have Q2 := Lib.hid q2
        have BX := Lib.hid bx
        clear la lb cp cq dg q1 q2 bx
        rcases hk with ⟨rfl, hlo, hhi⟩ | ⟨rfl, hlo, hhi⟩ | ⟨rfl, hlo, hhi⟩ | ⟨rfl, hlo, hhi⟩
        · have VL := Lib.hid hlo
          have VH := Lib.hid hhi
          clear hlo hhi
          obtain ⟨b1, hb1⟩ : ∃ b, decide (sv s1 H1 L1 < sv s H L) = b := ⟨_, rfl⟩
          obtain ⟨b2, hb2⟩ : ∃ b, decide (sv s' H' L' < sv s1 H1 L1) = b := ⟨_, rfl⟩
          have C1 := Lib.hid (fun W => less_lg W G1.out LA.out)
          have C2 := Lib.hid (fun W => less_lg W LB.out G1.out)
          rw [hb1] at C1
          rw [hb2] at C2
          have D1 := Lib.hid hb1
          have D2 := Lib.hid hb2
          clear hb1 hb2
          have HK1 : Hid (∀ X : World, Below wr.heap.size wr X → X.cell? ⟨g, 3, none⟩ = some (.bool s1) ∧ X.cell? ⟨g, 4, none⟩ = some (.int .u64 (H1 : Int)) ∧ X.cell? ⟨g, 5, none⟩ = some (.int .u64 (L1 : Int)) ∧ X.cell? ⟨p, 0, none⟩ = some (.bool s) ∧ X.cell? ⟨p, 1, none⟩ = some (.int .u64 (H : Int)) ∧ X.cell? ⟨p, 2, none⟩ = some (.int .u64 (L : Int))) := fun X h => ⟨(DG.out.via h).at_ 3 (by simp), (DG.out.via h).at_ 4 (by simp), (DG.out.via h).at_ 5 (by simp), (CP.out.via h).c0, (CP.out.via h).c1, (CP.out.via h).c2⟩
          go_wp2_with fail
          go_region_held3 (fun X => X.cell? ⟨g, 3, none⟩ = some (.bool s1) ∧ X.cell? ⟨g, 4, none⟩ = some (.int .u64 (H1 : Int)) ∧ X.cell? ⟨g, 5, none⟩ = some (.int .u64 (L1 : Int)) ∧ X.cell? ⟨p, 0, none⟩ = some (.bool s) ∧ X.cell? ⟨p, 1, none⟩ = some (.int .u64 (H : Int)) ∧ X.cell? ⟨p, 2, none⟩ = some (.int .u64 (L : Int)))
            (first | exact HK1.out _ (Below.refl _ _) | exact HK1.out _ (Below.refl _ _).drew | exact HK1.out _ B1)
            (first | (go_at_call 66; refine (C1.out _).mono ?_; rintro e w1 ⟨rfl, hb1⟩; have B1 : Below wr.heap.size wr w1 := (by first | exact (Below.refl _ _).drew.trans hb1 | exact hb1)) | fail)
          have DG1 := Lib.hid (DG.out.via B1)
          have CP1 := Lib.hid (CP.out.via B1)
          have CQ1 := Lib.hid (CQ.out.via B1)
          have Q11 := Lib.hid (Q1.out.via B1)
          have Q21 := Lib.hid (Q2.out.via B1)
          have BX1 := Lib.hid (sbtr BX.out B1)
          clear B1 DG CP CQ Q1 Q2 BX HK1 C1
          cases b1
          · go_wp2_with fail
            generalize w1 = W1 at *
            have HK2 : Hid (∀ X : World, Below W1.heap.size W1 X → X.cell? ⟨g, 3, none⟩ = some (.bool s1) ∧ X.cell? ⟨g, 4, none⟩ = some (.int .u64 (H1 : Int)) ∧ X.cell? ⟨g, 5, none⟩ = some (.int .u64 (L1 : Int)) ∧ X.cell? ⟨q, 0, none⟩ = some (.bool s') ∧ X.cell? ⟨q, 1, none⟩ = some (.int .u64 (H' : Int)) ∧ X.cell? ⟨q, 2, none⟩ = some (.int .u64 (L' : Int))) := fun X h => ⟨(DG1.out.via h).at_ 3 (by simp), (DG1.out.via h).at_ 4 (by simp), (DG1.out.via h).at_ 5 (by simp), (CQ1.out.via h).c0, (CQ1.out.via h).c1, (CQ1.out.via h).c2⟩
            go_region_held3 (fun X => X.cell? ⟨g, 3, none⟩ = some (.bool s1) ∧ X.cell? ⟨g, 4, none⟩ = some (.int .u64 (H1 : Int)) ∧ X.cell? ⟨g, 5, none⟩ = some (.int .u64 (L1 : Int)) ∧ X.cell? ⟨q, 0, none⟩ = some (.bool s') ∧ X.cell? ⟨q, 1, none⟩ = some (.int .u64 (H' : Int)) ∧ X.cell? ⟨q, 2, none⟩ = some (.int .u64 (L' : Int)))
              (first | exact HK2.out _ (Below.refl _ _) | exact HK2.out _ (Below.refl _ _).drew | exact HK2.out _ B2)
              (first | (go_at_call 66; refine (C2.out _).mono ?_; rintro e w2 ⟨rfl, hb2⟩; have B2 : Below W1.heap.size W1 w2 := (by first | exact (Below.refl _ _).drew.trans hb2 | exact hb2)) | fail)
            have DG2 := Lib.hid (DG1.out.via B2)
            have CP2 := Lib.hid (CP1.out.via B2)
            have CQ2 := Lib.hid (CQ1.out.via B2)
            have Q12 := Lib.hid (Q11.out.via B2)
            have Q22 := Lib.hid (Q21.out.via B2)
            have BX2 := Lib.hid (sbtr BX1.out B2)
            clear B2 DG1 CP1 CQ1 Q11 Q21 BX1 HK2 C2
            cases b2
            · go_wp2
              go_roundw
              case rel => exact ⟨s, H, L, s', H', L', LA.out, LB.out, .inr (.inl ⟨rfl, by have a := VL.out; have b := V1.out; have c := D1.out; simp at c; omega, by have a := VH.out; have b := V1.out; have c := D2.out; simp at c; omega⟩), CP2.out, CQ2.out, DG2.out, Q12.out, Q22.out, BX2.out⟩
              case measure => simp [intOf]
            · obtain ⟨e0, e1, e2, e3, e4, e5, e6, e7, e8, e9, e10, e11, e12, e13, e14, e15, e16, e17, e18, e19, e20, e21, e22, e23⟩ := DG2.out.raw
              have ⟨q0, q1, q2, q3, q4, q5, ql⟩ := CQ2.out
              go_wp2
              clear e0 e1 e2 e3 e4 e5 e6 e7 e8 e9 e10 e11 e12 e13 e14 e15 e16 e17 e18 e19 e20 e21 e22 e23 q0 q1 q2 q3 q4 q5
              go_roundw
              case rel => exact ⟨s, H, L, s1, H1, L1, LA.out, G1.out, .inr (.inl ⟨rfl, by have a := VL.out; have b := V1.out; have c := D1.out; simp at c; omega, by have a := VH.out; have b := V1.out; have c := D2.out; simp at c; omega⟩), CP2.out.farC (by omega) [_, _, _], CQ2.out.setC _ _ _, DG2.out.farC (by omega) [_, _, _], Q12.out.farC (by omega) [_, _, _], Q22.out.farC (by omega) [_, _, _], below_setCells (by omega) [_, _, _] 0 _ _ BX2.out⟩
              case measure => simp [intOf]
          · obtain ⟨e0, e1, e2, e3, e4, e5, e6, e7, e8, e9, e10, e11, e12, e13, e14, e15, e16, e17, e18, e19, e20, e21, e22, e23⟩ := DG1.out.raw
            have ⟨p0, p1, p2, p3, p4, p5, pl⟩ := CP1.out
            go_wp2_with fail
            clear e0 e1 e2 e3 e4 e5 e6 e7 e8 e9 e10 e11 e12 e13 e14 e15 e16 e17 e18 e19 e20 e21 e22 e23 p0 p1 p2 p3 p4 p5 pl
            rw [set3_eq]
            replace CQ1 := Lib.hid (CQ1.out.farC (g := q) (h := p) (by omega) [.bool s1, .int .u64 (H1 : Int), .int .u64 (L1 : Int)])
            replace DG1 := Lib.hid (DG1.out.farC (h := p) (by omega) [.bool s1, .int .u64 (H1 : Int), .int .u64 (L1 : Int)])
            replace Q11 := Lib.hid (Q11.out.farC (h := p) (by omega) [.bool s1, .int .u64 (H1 : Int), .int .u64 (L1 : Int)])
            replace Q21 := Lib.hid (Q21.out.farC (h := p) (by omega) [.bool s1, .int .u64 (H1 : Int), .int .u64 (L1 : Int)])
            replace CP1 := Lib.hid (CP1.out.setC (.bool s1) (.int .u64 (H1 : Int)) (.int .u64 (L1 : Int)))
            replace BX1 := Lib.hid (below_setCells (g := p) (by omega) [.bool s1, .int .u64 (H1 : Int), .int .u64 (L1 : Int)] 0 _ _ BX1.out)
            generalize w1.setCells p 0 [.bool s1, .int .u64 (H1 : Int), .int .u64 (L1 : Int)] = W1 at *
            have HK2 : Hid (∀ X : World, Below W1.heap.size W1 X → X.cell? ⟨g, 3, none⟩ = some (.bool s1) ∧ X.cell? ⟨g, 4, none⟩ = some (.int .u64 (H1 : Int)) ∧ X.cell? ⟨g, 5, none⟩ = some (.int .u64 (L1 : Int)) ∧ X.cell? ⟨q, 0, none⟩ = some (.bool s') ∧ X.cell? ⟨q, 1, none⟩ = some (.int .u64 (H' : Int)) ∧ X.cell? ⟨q, 2, none⟩ = some (.int .u64 (L' : Int))) := fun X h => ⟨(DG1.out.via h).at_ 3 (by simp), (DG1.out.via h).at_ 4 (by simp), (DG1.out.via h).at_ 5 (by simp), (CQ1.out.via h).c0, (CQ1.out.via h).c1, (CQ1.out.via h).c2⟩
            go_region_held3 (fun X => X.cell? ⟨g, 3, none⟩ = some (.bool s1) ∧ X.cell? ⟨g, 4, none⟩ = some (.int .u64 (H1 : Int)) ∧ X.cell? ⟨g, 5, none⟩ = some (.int .u64 (L1 : Int)) ∧ X.cell? ⟨q, 0, none⟩ = some (.bool s') ∧ X.cell? ⟨q, 1, none⟩ = some (.int .u64 (H' : Int)) ∧ X.cell? ⟨q, 2, none⟩ = some (.int .u64 (L' : Int)))
              (first | exact HK2.out _ (Below.refl _ _) | exact HK2.out _ (Below.refl _ _).drew | exact HK2.out _ B2)
              (first | (go_at_call 66; refine (C2.out _).mono ?_; rintro e w2 ⟨rfl, hb2⟩; have B2 : Below W1.heap.size W1 w2 := (by first | exact (Below.refl _ _).drew.trans hb2 | exact hb2)) | fail)
            have DG2 := Lib.hid (DG1.out.via B2)
            have CP2 := Lib.hid (CP1.out.via B2)
            have CQ2 := Lib.hid (CQ1.out.via B2)
            have Q12 := Lib.hid (Q11.out.via B2)
            have Q22 := Lib.hid (Q21.out.via B2)
            have BX2 := Lib.hid (sbtr BX1.out B2)
            clear B2 DG1 CP1 CQ1 Q11 Q21 BX1 HK2 C2
            cases b2
            · go_wp2
              go_roundw
              case rel => exact ⟨s1, H1, L1, s', H', L', G1.out, LB.out, .inr (.inl ⟨rfl, by have a := VL.out; have b := V1.out; have c := D1.out; simp at c; omega, by have a := VH.out; have b := V1.out; have c := D2.out; simp at c; omega⟩), CP2.out, CQ2.out, DG2.out, Q12.out, Q22.out, BX2.out⟩
              case measure => simp [intOf]
            · obtain ⟨e0, e1, e2, e3, e4, e5, e6, e7, e8, e9, e10, e11, e12, e13, e14, e15, e16, e17, e18, e19, e20, e21, e22, e23⟩ := DG2.out.raw
              have ⟨q0, q1, q2, q3, q4, q5, ql⟩ := CQ2.out
              go_wp2
              clear e0 e1 e2 e3 e4 e5 e6 e7 e8 e9 e10 e11 e12 e13 e14 e15 e16 e17 e18 e19 e20 e21 e22 e23 q0 q1 q2 q3 q4 q5
              go_roundw
              case rel => exact ⟨s1, H1, L1, s1, H1, L1, G1.out, G1.out, .inr (.inl ⟨rfl, by have a := VL.out; have b := V1.out; have c := D1.out; simp at c; omega, by have a := VH.out; have b := V1.out; have c := D2.out; simp at c; omega⟩), CP2.out.farC (by omega) [_, _, _], CQ2.out.setC _ _ _, DG2.out.farC (by omega) [_, _, _], Q12.out.farC (by omega) [_, _, _], Q22.out.farC (by omega) [_, _, _], below_setCells (by omega) [_, _, _] 0 _ _ BX2.out⟩
              case measure => simp [intOf]
        · have VL := Lib.hid hlo
          have VH := Lib.hid hhi
          clear hlo hhi
          obtain ⟨b1, hb1⟩ : ∃ b, decide (sv s2 H2 L2 < sv s H L) = b := ⟨_, rfl⟩
          obtain ⟨b2, hb2⟩ : ∃ b, decide (sv s' H' L' < sv s2 H2 L2) = b := ⟨_, rfl⟩
          have C1 := Lib.hid (fun W => less_lg W G2.out LA.out)
          have C2 := Lib.hid (fun W => less_lg W LB.out G2.out)
          rw [hb1] at C1
          rw [hb2] at C2
          have D1 := Lib.hid hb1
          have D2 := Lib.hid hb2
          clear hb1 hb2
          have HK1 : Hid (∀ X : World, Below wr.heap.size wr X → X.cell? ⟨g, 6, none⟩ = some (.bool s2) ∧ X.cell? ⟨g, 7, none⟩ = some (.int .u64 (H2 : Int)) ∧ X.cell? ⟨g, 8, none⟩ = some (.int .u64 (L2 : Int)) ∧ X.cell? ⟨p, 0, none⟩ = some (.bool s) ∧ X.cell? ⟨p, 1, none⟩ = some (.int .u64 (H : Int)) ∧ X.cell? ⟨p, 2, none⟩ = some (.int .u64 (L : Int))) := fun X h => ⟨(DG.out.via h).at_ 6 (by simp), (DG.out.via h).at_ 7 (by simp), (DG.out.via h).at_ 8 (by simp), (CP.out.via h).c0, (CP.out.via h).c1, (CP.out.via h).c2⟩
          go_wp2_with fail
          go_region_held3 (fun X => X.cell? ⟨g, 6, none⟩ = some (.bool s2) ∧ X.cell? ⟨g, 7, none⟩ = some (.int .u64 (H2 : Int)) ∧ X.cell? ⟨g, 8, none⟩ = some (.int .u64 (L2 : Int)) ∧ X.cell? ⟨p, 0, none⟩ = some (.bool s) ∧ X.cell? ⟨p, 1, none⟩ = some (.int .u64 (H : Int)) ∧ X.cell? ⟨p, 2, none⟩ = some (.int .u64 (L : Int)))
            (first | exact HK1.out _ (Below.refl _ _) | exact HK1.out _ (Below.refl _ _).drew | exact HK1.out _ B1)
            (first | (go_at_call 66; refine (C1.out _).mono ?_; rintro e w1 ⟨rfl, hb1⟩; have B1 : Below wr.heap.size wr w1 := (by first | exact (Below.refl _ _).drew.trans hb1 | exact hb1)) | fail)
          have DG1 := Lib.hid (DG.out.via B1)
          have CP1 := Lib.hid (CP.out.via B1)
          have CQ1 := Lib.hid (CQ.out.via B1)
          have Q11 := Lib.hid (Q1.out.via B1)
          have Q21 := Lib.hid (Q2.out.via B1)
          have BX1 := Lib.hid (sbtr BX.out B1)
          clear B1 DG CP CQ Q1 Q2 BX HK1 C1
          cases b1
          · go_wp2_with fail
            generalize w1 = W1 at *
            have HK2 : Hid (∀ X : World, Below W1.heap.size W1 X → X.cell? ⟨g, 6, none⟩ = some (.bool s2) ∧ X.cell? ⟨g, 7, none⟩ = some (.int .u64 (H2 : Int)) ∧ X.cell? ⟨g, 8, none⟩ = some (.int .u64 (L2 : Int)) ∧ X.cell? ⟨q, 0, none⟩ = some (.bool s') ∧ X.cell? ⟨q, 1, none⟩ = some (.int .u64 (H' : Int)) ∧ X.cell? ⟨q, 2, none⟩ = some (.int .u64 (L' : Int))) := fun X h => ⟨(DG1.out.via h).at_ 6 (by simp), (DG1.out.via h).at_ 7 (by simp), (DG1.out.via h).at_ 8 (by simp), (CQ1.out.via h).c0, (CQ1.out.via h).c1, (CQ1.out.via h).c2⟩
            go_region_held3 (fun X => X.cell? ⟨g, 6, none⟩ = some (.bool s2) ∧ X.cell? ⟨g, 7, none⟩ = some (.int .u64 (H2 : Int)) ∧ X.cell? ⟨g, 8, none⟩ = some (.int .u64 (L2 : Int)) ∧ X.cell? ⟨q, 0, none⟩ = some (.bool s') ∧ X.cell? ⟨q, 1, none⟩ = some (.int .u64 (H' : Int)) ∧ X.cell? ⟨q, 2, none⟩ = some (.int .u64 (L' : Int)))
              (first | exact HK2.out _ (Below.refl _ _) | exact HK2.out _ (Below.refl _ _).drew | exact HK2.out _ B2)
              (first | (go_at_call 66; refine (C2.out _).mono ?_; rintro e w2 ⟨rfl, hb2⟩; have B2 : Below W1.heap.size W1 w2 := (by first | exact (Below.refl _ _).drew.trans hb2 | exact hb2)) | fail)
            have DG2 := Lib.hid (DG1.out.via B2)
            have CP2 := Lib.hid (CP1.out.via B2)
            have CQ2 := Lib.hid (CQ1.out.via B2)
            have Q12 := Lib.hid (Q11.out.via B2)
            have Q22 := Lib.hid (Q21.out.via B2)
            have BX2 := Lib.hid (sbtr BX1.out B2)
            clear B2 DG1 CP1 CQ1 Q11 Q21 BX1 HK2 C2
            cases b2
            · go_wp2
              go_roundw
              case rel => exact ⟨s, H, L, s', H', L', LA.out, LB.out, .inr (.inr (.inl ⟨rfl, by have a := VL.out; have b := V2.out; have c := D1.out; simp at c; omega, by have a := VH.out; have b := V2.out; have c := D2.out; simp at c; omega⟩)), CP2.out, CQ2.out, DG2.out, Q12.out, Q22.out, BX2.out⟩
              case measure => simp [intOf]
            · obtain ⟨e0, e1, e2, e3, e4, e5, e6, e7, e8, e9, e10, e11, e12, e13, e14, e15, e16, e17, e18, e19, e20, e21, e22, e23⟩ := DG2.out.raw
              have ⟨q0, q1, q2, q3, q4, q5, ql⟩ := CQ2.out
              go_wp2
              clear e0 e1 e2 e3 e4 e5 e6 e7 e8 e9 e10 e11 e12 e13 e14 e15 e16 e17 e18 e19 e20 e21 e22 e23 q0 q1 q2 q3 q4 q5
              go_roundw
              case rel => exact ⟨s, H, L, s2, H2, L2, LA.out, G2.out, .inr (.inr (.inl ⟨rfl, by have a := VL.out; have b := V2.out; have c := D1.out; simp at c; omega, by have a := VH.out; have b := V2.out; have c := D2.out; simp at c; omega⟩)), CP2.out.farC (by omega) [_, _, _], CQ2.out.setC _ _ _, DG2.out.farC (by omega) [_, _, _], Q12.out.farC (by omega) [_, _, _], Q22.out.farC (by omega) [_, _, _], below_setCells (by omega) [_, _, _] 0 _ _ BX2.out⟩
              case measure => simp [intOf]
          · obtain ⟨e0, e1, e2, e3, e4, e5, e6, e7, e8, e9, e10, e11, e12, e13, e14, e15, e16, e17, e18, e19, e20, e21, e22, e23⟩ := DG1.out.raw
            have ⟨p0, p1, p2, p3, p4, p5, pl⟩ := CP1.out
            go_wp2_with fail
            clear e0 e1 e2 e3 e4 e5 e6 e7 e8 e9 e10 e11 e12 e13 e14 e15 e16 e17 e18 e19 e20 e21 e22 e23 p0 p1 p2 p3 p4 p5 pl
            rw [set3_eq]
            replace CQ1 := Lib.hid (CQ1.out.farC (g := q) (h := p) (by omega) [.bool s2, .int .u64 (H2 : Int), .int .u64 (L2 : Int)])
            replace DG1 := Lib.hid (DG1.out.farC (h := p) (by omega) [.bool s2, .int .u64 (H2 : Int), .int .u64 (L2 : Int)])
            replace Q11 := Lib.hid (Q11.out.farC (h := p) (by omega) [.bool s2, .int .u64 (H2 : Int), .int .u64 (L2 : Int)])
            replace Q21 := Lib.hid (Q21.out.farC (h := p) (by omega) [.bool s2, .int .u64 (H2 : Int), .int .u64 (L2 : Int)])
            replace CP1 := Lib.hid (CP1.out.setC (.bool s2) (.int .u64 (H2 : Int)) (.int .u64 (L2 : Int)))
            replace BX1 := Lib.hid (below_setCells (g := p) (by omega) [.bool s2, .int .u64 (H2 : Int), .int .u64 (L2 : Int)] 0 _ _ BX1.out)
            generalize w1.setCells p 0 [.bool s2, .int .u64 (H2 : Int), .int .u64 (L2 : Int)] = W1 at *
            have HK2 : Hid (∀ X : World, Below W1.heap.size W1 X → X.cell? ⟨g, 6, none⟩ = some (.bool s2) ∧ X.cell? ⟨g, 7, none⟩ = some (.int .u64 (H2 : Int)) ∧ X.cell? ⟨g, 8, none⟩ = some (.int .u64 (L2 : Int)) ∧ X.cell? ⟨q, 0, none⟩ = some (.bool s') ∧ X.cell? ⟨q, 1, none⟩ = some (.int .u64 (H' : Int)) ∧ X.cell? ⟨q, 2, none⟩ = some (.int .u64 (L' : Int))) := fun X h => ⟨(DG1.out.via h).at_ 6 (by simp), (DG1.out.via h).at_ 7 (by simp), (DG1.out.via h).at_ 8 (by simp), (CQ1.out.via h).c0, (CQ1.out.via h).c1, (CQ1.out.via h).c2⟩
            go_region_held3 (fun X => X.cell? ⟨g, 6, none⟩ = some (.bool s2) ∧ X.cell? ⟨g, 7, none⟩ = some (.int .u64 (H2 : Int)) ∧ X.cell? ⟨g, 8, none⟩ = some (.int .u64 (L2 : Int)) ∧ X.cell? ⟨q, 0, none⟩ = some (.bool s') ∧ X.cell? ⟨q, 1, none⟩ = some (.int .u64 (H' : Int)) ∧ X.cell? ⟨q, 2, none⟩ = some (.int .u64 (L' : Int)))
              (first | exact HK2.out _ (Below.refl _ _) | exact HK2.out _ (Below.refl _ _).drew | exact HK2.out _ B2)
              (first | (go_at_call 66; refine (C2.out _).mono ?_; rintro e w2 ⟨rfl, hb2⟩; have B2 : Below W1.heap.size W1 w2 := (by first | exact (Below.refl _ _).drew.trans hb2 | exact hb2)) | fail)
            have DG2 := Lib.hid (DG1.out.via B2)
            have CP2 := Lib.hid (CP1.out.via B2)
            have CQ2 := Lib.hid (CQ1.out.via B2)
            have Q12 := Lib.hid (Q11.out.via B2)
            have Q22 := Lib.hid (Q21.out.via B2)
            have BX2 := Lib.hid (sbtr BX1.out B2)
            clear B2 DG1 CP1 CQ1 Q11 Q21 BX1 HK2 C2
            cases b2
            · go_wp2
              go_roundw
              case rel => exact ⟨s2, H2, L2, s', H', L', G2.out, LB.out, .inr (.inr (.inl ⟨rfl, by have a := VL.out; have b := V2.out; have c := D1.out; simp at c; omega, by have a := VH.out; have b := V2.out; have c := D2.out; simp at c; omega⟩)), CP2.out, CQ2.out, DG2.out, Q12.out, Q22.out, BX2.out⟩
              case measure => simp [intOf]
            · obtain ⟨e0, e1, e2, e3, e4, e5, e6, e7, e8, e9, e10, e11, e12, e13, e14, e15, e16, e17, e18, e19, e20, e21, e22, e23⟩ := DG2.out.raw
              have ⟨q0, q1, q2, q3, q4, q5, ql⟩ := CQ2.out
              go_wp2
              clear e0 e1 e2 e3 e4 e5 e6 e7 e8 e9 e10 e11 e12 e13 e14 e15 e16 e17 e18 e19 e20 e21 e22 e23 q0 q1 q2 q3 q4 q5
              go_roundw
              case rel => exact ⟨s2, H2, L2, s2, H2, L2, G2.out, G2.out, .inr (.inr (.inl ⟨rfl, by have a := VL.out; have b := V2.out; have c := D1.out; simp at c; omega, by have a := VH.out; have b := V2.out; have c := D2.out; simp at c; omega⟩)), CP2.out.farC (by omega) [_, _, _], CQ2.out.setC _ _ _, DG2.out.farC (by omega) [_, _, _], Q12.out.farC (by omega) [_, _, _], Q22.out.farC (by omega) [_, _, _], below_setCells (by omega) [_, _, _] 0 _ _ BX2.out⟩
              case measure => simp [intOf]
        · have VL := Lib.hid hlo
          have VH := Lib.hid hhi
          clear hlo hhi
          obtain ⟨b1, hb1⟩ : ∃ b, decide (sv s3 H3 L3 < sv s H L) = b := ⟨_, rfl⟩
          obtain ⟨b2, hb2⟩ : ∃ b, decide (sv s' H' L' < sv s3 H3 L3) = b := ⟨_, rfl⟩
          have C1 := Lib.hid (fun W => less_lg W G3.out LA.out)
          have C2 := Lib.hid (fun W => less_lg W LB.out G3.out)
          rw [hb1] at C1
          rw [hb2] at C2
          have D1 := Lib.hid hb1
          have D2 := Lib.hid hb2
          clear hb1 hb2
          have HK1 : Hid (∀ X : World, Below wr.heap.size wr X → X.cell? ⟨g, 9, none⟩ = some (.bool s3) ∧ X.cell? ⟨g, 10, none⟩ = some (.int .u64 (H3 : Int)) ∧ X.cell? ⟨g, 11, none⟩ = some (.int .u64 (L3 : Int)) ∧ X.cell? ⟨p, 0, none⟩ = some (.bool s) ∧ X.cell? ⟨p, 1, none⟩ = some (.int .u64 (H : Int)) ∧ X.cell? ⟨p, 2, none⟩ = some (.int .u64 (L : Int))) := fun X h => ⟨(DG.out.via h).at_ 9 (by simp), (DG.out.via h).at_ 10 (by simp), (DG.out.via h).at_ 11 (by simp), (CP.out.via h).c0, (CP.out.via h).c1, (CP.out.via h).c2⟩
          go_wp2_with fail
          go_region_held3 (fun X => X.cell? ⟨g, 9, none⟩ = some (.bool s3) ∧ X.cell? ⟨g, 10, none⟩ = some (.int .u64 (H3 : Int)) ∧ X.cell? ⟨g, 11, none⟩ = some (.int .u64 (L3 : Int)) ∧ X.cell? ⟨p, 0, none⟩ = some (.bool s) ∧ X.cell? ⟨p, 1, none⟩ = some (.int .u64 (H : Int)) ∧ X.cell? ⟨p, 2, none⟩ = some (.int .u64 (L : Int)))
            (first | exact HK1.out _ (Below.refl _ _) | exact HK1.out _ (Below.refl _ _).drew | exact HK1.out _ B1)
            (first | (go_at_call 66; refine (C1.out _).mono ?_; rintro e w1 ⟨rfl, hb1⟩; have B1 : Below wr.heap.size wr w1 := (by first | exact (Below.refl _ _).drew.trans hb1 | exact hb1)) | fail)
          have DG1 := Lib.hid (DG.out.via B1)
          have CP1 := Lib.hid (CP.out.via B1)
          have CQ1 := Lib.hid (CQ.out.via B1)
          have Q11 := Lib.hid (Q1.out.via B1)
          have Q21 := Lib.hid (Q2.out.via B1)
          have BX1 := Lib.hid (sbtr BX.out B1)
          clear B1 DG CP CQ Q1 Q2 BX HK1 C1
          cases b1
          · go_wp2_with fail
            generalize w1 = W1 at *
            have HK2 : Hid (∀ X : World, Below W1.heap.size W1 X → X.cell? ⟨g, 9, none⟩ = some (.bool s3) ∧ X.cell? ⟨g, 10, none⟩ = some (.int .u64 (H3 : Int)) ∧ X.cell? ⟨g, 11, none⟩ = some (.int .u64 (L3 : Int)) ∧ X.cell? ⟨q, 0, none⟩ = some (.bool s') ∧ X.cell? ⟨q, 1, none⟩ = some (.int .u64 (H' : Int)) ∧ X.cell? ⟨q, 2, none⟩ = some (.int .u64 (L' : Int))) := fun X h => ⟨(DG1.out.via h).at_ 9 (by simp), (DG1.out.via h).at_ 10 (by simp), (DG1.out.via h).at_ 11 (by simp), (CQ1.out.via h).c0, (CQ1.out.via h).c1, (CQ1.out.via h).c2⟩
            go_region_held3 (fun X => X.cell? ⟨g, 9, none⟩ = some (.bool s3) ∧ X.cell? ⟨g, 10, none⟩ = some (.int .u64 (H3 : Int)) ∧ X.cell? ⟨g, 11, none⟩ = some (.int .u64 (L3 : Int)) ∧ X.cell? ⟨q, 0, none⟩ = some (.bool s') ∧ X.cell? ⟨q, 1, none⟩ = some (.int .u64 (H' : Int)) ∧ X.cell? ⟨q, 2, none⟩ = some (.int .u64 (L' : Int)))
              (first | exact HK2.out _ (Below.refl _ _) | exact HK2.out _ (Below.refl _ _).drew | exact HK2.out _ B2)
              (first | (go_at_call 66; refine (C2.out _).mono ?_; rintro e w2 ⟨rfl, hb2⟩; have B2 : Below W1.heap.size W1 w2 := (by first | exact (Below.refl _ _).drew.trans hb2 | exact hb2)) | fail)
            have DG2 := Lib.hid (DG1.out.via B2)
            have CP2 := Lib.hid (CP1.out.via B2)
            have CQ2 := Lib.hid (CQ1.out.via B2)
            have Q12 := Lib.hid (Q11.out.via B2)
            have Q22 := Lib.hid (Q21.out.via B2)
            have BX2 := Lib.hid (sbtr BX1.out B2)
            clear B2 DG1 CP1 CQ1 Q11 Q21 BX1 HK2 C2
            cases b2
            · go_wp2
              go_roundw
              case rel => exact ⟨s, H, L, s', H', L', LA.out, LB.out, .inr (.inr (.inr (⟨rfl, by have a := VL.out; have b := V3.out; have c := D1.out; simp at c; omega, by have a := VH.out; have b := V3.out; have c := D2.out; simp at c; omega⟩))), CP2.out, CQ2.out, DG2.out, Q12.out, Q22.out, BX2.out⟩
              case measure => simp [intOf]
            · obtain ⟨e0, e1, e2, e3, e4, e5, e6, e7, e8, e9, e10, e11, e12, e13, e14, e15, e16, e17, e18, e19, e20, e21, e22, e23⟩ := DG2.out.raw
              have ⟨q0, q1, q2, q3, q4, q5, ql⟩ := CQ2.out
              go_wp2
              clear e0 e1 e2 e3 e4 e5 e6 e7 e8 e9 e10 e11 e12 e13 e14 e15 e16 e17 e18 e19 e20 e21 e22 e23 q0 q1 q2 q3 q4 q5
              go_roundw
              case rel => exact ⟨s, H, L, s3, H3, L3, LA.out, G3.out, .inr (.inr (.inr (⟨rfl, by have a := VL.out; have b := V3.out; have c := D1.out; simp at c; omega, by have a := VH.out; have b := V3.out; have c := D2.out; simp at c; omega⟩))), CP2.out.farC (by omega) [_, _, _], CQ2.out.setC _ _ _, DG2.out.farC (by omega) [_, _, _], Q12.out.farC (by omega) [_, _, _], Q22.out.farC (by omega) [_, _, _], below_setCells (by omega) [_, _, _] 0 _ _ BX2.out⟩
              case measure => simp [intOf]
          · obtain ⟨e0, e1, e2, e3, e4, e5, e6, e7, e8, e9, e10, e11, e12, e13, e14, e15, e16, e17, e18, e19, e20, e21, e22, e23⟩ := DG1.out.raw
            have ⟨p0, p1, p2, p3, p4, p5, pl⟩ := CP1.out
            go_wp2_with fail
            clear e0 e1 e2 e3 e4 e5 e6 e7 e8 e9 e10 e11 e12 e13 e14 e15 e16 e17 e18 e19 e20 e21 e22 e23 p0 p1 p2 p3 p4 p5 pl
            rw [set3_eq]
            replace CQ1 := Lib.hid (CQ1.out.farC (g := q) (h := p) (by omega) [.bool s3, .int .u64 (H3 : Int), .int .u64 (L3 : Int)])
            replace DG1 := Lib.hid (DG1.out.farC (h := p) (by omega) [.bool s3, .int .u64 (H3 : Int), .int .u64 (L3 : Int)])
            replace Q11 := Lib.hid (Q11.out.farC (h := p) (by omega) [.bool s3, .int .u64 (H3 : Int), .int .u64 (L3 : Int)])
            replace Q21 := Lib.hid (Q21.out.farC (h := p) (by omega) [.bool s3, .int .u64 (H3 : Int), .int .u64 (L3 : Int)])
            replace CP1 := Lib.hid (CP1.out.setC (.bool s3) (.int .u64 (H3 : Int)) (.int .u64 (L3 : Int)))
            replace BX1 := Lib.hid (below_setCells (g := p) (by omega) [.bool s3, .int .u64 (H3 : Int), .int .u64 (L3 : Int)] 0 _ _ BX1.out)
            generalize w1.setCells p 0 [.bool s3, .int .u64 (H3 : Int), .int .u64 (L3 : Int)] = W1 at *
            have HK2 : Hid (∀ X : World, Below W1.heap.size W1 X → X.cell? ⟨g, 9, none⟩ = some (.bool s3) ∧ X.cell? ⟨g, 10, none⟩ = some (.int .u64 (H3 : Int)) ∧ X.cell? ⟨g, 11, none⟩ = some (.int .u64 (L3 : Int)) ∧ X.cell? ⟨q, 0, none⟩ = some (.bool s') ∧ X.cell? ⟨q, 1, none⟩ = some (.int .u64 (H' : Int)) ∧ X.cell? ⟨q, 2, none⟩ = some (.int .u64 (L' : Int))) := fun X h => ⟨(DG1.out.via h).at_ 9 (by simp), (DG1.out.via h).at_ 10 (by simp), (DG1.out.via h).at_ 11 (by simp), (CQ1.out.via h).c0, (CQ1.out.via h).c1, (CQ1.out.via h).c2⟩
            go_region_held3 (fun X => X.cell? ⟨g, 9, none⟩ = some (.bool s3) ∧ X.cell? ⟨g, 10, none⟩ = some (.int .u64 (H3 : Int)) ∧ X.cell? ⟨g, 11, none⟩ = some (.int .u64 (L3 : Int)) ∧ X.cell? ⟨q, 0, none⟩ = some (.bool s') ∧ X.cell? ⟨q, 1, none⟩ = some (.int .u64 (H' : Int)) ∧ X.cell? ⟨q, 2, none⟩ = some (.int .u64 (L' : Int)))
              (first | exact HK2.out _ (Below.refl _ _) | exact HK2.out _ (Below.refl _ _).drew | exact HK2.out _ B2)
              (first | (go_at_call 66; refine (C2.out _).mono ?_; rintro e w2 ⟨rfl, hb2⟩; have B2 : Below W1.heap.size W1 w2 := (by first | exact (Below.refl _ _).drew.trans hb2 | exact hb2)) | fail)
            have DG2 := Lib.hid (DG1.out.via B2)
            have CP2 := Lib.hid (CP1.out.via B2)
            have CQ2 := Lib.hid (CQ1.out.via B2)
            have Q12 := Lib.hid (Q11.out.via B2)
            have Q22 := Lib.hid (Q21.out.via B2)
            have BX2 := Lib.hid (sbtr BX1.out B2)
            clear B2 DG1 CP1 CQ1 Q11 Q21 BX1 HK2 C2
            cases b2
            · go_wp2
              go_roundw
              case rel => exact ⟨s3, H3, L3, s', H', L', G3.out, LB.out, .inr (.inr (.inr (⟨rfl, by have a := VL.out; have b := V3.out; have c := D1.out; simp at c; omega, by have a := VH.out; have b := V3.out; have c := D2.out; simp at c; omega⟩))), CP2.out, CQ2.out, DG2.out, Q12.out, Q22.out, BX2.out⟩
              case measure => simp [intOf]
            · obtain ⟨e0, e1, e2, e3, e4, e5, e6, e7, e8, e9, e10, e11, e12, e13, e14, e15, e16, e17, e18, e19, e20, e21, e22, e23⟩ := DG2.out.raw
              have ⟨q0, q1, q2, q3, q4, q5, ql⟩ := CQ2.out
              go_wp2
              clear e0 e1 e2 e3 e4 e5 e6 e7 e8 e9 e10 e11 e12 e13 e14 e15 e16 e17 e18 e19 e20 e21 e22 e23 q0 q1 q2 q3 q4 q5
              go_roundw
              case rel => exact ⟨s3, H3, L3, s3, H3, L3, G3.out, G3.out, .inr (.inr (.inr (⟨rfl, by have a := VL.out; have b := V3.out; have c := D1.out; simp at c; omega, by have a := VH.out; have b := V3.out; have c := D2.out; simp at c; omega⟩))), CP2.out.farC (by omega) [_, _, _], CQ2.out.setC _ _ _, DG2.out.farC (by omega) [_, _, _], Q12.out.farC (by omega) [_, _, _], Q22.out.farC (by omega) [_, _, _], below_setCells (by omega) [_, _, _] 0 _ _ BX2.out⟩
              case measure => simp [intOf]
        · have VL := Lib.hid hlo
          have VH := Lib.hid hhi
          clear hlo hhi
          have ⟨p0, p1, p2, _, _, _, _⟩ := CP.out
          have ⟨q0, q1, q2, _, _, _, _⟩ := CQ.out
          have ⟨r0, r1, r2, r3, r4, r5, _⟩ := Q1.out
          have ⟨t0, t1, t2, t3, t4, t5, _⟩ := Q2.out
          go_wp2_with fail
          go_region
          all_goals
            go_wp2_with fail
            exact bodyPost_ret (res_ll Try.results45 rfl rfl (((Q1.out.setC (.bool s) (.int .u64 (H : Int)) (.int .u64 (L : Int))).farC (h := w.heap.size + 1 + 1 + 1) (by omega) [.bool s', .int .u64 (H' : Int), .int .u64 (L' : Int)]).drewN 1) (((Q2.out.farC (h := w.heap.size + 1 + 1) (by omega) [.bool s, .int .u64 (H : Int), .int .u64 (L : Int)]).setC (.bool s') (.int .u64 (H' : Int)) (.int .u64 (L' : Int))).drewN 1)) rfl ⟨s, H, L, s', H', L', LA.out, LB.out, by rw [VL.out, V0.out, V1.out, V2.out, V3.out]; rfl, by rw [VH.out, V0.out, V1.out, V2.out, V3.out]; rfl, rfl, bdrewN (below_setCells (g := w.heap.size + 1 + 1 + 1) (by omega) [.bool s', .int .u64 (H' : Int), .int .u64 (L' : Int)] 0 _ _ (below_setCells (g := w.heap.size + 1 + 1) (by omega) [.bool s, .int .u64 (H : Int), .int .u64 (L : Int)] 0 _ _ BX.out)) 1⟩
theorem ends_any (w : World) (al ah bl bh : Int) (ha : IvIn al ah) (hb : IvIn bl bh) :
    Calls Try.prog 45 #[iv al ah, iv bl bh] w (RE2 w (al * bl) (al * bh) (ah * bl) (ah * bh)) := by
  obtain ⟨x1, x2, x3⟩ := ha
  obtain ⟨y1, y2, y3⟩ := hb
  obtain ⟨s0, H0, L0, g0, e0, t0⟩ := times_lg al bl (by omega) (by omega) (by omega) (by omega)
  obtain ⟨s1, H1, L1, g1, e1, t1⟩ := times_lg al bh (by omega) (by omega) (by omega) (by omega)
  obtain ⟨s2, H2, L2, g2, e2, t2⟩ := times_lg ah bl (by omega) (by omega) (by omega) (by omega)
  obtain ⟨s3, H3, L3, g3, e3, t3⟩ := times_lg ah bh (by omega) (by omega) (by omega) (by omega)
  rw [← e0, ← e1, ← e2, ← e3]
  exact ends_g w al ah bl bh s0 s1 s2 s3 H0 H1 H2 H3 L0 L1 L2 L3 g0 g1 g2 g3 t0 t1 t2 t3
end Go.Proofs.Ytchhndlpngidcaa

/- Intervals: Mul of the reference. -/
namespace Go.Proofs.Ytchhndlpngidcaa
open Go.RowKit

theorem mkI_cl2 {lo hi lo' hi' : Int} (h1 : cl lo = cl lo') (h2 : cl hi = cl hi') (h4 : lo' ≤ hi') : mkI lo hi = mkI lo' hi' := by
  unfold mkI cl at *
  by_cases h : lo' < -2305843009213693952 ∨ 2305843009213693952 < hi'
  · rw [if_pos (show lo < -2305843009213693952 ∨ 2305843009213693952 < hi by omega), if_pos h]
  · have h5 : ¬ (lo < -2305843009213693952 ∨ 2305843009213693952 < hi) := by omega
    rw [if_neg h5, if_neg h]
    have e1 : lo = lo' := by omega
    have e2 : hi = hi' := by omega
    rw [e1, e2]
theorem C3.far2 {w : World} {g h : Nat} {x0 x1 x2 : Value} (p : C3 w g x0 x1 x2) (hne : g ≠ h) (x y : Value) : C3 ((w.setCell ⟨h, 0, none⟩ x).setCell ⟨h, 1, none⟩ y) g x0 x1 x2 := p.farC hne [x, y]
theorem rover_lg (w : World) {s : Bool} {H L : Nat} (g : Lg s H L) (up : Bool) (D : Nat) (hD0 : 0 < D) (hD : D < 18446744073709551616) :
    Calls Try.prog 46 #[lv s H L, .int .u64 (D : Int), .bool up] w (RN1 w (rov s up (H * 18446744073709551616 + L) D)) := by
  have h := rover_any w s up (H * 18446744073709551616 + L) D hD0 hD
  have e1 := split_hl H g.low
  unfold pv at h
  rw [e1.1, e1.2] at h
  exact h
set_option maxRecDepth 100000 in
set_option maxHeartbeats 1000000 in
theorem rmulp_any (w : World) (al ah bl bh : Int) : Calls Try.prog 10 #[iv al ah, iv bl bh] w (RO w (j2 al ah bl bh (mkI (mulLo al ah bl bh) (mulHi al ah bl bh)))) := by
  have PA := Lib.hid (((Pr.new w (w.heap.size) rfl (.int .i64 al) (.int .i64 ah) 23).alloc (ivB bl bh)).alloc (ivB 0 0))
  have PB := Lib.hid ((Pr.new (w.alloc (ivB al ah)) (w.heap.size + 1) (by simp) (.int .i64 bl) (.int .i64 bh) 23).alloc (ivB 0 0))
  have PR := Lib.hid (Pr.new ((w.alloc (ivB al ah)).alloc (ivB bl bh)) (w.heap.size + 1 + 1) (by simp) (.int .i64 0) (.int .i64 0) 23)
  have BW : Hid (Below w.heap.size w (((w.alloc (ivB al ah)).alloc (ivB bl bh)).alloc (ivB 0 0))) := (sbal (sbal (sbal (Below.refl _ _) _) _) _)
  go_enter Try.func10, Try.ntmps10
  go_wp2_with fail
  generalize ((w.alloc (ivB al ah)).alloc (ivB bl bh)).alloc (ivB 0 0) = W0 at *
  refine (rboth_any _ al ah bl bh).mono ?_
  rintro e w1 ⟨rfl, hb⟩
  have P1 := Lib.hid (PA.out.via hb)
  have P2 := Lib.hid (PB.out.via hb)
  have P3 := Lib.hid (PR.out.via hb)
  have B1 := Lib.hid (sbtr BW.out hb)
  clear hb PA PB PR BW
  rcases ivB2_cases al ah bl bh with ⟨h, ha, hbb⟩ | h
  · rw [h]
    have HH := Lib.hid h
    have ia := ivIn_of ha
    have ib := ivIn_of hbb
    clear h ha hbb
    have ⟨a0, a1, a2, a3, a4⟩ := P1.out
    have ⟨b0, b1, b2, b3, b4⟩ := P2.out
    have HE := Lib.hid (fun W => ends_any W al ah bl bh ia ib)
    clear ia ib
    go_wp2_with fail
    refine (HE.out _).mono ?_
    rintro e w2 ⟨s, H, L, s', H', L', la, lb, ea, eb, rfl, hb⟩
    have hl2 := (P3.out.via hb).lt
    have P6 := Lib.hid (((P3.out.via hb).alloc (.cells #[.bool s, .int .u64 (H : Int), .int .u64 (L : Int)] 55)).alloc (.cells #[.bool s', .int .u64 (H' : Int), .int .u64 (L' : Int)] 55))
    have B2 := Lib.hid (sbal (sbal (sbtr B1.out hb) (.cells #[.bool s, .int .u64 (H : Int), .int .u64 (L : Int)] 55)) (.cells #[.bool s', .int .u64 (H' : Int), .int .u64 (L' : Int)] 55))
    have X1 := Lib.hid ((C3.new w2 _ rfl (.bool s) (.int .u64 (H : Int)) (.int .u64 (L : Int)) 55).alloc (.cells #[.bool s', .int .u64 (H' : Int), .int .u64 (L' : Int)] 55))
    have X2 := Lib.hid (C3.new (w2.alloc (.cells #[.bool s, .int .u64 (H : Int), .int .u64 (L : Int)] 55)) (w2.heap.size + 1) (by simp) (.bool s') (.int .u64 (H' : Int)) (.int .u64 (L' : Int)) 55)
    have O1 := Lib.hid (fun W => rover_lg W la false 1099511627776 (by omega) (by omega))
    have O2 := Lib.hid (fun W => rover_lg W lb true 1099511627776 (by omega) (by omega))
    have HM : Hid (mkI (rov s false (H * 18446744073709551616 + L) 1099511627776) (rov s' true (H' * 18446744073709551616 + L') 1099511627776) = mkI (mulLo al ah bl bh) (mulHi al ah bl bh)) := by
      show _ = _
      refine mkI_cl2 ?_ ?_ (mul_le _ _ _ _)
      · rw [rov_lo _ _ _ (by omega)]; unfold mulLo; rw [← ea]; rfl
      · rw [rov_hi _ _ _ (by omega)]; unfold mulHi; rw [← eb]; rfl
    clear la lb ea eb hb HE P1 P2 P3 B1 a0 a1 a2 a3 a4 b0 b1 b2 b3 b4
    generalize rov s false (H * 18446744073709551616 + L) 1099511627776 = x at *
    generalize rov s' true (H' * 18446744073709551616 + L') 1099511627776 = y at *
    go_wp2_with fail
    generalize (w2.alloc (.cells #[.bool s, .int .u64 (H : Int), .int .u64 (L : Int)] 55)).alloc (.cells #[.bool s', .int .u64 (H' : Int), .int .u64 (L' : Int)] 55) = W0 at *
    have HKS : Hid (∀ X : World, Below W0.heap.size W0 X → X.cell? ⟨w2.heap.size, 0, none⟩ = some (.bool s) ∧ X.cell? ⟨w2.heap.size, 1, none⟩ = some (.int .u64 (H : Int)) ∧ X.cell? ⟨w2.heap.size, 2, none⟩ = some (.int .u64 (L : Int)) ∧ X.cell? ⟨w2.heap.size + 1, 0, none⟩ = some (.bool s') ∧ X.cell? ⟨w2.heap.size + 1, 1, none⟩ = some (.int .u64 (H' : Int)) ∧ X.cell? ⟨w2.heap.size + 1, 2, none⟩ = some (.int .u64 (L' : Int))) := fun X h => ⟨(X1.out.via h).c0, (X1.out.via h).c1, (X1.out.via h).c2, (X2.out.via h).c0, (X2.out.via h).c1, (X2.out.via h).c2⟩
    have hle := X2.out.lt
    have hl6 : w.heap.size + 1 + 1 < W0.heap.size := P6.out.lt
    go_region_held3 (fun X => X.cell? ⟨w2.heap.size, 0, none⟩ = some (.bool s) ∧ X.cell? ⟨w2.heap.size, 1, none⟩ = some (.int .u64 (H : Int)) ∧ X.cell? ⟨w2.heap.size, 2, none⟩ = some (.int .u64 (L : Int)) ∧ X.cell? ⟨w2.heap.size + 1, 0, none⟩ = some (.bool s') ∧ X.cell? ⟨w2.heap.size + 1, 1, none⟩ = some (.int .u64 (H' : Int)) ∧ X.cell? ⟨w2.heap.size + 1, 2, none⟩ = some (.int .u64 (L' : Int)))
      (first | exact HKS.out _ (Below.refl _ _) | exact HKS.out _ (Below.refl _ _).drew | exact HKS.out _ D3 | exact HKS.out _ D2 | exact HKS.out _ D1 | (exact ⟨((X1.out.via D3).far2 (by omega) _ _).c0, ((X1.out.via D3).far2 (by omega) _ _).c1, ((X1.out.via D3).far2 (by omega) _ _).c2, ((X2.out.via D3).far2 (by omega) _ _).c0, ((X2.out.via D3).far2 (by omega) _ _).c1, ((X2.out.via D3).far2 (by omega) _ _).c2⟩))
      (first
       | (have _t := D2; go_at_call 42; refine (rmade_any _ x y).mono ?_; rintro e w5 ⟨rfl, hb3⟩; have D3 : Below W0.heap.size W0 w5 := sbtr D2 hb3; have P7 := P6.out.via D3; have ⟨q0, q1, q2, q3, ql⟩ := P7)
       | (have _t := D1; go_at_call 46; refine (O2.out _).mono ?_; rintro e w4 ⟨rfl, hb2⟩; have D2 : Below W0.heap.size W0 w4 := (by first | exact sbtr D1 hb2))
       | (go_at_call 46; refine (O1.out _).mono ?_; rintro e w3 ⟨rfl, hb1⟩; have D1 : Below W0.heap.size W0 w3 := (by first | exact (Below.refl _ _).drew.trans hb1 | exact hb1))
       | fail)
    all_goals
      go_wp2
      exact post_iv Try.results10 rfl rfl (P7.set _ _) ⟨ret_mk (HM.out.trans (j2_ok HH.out).symm), below_set2 (sbtr B2.out D3) (by omega) _ _⟩
  · rw [h]
    have HH := Lib.hid h
    clear h
    have ⟨a0, a1, a2, a3, a4⟩ := P1.out
    have ⟨b0, b1, b2, b3, b4⟩ := P2.out
    go_wp2_with fail
    refine (rboth_any _ al ah bl bh).mono ?_
    rintro e w2 ⟨rfl, hb⟩
    have B2 := Lib.hid (sbtr B1.out hb)
    have P4 := Lib.hid (P3.out.via hb)
    clear hb a0 a1 a2 a3 a4 b0 b1 b2 b3 b4
    rw [HH.out]
    have ⟨r0, r1, r2, r3, r4⟩ := P4.out
    go_wp2
    exact post_iv Try.results10 rfl rfl (P4.out.set _ _) ⟨by rw [j2_bad HH.out]; rfl, below_set2 B2.out (by omega) _ _⟩
end Go.Proofs.Ytchhndlpngidcaa

/- Intervals: Div of the reference. -/
namespace Go.Proofs.Ytchhndlpngidcaa
open Go.RowKit

theorem dv_ref {p q X Y D1 D2 : Int} {c d : Nat} (hpq : p ≤ q) (hc : 0 < c) (hcd : c ≤ d) (h1 : D1 = if p < 0 then (c : Int) else (d : Int)) (h2 : D2 = if 0 < q then (c : Int) else (d : Int))
    (hX : cl X = cl (p * 1099511627776 / D1)) (hY : cl Y = cl (cdiv (q * 1099511627776) D2)) :
    mkI X Y = mkI (dvLo (p * 1099511627776) (q * 1099511627776) c d) (dvHi (p * 1099511627776) (q * 1099511627776) c d) := by
  have hpq' : p * 1099511627776 ≤ q * 1099511627776 := by omega
  refine mkI_cl2 ?_ ?_ (dv_le (by omega) (by omega))
  · rw [hX, h1]; unfold dvLo; rw [least_quo hpq' (by omega) (by omega)]
    by_cases hp : p < 0
    · rw [if_pos hp, if_pos (by omega)]
    · rw [if_neg hp, if_neg (by omega)]
  · rw [hY, h2]; unfold dvHi; rw [most_quo hpq' (by omega) (by omega)]
    by_cases hq : 0 < q
    · rw [if_pos hq, if_pos (by omega)]
    · rw [if_neg hq, if_neg (by omega)]
theorem divO_zero {al ah bl bh : Int} (h1 : bl ≤ 0) (h2 : 0 ≤ bh) : divO al ah bl bh = ⟨0, 0, 18⟩ := by unfold divO; rw [if_pos ⟨h1, h2⟩]
theorem divO_pos {al ah bl bh : Int} (h1 : 0 < bl) : divO al ah bl bh = mkI (dvLo (al * 1099511627776) (ah * 1099511627776) bl bh) (dvHi (al * 1099511627776) (ah * 1099511627776) bl bh) := by
  unfold divO; rw [if_neg (by omega), if_pos h1]
theorem divO_neg {p q c d : Int} (h1 : 0 < c) (h2 : c ≤ d) : divO (-q) (-p) (-d) (-c) = mkI (dvLo (p * 1099511627776) (q * 1099511627776) c d) (dvHi (p * 1099511627776) (q * 1099511627776) c d) := by
  unfold divO; rw [if_neg (by omega), if_neg (by omega)]
  simp only [Int.neg_mul, Int.neg_neg]
set_option maxRecDepth 100000 in
set_option maxHeartbeats 2000000 in
theorem rdiv_p0 (w : World) (p q : Int) (c d : Nat) (_hp1 : -2305843009213693952 ≤ p) (hpq : p ≤ q) (_hq1 : q ≤ 2305843009213693952) (hc : 0 < c) (hcd : c ≤ d) (hd : d ≤ 2305843009213693952) (hp : p < 0) (hq : 0 < q) :
    Calls Try.prog 12 #[iv p q, iv (c : Int) (d : Int)] w (RO w (divO p q (c : Int) (d : Int))) := by
  have hok : ivB2 p q (c : Int) (d : Int) = 0 := by rw [ivB2_ok (ivC_ok (by omega) (by omega) (by omega)), ivC_ok (by omega) (by omega) (by omega)]
  obtain ⟨s, H, L, la, ea, ta⟩ := times_lg p 1099511627776 (by omega) (by omega) (by omega) (by omega)
  obtain ⟨s', H', L', lb, eb, tb⟩ := times_lg q 1099511627776 (by omega) (by omega) (by omega) (by omega)
  have O1 := Lib.hid (fun W => rover_lg W la false c (by omega) (by omega))
  have O2 := Lib.hid (fun W => rover_lg W lb true c (by omega) (by omega))
  have TA := Lib.hid ta
  have TB := Lib.hid tb
  have HM : Hid (mkI (rov s false (H * 18446744073709551616 + L) c) (rov s' true (H' * 18446744073709551616 + L') c) = divO p q (c : Int) (d : Int)) := by
    show _ = _
    rw [divO_pos (by omega)]
    refine dv_ref hpq hc hcd (D1 := (c : Int)) (D2 := (c : Int)) (by first | rw [if_pos (by omega)] | rw [if_neg (by omega)]) (by first | rw [if_pos (by omega)] | rw [if_neg (by omega)]) ?_ ?_
    · rw [rov_lo _ _ _ (by omega), ← ea]; rfl
    · rw [rov_hi _ _ _ (by omega), ← eb]; rfl
  clear la lb ea eb ta tb
  generalize rov s false (H * 18446744073709551616 + L) c = x at *
  generalize rov s' true (H' * 18446744073709551616 + L') c = y at *
  generalize divO p q (c : Int) (d : Int) = o at *
  have PA := Lib.hid (((Pr.new w w.heap.size rfl (.int .i64 (p)) (.int .i64 (q)) 23).alloc (ivB (c : Int) (d : Int))).alloc (ivB 0 0))
  have PB := Lib.hid ((Pr.new (w.alloc (ivB p q)) (w.heap.size + 1) (by simp) (.int .i64 ((c : Int))) (.int .i64 ((d : Int))) 23).alloc (ivB 0 0))
  have PR := Lib.hid (Pr.new ((w.alloc (ivB p q)).alloc (ivB (c : Int) (d : Int))) (w.heap.size + 1 + 1) (by simp) (.int .i64 0) (.int .i64 0) 23)
  have BW : Hid (Below w.heap.size w (((w.alloc (ivB p q)).alloc (ivB (c : Int) (d : Int))).alloc (ivB 0 0))) := sbal (sbal (sbal (Below.refl _ _) _) _) _
  have HBO := Lib.hid (fun W => rboth_any W p q (c : Int) (d : Int))
  rw [hok] at HBO
  clear hok
  go_enter Try.func12, Try.ntmps12
  go_wp2_with fail
  generalize ((w.alloc (ivB p q)).alloc (ivB (c : Int) (d : Int))).alloc (ivB 0 0) = W0 at *
  refine (HBO.out _).mono ?_
  rintro e w1 ⟨rfl, hb⟩
  have QA := Lib.hid (PA.out.via hb)
  have QB := Lib.hid (PB.out.via hb)
  have QR := Lib.hid (PR.out.via hb)
  have BX := Lib.hid (sbtr BW.out hb)
  clear hb PA PB PR BW HBO
  have hci : (0 : Int) < (c : Int) := by omega
  have hcdi : (c : Int) ≤ (d : Int) := by omega
  have hdi : (d : Int) ≤ 2305843009213693952 := by omega
  clear hc hcd hd
  have hbd : decide ((c : Int) ≤ 0) = false := decide_eq_false (by omega)
  have hbd2 : decide ((c : Int) < 0) = false := decide_eq_false (by omega)
  have ⟨a0, a1, af0, af1, al_⟩ := QA.out
  have ⟨b0, b1, bf0, bf1, bl_⟩ := QB.out
  go_wp2_with fail
  go_region
  go_wp2_with fail
  clear a0 a1 af0 af1 al_ b0 b1 bf0 bf1 bl_
  have HKS : Hid (∀ X : World, Below w1.heap.size w1 X → X.cell? ⟨w.heap.size, 0, none⟩ = some (.int .i64 p) ∧ X.cell? ⟨w.heap.size, 1, none⟩ = some (.int .i64 q)) := fun X h => ⟨(QA.out.via h).c0, (QA.out.via h).c1⟩
  have hqa := QA.out.lt
  have hqr := QR.out.lt
  go_region_held3 (fun X => X.cell? ⟨w.heap.size, 0, none⟩ = some (.int .i64 p) ∧ X.cell? ⟨w.heap.size, 1, none⟩ = some (.int .i64 q))
    (first | exact HKS.out _ (Below.refl _ _) | exact HKS.out _ (Below.refl _ _).drew | exact HKS.out _ (Below.refl _ _).drew.drew | exact HKS.out _ E4 | exact HKS.out _ E3 | exact HKS.out _ E2 | exact HKS.out _ E1 | exact HKS.out _ E0 | exact ⟨((QA.out.via E4).far (by omega) _ _).c0, ((QA.out.via E4).far (by omega) _ _).c1⟩)
    (first
     | (have _t := E3; go_at_call 42; refine (rmade_any _ x y).mono ?_; rintro e v4 ⟨rfl, h4⟩; have E4 : Below w1.heap.size w1 v4 := sbtr E3 h4; have P7 := QR.out.via E4; have ⟨q0, q1, q2, q3, ql⟩ := P7)
     | (have _t := E2; go_at_call 46; refine (O2.out _).mono ?_; rintro e v3 ⟨rfl, h3⟩; have E3 : Below w1.heap.size w1 v3 := sbtr E2 h3)
     | (have _t := E1; go_at_call 50; refine (TB.out _).mono ?_; rintro e v2 ⟨rfl, h2⟩; have E2 : Below w1.heap.size w1 v2 := sbtr E1 h2)
     | (have _t := E0; go_at_call 46; refine (O1.out _).mono ?_; rintro e v1 ⟨rfl, h1⟩; have E1 : Below w1.heap.size w1 v1 := sbtr E0 h1)
     | (go_at_call 50; refine (TA.out _).mono ?_; rintro e v0 ⟨rfl, h0⟩; have E0 : Below w1.heap.size w1 v0 := (by first | exact (bdrewN (Below.refl _ _) 1).trans h0 | exact (bdrewN (bdrewN (Below.refl _ _) 1) 1).trans h0 | exact h0))
     | fail)
  all_goals
    go_wp2
    exact post_iv Try.results12 rfl rfl (P7.set _ _) ⟨ret_mk HM.out, below_set2 (sbtr BX.out E4) (by omega) _ _⟩
set_option maxRecDepth 100000 in
set_option maxHeartbeats 2000000 in
theorem rdiv_p1 (w : World) (p q : Int) (c d : Nat) (_hp1 : -2305843009213693952 ≤ p) (hpq : p ≤ q) (_hq1 : q ≤ 2305843009213693952) (hc : 0 < c) (hcd : c ≤ d) (hd : d ≤ 2305843009213693952) (hp : p < 0) (hq : q ≤ 0) :
    Calls Try.prog 12 #[iv p q, iv (c : Int) (d : Int)] w (RO w (divO p q (c : Int) (d : Int))) := by
  have hok : ivB2 p q (c : Int) (d : Int) = 0 := by rw [ivB2_ok (ivC_ok (by omega) (by omega) (by omega)), ivC_ok (by omega) (by omega) (by omega)]
  obtain ⟨s, H, L, la, ea, ta⟩ := times_lg p 1099511627776 (by omega) (by omega) (by omega) (by omega)
  obtain ⟨s', H', L', lb, eb, tb⟩ := times_lg q 1099511627776 (by omega) (by omega) (by omega) (by omega)
  have O1 := Lib.hid (fun W => rover_lg W la false c (by omega) (by omega))
  have O2 := Lib.hid (fun W => rover_lg W lb true d (by omega) (by omega))
  have TA := Lib.hid ta
  have TB := Lib.hid tb
  have HM : Hid (mkI (rov s false (H * 18446744073709551616 + L) c) (rov s' true (H' * 18446744073709551616 + L') d) = divO p q (c : Int) (d : Int)) := by
    show _ = _
    rw [divO_pos (by omega)]
    refine dv_ref hpq hc hcd (D1 := (c : Int)) (D2 := (d : Int)) (by first | rw [if_pos (by omega)] | rw [if_neg (by omega)]) (by first | rw [if_pos (by omega)] | rw [if_neg (by omega)]) ?_ ?_
    · rw [rov_lo _ _ _ (by omega), ← ea]; rfl
    · rw [rov_hi _ _ _ (by omega), ← eb]; rfl
  clear la lb ea eb ta tb
  generalize rov s false (H * 18446744073709551616 + L) c = x at *
  generalize rov s' true (H' * 18446744073709551616 + L') d = y at *
  generalize divO p q (c : Int) (d : Int) = o at *
  have PA := Lib.hid (((Pr.new w w.heap.size rfl (.int .i64 (p)) (.int .i64 (q)) 23).alloc (ivB (c : Int) (d : Int))).alloc (ivB 0 0))
  have PB := Lib.hid ((Pr.new (w.alloc (ivB p q)) (w.heap.size + 1) (by simp) (.int .i64 ((c : Int))) (.int .i64 ((d : Int))) 23).alloc (ivB 0 0))
  have PR := Lib.hid (Pr.new ((w.alloc (ivB p q)).alloc (ivB (c : Int) (d : Int))) (w.heap.size + 1 + 1) (by simp) (.int .i64 0) (.int .i64 0) 23)
  have BW : Hid (Below w.heap.size w (((w.alloc (ivB p q)).alloc (ivB (c : Int) (d : Int))).alloc (ivB 0 0))) := sbal (sbal (sbal (Below.refl _ _) _) _) _
  have HBO := Lib.hid (fun W => rboth_any W p q (c : Int) (d : Int))
  rw [hok] at HBO
  clear hok
  go_enter Try.func12, Try.ntmps12
  go_wp2_with fail
  generalize ((w.alloc (ivB p q)).alloc (ivB (c : Int) (d : Int))).alloc (ivB 0 0) = W0 at *
  refine (HBO.out _).mono ?_
  rintro e w1 ⟨rfl, hb⟩
  have QA := Lib.hid (PA.out.via hb)
  have QB := Lib.hid (PB.out.via hb)
  have QR := Lib.hid (PR.out.via hb)
  have BX := Lib.hid (sbtr BW.out hb)
  clear hb PA PB PR BW HBO
  have hci : (0 : Int) < (c : Int) := by omega
  have hcdi : (c : Int) ≤ (d : Int) := by omega
  have hdi : (d : Int) ≤ 2305843009213693952 := by omega
  clear hc hcd hd
  have hbd : decide ((c : Int) ≤ 0) = false := decide_eq_false (by omega)
  have hbd2 : decide ((c : Int) < 0) = false := decide_eq_false (by omega)
  have hqd : decide (0 < q) = false := decide_eq_false (by omega)
  have ⟨a0, a1, af0, af1, al_⟩ := QA.out
  have ⟨b0, b1, bf0, bf1, bl_⟩ := QB.out
  go_wp2_with fail
  go_region
  go_wp2_with fail
  clear a0 a1 af0 af1 al_ b0 b1 bf0 bf1 bl_
  have HKS : Hid (∀ X : World, Below w1.heap.size w1 X → X.cell? ⟨w.heap.size, 0, none⟩ = some (.int .i64 p) ∧ X.cell? ⟨w.heap.size, 1, none⟩ = some (.int .i64 q)) := fun X h => ⟨(QA.out.via h).c0, (QA.out.via h).c1⟩
  have hqa := QA.out.lt
  have hqr := QR.out.lt
  go_region_held3 (fun X => X.cell? ⟨w.heap.size, 0, none⟩ = some (.int .i64 p) ∧ X.cell? ⟨w.heap.size, 1, none⟩ = some (.int .i64 q))
    (first | exact HKS.out _ (Below.refl _ _) | exact HKS.out _ (Below.refl _ _).drew | exact HKS.out _ (Below.refl _ _).drew.drew | exact HKS.out _ E4 | exact HKS.out _ E3 | exact HKS.out _ E2 | exact HKS.out _ E1 | exact HKS.out _ E0 | exact ⟨((QA.out.via E4).far (by omega) _ _).c0, ((QA.out.via E4).far (by omega) _ _).c1⟩)
    (first
     | (have _t := E3; go_at_call 42; refine (rmade_any _ x y).mono ?_; rintro e v4 ⟨rfl, h4⟩; have E4 : Below w1.heap.size w1 v4 := sbtr E3 h4; have P7 := QR.out.via E4; have ⟨q0, q1, q2, q3, ql⟩ := P7)
     | (have _t := E2; go_at_call 46; refine (O2.out _).mono ?_; rintro e v3 ⟨rfl, h3⟩; have E3 : Below w1.heap.size w1 v3 := sbtr E2 h3)
     | (have _t := E1; go_at_call 50; refine (TB.out _).mono ?_; rintro e v2 ⟨rfl, h2⟩; have E2 : Below w1.heap.size w1 v2 := sbtr E1 h2)
     | (have _t := E0; go_at_call 46; refine (O1.out _).mono ?_; rintro e v1 ⟨rfl, h1⟩; have E1 : Below w1.heap.size w1 v1 := sbtr E0 h1)
     | (go_at_call 50; refine (TA.out _).mono ?_; rintro e v0 ⟨rfl, h0⟩; have E0 : Below w1.heap.size w1 v0 := (by first | exact (bdrewN (Below.refl _ _) 1).trans h0 | exact (bdrewN (bdrewN (Below.refl _ _) 1) 1).trans h0 | exact h0))
     | fail)
  all_goals
    go_wp2
    exact post_iv Try.results12 rfl rfl (P7.set _ _) ⟨ret_mk HM.out, below_set2 (sbtr BX.out E4) (by omega) _ _⟩
set_option maxRecDepth 100000 in
set_option maxHeartbeats 2000000 in
theorem rdiv_p2 (w : World) (p q : Int) (c d : Nat) (_hp1 : -2305843009213693952 ≤ p) (hpq : p ≤ q) (_hq1 : q ≤ 2305843009213693952) (hc : 0 < c) (hcd : c ≤ d) (hd : d ≤ 2305843009213693952) (hp : 0 ≤ p) (hq : 0 < q) :
    Calls Try.prog 12 #[iv p q, iv (c : Int) (d : Int)] w (RO w (divO p q (c : Int) (d : Int))) := by
  have hok : ivB2 p q (c : Int) (d : Int) = 0 := by rw [ivB2_ok (ivC_ok (by omega) (by omega) (by omega)), ivC_ok (by omega) (by omega) (by omega)]
  obtain ⟨s, H, L, la, ea, ta⟩ := times_lg p 1099511627776 (by omega) (by omega) (by omega) (by omega)
  obtain ⟨s', H', L', lb, eb, tb⟩ := times_lg q 1099511627776 (by omega) (by omega) (by omega) (by omega)
  have O1 := Lib.hid (fun W => rover_lg W la false d (by omega) (by omega))
  have O2 := Lib.hid (fun W => rover_lg W lb true c (by omega) (by omega))
  have TA := Lib.hid ta
  have TB := Lib.hid tb
  have HM : Hid (mkI (rov s false (H * 18446744073709551616 + L) d) (rov s' true (H' * 18446744073709551616 + L') c) = divO p q (c : Int) (d : Int)) := by
    show _ = _
    rw [divO_pos (by omega)]
    refine dv_ref hpq hc hcd (D1 := (d : Int)) (D2 := (c : Int)) (by first | rw [if_pos (by omega)] | rw [if_neg (by omega)]) (by first | rw [if_pos (by omega)] | rw [if_neg (by omega)]) ?_ ?_
    · rw [rov_lo _ _ _ (by omega), ← ea]; rfl
    · rw [rov_hi _ _ _ (by omega), ← eb]; rfl
  clear la lb ea eb ta tb
  generalize rov s false (H * 18446744073709551616 + L) d = x at *
  generalize rov s' true (H' * 18446744073709551616 + L') c = y at *
  generalize divO p q (c : Int) (d : Int) = o at *
  have PA := Lib.hid (((Pr.new w w.heap.size rfl (.int .i64 (p)) (.int .i64 (q)) 23).alloc (ivB (c : Int) (d : Int))).alloc (ivB 0 0))
  have PB := Lib.hid ((Pr.new (w.alloc (ivB p q)) (w.heap.size + 1) (by simp) (.int .i64 ((c : Int))) (.int .i64 ((d : Int))) 23).alloc (ivB 0 0))
  have PR := Lib.hid (Pr.new ((w.alloc (ivB p q)).alloc (ivB (c : Int) (d : Int))) (w.heap.size + 1 + 1) (by simp) (.int .i64 0) (.int .i64 0) 23)
  have BW : Hid (Below w.heap.size w (((w.alloc (ivB p q)).alloc (ivB (c : Int) (d : Int))).alloc (ivB 0 0))) := sbal (sbal (sbal (Below.refl _ _) _) _) _
  have HBO := Lib.hid (fun W => rboth_any W p q (c : Int) (d : Int))
  rw [hok] at HBO
  clear hok
  go_enter Try.func12, Try.ntmps12
  go_wp2_with fail
  generalize ((w.alloc (ivB p q)).alloc (ivB (c : Int) (d : Int))).alloc (ivB 0 0) = W0 at *
  refine (HBO.out _).mono ?_
  rintro e w1 ⟨rfl, hb⟩
  have QA := Lib.hid (PA.out.via hb)
  have QB := Lib.hid (PB.out.via hb)
  have QR := Lib.hid (PR.out.via hb)
  have BX := Lib.hid (sbtr BW.out hb)
  clear hb PA PB PR BW HBO
  have hci : (0 : Int) < (c : Int) := by omega
  have hcdi : (c : Int) ≤ (d : Int) := by omega
  have hdi : (d : Int) ≤ 2305843009213693952 := by omega
  clear hc hcd hd
  have hbd : decide ((c : Int) ≤ 0) = false := decide_eq_false (by omega)
  have hbd2 : decide ((c : Int) < 0) = false := decide_eq_false (by omega)
  have hpd : decide (p < 0) = false := decide_eq_false (by omega)
  have ⟨a0, a1, af0, af1, al_⟩ := QA.out
  have ⟨b0, b1, bf0, bf1, bl_⟩ := QB.out
  go_wp2_with fail
  go_region
  go_wp2_with fail
  clear a0 a1 af0 af1 al_ b0 b1 bf0 bf1 bl_
  have HKS : Hid (∀ X : World, Below w1.heap.size w1 X → X.cell? ⟨w.heap.size, 0, none⟩ = some (.int .i64 p) ∧ X.cell? ⟨w.heap.size, 1, none⟩ = some (.int .i64 q)) := fun X h => ⟨(QA.out.via h).c0, (QA.out.via h).c1⟩
  have hqa := QA.out.lt
  have hqr := QR.out.lt
  go_region_held3 (fun X => X.cell? ⟨w.heap.size, 0, none⟩ = some (.int .i64 p) ∧ X.cell? ⟨w.heap.size, 1, none⟩ = some (.int .i64 q))
    (first | exact HKS.out _ (Below.refl _ _) | exact HKS.out _ (Below.refl _ _).drew | exact HKS.out _ (Below.refl _ _).drew.drew | exact HKS.out _ E4 | exact HKS.out _ E3 | exact HKS.out _ E2 | exact HKS.out _ E1 | exact HKS.out _ E0 | exact ⟨((QA.out.via E4).far (by omega) _ _).c0, ((QA.out.via E4).far (by omega) _ _).c1⟩)
    (first
     | (have _t := E3; go_at_call 42; refine (rmade_any _ x y).mono ?_; rintro e v4 ⟨rfl, h4⟩; have E4 : Below w1.heap.size w1 v4 := sbtr E3 h4; have P7 := QR.out.via E4; have ⟨q0, q1, q2, q3, ql⟩ := P7)
     | (have _t := E2; go_at_call 46; refine (O2.out _).mono ?_; rintro e v3 ⟨rfl, h3⟩; have E3 : Below w1.heap.size w1 v3 := sbtr E2 h3)
     | (have _t := E1; go_at_call 50; refine (TB.out _).mono ?_; rintro e v2 ⟨rfl, h2⟩; have E2 : Below w1.heap.size w1 v2 := sbtr E1 h2)
     | (have _t := E0; go_at_call 46; refine (O1.out _).mono ?_; rintro e v1 ⟨rfl, h1⟩; have E1 : Below w1.heap.size w1 v1 := sbtr E0 h1)
     | (go_at_call 50; refine (TA.out _).mono ?_; rintro e v0 ⟨rfl, h0⟩; have E0 : Below w1.heap.size w1 v0 := (by first | exact (bdrewN (Below.refl _ _) 1).trans h0 | exact (bdrewN (bdrewN (Below.refl _ _) 1) 1).trans h0 | exact h0))
     | fail)
  all_goals
    go_wp2
    exact post_iv Try.results12 rfl rfl (P7.set _ _) ⟨ret_mk HM.out, below_set2 (sbtr BX.out E4) (by omega) _ _⟩
set_option maxRecDepth 100000 in
set_option maxHeartbeats 2000000 in
theorem rdiv_p3 (w : World) (p q : Int) (c d : Nat) (_hp1 : -2305843009213693952 ≤ p) (hpq : p ≤ q) (_hq1 : q ≤ 2305843009213693952) (hc : 0 < c) (hcd : c ≤ d) (hd : d ≤ 2305843009213693952) (hp : 0 ≤ p) (hq : q ≤ 0) :
    Calls Try.prog 12 #[iv p q, iv (c : Int) (d : Int)] w (RO w (divO p q (c : Int) (d : Int))) := by
  have hok : ivB2 p q (c : Int) (d : Int) = 0 := by rw [ivB2_ok (ivC_ok (by omega) (by omega) (by omega)), ivC_ok (by omega) (by omega) (by omega)]
  obtain ⟨s, H, L, la, ea, ta⟩ := times_lg p 1099511627776 (by omega) (by omega) (by omega) (by omega)
  obtain ⟨s', H', L', lb, eb, tb⟩ := times_lg q 1099511627776 (by omega) (by omega) (by omega) (by omega)
  have O1 := Lib.hid (fun W => rover_lg W la false d (by omega) (by omega))
  have O2 := Lib.hid (fun W => rover_lg W lb true d (by omega) (by omega))
  have TA := Lib.hid ta
  have TB := Lib.hid tb
  have HM : Hid (mkI (rov s false (H * 18446744073709551616 + L) d) (rov s' true (H' * 18446744073709551616 + L') d) = divO p q (c : Int) (d : Int)) := by
    show _ = _
    rw [divO_pos (by omega)]
    refine dv_ref hpq hc hcd (D1 := (d : Int)) (D2 := (d : Int)) (by first | rw [if_pos (by omega)] | rw [if_neg (by omega)]) (by first | rw [if_pos (by omega)] | rw [if_neg (by omega)]) ?_ ?_
    · rw [rov_lo _ _ _ (by omega), ← ea]; rfl
    · rw [rov_hi _ _ _ (by omega), ← eb]; rfl
  clear la lb ea eb ta tb
  generalize rov s false (H * 18446744073709551616 + L) d = x at *
  generalize rov s' true (H' * 18446744073709551616 + L') d = y at *
  generalize divO p q (c : Int) (d : Int) = o at *
  have PA := Lib.hid (((Pr.new w w.heap.size rfl (.int .i64 (p)) (.int .i64 (q)) 23).alloc (ivB (c : Int) (d : Int))).alloc (ivB 0 0))
  have PB := Lib.hid ((Pr.new (w.alloc (ivB p q)) (w.heap.size + 1) (by simp) (.int .i64 ((c : Int))) (.int .i64 ((d : Int))) 23).alloc (ivB 0 0))
  have PR := Lib.hid (Pr.new ((w.alloc (ivB p q)).alloc (ivB (c : Int) (d : Int))) (w.heap.size + 1 + 1) (by simp) (.int .i64 0) (.int .i64 0) 23)
  have BW : Hid (Below w.heap.size w (((w.alloc (ivB p q)).alloc (ivB (c : Int) (d : Int))).alloc (ivB 0 0))) := sbal (sbal (sbal (Below.refl _ _) _) _) _
  have HBO := Lib.hid (fun W => rboth_any W p q (c : Int) (d : Int))
  rw [hok] at HBO
  clear hok
  go_enter Try.func12, Try.ntmps12
  go_wp2_with fail
  generalize ((w.alloc (ivB p q)).alloc (ivB (c : Int) (d : Int))).alloc (ivB 0 0) = W0 at *
  refine (HBO.out _).mono ?_
  rintro e w1 ⟨rfl, hb⟩
  have QA := Lib.hid (PA.out.via hb)
  have QB := Lib.hid (PB.out.via hb)
  have QR := Lib.hid (PR.out.via hb)
  have BX := Lib.hid (sbtr BW.out hb)
  clear hb PA PB PR BW HBO
  have hci : (0 : Int) < (c : Int) := by omega
  have hcdi : (c : Int) ≤ (d : Int) := by omega
  have hdi : (d : Int) ≤ 2305843009213693952 := by omega
  clear hc hcd hd
  have hbd : decide ((c : Int) ≤ 0) = false := decide_eq_false (by omega)
  have hbd2 : decide ((c : Int) < 0) = false := decide_eq_false (by omega)
  have hpd : decide (p < 0) = false := decide_eq_false (by omega)
  have hqd : decide (0 < q) = false := decide_eq_false (by omega)
  have ⟨a0, a1, af0, af1, al_⟩ := QA.out
  have ⟨b0, b1, bf0, bf1, bl_⟩ := QB.out
  go_wp2_with fail
  go_region
  go_wp2_with fail
  clear a0 a1 af0 af1 al_ b0 b1 bf0 bf1 bl_
  have HKS : Hid (∀ X : World, Below w1.heap.size w1 X → X.cell? ⟨w.heap.size, 0, none⟩ = some (.int .i64 p) ∧ X.cell? ⟨w.heap.size, 1, none⟩ = some (.int .i64 q)) := fun X h => ⟨(QA.out.via h).c0, (QA.out.via h).c1⟩
  have hqa := QA.out.lt
  have hqr := QR.out.lt
  go_region_held3 (fun X => X.cell? ⟨w.heap.size, 0, none⟩ = some (.int .i64 p) ∧ X.cell? ⟨w.heap.size, 1, none⟩ = some (.int .i64 q))
    (first | exact HKS.out _ (Below.refl _ _) | exact HKS.out _ (Below.refl _ _).drew | exact HKS.out _ (Below.refl _ _).drew.drew | exact HKS.out _ E4 | exact HKS.out _ E3 | exact HKS.out _ E2 | exact HKS.out _ E1 | exact HKS.out _ E0 | exact ⟨((QA.out.via E4).far (by omega) _ _).c0, ((QA.out.via E4).far (by omega) _ _).c1⟩)
    (first
     | (have _t := E3; go_at_call 42; refine (rmade_any _ x y).mono ?_; rintro e v4 ⟨rfl, h4⟩; have E4 : Below w1.heap.size w1 v4 := sbtr E3 h4; have P7 := QR.out.via E4; have ⟨q0, q1, q2, q3, ql⟩ := P7)
     | (have _t := E2; go_at_call 46; refine (O2.out _).mono ?_; rintro e v3 ⟨rfl, h3⟩; have E3 : Below w1.heap.size w1 v3 := sbtr E2 h3)
     | (have _t := E1; go_at_call 50; refine (TB.out _).mono ?_; rintro e v2 ⟨rfl, h2⟩; have E2 : Below w1.heap.size w1 v2 := sbtr E1 h2)
     | (have _t := E0; go_at_call 46; refine (O1.out _).mono ?_; rintro e v1 ⟨rfl, h1⟩; have E1 : Below w1.heap.size w1 v1 := sbtr E0 h1)
     | (go_at_call 50; refine (TA.out _).mono ?_; rintro e v0 ⟨rfl, h0⟩; have E0 : Below w1.heap.size w1 v0 := (by first | exact (bdrewN (Below.refl _ _) 1).trans h0 | exact (bdrewN (bdrewN (Below.refl _ _) 1) 1).trans h0 | exact h0))
     | fail)
  all_goals
    go_wp2
    exact post_iv Try.results12 rfl rfl (P7.set _ _) ⟨ret_mk HM.out, below_set2 (sbtr BX.out E4) (by omega) _ _⟩
set_option maxRecDepth 100000 in
set_option maxHeartbeats 2000000 in
theorem rdiv_n0 (w : World) (p q : Int) (c d : Nat) (_hp1 : -2305843009213693952 ≤ p) (hpq : p ≤ q) (_hq1 : q ≤ 2305843009213693952) (hc : 0 < c) (hcd : c ≤ d) (hd : d ≤ 2305843009213693952) (hp : p < 0) (hq : 0 < q) :
    Calls Try.prog 12 #[iv (-q) (-p), iv (-(d : Int)) (-(c : Int))] w (RO w (divO (-q) (-p) (-(d : Int)) (-(c : Int)))) := by
  have hok : ivB2 (-q) (-p) (-(d : Int)) (-(c : Int)) = 0 := by rw [ivB2_ok (ivC_ok (by omega) (by omega) (by omega)), ivC_ok (by omega) (by omega) (by omega)]
  obtain ⟨s, H, L, la, ea, ta⟩ := times_lg p 1099511627776 (by omega) (by omega) (by omega) (by omega)
  obtain ⟨s', H', L', lb, eb, tb⟩ := times_lg q 1099511627776 (by omega) (by omega) (by omega) (by omega)
  have O1 := Lib.hid (fun W => rover_lg W la false c (by omega) (by omega))
  have O2 := Lib.hid (fun W => rover_lg W lb true c (by omega) (by omega))
  have TA := Lib.hid ta
  have TB := Lib.hid tb
  have HM : Hid (mkI (rov s false (H * 18446744073709551616 + L) c) (rov s' true (H' * 18446744073709551616 + L') c) = divO (-q) (-p) (-(d : Int)) (-(c : Int))) := by
    show _ = _
    rw [divO_neg (by omega) (by omega)]
    refine dv_ref hpq hc hcd (D1 := (c : Int)) (D2 := (c : Int)) (by first | rw [if_pos (by omega)] | rw [if_neg (by omega)]) (by first | rw [if_pos (by omega)] | rw [if_neg (by omega)]) ?_ ?_
    · rw [rov_lo _ _ _ (by omega), ← ea]; rfl
    · rw [rov_hi _ _ _ (by omega), ← eb]; rfl
  clear la lb ea eb ta tb
  generalize rov s false (H * 18446744073709551616 + L) c = x at *
  generalize rov s' true (H' * 18446744073709551616 + L') c = y at *
  generalize divO (-q) (-p) (-(d : Int)) (-(c : Int)) = o at *
  have PA := Lib.hid (((Pr.new w w.heap.size rfl (.int .i64 ((-q))) (.int .i64 ((-p))) 23).alloc (ivB (-(d : Int)) (-(c : Int)))).alloc (ivB 0 0))
  have PB := Lib.hid ((Pr.new (w.alloc (ivB (-q) (-p))) (w.heap.size + 1) (by simp) (.int .i64 ((-(d : Int)))) (.int .i64 ((-(c : Int)))) 23).alloc (ivB 0 0))
  have PR := Lib.hid (Pr.new ((w.alloc (ivB (-q) (-p))).alloc (ivB (-(d : Int)) (-(c : Int)))) (w.heap.size + 1 + 1) (by simp) (.int .i64 0) (.int .i64 0) 23)
  have BW : Hid (Below w.heap.size w (((w.alloc (ivB (-q) (-p))).alloc (ivB (-(d : Int)) (-(c : Int)))).alloc (ivB 0 0))) := sbal (sbal (sbal (Below.refl _ _) _) _) _
  have HBO := Lib.hid (fun W => rboth_any W (-q) (-p) (-(d : Int)) (-(c : Int)))
  rw [hok] at HBO
  clear hok
  go_enter Try.func12, Try.ntmps12
  go_wp2_with fail
  generalize ((w.alloc (ivB (-q) (-p))).alloc (ivB (-(d : Int)) (-(c : Int)))).alloc (ivB 0 0) = W0 at *
  refine (HBO.out _).mono ?_
  rintro e w1 ⟨rfl, hb⟩
  have QA := Lib.hid (PA.out.via hb)
  have QB := Lib.hid (PB.out.via hb)
  have QR := Lib.hid (PR.out.via hb)
  have BX := Lib.hid (sbtr BW.out hb)
  clear hb PA PB PR BW HBO
  have hci : (0 : Int) < (c : Int) := by omega
  have hcdi : (c : Int) ≤ (d : Int) := by omega
  have hdi : (d : Int) ≤ 2305843009213693952 := by omega
  clear hc hcd hd
  have hbn : -(d : Int) ≤ 0 := by omega
  have hbn2 : -(d : Int) < 0 := by omega
  have hbd : decide ((0 : Int) ≤ -(c : Int)) = false := decide_eq_false (by omega)
  have ⟨a0, a1, af0, af1, al_⟩ := QA.out
  have ⟨b0, b1, bf0, bf1, bl_⟩ := QB.out
  go_wp2_with fail
  go_region
  clear a0 a1 af0 af1 al_ b0 b1 bf0 bf1 bl_
  replace QR := Lib.hid (((QR.out.far (h := w.heap.size) (by omega) (.int .i64 p) (.int .i64 q)).far (h := w.heap.size + 1) (by omega) (.int .i64 (c : Int)) (.int .i64 (d : Int))).drew)
  have QA2 := Lib.hid (((QA.out.set (.int .i64 p) (.int .i64 q)).far (h := w.heap.size + 1) (by omega) (.int .i64 (c : Int)) (.int .i64 (d : Int))).drew)
  have QB2 := Lib.hid (((QB.out.far (h := w.heap.size) (by omega) (.int .i64 p) (.int .i64 q)).set (.int .i64 (c : Int)) (.int .i64 (d : Int))).drew)
  replace BX := Lib.hid (sdrew (below_set2 (below_set2 BX.out (g := w.heap.size) (by omega) (.int .i64 p) (.int .i64 q)) (g := w.heap.size + 1) (by omega) (.int .i64 (c : Int)) (.int .i64 (d : Int))))
  clear QA QB
  generalize ((((w1.setCell ⟨w.heap.size, 0, none⟩ (.int .i64 p)).setCell ⟨w.heap.size, 1, none⟩ (.int .i64 q)).setCell ⟨w.heap.size + 1, 0, none⟩ (.int .i64 (c : Int))).setCell ⟨w.heap.size + 1, 1, none⟩ (.int .i64 (d : Int))).drew = w2 at *
  have QA := QA2
  have QB := QB2
  clear QA2 QB2
  have ⟨a0, a1, _, _, _⟩ := QA.out
  have ⟨b0, b1, _, _, _⟩ := QB.out
  go_wp2_with fail
  go_region
  go_wp2_with fail
  clear a0 a1 b0 b1
  have HKS : Hid (∀ X : World, Below w2.heap.size w2 X → X.cell? ⟨w.heap.size, 0, none⟩ = some (.int .i64 p) ∧ X.cell? ⟨w.heap.size, 1, none⟩ = some (.int .i64 q)) := fun X h => ⟨(QA.out.via h).c0, (QA.out.via h).c1⟩
  have hqa := QA.out.lt
  have hqr := QR.out.lt
  go_region_held3 (fun X => X.cell? ⟨w.heap.size, 0, none⟩ = some (.int .i64 p) ∧ X.cell? ⟨w.heap.size, 1, none⟩ = some (.int .i64 q))
    (first | exact HKS.out _ (Below.refl _ _) | exact HKS.out _ (Below.refl _ _).drew | exact HKS.out _ (Below.refl _ _).drew.drew | exact HKS.out _ E4 | exact HKS.out _ E3 | exact HKS.out _ E2 | exact HKS.out _ E1 | exact HKS.out _ E0 | exact ⟨((QA.out.via E4).far (by omega) _ _).c0, ((QA.out.via E4).far (by omega) _ _).c1⟩)
    (first
     | (have _t := E3; go_at_call 42; refine (rmade_any _ x y).mono ?_; rintro e v4 ⟨rfl, h4⟩; have E4 : Below w2.heap.size w2 v4 := sbtr E3 h4; have P7 := QR.out.via E4; have ⟨q0, q1, q2, q3, ql⟩ := P7)
     | (have _t := E2; go_at_call 46; refine (O2.out _).mono ?_; rintro e v3 ⟨rfl, h3⟩; have E3 : Below w2.heap.size w2 v3 := sbtr E2 h3)
     | (have _t := E1; go_at_call 50; refine (TB.out _).mono ?_; rintro e v2 ⟨rfl, h2⟩; have E2 : Below w2.heap.size w2 v2 := sbtr E1 h2)
     | (have _t := E0; go_at_call 46; refine (O1.out _).mono ?_; rintro e v1 ⟨rfl, h1⟩; have E1 : Below w2.heap.size w2 v1 := sbtr E0 h1)
     | (go_at_call 50; refine (TA.out _).mono ?_; rintro e v0 ⟨rfl, h0⟩; have E0 : Below w2.heap.size w2 v0 := (by first | exact (bdrewN (Below.refl _ _) 1).trans h0 | exact (bdrewN (bdrewN (Below.refl _ _) 1) 1).trans h0 | exact h0))
     | fail)
  all_goals
    go_wp2
    exact post_iv Try.results12 rfl rfl (P7.set _ _) ⟨ret_mk HM.out, below_set2 (sbtr BX.out E4) (by omega) _ _⟩
set_option maxRecDepth 100000 in
set_option maxHeartbeats 2000000 in
theorem rdiv_n1 (w : World) (p q : Int) (c d : Nat) (_hp1 : -2305843009213693952 ≤ p) (hpq : p ≤ q) (_hq1 : q ≤ 2305843009213693952) (hc : 0 < c) (hcd : c ≤ d) (hd : d ≤ 2305843009213693952) (hp : p < 0) (hq : q ≤ 0) :
    Calls Try.prog 12 #[iv (-q) (-p), iv (-(d : Int)) (-(c : Int))] w (RO w (divO (-q) (-p) (-(d : Int)) (-(c : Int)))) := by
  have hok : ivB2 (-q) (-p) (-(d : Int)) (-(c : Int)) = 0 := by rw [ivB2_ok (ivC_ok (by omega) (by omega) (by omega)), ivC_ok (by omega) (by omega) (by omega)]
  obtain ⟨s, H, L, la, ea, ta⟩ := times_lg p 1099511627776 (by omega) (by omega) (by omega) (by omega)
  obtain ⟨s', H', L', lb, eb, tb⟩ := times_lg q 1099511627776 (by omega) (by omega) (by omega) (by omega)
  have O1 := Lib.hid (fun W => rover_lg W la false c (by omega) (by omega))
  have O2 := Lib.hid (fun W => rover_lg W lb true d (by omega) (by omega))
  have TA := Lib.hid ta
  have TB := Lib.hid tb
  have HM : Hid (mkI (rov s false (H * 18446744073709551616 + L) c) (rov s' true (H' * 18446744073709551616 + L') d) = divO (-q) (-p) (-(d : Int)) (-(c : Int))) := by
    show _ = _
    rw [divO_neg (by omega) (by omega)]
    refine dv_ref hpq hc hcd (D1 := (c : Int)) (D2 := (d : Int)) (by first | rw [if_pos (by omega)] | rw [if_neg (by omega)]) (by first | rw [if_pos (by omega)] | rw [if_neg (by omega)]) ?_ ?_
    · rw [rov_lo _ _ _ (by omega), ← ea]; rfl
    · rw [rov_hi _ _ _ (by omega), ← eb]; rfl
  clear la lb ea eb ta tb
  generalize rov s false (H * 18446744073709551616 + L) c = x at *
  generalize rov s' true (H' * 18446744073709551616 + L') d = y at *
  generalize divO (-q) (-p) (-(d : Int)) (-(c : Int)) = o at *
  have PA := Lib.hid (((Pr.new w w.heap.size rfl (.int .i64 ((-q))) (.int .i64 ((-p))) 23).alloc (ivB (-(d : Int)) (-(c : Int)))).alloc (ivB 0 0))
  have PB := Lib.hid ((Pr.new (w.alloc (ivB (-q) (-p))) (w.heap.size + 1) (by simp) (.int .i64 ((-(d : Int)))) (.int .i64 ((-(c : Int)))) 23).alloc (ivB 0 0))
  have PR := Lib.hid (Pr.new ((w.alloc (ivB (-q) (-p))).alloc (ivB (-(d : Int)) (-(c : Int)))) (w.heap.size + 1 + 1) (by simp) (.int .i64 0) (.int .i64 0) 23)
  have BW : Hid (Below w.heap.size w (((w.alloc (ivB (-q) (-p))).alloc (ivB (-(d : Int)) (-(c : Int)))).alloc (ivB 0 0))) := sbal (sbal (sbal (Below.refl _ _) _) _) _
  have HBO := Lib.hid (fun W => rboth_any W (-q) (-p) (-(d : Int)) (-(c : Int)))
  rw [hok] at HBO
  clear hok
  go_enter Try.func12, Try.ntmps12
  go_wp2_with fail
  generalize ((w.alloc (ivB (-q) (-p))).alloc (ivB (-(d : Int)) (-(c : Int)))).alloc (ivB 0 0) = W0 at *
  refine (HBO.out _).mono ?_
  rintro e w1 ⟨rfl, hb⟩
  have QA := Lib.hid (PA.out.via hb)
  have QB := Lib.hid (PB.out.via hb)
  have QR := Lib.hid (PR.out.via hb)
  have BX := Lib.hid (sbtr BW.out hb)
  clear hb PA PB PR BW HBO
  have hci : (0 : Int) < (c : Int) := by omega
  have hcdi : (c : Int) ≤ (d : Int) := by omega
  have hdi : (d : Int) ≤ 2305843009213693952 := by omega
  clear hc hcd hd
  have hbn : -(d : Int) ≤ 0 := by omega
  have hbn2 : -(d : Int) < 0 := by omega
  have hbd : decide ((0 : Int) ≤ -(c : Int)) = false := decide_eq_false (by omega)
  have hqd : decide (0 < q) = false := decide_eq_false (by omega)
  have ⟨a0, a1, af0, af1, al_⟩ := QA.out
  have ⟨b0, b1, bf0, bf1, bl_⟩ := QB.out
  go_wp2_with fail
  go_region
  clear a0 a1 af0 af1 al_ b0 b1 bf0 bf1 bl_
  replace QR := Lib.hid (((QR.out.far (h := w.heap.size) (by omega) (.int .i64 p) (.int .i64 q)).far (h := w.heap.size + 1) (by omega) (.int .i64 (c : Int)) (.int .i64 (d : Int))).drew)
  have QA2 := Lib.hid (((QA.out.set (.int .i64 p) (.int .i64 q)).far (h := w.heap.size + 1) (by omega) (.int .i64 (c : Int)) (.int .i64 (d : Int))).drew)
  have QB2 := Lib.hid (((QB.out.far (h := w.heap.size) (by omega) (.int .i64 p) (.int .i64 q)).set (.int .i64 (c : Int)) (.int .i64 (d : Int))).drew)
  replace BX := Lib.hid (sdrew (below_set2 (below_set2 BX.out (g := w.heap.size) (by omega) (.int .i64 p) (.int .i64 q)) (g := w.heap.size + 1) (by omega) (.int .i64 (c : Int)) (.int .i64 (d : Int))))
  clear QA QB
  generalize ((((w1.setCell ⟨w.heap.size, 0, none⟩ (.int .i64 p)).setCell ⟨w.heap.size, 1, none⟩ (.int .i64 q)).setCell ⟨w.heap.size + 1, 0, none⟩ (.int .i64 (c : Int))).setCell ⟨w.heap.size + 1, 1, none⟩ (.int .i64 (d : Int))).drew = w2 at *
  have QA := QA2
  have QB := QB2
  clear QA2 QB2
  have ⟨a0, a1, _, _, _⟩ := QA.out
  have ⟨b0, b1, _, _, _⟩ := QB.out
  go_wp2_with fail
  go_region
  go_wp2_with fail
  clear a0 a1 b0 b1
  have HKS : Hid (∀ X : World, Below w2.heap.size w2 X → X.cell? ⟨w.heap.size, 0, none⟩ = some (.int .i64 p) ∧ X.cell? ⟨w.heap.size, 1, none⟩ = some (.int .i64 q)) := fun X h => ⟨(QA.out.via h).c0, (QA.out.via h).c1⟩
  have hqa := QA.out.lt
  have hqr := QR.out.lt
  go_region_held3 (fun X => X.cell? ⟨w.heap.size, 0, none⟩ = some (.int .i64 p) ∧ X.cell? ⟨w.heap.size, 1, none⟩ = some (.int .i64 q))
    (first | exact HKS.out _ (Below.refl _ _) | exact HKS.out _ (Below.refl _ _).drew | exact HKS.out _ (Below.refl _ _).drew.drew | exact HKS.out _ E4 | exact HKS.out _ E3 | exact HKS.out _ E2 | exact HKS.out _ E1 | exact HKS.out _ E0 | exact ⟨((QA.out.via E4).far (by omega) _ _).c0, ((QA.out.via E4).far (by omega) _ _).c1⟩)
    (first
     | (have _t := E3; go_at_call 42; refine (rmade_any _ x y).mono ?_; rintro e v4 ⟨rfl, h4⟩; have E4 : Below w2.heap.size w2 v4 := sbtr E3 h4; have P7 := QR.out.via E4; have ⟨q0, q1, q2, q3, ql⟩ := P7)
     | (have _t := E2; go_at_call 46; refine (O2.out _).mono ?_; rintro e v3 ⟨rfl, h3⟩; have E3 : Below w2.heap.size w2 v3 := sbtr E2 h3)
     | (have _t := E1; go_at_call 50; refine (TB.out _).mono ?_; rintro e v2 ⟨rfl, h2⟩; have E2 : Below w2.heap.size w2 v2 := sbtr E1 h2)
     | (have _t := E0; go_at_call 46; refine (O1.out _).mono ?_; rintro e v1 ⟨rfl, h1⟩; have E1 : Below w2.heap.size w2 v1 := sbtr E0 h1)
     | (go_at_call 50; refine (TA.out _).mono ?_; rintro e v0 ⟨rfl, h0⟩; have E0 : Below w2.heap.size w2 v0 := (by first | exact (bdrewN (Below.refl _ _) 1).trans h0 | exact (bdrewN (bdrewN (Below.refl _ _) 1) 1).trans h0 | exact h0))
     | fail)
  all_goals
    go_wp2
    exact post_iv Try.results12 rfl rfl (P7.set _ _) ⟨ret_mk HM.out, below_set2 (sbtr BX.out E4) (by omega) _ _⟩
set_option maxRecDepth 100000 in
set_option maxHeartbeats 2000000 in
theorem rdiv_n2 (w : World) (p q : Int) (c d : Nat) (_hp1 : -2305843009213693952 ≤ p) (hpq : p ≤ q) (_hq1 : q ≤ 2305843009213693952) (hc : 0 < c) (hcd : c ≤ d) (hd : d ≤ 2305843009213693952) (hp : 0 ≤ p) (hq : 0 < q) :
    Calls Try.prog 12 #[iv (-q) (-p), iv (-(d : Int)) (-(c : Int))] w (RO w (divO (-q) (-p) (-(d : Int)) (-(c : Int)))) := by
  have hok : ivB2 (-q) (-p) (-(d : Int)) (-(c : Int)) = 0 := by rw [ivB2_ok (ivC_ok (by omega) (by omega) (by omega)), ivC_ok (by omega) (by omega) (by omega)]
  obtain ⟨s, H, L, la, ea, ta⟩ := times_lg p 1099511627776 (by omega) (by omega) (by omega) (by omega)
  obtain ⟨s', H', L', lb, eb, tb⟩ := times_lg q 1099511627776 (by omega) (by omega) (by omega) (by omega)
  have O1 := Lib.hid (fun W => rover_lg W la false d (by omega) (by omega))
  have O2 := Lib.hid (fun W => rover_lg W lb true c (by omega) (by omega))
  have TA := Lib.hid ta
  have TB := Lib.hid tb
  have HM : Hid (mkI (rov s false (H * 18446744073709551616 + L) d) (rov s' true (H' * 18446744073709551616 + L') c) = divO (-q) (-p) (-(d : Int)) (-(c : Int))) := by
    show _ = _
    rw [divO_neg (by omega) (by omega)]
    refine dv_ref hpq hc hcd (D1 := (d : Int)) (D2 := (c : Int)) (by first | rw [if_pos (by omega)] | rw [if_neg (by omega)]) (by first | rw [if_pos (by omega)] | rw [if_neg (by omega)]) ?_ ?_
    · rw [rov_lo _ _ _ (by omega), ← ea]; rfl
    · rw [rov_hi _ _ _ (by omega), ← eb]; rfl
  clear la lb ea eb ta tb
  generalize rov s false (H * 18446744073709551616 + L) d = x at *
  generalize rov s' true (H' * 18446744073709551616 + L') c = y at *
  generalize divO (-q) (-p) (-(d : Int)) (-(c : Int)) = o at *
  have PA := Lib.hid (((Pr.new w w.heap.size rfl (.int .i64 ((-q))) (.int .i64 ((-p))) 23).alloc (ivB (-(d : Int)) (-(c : Int)))).alloc (ivB 0 0))
  have PB := Lib.hid ((Pr.new (w.alloc (ivB (-q) (-p))) (w.heap.size + 1) (by simp) (.int .i64 ((-(d : Int)))) (.int .i64 ((-(c : Int)))) 23).alloc (ivB 0 0))
  have PR := Lib.hid (Pr.new ((w.alloc (ivB (-q) (-p))).alloc (ivB (-(d : Int)) (-(c : Int)))) (w.heap.size + 1 + 1) (by simp) (.int .i64 0) (.int .i64 0) 23)
  have BW : Hid (Below w.heap.size w (((w.alloc (ivB (-q) (-p))).alloc (ivB (-(d : Int)) (-(c : Int)))).alloc (ivB 0 0))) := sbal (sbal (sbal (Below.refl _ _) _) _) _
  have HBO := Lib.hid (fun W => rboth_any W (-q) (-p) (-(d : Int)) (-(c : Int)))
  rw [hok] at HBO
  clear hok
  go_enter Try.func12, Try.ntmps12
  go_wp2_with fail
  generalize ((w.alloc (ivB (-q) (-p))).alloc (ivB (-(d : Int)) (-(c : Int)))).alloc (ivB 0 0) = W0 at *
  refine (HBO.out _).mono ?_
  rintro e w1 ⟨rfl, hb⟩
  have QA := Lib.hid (PA.out.via hb)
  have QB := Lib.hid (PB.out.via hb)
  have QR := Lib.hid (PR.out.via hb)
  have BX := Lib.hid (sbtr BW.out hb)
  clear hb PA PB PR BW HBO
  have hci : (0 : Int) < (c : Int) := by omega
  have hcdi : (c : Int) ≤ (d : Int) := by omega
  have hdi : (d : Int) ≤ 2305843009213693952 := by omega
  clear hc hcd hd
  have hbn : -(d : Int) ≤ 0 := by omega
  have hbn2 : -(d : Int) < 0 := by omega
  have hbd : decide ((0 : Int) ≤ -(c : Int)) = false := decide_eq_false (by omega)
  have hpd : decide (p < 0) = false := decide_eq_false (by omega)
  have ⟨a0, a1, af0, af1, al_⟩ := QA.out
  have ⟨b0, b1, bf0, bf1, bl_⟩ := QB.out
  go_wp2_with fail
  go_region
  clear a0 a1 af0 af1 al_ b0 b1 bf0 bf1 bl_
  replace QR := Lib.hid (((QR.out.far (h := w.heap.size) (by omega) (.int .i64 p) (.int .i64 q)).far (h := w.heap.size + 1) (by omega) (.int .i64 (c : Int)) (.int .i64 (d : Int))).drew)
  have QA2 := Lib.hid (((QA.out.set (.int .i64 p) (.int .i64 q)).far (h := w.heap.size + 1) (by omega) (.int .i64 (c : Int)) (.int .i64 (d : Int))).drew)
  have QB2 := Lib.hid (((QB.out.far (h := w.heap.size) (by omega) (.int .i64 p) (.int .i64 q)).set (.int .i64 (c : Int)) (.int .i64 (d : Int))).drew)
  replace BX := Lib.hid (sdrew (below_set2 (below_set2 BX.out (g := w.heap.size) (by omega) (.int .i64 p) (.int .i64 q)) (g := w.heap.size + 1) (by omega) (.int .i64 (c : Int)) (.int .i64 (d : Int))))
  clear QA QB
  generalize ((((w1.setCell ⟨w.heap.size, 0, none⟩ (.int .i64 p)).setCell ⟨w.heap.size, 1, none⟩ (.int .i64 q)).setCell ⟨w.heap.size + 1, 0, none⟩ (.int .i64 (c : Int))).setCell ⟨w.heap.size + 1, 1, none⟩ (.int .i64 (d : Int))).drew = w2 at *
  have QA := QA2
  have QB := QB2
  clear QA2 QB2
  have ⟨a0, a1, _, _, _⟩ := QA.out
  have ⟨b0, b1, _, _, _⟩ := QB.out
  go_wp2_with fail
  go_region
  go_wp2_with fail
  clear a0 a1 b0 b1
  have HKS : Hid (∀ X : World, Below w2.heap.size w2 X → X.cell? ⟨w.heap.size, 0, none⟩ = some (.int .i64 p) ∧ X.cell? ⟨w.heap.size, 1, none⟩ = some (.int .i64 q)) := fun X h => ⟨(QA.out.via h).c0, (QA.out.via h).c1⟩
  have hqa := QA.out.lt
  have hqr := QR.out.lt
  go_region_held3 (fun X => X.cell? ⟨w.heap.size, 0, none⟩ = some (.int .i64 p) ∧ X.cell? ⟨w.heap.size, 1, none⟩ = some (.int .i64 q))
    (first | exact HKS.out _ (Below.refl _ _) | exact HKS.out _ (Below.refl _ _).drew | exact HKS.out _ (Below.refl _ _).drew.drew | exact HKS.out _ E4 | exact HKS.out _ E3 | exact HKS.out _ E2 | exact HKS.out _ E1 | exact HKS.out _ E0 | exact ⟨((QA.out.via E4).far (by omega) _ _).c0, ((QA.out.via E4).far (by omega) _ _).c1⟩)
    (first
     | (have _t := E3; go_at_call 42; refine (rmade_any _ x y).mono ?_; rintro e v4 ⟨rfl, h4⟩; have E4 : Below w2.heap.size w2 v4 := sbtr E3 h4; have P7 := QR.out.via E4; have ⟨q0, q1, q2, q3, ql⟩ := P7)
     | (have _t := E2; go_at_call 46; refine (O2.out _).mono ?_; rintro e v3 ⟨rfl, h3⟩; have E3 : Below w2.heap.size w2 v3 := sbtr E2 h3)
     | (have _t := E1; go_at_call 50; refine (TB.out _).mono ?_; rintro e v2 ⟨rfl, h2⟩; have E2 : Below w2.heap.size w2 v2 := sbtr E1 h2)
     | (have _t := E0; go_at_call 46; refine (O1.out _).mono ?_; rintro e v1 ⟨rfl, h1⟩; have E1 : Below w2.heap.size w2 v1 := sbtr E0 h1)
     | (go_at_call 50; refine (TA.out _).mono ?_; rintro e v0 ⟨rfl, h0⟩; have E0 : Below w2.heap.size w2 v0 := (by first | exact (bdrewN (Below.refl _ _) 1).trans h0 | exact (bdrewN (bdrewN (Below.refl _ _) 1) 1).trans h0 | exact h0))
     | fail)
  all_goals
    go_wp2
    exact post_iv Try.results12 rfl rfl (P7.set _ _) ⟨ret_mk HM.out, below_set2 (sbtr BX.out E4) (by omega) _ _⟩
set_option maxRecDepth 100000 in
set_option maxHeartbeats 2000000 in
theorem rdiv_n3 (w : World) (p q : Int) (c d : Nat) (_hp1 : -2305843009213693952 ≤ p) (hpq : p ≤ q) (_hq1 : q ≤ 2305843009213693952) (hc : 0 < c) (hcd : c ≤ d) (hd : d ≤ 2305843009213693952) (hp : 0 ≤ p) (hq : q ≤ 0) :
    Calls Try.prog 12 #[iv (-q) (-p), iv (-(d : Int)) (-(c : Int))] w (RO w (divO (-q) (-p) (-(d : Int)) (-(c : Int)))) := by
  have hok : ivB2 (-q) (-p) (-(d : Int)) (-(c : Int)) = 0 := by rw [ivB2_ok (ivC_ok (by omega) (by omega) (by omega)), ivC_ok (by omega) (by omega) (by omega)]
  obtain ⟨s, H, L, la, ea, ta⟩ := times_lg p 1099511627776 (by omega) (by omega) (by omega) (by omega)
  obtain ⟨s', H', L', lb, eb, tb⟩ := times_lg q 1099511627776 (by omega) (by omega) (by omega) (by omega)
  have O1 := Lib.hid (fun W => rover_lg W la false d (by omega) (by omega))
  have O2 := Lib.hid (fun W => rover_lg W lb true d (by omega) (by omega))
  have TA := Lib.hid ta
  have TB := Lib.hid tb
  have HM : Hid (mkI (rov s false (H * 18446744073709551616 + L) d) (rov s' true (H' * 18446744073709551616 + L') d) = divO (-q) (-p) (-(d : Int)) (-(c : Int))) := by
    show _ = _
    rw [divO_neg (by omega) (by omega)]
    refine dv_ref hpq hc hcd (D1 := (d : Int)) (D2 := (d : Int)) (by first | rw [if_pos (by omega)] | rw [if_neg (by omega)]) (by first | rw [if_pos (by omega)] | rw [if_neg (by omega)]) ?_ ?_
    · rw [rov_lo _ _ _ (by omega), ← ea]; rfl
    · rw [rov_hi _ _ _ (by omega), ← eb]; rfl
  clear la lb ea eb ta tb
  generalize rov s false (H * 18446744073709551616 + L) d = x at *
  generalize rov s' true (H' * 18446744073709551616 + L') d = y at *
  generalize divO (-q) (-p) (-(d : Int)) (-(c : Int)) = o at *
  have PA := Lib.hid (((Pr.new w w.heap.size rfl (.int .i64 ((-q))) (.int .i64 ((-p))) 23).alloc (ivB (-(d : Int)) (-(c : Int)))).alloc (ivB 0 0))
  have PB := Lib.hid ((Pr.new (w.alloc (ivB (-q) (-p))) (w.heap.size + 1) (by simp) (.int .i64 ((-(d : Int)))) (.int .i64 ((-(c : Int)))) 23).alloc (ivB 0 0))
  have PR := Lib.hid (Pr.new ((w.alloc (ivB (-q) (-p))).alloc (ivB (-(d : Int)) (-(c : Int)))) (w.heap.size + 1 + 1) (by simp) (.int .i64 0) (.int .i64 0) 23)
  have BW : Hid (Below w.heap.size w (((w.alloc (ivB (-q) (-p))).alloc (ivB (-(d : Int)) (-(c : Int)))).alloc (ivB 0 0))) := sbal (sbal (sbal (Below.refl _ _) _) _) _
  have HBO := Lib.hid (fun W => rboth_any W (-q) (-p) (-(d : Int)) (-(c : Int)))
  rw [hok] at HBO
  clear hok
  go_enter Try.func12, Try.ntmps12
  go_wp2_with fail
  generalize ((w.alloc (ivB (-q) (-p))).alloc (ivB (-(d : Int)) (-(c : Int)))).alloc (ivB 0 0) = W0 at *
  refine (HBO.out _).mono ?_
  rintro e w1 ⟨rfl, hb⟩
  have QA := Lib.hid (PA.out.via hb)
  have QB := Lib.hid (PB.out.via hb)
  have QR := Lib.hid (PR.out.via hb)
  have BX := Lib.hid (sbtr BW.out hb)
  clear hb PA PB PR BW HBO
  have hci : (0 : Int) < (c : Int) := by omega
  have hcdi : (c : Int) ≤ (d : Int) := by omega
  have hdi : (d : Int) ≤ 2305843009213693952 := by omega
  clear hc hcd hd
  have hbn : -(d : Int) ≤ 0 := by omega
  have hbn2 : -(d : Int) < 0 := by omega
  have hbd : decide ((0 : Int) ≤ -(c : Int)) = false := decide_eq_false (by omega)
  have hpd : decide (p < 0) = false := decide_eq_false (by omega)
  have hqd : decide (0 < q) = false := decide_eq_false (by omega)
  have ⟨a0, a1, af0, af1, al_⟩ := QA.out
  have ⟨b0, b1, bf0, bf1, bl_⟩ := QB.out
  go_wp2_with fail
  go_region
  clear a0 a1 af0 af1 al_ b0 b1 bf0 bf1 bl_
  replace QR := Lib.hid (((QR.out.far (h := w.heap.size) (by omega) (.int .i64 p) (.int .i64 q)).far (h := w.heap.size + 1) (by omega) (.int .i64 (c : Int)) (.int .i64 (d : Int))).drew)
  have QA2 := Lib.hid (((QA.out.set (.int .i64 p) (.int .i64 q)).far (h := w.heap.size + 1) (by omega) (.int .i64 (c : Int)) (.int .i64 (d : Int))).drew)
  have QB2 := Lib.hid (((QB.out.far (h := w.heap.size) (by omega) (.int .i64 p) (.int .i64 q)).set (.int .i64 (c : Int)) (.int .i64 (d : Int))).drew)
  replace BX := Lib.hid (sdrew (below_set2 (below_set2 BX.out (g := w.heap.size) (by omega) (.int .i64 p) (.int .i64 q)) (g := w.heap.size + 1) (by omega) (.int .i64 (c : Int)) (.int .i64 (d : Int))))
  clear QA QB
  generalize ((((w1.setCell ⟨w.heap.size, 0, none⟩ (.int .i64 p)).setCell ⟨w.heap.size, 1, none⟩ (.int .i64 q)).setCell ⟨w.heap.size + 1, 0, none⟩ (.int .i64 (c : Int))).setCell ⟨w.heap.size + 1, 1, none⟩ (.int .i64 (d : Int))).drew = w2 at *
  have QA := QA2
  have QB := QB2
  clear QA2 QB2
  have ⟨a0, a1, _, _, _⟩ := QA.out
  have ⟨b0, b1, _, _, _⟩ := QB.out
  go_wp2_with fail
  go_region
  go_wp2_with fail
  clear a0 a1 b0 b1
  have HKS : Hid (∀ X : World, Below w2.heap.size w2 X → X.cell? ⟨w.heap.size, 0, none⟩ = some (.int .i64 p) ∧ X.cell? ⟨w.heap.size, 1, none⟩ = some (.int .i64 q)) := fun X h => ⟨(QA.out.via h).c0, (QA.out.via h).c1⟩
  have hqa := QA.out.lt
  have hqr := QR.out.lt
  go_region_held3 (fun X => X.cell? ⟨w.heap.size, 0, none⟩ = some (.int .i64 p) ∧ X.cell? ⟨w.heap.size, 1, none⟩ = some (.int .i64 q))
    (first | exact HKS.out _ (Below.refl _ _) | exact HKS.out _ (Below.refl _ _).drew | exact HKS.out _ (Below.refl _ _).drew.drew | exact HKS.out _ E4 | exact HKS.out _ E3 | exact HKS.out _ E2 | exact HKS.out _ E1 | exact HKS.out _ E0 | exact ⟨((QA.out.via E4).far (by omega) _ _).c0, ((QA.out.via E4).far (by omega) _ _).c1⟩)
    (first
     | (have _t := E3; go_at_call 42; refine (rmade_any _ x y).mono ?_; rintro e v4 ⟨rfl, h4⟩; have E4 : Below w2.heap.size w2 v4 := sbtr E3 h4; have P7 := QR.out.via E4; have ⟨q0, q1, q2, q3, ql⟩ := P7)
     | (have _t := E2; go_at_call 46; refine (O2.out _).mono ?_; rintro e v3 ⟨rfl, h3⟩; have E3 : Below w2.heap.size w2 v3 := sbtr E2 h3)
     | (have _t := E1; go_at_call 50; refine (TB.out _).mono ?_; rintro e v2 ⟨rfl, h2⟩; have E2 : Below w2.heap.size w2 v2 := sbtr E1 h2)
     | (have _t := E0; go_at_call 46; refine (O1.out _).mono ?_; rintro e v1 ⟨rfl, h1⟩; have E1 : Below w2.heap.size w2 v1 := sbtr E0 h1)
     | (go_at_call 50; refine (TA.out _).mono ?_; rintro e v0 ⟨rfl, h0⟩; have E0 : Below w2.heap.size w2 v0 := (by first | exact (bdrewN (Below.refl _ _) 1).trans h0 | exact (bdrewN (bdrewN (Below.refl _ _) 1) 1).trans h0 | exact h0))
     | fail)
  all_goals
    go_wp2
    exact post_iv Try.results12 rfl rfl (P7.set _ _) ⟨ret_mk HM.out, below_set2 (sbtr BX.out E4) (by omega) _ _⟩
set_option maxRecDepth 100000 in
set_option maxHeartbeats 1000000 in
theorem rdiv_x (w : World) (al ah bl bh : Int) (hz : ivB2 al ah bl bh = 8 ∨ ivB2 al ah bl bh = 0 ∧ bl ≤ 0 ∧ 0 ≤ bh) : Calls Try.prog 12 #[iv al ah, iv bl bh] w (RO w (j2 al ah bl bh (divO al ah bl bh))) := by
  have HZ := Lib.hid hz
  clear hz
  have PA := Lib.hid (((Pr.new w (w.heap.size) rfl (.int .i64 al) (.int .i64 ah) 23).alloc (ivB bl bh)).alloc (ivB 0 0))
  have PB := Lib.hid ((Pr.new (w.alloc (ivB al ah)) (w.heap.size + 1) (by simp) (.int .i64 bl) (.int .i64 bh) 23).alloc (ivB 0 0))
  have PR := Lib.hid (Pr.new ((w.alloc (ivB al ah)).alloc (ivB bl bh)) (w.heap.size + 1 + 1) (by simp) (.int .i64 0) (.int .i64 0) 23)
  have BW : Hid (Below w.heap.size w (((w.alloc (ivB al ah)).alloc (ivB bl bh)).alloc (ivB 0 0))) := (sbal (sbal (sbal (Below.refl _ _) _) _) _)
  go_enter Try.func12, Try.ntmps12
  go_wp2_with fail
  generalize ((w.alloc (ivB al ah)).alloc (ivB bl bh)).alloc (ivB 0 0) = W0 at *
  refine (rboth_any _ al ah bl bh).mono ?_
  rintro e w1 ⟨rfl, hb⟩
  have P1 := Lib.hid (PA.out.via hb)
  have P2 := Lib.hid (PB.out.via hb)
  have P3 := Lib.hid (PR.out.via hb)
  have B1 := Lib.hid (sbtr BW.out hb)
  clear hb PA PB PR BW
  rcases HZ.out with h | ⟨h, g1, g2⟩
  · rw [h]
    have HH := Lib.hid h
    clear h
    have ⟨a0, a1, a2, a3, a4⟩ := P1.out
    have ⟨b0, b1, b2, b3, b4⟩ := P2.out
    go_wp2_with fail
    refine (rboth_any _ al ah bl bh).mono ?_
    rintro e w2 ⟨rfl, hb⟩
    have B2 := Lib.hid (sbtr B1.out hb)
    have P4 := Lib.hid (P3.out.via hb)
    clear hb a0 a1 a2 a3 a4 b0 b1 b2 b3 b4
    rw [HH.out]
    have ⟨r0, r1, r2, r3, r4⟩ := P4.out
    go_wp2
    exact post_iv Try.results12 rfl rfl (P4.out.set _ _) ⟨by rw [j2_bad HH.out]; rfl, below_set2 B2.out (by omega) _ _⟩
  · rw [h]
    have HH := Lib.hid h
    have HM := Lib.hid (divO_zero (al := al) (ah := ah) g1 g2)
    clear h HZ
    have ⟨a0, a1, a2, a3, a4⟩ := P1.out
    have ⟨b0, b1, b2, b3, b4⟩ := P2.out
    have ⟨r0, r1, r2, r3, r4⟩ := P3.out
    go_wp2
    exact post_iv Try.results12 rfl rfl (P3.out.set _ _) ⟨ret_out ((j2_ok HH.out).trans HM.out), below_set2 B1.out (by omega) _ _⟩
theorem rdivp_any (w : World) (al ah bl bh : Int) : Calls Try.prog 12 #[iv al ah, iv bl bh] w (RO w (j2 al ah bl bh (divO al ah bl bh))) := by
  rcases ivB2_cases al ah bl bh with ⟨h, ha, hb⟩ | h
  · by_cases g1 : bl ≤ 0
    · by_cases g2 : 0 ≤ bh
      · exact rdiv_x w al ah bl bh (.inr ⟨h, g1, g2⟩)
      · rw [j2_ok h]
        have ⟨x1, x2, x3⟩ := ivC_le ha
        have ⟨y1, y2, y3⟩ := ivC_le hb
        obtain ⟨c, hc⟩ : ∃ c : Nat, (c : Int) = -bh := ⟨(-bh).toNat, by omega⟩
        obtain ⟨d, hd⟩ : ∃ d : Nat, (d : Int) = -bl := ⟨(-bl).toNat, by omega⟩
        have key : Calls Try.prog 12 #[iv (-(-al)) (-(-ah)), iv (-(d : Int)) (-(c : Int))] w (RO w (divO (-(-al)) (-(-ah)) (-(d : Int)) (-(c : Int)))) := by
          by_cases hp : -ah < 0 <;> by_cases hq : 0 < -al
          · exact rdiv_n0 w (-ah) (-al) c d (by omega) (by omega) (by omega) (by omega) (by omega) (by omega) hp hq
          · exact rdiv_n1 w (-ah) (-al) c d (by omega) (by omega) (by omega) (by omega) (by omega) (by omega) hp (by omega)
          · exact rdiv_n2 w (-ah) (-al) c d (by omega) (by omega) (by omega) (by omega) (by omega) (by omega) (by omega) hq
          · exact rdiv_n3 w (-ah) (-al) c d (by omega) (by omega) (by omega) (by omega) (by omega) (by omega) (by omega) (by omega)
        rw [hc, hd, Int.neg_neg, Int.neg_neg, Int.neg_neg, Int.neg_neg] at key
        exact key
    · rw [j2_ok h]
      have ⟨x1, x2, x3⟩ := ivC_le ha
      have ⟨y1, y2, y3⟩ := ivC_le hb
      obtain ⟨c, rfl⟩ : ∃ c : Nat, bl = (c : Int) := ⟨bl.toNat, by omega⟩
      obtain ⟨d, rfl⟩ : ∃ d : Nat, bh = (d : Int) := ⟨bh.toNat, by omega⟩
      by_cases hp : al < 0 <;> by_cases hq : 0 < ah
      · exact rdiv_p0 w al ah c d (by omega) (by omega) (by omega) (by omega) (by omega) (by omega) hp hq
      · exact rdiv_p1 w al ah c d (by omega) (by omega) (by omega) (by omega) (by omega) (by omega) hp (by omega)
      · exact rdiv_p2 w al ah c d (by omega) (by omega) (by omega) (by omega) (by omega) (by omega) (by omega) hq
      · exact rdiv_p3 w al ah c d (by omega) (by omega) (by omega) (by omega) (by omega) (by omega) (by omega) (by omega)
  · exact rdiv_x w al ah bl bh (.inl h)
end Go.Proofs.Ytchhndlpngidcaa

/- The walk of the law SpanReckons. -/
namespace Go.Proofs.Ytchhndlpngidcaa
open Go.RowKit

set_option maxRecDepth 100000 in
set_option maxHeartbeats 8000000 in
theorem reckons_any (w : World) (al ah bl bh : Int) :
    Calls Try.prog 3 #[iv al ah, iv bl bh] w fun e w' => e = .returned (.bool true) ∧ Below w.heap.size w w' := by
  have cAdd := fun W => sadd_any W al ah bl bh
  have rAdd := fun W => radd_any W al ah bl bh
  obtain ⟨oAdd, hoAdd⟩ : ∃ o : Out, o = j2 al ah bl bh (mkI (al + bl) (ah + bh)) := ⟨_, rfl⟩
  rw [← hoAdd] at cAdd rAdd
  obtain ⟨lAdd, hAdd, eAdd⟩ := oAdd
  have CAdd := Lib.hid cAdd
  have RAdd := Lib.hid rAdd
  clear cAdd rAdd hoAdd
  have cSub := fun W => ssub_any W al ah bl bh
  have rSub := fun W => rsub_any W al ah bl bh
  obtain ⟨oSub, hoSub⟩ : ∃ o : Out, o = j2 al ah bl bh (mkI (al - bh) (ah - bl)) := ⟨_, rfl⟩
  rw [← hoSub] at cSub rSub
  obtain ⟨lSub, hSub, eSub⟩ := oSub
  have CSub := Lib.hid cSub
  have RSub := Lib.hid rSub
  clear cSub rSub hoSub
  have cMul := fun W => smulp_any W al ah bl bh
  have rMul := fun W => rmulp_any W al ah bl bh
  obtain ⟨oMul, hoMul⟩ : ∃ o : Out, o = j2 al ah bl bh (mkI (mulLo al ah bl bh) (mulHi al ah bl bh)) := ⟨_, rfl⟩
  rw [← hoMul] at cMul rMul
  obtain ⟨lMul, hMul, eMul⟩ := oMul
  have CMul := Lib.hid cMul
  have RMul := Lib.hid rMul
  clear cMul rMul hoMul
  have cDiv := fun W => sdiv_any W al ah bl bh
  have rDiv := fun W => rdivp_any W al ah bl bh
  obtain ⟨oDiv, hoDiv⟩ : ∃ o : Out, o = j2 al ah bl bh (divO al ah bl bh) := ⟨_, rfl⟩
  rw [← hoDiv] at cDiv rDiv
  obtain ⟨lDiv, hDiv, eDiv⟩ := oDiv
  have CDiv := Lib.hid cDiv
  have RDiv := Lib.hid rDiv
  clear cDiv rDiv hoDiv
  have cMin := fun W => smin_any W al ah bl bh
  have rMin := fun W => rmin_any W al ah bl bh
  obtain ⟨oMin, hoMin⟩ : ∃ o : Out, o = j2 al ah bl bh (mkI (min al bl) (min ah bh)) := ⟨_, rfl⟩
  rw [← hoMin] at cMin rMin
  obtain ⟨lMin, hMin, eMin⟩ := oMin
  have CMin := Lib.hid cMin
  have RMin := Lib.hid rMin
  clear cMin rMin hoMin
  have cMax := fun W => smax_any W al ah bl bh
  have rMax := fun W => rmax_any W al ah bl bh
  obtain ⟨oMax, hoMax⟩ : ∃ o : Out, o = j2 al ah bl bh (mkI (max al bl) (max ah bh)) := ⟨_, rfl⟩
  rw [← hoMax] at cMax rMax
  obtain ⟨lMax, hMax, eMax⟩ := oMax
  have CMax := Lib.hid cMax
  have RMax := Lib.hid rMax
  clear cMax rMax hoMax
  have cHull := fun W => shull_any W al ah bl bh
  have rHull := fun W => rhull_any W al ah bl bh
  obtain ⟨oHull, hoHull⟩ : ∃ o : Out, o = j2 al ah bl bh (mkI (min al bl) (max ah bh)) := ⟨_, rfl⟩
  rw [← hoHull] at cHull rHull
  obtain ⟨lHull, hHull, eHull⟩ := oHull
  have CHull := Lib.hid cHull
  have RHull := Lib.hid rHull
  clear cHull rHull hoHull
  have cMeet := fun W => smeet_any W al ah bl bh
  have rMeet := fun W => rmeet_any W al ah bl bh
  obtain ⟨oMeet, hoMeet⟩ : ∃ o : Out, o = j2 al ah bl bh (meetO al ah bl bh) := ⟨_, rfl⟩
  rw [← hoMeet] at cMeet rMeet
  obtain ⟨lMeet, hMeet, eMeet⟩ := oMeet
  have CMeet := Lib.hid cMeet
  have RMeet := Lib.hid rMeet
  clear cMeet rMeet hoMeet
  have CIn := Lib.hid (fun W => sin_any W al ah bl bh)
  have RIn := Lib.hid (fun W => rin_any W al ah bl bh)
  have CCmp := Lib.hid (fun W => scmp_any W al ah bl bh)
  have RCmp := Lib.hid (fun W => rcmpi_any W al ah bl bh)
  generalize inR al ah bl bh = vIn at *
  generalize ordR al ah bl bh = vCmp at *
  generalize ivB2 al ah bl bh = eB at *
  have QA := Lib.hid ((Pr.new w w.heap.size rfl (.int .i64 al) (.int .i64 ah) 23).alloc (ivB bl bh))
  have QB := Lib.hid (Pr.new (w.alloc (ivB al ah)) (w.heap.size + 1) (by simp) (.int .i64 bl) (.int .i64 bh) 23)
  have BX : Hid (Below w.heap.size w ((w.alloc (ivB al ah)).alloc (ivB bl bh))) := sbal (sbal (Below.refl _ _) _) _
  go_enter Try.func3, Try.ntmps3
  go_upto_region 1 with (fail)
  generalize (w.alloc (ivB al ah)).alloc (ivB bl bh) = W0 at *
  have hz0 : w.heap.size < w.heap.size + 1 := by omega
  generalize w.heap.size + 1 = gb at *
  have ⟨a0, a1, a2, a3, a4⟩ := QA.out
  have ⟨b0, b1, b2, b3, b4⟩ := QB.out
  go_wp2_with fail
  clear a0 a1 a2 a3 a4 b0 b1 b2 b3 b4
  refine (CAdd.out _).mono ?_
  rintro e w1 ⟨rfl, hb⟩
  replace QA := Lib.hid (QA.out.via hb)
  replace QB := Lib.hid (QB.out.via hb)
  replace BX := Lib.hid (sbtr BX.out hb)
  clear hb
  go_upto_region 2 with (fail)
  have zgCAdd := QB.out.lt
  replace QA := Lib.hid (QA.out.alloc (ivB lAdd hAdd))
  replace QB := Lib.hid (QB.out.alloc (ivB lAdd hAdd))
  have XCAdd := Lib.hid (Pr.new w1 _ rfl (.int .i64 lAdd) (.int .i64 hAdd) 23)
  replace BX := Lib.hid (sbal BX.out (ivB lAdd hAdd))
  generalize w1.heap.size = gCAdd at *
  generalize w1.alloc (ivB lAdd hAdd) = W1 at *
  have ⟨a0, a1, a2, a3, a4⟩ := QA.out
  have ⟨b0, b1, b2, b3, b4⟩ := QB.out
  go_wp2_with fail
  clear a0 a1 a2 a3 a4 b0 b1 b2 b3 b4
  refine (RAdd.out _).mono ?_
  rintro e w2 ⟨rfl, hb⟩
  replace QA := Lib.hid (QA.out.via hb)
  replace QB := Lib.hid (QB.out.via hb)
  replace XCAdd := Lib.hid (XCAdd.out.via hb)
  replace BX := Lib.hid (sbtr BX.out hb)
  clear hb
  go_upto_region 3 with (fail)
  have zgRAdd := XCAdd.out.lt
  replace QA := Lib.hid (QA.out.alloc (ivB lAdd hAdd))
  replace QB := Lib.hid (QB.out.alloc (ivB lAdd hAdd))
  replace XCAdd := Lib.hid (XCAdd.out.alloc (ivB lAdd hAdd))
  have XRAdd := Lib.hid (Pr.new w2 _ rfl (.int .i64 lAdd) (.int .i64 hAdd) 23)
  replace BX := Lib.hid (sbal BX.out (ivB lAdd hAdd))
  generalize w2.heap.size = gRAdd at *
  generalize w2.alloc (ivB lAdd hAdd) = W2 at *
  have ⟨a0, a1, a2, a3, a4⟩ := QA.out
  have ⟨b0, b1, b2, b3, b4⟩ := QB.out
  go_wp2_with fail
  clear a0 a1 a2 a3 a4 b0 b1 b2 b3 b4
  refine (CSub.out _).mono ?_
  rintro e w3 ⟨rfl, hb⟩
  replace QA := Lib.hid (QA.out.via hb)
  replace QB := Lib.hid (QB.out.via hb)
  replace XCAdd := Lib.hid (XCAdd.out.via hb)
  replace XRAdd := Lib.hid (XRAdd.out.via hb)
  replace BX := Lib.hid (sbtr BX.out hb)
  clear hb
  go_upto_region 4 with (fail)
  have zgCSub := XRAdd.out.lt
  replace QA := Lib.hid (QA.out.alloc (ivB lSub hSub))
  replace QB := Lib.hid (QB.out.alloc (ivB lSub hSub))
  replace XCAdd := Lib.hid (XCAdd.out.alloc (ivB lSub hSub))
  replace XRAdd := Lib.hid (XRAdd.out.alloc (ivB lSub hSub))
  have XCSub := Lib.hid (Pr.new w3 _ rfl (.int .i64 lSub) (.int .i64 hSub) 23)
  replace BX := Lib.hid (sbal BX.out (ivB lSub hSub))
  generalize w3.heap.size = gCSub at *
  generalize w3.alloc (ivB lSub hSub) = W3 at *
  have ⟨a0, a1, a2, a3, a4⟩ := QA.out
  have ⟨b0, b1, b2, b3, b4⟩ := QB.out
  go_wp2_with fail
  clear a0 a1 a2 a3 a4 b0 b1 b2 b3 b4
  refine (RSub.out _).mono ?_
  rintro e w4 ⟨rfl, hb⟩
  replace QA := Lib.hid (QA.out.via hb)
  replace QB := Lib.hid (QB.out.via hb)
  replace XCAdd := Lib.hid (XCAdd.out.via hb)
  replace XRAdd := Lib.hid (XRAdd.out.via hb)
  replace XCSub := Lib.hid (XCSub.out.via hb)
  replace BX := Lib.hid (sbtr BX.out hb)
  clear hb
  go_upto_region 5 with (fail)
  have zgRSub := XCSub.out.lt
  replace QA := Lib.hid (QA.out.alloc (ivB lSub hSub))
  replace QB := Lib.hid (QB.out.alloc (ivB lSub hSub))
  replace XCAdd := Lib.hid (XCAdd.out.alloc (ivB lSub hSub))
  replace XRAdd := Lib.hid (XRAdd.out.alloc (ivB lSub hSub))
  replace XCSub := Lib.hid (XCSub.out.alloc (ivB lSub hSub))
  have XRSub := Lib.hid (Pr.new w4 _ rfl (.int .i64 lSub) (.int .i64 hSub) 23)
  replace BX := Lib.hid (sbal BX.out (ivB lSub hSub))
  generalize w4.heap.size = gRSub at *
  generalize w4.alloc (ivB lSub hSub) = W4 at *
  have ⟨a0, a1, a2, a3, a4⟩ := QA.out
  have ⟨b0, b1, b2, b3, b4⟩ := QB.out
  go_wp2_with fail
  clear a0 a1 a2 a3 a4 b0 b1 b2 b3 b4
  refine (CMul.out _).mono ?_
  rintro e w5 ⟨rfl, hb⟩
  replace QA := Lib.hid (QA.out.via hb)
  replace QB := Lib.hid (QB.out.via hb)
  replace XCAdd := Lib.hid (XCAdd.out.via hb)
  replace XRAdd := Lib.hid (XRAdd.out.via hb)
  replace XCSub := Lib.hid (XCSub.out.via hb)
  replace XRSub := Lib.hid (XRSub.out.via hb)
  replace BX := Lib.hid (sbtr BX.out hb)
  clear hb
  go_upto_region 6 with (fail)
  have zgCMul := XRSub.out.lt
  replace QA := Lib.hid (QA.out.alloc (ivB lMul hMul))
  replace QB := Lib.hid (QB.out.alloc (ivB lMul hMul))
  replace XCAdd := Lib.hid (XCAdd.out.alloc (ivB lMul hMul))
  replace XRAdd := Lib.hid (XRAdd.out.alloc (ivB lMul hMul))
  replace XCSub := Lib.hid (XCSub.out.alloc (ivB lMul hMul))
  replace XRSub := Lib.hid (XRSub.out.alloc (ivB lMul hMul))
  have XCMul := Lib.hid (Pr.new w5 _ rfl (.int .i64 lMul) (.int .i64 hMul) 23)
  replace BX := Lib.hid (sbal BX.out (ivB lMul hMul))
  generalize w5.heap.size = gCMul at *
  generalize w5.alloc (ivB lMul hMul) = W5 at *
  have ⟨a0, a1, a2, a3, a4⟩ := QA.out
  have ⟨b0, b1, b2, b3, b4⟩ := QB.out
  go_wp2_with fail
  clear a0 a1 a2 a3 a4 b0 b1 b2 b3 b4
  refine (RMul.out _).mono ?_
  rintro e w6 ⟨rfl, hb⟩
  replace QA := Lib.hid (QA.out.via hb)
  replace QB := Lib.hid (QB.out.via hb)
  replace XCAdd := Lib.hid (XCAdd.out.via hb)
  replace XRAdd := Lib.hid (XRAdd.out.via hb)
  replace XCSub := Lib.hid (XCSub.out.via hb)
  replace XRSub := Lib.hid (XRSub.out.via hb)
  replace XCMul := Lib.hid (XCMul.out.via hb)
  replace BX := Lib.hid (sbtr BX.out hb)
  clear hb
  go_upto_region 7 with (fail)
  have zgRMul := XCMul.out.lt
  replace QA := Lib.hid (QA.out.alloc (ivB lMul hMul))
  replace QB := Lib.hid (QB.out.alloc (ivB lMul hMul))
  replace XCAdd := Lib.hid (XCAdd.out.alloc (ivB lMul hMul))
  replace XRAdd := Lib.hid (XRAdd.out.alloc (ivB lMul hMul))
  replace XCSub := Lib.hid (XCSub.out.alloc (ivB lMul hMul))
  replace XRSub := Lib.hid (XRSub.out.alloc (ivB lMul hMul))
  replace XCMul := Lib.hid (XCMul.out.alloc (ivB lMul hMul))
  have XRMul := Lib.hid (Pr.new w6 _ rfl (.int .i64 lMul) (.int .i64 hMul) 23)
  replace BX := Lib.hid (sbal BX.out (ivB lMul hMul))
  generalize w6.heap.size = gRMul at *
  generalize w6.alloc (ivB lMul hMul) = W6 at *
  have ⟨a0, a1, a2, a3, a4⟩ := QA.out
  have ⟨b0, b1, b2, b3, b4⟩ := QB.out
  go_wp2_with fail
  clear a0 a1 a2 a3 a4 b0 b1 b2 b3 b4
  refine (CDiv.out _).mono ?_
  rintro e w7 ⟨rfl, hb⟩
  replace QA := Lib.hid (QA.out.via hb)
  replace QB := Lib.hid (QB.out.via hb)
  replace XCAdd := Lib.hid (XCAdd.out.via hb)
  replace XRAdd := Lib.hid (XRAdd.out.via hb)
  replace XCSub := Lib.hid (XCSub.out.via hb)
  replace XRSub := Lib.hid (XRSub.out.via hb)
  replace XCMul := Lib.hid (XCMul.out.via hb)
  replace XRMul := Lib.hid (XRMul.out.via hb)
  replace BX := Lib.hid (sbtr BX.out hb)
  clear hb
  go_upto_region 8 with (fail)
  have zgCDiv := XRMul.out.lt
  replace QA := Lib.hid (QA.out.alloc (ivB lDiv hDiv))
  replace QB := Lib.hid (QB.out.alloc (ivB lDiv hDiv))
  replace XCAdd := Lib.hid (XCAdd.out.alloc (ivB lDiv hDiv))
  replace XRAdd := Lib.hid (XRAdd.out.alloc (ivB lDiv hDiv))
  replace XCSub := Lib.hid (XCSub.out.alloc (ivB lDiv hDiv))
  replace XRSub := Lib.hid (XRSub.out.alloc (ivB lDiv hDiv))
  replace XCMul := Lib.hid (XCMul.out.alloc (ivB lDiv hDiv))
  replace XRMul := Lib.hid (XRMul.out.alloc (ivB lDiv hDiv))
  have XCDiv := Lib.hid (Pr.new w7 _ rfl (.int .i64 lDiv) (.int .i64 hDiv) 23)
  replace BX := Lib.hid (sbal BX.out (ivB lDiv hDiv))
  generalize w7.heap.size = gCDiv at *
  generalize w7.alloc (ivB lDiv hDiv) = W7 at *
  have ⟨a0, a1, a2, a3, a4⟩ := QA.out
  have ⟨b0, b1, b2, b3, b4⟩ := QB.out
  go_wp2_with fail
  clear a0 a1 a2 a3 a4 b0 b1 b2 b3 b4
  refine (RDiv.out _).mono ?_
  rintro e w8 ⟨rfl, hb⟩
  replace QA := Lib.hid (QA.out.via hb)
  replace QB := Lib.hid (QB.out.via hb)
  replace XCAdd := Lib.hid (XCAdd.out.via hb)
  replace XRAdd := Lib.hid (XRAdd.out.via hb)
  replace XCSub := Lib.hid (XCSub.out.via hb)
  replace XRSub := Lib.hid (XRSub.out.via hb)
  replace XCMul := Lib.hid (XCMul.out.via hb)
  replace XRMul := Lib.hid (XRMul.out.via hb)
  replace XCDiv := Lib.hid (XCDiv.out.via hb)
  replace BX := Lib.hid (sbtr BX.out hb)
  clear hb
  go_upto_region 9 with (fail)
  have zgRDiv := XCDiv.out.lt
  replace QA := Lib.hid (QA.out.alloc (ivB lDiv hDiv))
  replace QB := Lib.hid (QB.out.alloc (ivB lDiv hDiv))
  replace XCAdd := Lib.hid (XCAdd.out.alloc (ivB lDiv hDiv))
  replace XRAdd := Lib.hid (XRAdd.out.alloc (ivB lDiv hDiv))
  replace XCSub := Lib.hid (XCSub.out.alloc (ivB lDiv hDiv))
  replace XRSub := Lib.hid (XRSub.out.alloc (ivB lDiv hDiv))
  replace XCMul := Lib.hid (XCMul.out.alloc (ivB lDiv hDiv))
  replace XRMul := Lib.hid (XRMul.out.alloc (ivB lDiv hDiv))
  replace XCDiv := Lib.hid (XCDiv.out.alloc (ivB lDiv hDiv))
  have XRDiv := Lib.hid (Pr.new w8 _ rfl (.int .i64 lDiv) (.int .i64 hDiv) 23)
  replace BX := Lib.hid (sbal BX.out (ivB lDiv hDiv))
  generalize w8.heap.size = gRDiv at *
  generalize w8.alloc (ivB lDiv hDiv) = W8 at *
  have ⟨x0_0, x0_1, x0_2, x0_3, x0_4⟩ := XCAdd.out
  have ⟨x1_0, x1_1, x1_2, x1_3, x1_4⟩ := XRAdd.out
  have ⟨x2_0, x2_1, x2_2, x2_3, x2_4⟩ := XCSub.out
  have ⟨x3_0, x3_1, x3_2, x3_3, x3_4⟩ := XRSub.out
  have ⟨x4_0, x4_1, x4_2, x4_3, x4_4⟩ := XCMul.out
  have ⟨x5_0, x5_1, x5_2, x5_3, x5_4⟩ := XRMul.out
  have ⟨x6_0, x6_1, x6_2, x6_3, x6_4⟩ := XCDiv.out
  have ⟨x7_0, x7_1, x7_2, x7_3, x7_4⟩ := XRDiv.out
  go_upto_region 11 with (fail)
  clear x0_0 x0_1 x0_2 x0_3 x0_4 x1_0 x1_1 x1_2 x1_3 x1_4 x2_0 x2_1 x2_2 x2_3 x2_4 x3_0 x3_1 x3_2 x3_3 x3_4 x4_0 x4_1 x4_2 x4_3 x4_4 x5_0 x5_1 x5_2 x5_3 x5_4 x6_0 x6_1 x6_2 x6_3 x6_4 x7_0 x7_1 x7_2 x7_3 x7_4
  have ⟨a0, a1, a2, a3, a4⟩ := QA.out
  have ⟨b0, b1, b2, b3, b4⟩ := QB.out
  go_wp2_with fail
  clear a0 a1 a2 a3 a4 b0 b1 b2 b3 b4
  refine (CMin.out _).mono ?_
  rintro e w9 ⟨rfl, hb⟩
  replace QA := Lib.hid (QA.out.via hb)
  replace QB := Lib.hid (QB.out.via hb)
  replace XCAdd := Lib.hid (XCAdd.out.via hb)
  replace XRAdd := Lib.hid (XRAdd.out.via hb)
  replace XCSub := Lib.hid (XCSub.out.via hb)
  replace XRSub := Lib.hid (XRSub.out.via hb)
  replace XCMul := Lib.hid (XCMul.out.via hb)
  replace XRMul := Lib.hid (XRMul.out.via hb)
  replace XCDiv := Lib.hid (XCDiv.out.via hb)
  replace XRDiv := Lib.hid (XRDiv.out.via hb)
  replace BX := Lib.hid (sbtr BX.out hb)
  clear hb
  have ⟨r0, r1, r2, r3, r4⟩ := XCAdd.out
  go_upto_region 12 with (fail)
  clear r0 r1 r2 r3 r4
  replace QA := Lib.hid (QA.out.far (h := gCAdd) (by omega) (.int .i64 lMin) (.int .i64 hMin))
  replace QB := Lib.hid (QB.out.far (h := gCAdd) (by omega) (.int .i64 lMin) (.int .i64 hMin))
  replace XCAdd := Lib.hid (XCAdd.out.set (.int .i64 lMin) (.int .i64 hMin))
  replace XRAdd := Lib.hid (XRAdd.out.far (h := gCAdd) (by omega) (.int .i64 lMin) (.int .i64 hMin))
  replace XCSub := Lib.hid (XCSub.out.far (h := gCAdd) (by omega) (.int .i64 lMin) (.int .i64 hMin))
  replace XRSub := Lib.hid (XRSub.out.far (h := gCAdd) (by omega) (.int .i64 lMin) (.int .i64 hMin))
  replace XCMul := Lib.hid (XCMul.out.far (h := gCAdd) (by omega) (.int .i64 lMin) (.int .i64 hMin))
  replace XRMul := Lib.hid (XRMul.out.far (h := gCAdd) (by omega) (.int .i64 lMin) (.int .i64 hMin))
  replace XCDiv := Lib.hid (XCDiv.out.far (h := gCAdd) (by omega) (.int .i64 lMin) (.int .i64 hMin))
  replace XRDiv := Lib.hid (XRDiv.out.far (h := gCAdd) (by omega) (.int .i64 lMin) (.int .i64 hMin))
  replace BX := Lib.hid (below_set2 BX.out (g := gCAdd) (by omega) (.int .i64 lMin) (.int .i64 hMin))
  generalize (w9.setCell ⟨gCAdd, 0, none⟩ (.int .i64 lMin)).setCell ⟨gCAdd, 1, none⟩ (.int .i64 hMin) = W9 at *
  have ⟨a0, a1, a2, a3, a4⟩ := QA.out
  have ⟨b0, b1, b2, b3, b4⟩ := QB.out
  go_wp2_with fail
  clear a0 a1 a2 a3 a4 b0 b1 b2 b3 b4
  refine (RMin.out _).mono ?_
  rintro e w10 ⟨rfl, hb⟩
  replace QA := Lib.hid (QA.out.via hb)
  replace QB := Lib.hid (QB.out.via hb)
  replace XCAdd := Lib.hid (XCAdd.out.via hb)
  replace XRAdd := Lib.hid (XRAdd.out.via hb)
  replace XCSub := Lib.hid (XCSub.out.via hb)
  replace XRSub := Lib.hid (XRSub.out.via hb)
  replace XCMul := Lib.hid (XCMul.out.via hb)
  replace XRMul := Lib.hid (XRMul.out.via hb)
  replace XCDiv := Lib.hid (XCDiv.out.via hb)
  replace XRDiv := Lib.hid (XRDiv.out.via hb)
  replace BX := Lib.hid (sbtr BX.out hb)
  clear hb
  have ⟨r0, r1, r2, r3, r4⟩ := XRAdd.out
  go_upto_region 13 with (fail)
  clear r0 r1 r2 r3 r4
  replace QA := Lib.hid (QA.out.far (h := gRAdd) (by omega) (.int .i64 lMin) (.int .i64 hMin))
  replace QB := Lib.hid (QB.out.far (h := gRAdd) (by omega) (.int .i64 lMin) (.int .i64 hMin))
  replace XCAdd := Lib.hid (XCAdd.out.far (h := gRAdd) (by omega) (.int .i64 lMin) (.int .i64 hMin))
  replace XRAdd := Lib.hid (XRAdd.out.set (.int .i64 lMin) (.int .i64 hMin))
  replace XCSub := Lib.hid (XCSub.out.far (h := gRAdd) (by omega) (.int .i64 lMin) (.int .i64 hMin))
  replace XRSub := Lib.hid (XRSub.out.far (h := gRAdd) (by omega) (.int .i64 lMin) (.int .i64 hMin))
  replace XCMul := Lib.hid (XCMul.out.far (h := gRAdd) (by omega) (.int .i64 lMin) (.int .i64 hMin))
  replace XRMul := Lib.hid (XRMul.out.far (h := gRAdd) (by omega) (.int .i64 lMin) (.int .i64 hMin))
  replace XCDiv := Lib.hid (XCDiv.out.far (h := gRAdd) (by omega) (.int .i64 lMin) (.int .i64 hMin))
  replace XRDiv := Lib.hid (XRDiv.out.far (h := gRAdd) (by omega) (.int .i64 lMin) (.int .i64 hMin))
  replace BX := Lib.hid (below_set2 BX.out (g := gRAdd) (by omega) (.int .i64 lMin) (.int .i64 hMin))
  generalize (w10.setCell ⟨gRAdd, 0, none⟩ (.int .i64 lMin)).setCell ⟨gRAdd, 1, none⟩ (.int .i64 hMin) = W10 at *
  have ⟨a0, a1, a2, a3, a4⟩ := QA.out
  have ⟨b0, b1, b2, b3, b4⟩ := QB.out
  go_wp2_with fail
  clear a0 a1 a2 a3 a4 b0 b1 b2 b3 b4
  refine (CMax.out _).mono ?_
  rintro e w11 ⟨rfl, hb⟩
  replace QA := Lib.hid (QA.out.via hb)
  replace QB := Lib.hid (QB.out.via hb)
  replace XCAdd := Lib.hid (XCAdd.out.via hb)
  replace XRAdd := Lib.hid (XRAdd.out.via hb)
  replace XCSub := Lib.hid (XCSub.out.via hb)
  replace XRSub := Lib.hid (XRSub.out.via hb)
  replace XCMul := Lib.hid (XCMul.out.via hb)
  replace XRMul := Lib.hid (XRMul.out.via hb)
  replace XCDiv := Lib.hid (XCDiv.out.via hb)
  replace XRDiv := Lib.hid (XRDiv.out.via hb)
  replace BX := Lib.hid (sbtr BX.out hb)
  clear hb
  have ⟨r0, r1, r2, r3, r4⟩ := XCSub.out
  go_upto_region 14 with (fail)
  clear r0 r1 r2 r3 r4
  replace QA := Lib.hid (QA.out.far (h := gCSub) (by omega) (.int .i64 lMax) (.int .i64 hMax))
  replace QB := Lib.hid (QB.out.far (h := gCSub) (by omega) (.int .i64 lMax) (.int .i64 hMax))
  replace XCAdd := Lib.hid (XCAdd.out.far (h := gCSub) (by omega) (.int .i64 lMax) (.int .i64 hMax))
  replace XRAdd := Lib.hid (XRAdd.out.far (h := gCSub) (by omega) (.int .i64 lMax) (.int .i64 hMax))
  replace XCSub := Lib.hid (XCSub.out.set (.int .i64 lMax) (.int .i64 hMax))
  replace XRSub := Lib.hid (XRSub.out.far (h := gCSub) (by omega) (.int .i64 lMax) (.int .i64 hMax))
  replace XCMul := Lib.hid (XCMul.out.far (h := gCSub) (by omega) (.int .i64 lMax) (.int .i64 hMax))
  replace XRMul := Lib.hid (XRMul.out.far (h := gCSub) (by omega) (.int .i64 lMax) (.int .i64 hMax))
  replace XCDiv := Lib.hid (XCDiv.out.far (h := gCSub) (by omega) (.int .i64 lMax) (.int .i64 hMax))
  replace XRDiv := Lib.hid (XRDiv.out.far (h := gCSub) (by omega) (.int .i64 lMax) (.int .i64 hMax))
  replace BX := Lib.hid (below_set2 BX.out (g := gCSub) (by omega) (.int .i64 lMax) (.int .i64 hMax))
  generalize (w11.setCell ⟨gCSub, 0, none⟩ (.int .i64 lMax)).setCell ⟨gCSub, 1, none⟩ (.int .i64 hMax) = W11 at *
  have ⟨a0, a1, a2, a3, a4⟩ := QA.out
  have ⟨b0, b1, b2, b3, b4⟩ := QB.out
  go_wp2_with fail
  clear a0 a1 a2 a3 a4 b0 b1 b2 b3 b4
  refine (RMax.out _).mono ?_
  rintro e w12 ⟨rfl, hb⟩
  replace QA := Lib.hid (QA.out.via hb)
  replace QB := Lib.hid (QB.out.via hb)
  replace XCAdd := Lib.hid (XCAdd.out.via hb)
  replace XRAdd := Lib.hid (XRAdd.out.via hb)
  replace XCSub := Lib.hid (XCSub.out.via hb)
  replace XRSub := Lib.hid (XRSub.out.via hb)
  replace XCMul := Lib.hid (XCMul.out.via hb)
  replace XRMul := Lib.hid (XRMul.out.via hb)
  replace XCDiv := Lib.hid (XCDiv.out.via hb)
  replace XRDiv := Lib.hid (XRDiv.out.via hb)
  replace BX := Lib.hid (sbtr BX.out hb)
  clear hb
  have ⟨r0, r1, r2, r3, r4⟩ := XRSub.out
  go_upto_region 15 with (fail)
  clear r0 r1 r2 r3 r4
  replace QA := Lib.hid (QA.out.far (h := gRSub) (by omega) (.int .i64 lMax) (.int .i64 hMax))
  replace QB := Lib.hid (QB.out.far (h := gRSub) (by omega) (.int .i64 lMax) (.int .i64 hMax))
  replace XCAdd := Lib.hid (XCAdd.out.far (h := gRSub) (by omega) (.int .i64 lMax) (.int .i64 hMax))
  replace XRAdd := Lib.hid (XRAdd.out.far (h := gRSub) (by omega) (.int .i64 lMax) (.int .i64 hMax))
  replace XCSub := Lib.hid (XCSub.out.far (h := gRSub) (by omega) (.int .i64 lMax) (.int .i64 hMax))
  replace XRSub := Lib.hid (XRSub.out.set (.int .i64 lMax) (.int .i64 hMax))
  replace XCMul := Lib.hid (XCMul.out.far (h := gRSub) (by omega) (.int .i64 lMax) (.int .i64 hMax))
  replace XRMul := Lib.hid (XRMul.out.far (h := gRSub) (by omega) (.int .i64 lMax) (.int .i64 hMax))
  replace XCDiv := Lib.hid (XCDiv.out.far (h := gRSub) (by omega) (.int .i64 lMax) (.int .i64 hMax))
  replace XRDiv := Lib.hid (XRDiv.out.far (h := gRSub) (by omega) (.int .i64 lMax) (.int .i64 hMax))
  replace BX := Lib.hid (below_set2 BX.out (g := gRSub) (by omega) (.int .i64 lMax) (.int .i64 hMax))
  generalize (w12.setCell ⟨gRSub, 0, none⟩ (.int .i64 lMax)).setCell ⟨gRSub, 1, none⟩ (.int .i64 hMax) = W12 at *
  have ⟨a0, a1, a2, a3, a4⟩ := QA.out
  have ⟨b0, b1, b2, b3, b4⟩ := QB.out
  go_wp2_with fail
  clear a0 a1 a2 a3 a4 b0 b1 b2 b3 b4
  refine (CHull.out _).mono ?_
  rintro e w13 ⟨rfl, hb⟩
  replace QA := Lib.hid (QA.out.via hb)
  replace QB := Lib.hid (QB.out.via hb)
  replace XCAdd := Lib.hid (XCAdd.out.via hb)
  replace XRAdd := Lib.hid (XRAdd.out.via hb)
  replace XCSub := Lib.hid (XCSub.out.via hb)
  replace XRSub := Lib.hid (XRSub.out.via hb)
  replace XCMul := Lib.hid (XCMul.out.via hb)
  replace XRMul := Lib.hid (XRMul.out.via hb)
  replace XCDiv := Lib.hid (XCDiv.out.via hb)
  replace XRDiv := Lib.hid (XRDiv.out.via hb)
  replace BX := Lib.hid (sbtr BX.out hb)
  clear hb
  have ⟨r0, r1, r2, r3, r4⟩ := XCMul.out
  go_upto_region 16 with (fail)
  clear r0 r1 r2 r3 r4
  replace QA := Lib.hid (QA.out.far (h := gCMul) (by omega) (.int .i64 lHull) (.int .i64 hHull))
  replace QB := Lib.hid (QB.out.far (h := gCMul) (by omega) (.int .i64 lHull) (.int .i64 hHull))
  replace XCAdd := Lib.hid (XCAdd.out.far (h := gCMul) (by omega) (.int .i64 lHull) (.int .i64 hHull))
  replace XRAdd := Lib.hid (XRAdd.out.far (h := gCMul) (by omega) (.int .i64 lHull) (.int .i64 hHull))
  replace XCSub := Lib.hid (XCSub.out.far (h := gCMul) (by omega) (.int .i64 lHull) (.int .i64 hHull))
  replace XRSub := Lib.hid (XRSub.out.far (h := gCMul) (by omega) (.int .i64 lHull) (.int .i64 hHull))
  replace XCMul := Lib.hid (XCMul.out.set (.int .i64 lHull) (.int .i64 hHull))
  replace XRMul := Lib.hid (XRMul.out.far (h := gCMul) (by omega) (.int .i64 lHull) (.int .i64 hHull))
  replace XCDiv := Lib.hid (XCDiv.out.far (h := gCMul) (by omega) (.int .i64 lHull) (.int .i64 hHull))
  replace XRDiv := Lib.hid (XRDiv.out.far (h := gCMul) (by omega) (.int .i64 lHull) (.int .i64 hHull))
  replace BX := Lib.hid (below_set2 BX.out (g := gCMul) (by omega) (.int .i64 lHull) (.int .i64 hHull))
  generalize (w13.setCell ⟨gCMul, 0, none⟩ (.int .i64 lHull)).setCell ⟨gCMul, 1, none⟩ (.int .i64 hHull) = W13 at *
  have ⟨a0, a1, a2, a3, a4⟩ := QA.out
  have ⟨b0, b1, b2, b3, b4⟩ := QB.out
  go_wp2_with fail
  clear a0 a1 a2 a3 a4 b0 b1 b2 b3 b4
  refine (RHull.out _).mono ?_
  rintro e w14 ⟨rfl, hb⟩
  replace QA := Lib.hid (QA.out.via hb)
  replace QB := Lib.hid (QB.out.via hb)
  replace XCAdd := Lib.hid (XCAdd.out.via hb)
  replace XRAdd := Lib.hid (XRAdd.out.via hb)
  replace XCSub := Lib.hid (XCSub.out.via hb)
  replace XRSub := Lib.hid (XRSub.out.via hb)
  replace XCMul := Lib.hid (XCMul.out.via hb)
  replace XRMul := Lib.hid (XRMul.out.via hb)
  replace XCDiv := Lib.hid (XCDiv.out.via hb)
  replace XRDiv := Lib.hid (XRDiv.out.via hb)
  replace BX := Lib.hid (sbtr BX.out hb)
  clear hb
  have ⟨r0, r1, r2, r3, r4⟩ := XRMul.out
  go_upto_region 17 with (fail)
  clear r0 r1 r2 r3 r4
  replace QA := Lib.hid (QA.out.far (h := gRMul) (by omega) (.int .i64 lHull) (.int .i64 hHull))
  replace QB := Lib.hid (QB.out.far (h := gRMul) (by omega) (.int .i64 lHull) (.int .i64 hHull))
  replace XCAdd := Lib.hid (XCAdd.out.far (h := gRMul) (by omega) (.int .i64 lHull) (.int .i64 hHull))
  replace XRAdd := Lib.hid (XRAdd.out.far (h := gRMul) (by omega) (.int .i64 lHull) (.int .i64 hHull))
  replace XCSub := Lib.hid (XCSub.out.far (h := gRMul) (by omega) (.int .i64 lHull) (.int .i64 hHull))
  replace XRSub := Lib.hid (XRSub.out.far (h := gRMul) (by omega) (.int .i64 lHull) (.int .i64 hHull))
  replace XCMul := Lib.hid (XCMul.out.far (h := gRMul) (by omega) (.int .i64 lHull) (.int .i64 hHull))
  replace XRMul := Lib.hid (XRMul.out.set (.int .i64 lHull) (.int .i64 hHull))
  replace XCDiv := Lib.hid (XCDiv.out.far (h := gRMul) (by omega) (.int .i64 lHull) (.int .i64 hHull))
  replace XRDiv := Lib.hid (XRDiv.out.far (h := gRMul) (by omega) (.int .i64 lHull) (.int .i64 hHull))
  replace BX := Lib.hid (below_set2 BX.out (g := gRMul) (by omega) (.int .i64 lHull) (.int .i64 hHull))
  generalize (w14.setCell ⟨gRMul, 0, none⟩ (.int .i64 lHull)).setCell ⟨gRMul, 1, none⟩ (.int .i64 hHull) = W14 at *
  have ⟨a0, a1, a2, a3, a4⟩ := QA.out
  have ⟨b0, b1, b2, b3, b4⟩ := QB.out
  go_wp2_with fail
  clear a0 a1 a2 a3 a4 b0 b1 b2 b3 b4
  refine (CMeet.out _).mono ?_
  rintro e w15 ⟨rfl, hb⟩
  replace QA := Lib.hid (QA.out.via hb)
  replace QB := Lib.hid (QB.out.via hb)
  replace XCAdd := Lib.hid (XCAdd.out.via hb)
  replace XRAdd := Lib.hid (XRAdd.out.via hb)
  replace XCSub := Lib.hid (XCSub.out.via hb)
  replace XRSub := Lib.hid (XRSub.out.via hb)
  replace XCMul := Lib.hid (XCMul.out.via hb)
  replace XRMul := Lib.hid (XRMul.out.via hb)
  replace XCDiv := Lib.hid (XCDiv.out.via hb)
  replace XRDiv := Lib.hid (XRDiv.out.via hb)
  replace BX := Lib.hid (sbtr BX.out hb)
  clear hb
  have ⟨r0, r1, r2, r3, r4⟩ := XCDiv.out
  go_upto_region 18 with (fail)
  clear r0 r1 r2 r3 r4
  replace QA := Lib.hid (QA.out.far (h := gCDiv) (by omega) (.int .i64 lMeet) (.int .i64 hMeet))
  replace QB := Lib.hid (QB.out.far (h := gCDiv) (by omega) (.int .i64 lMeet) (.int .i64 hMeet))
  replace XCAdd := Lib.hid (XCAdd.out.far (h := gCDiv) (by omega) (.int .i64 lMeet) (.int .i64 hMeet))
  replace XRAdd := Lib.hid (XRAdd.out.far (h := gCDiv) (by omega) (.int .i64 lMeet) (.int .i64 hMeet))
  replace XCSub := Lib.hid (XCSub.out.far (h := gCDiv) (by omega) (.int .i64 lMeet) (.int .i64 hMeet))
  replace XRSub := Lib.hid (XRSub.out.far (h := gCDiv) (by omega) (.int .i64 lMeet) (.int .i64 hMeet))
  replace XCMul := Lib.hid (XCMul.out.far (h := gCDiv) (by omega) (.int .i64 lMeet) (.int .i64 hMeet))
  replace XRMul := Lib.hid (XRMul.out.far (h := gCDiv) (by omega) (.int .i64 lMeet) (.int .i64 hMeet))
  replace XCDiv := Lib.hid (XCDiv.out.set (.int .i64 lMeet) (.int .i64 hMeet))
  replace XRDiv := Lib.hid (XRDiv.out.far (h := gCDiv) (by omega) (.int .i64 lMeet) (.int .i64 hMeet))
  replace BX := Lib.hid (below_set2 BX.out (g := gCDiv) (by omega) (.int .i64 lMeet) (.int .i64 hMeet))
  generalize (w15.setCell ⟨gCDiv, 0, none⟩ (.int .i64 lMeet)).setCell ⟨gCDiv, 1, none⟩ (.int .i64 hMeet) = W15 at *
  have ⟨a0, a1, a2, a3, a4⟩ := QA.out
  have ⟨b0, b1, b2, b3, b4⟩ := QB.out
  go_wp2_with fail
  clear a0 a1 a2 a3 a4 b0 b1 b2 b3 b4
  refine (RMeet.out _).mono ?_
  rintro e w16 ⟨rfl, hb⟩
  replace QA := Lib.hid (QA.out.via hb)
  replace QB := Lib.hid (QB.out.via hb)
  replace XCAdd := Lib.hid (XCAdd.out.via hb)
  replace XRAdd := Lib.hid (XRAdd.out.via hb)
  replace XCSub := Lib.hid (XCSub.out.via hb)
  replace XRSub := Lib.hid (XRSub.out.via hb)
  replace XCMul := Lib.hid (XCMul.out.via hb)
  replace XRMul := Lib.hid (XRMul.out.via hb)
  replace XCDiv := Lib.hid (XCDiv.out.via hb)
  replace XRDiv := Lib.hid (XRDiv.out.via hb)
  replace BX := Lib.hid (sbtr BX.out hb)
  clear hb
  have ⟨r0, r1, r2, r3, r4⟩ := XRDiv.out
  go_upto_region 19 with (fail)
  clear r0 r1 r2 r3 r4
  replace QA := Lib.hid (QA.out.far (h := gRDiv) (by omega) (.int .i64 lMeet) (.int .i64 hMeet))
  replace QB := Lib.hid (QB.out.far (h := gRDiv) (by omega) (.int .i64 lMeet) (.int .i64 hMeet))
  replace XCAdd := Lib.hid (XCAdd.out.far (h := gRDiv) (by omega) (.int .i64 lMeet) (.int .i64 hMeet))
  replace XRAdd := Lib.hid (XRAdd.out.far (h := gRDiv) (by omega) (.int .i64 lMeet) (.int .i64 hMeet))
  replace XCSub := Lib.hid (XCSub.out.far (h := gRDiv) (by omega) (.int .i64 lMeet) (.int .i64 hMeet))
  replace XRSub := Lib.hid (XRSub.out.far (h := gRDiv) (by omega) (.int .i64 lMeet) (.int .i64 hMeet))
  replace XCMul := Lib.hid (XCMul.out.far (h := gRDiv) (by omega) (.int .i64 lMeet) (.int .i64 hMeet))
  replace XRMul := Lib.hid (XRMul.out.far (h := gRDiv) (by omega) (.int .i64 lMeet) (.int .i64 hMeet))
  replace XCDiv := Lib.hid (XCDiv.out.far (h := gRDiv) (by omega) (.int .i64 lMeet) (.int .i64 hMeet))
  replace XRDiv := Lib.hid (XRDiv.out.set (.int .i64 lMeet) (.int .i64 hMeet))
  replace BX := Lib.hid (below_set2 BX.out (g := gRDiv) (by omega) (.int .i64 lMeet) (.int .i64 hMeet))
  generalize (w16.setCell ⟨gRDiv, 0, none⟩ (.int .i64 lMeet)).setCell ⟨gRDiv, 1, none⟩ (.int .i64 hMeet) = W16 at *
  have ⟨a0, a1, a2, a3, a4⟩ := QA.out
  have ⟨b0, b1, b2, b3, b4⟩ := QB.out
  go_wp2_with fail
  clear a0 a1 a2 a3 a4 b0 b1 b2 b3 b4
  refine (CIn.out _).mono ?_
  rintro e w17 ⟨rfl, hb⟩
  replace QA := Lib.hid (QA.out.via hb)
  replace QB := Lib.hid (QB.out.via hb)
  replace XCAdd := Lib.hid (XCAdd.out.via hb)
  replace XRAdd := Lib.hid (XRAdd.out.via hb)
  replace XCSub := Lib.hid (XCSub.out.via hb)
  replace XRSub := Lib.hid (XRSub.out.via hb)
  replace XCMul := Lib.hid (XCMul.out.via hb)
  replace XRMul := Lib.hid (XRMul.out.via hb)
  replace XCDiv := Lib.hid (XCDiv.out.via hb)
  replace XRDiv := Lib.hid (XRDiv.out.via hb)
  replace BX := Lib.hid (sbtr BX.out hb)
  clear hb
  have ⟨a0, a1, a2, a3, a4⟩ := QA.out
  have ⟨b0, b1, b2, b3, b4⟩ := QB.out
  go_wp2_with fail
  clear a0 a1 a2 a3 a4 b0 b1 b2 b3 b4
  refine (RIn.out _).mono ?_
  rintro e w18 ⟨rfl, hb⟩
  replace QA := Lib.hid (QA.out.via hb)
  replace QB := Lib.hid (QB.out.via hb)
  replace XCAdd := Lib.hid (XCAdd.out.via hb)
  replace XRAdd := Lib.hid (XRAdd.out.via hb)
  replace XCSub := Lib.hid (XCSub.out.via hb)
  replace XRSub := Lib.hid (XRSub.out.via hb)
  replace XCMul := Lib.hid (XCMul.out.via hb)
  replace XRMul := Lib.hid (XRMul.out.via hb)
  replace XCDiv := Lib.hid (XCDiv.out.via hb)
  replace XRDiv := Lib.hid (XRDiv.out.via hb)
  replace BX := Lib.hid (sbtr BX.out hb)
  clear hb
  have ⟨a0, a1, a2, a3, a4⟩ := QA.out
  have ⟨b0, b1, b2, b3, b4⟩ := QB.out
  go_wp2_with fail
  clear a0 a1 a2 a3 a4 b0 b1 b2 b3 b4
  refine (CCmp.out _).mono ?_
  rintro e w19 ⟨rfl, hb⟩
  replace QA := Lib.hid (QA.out.via hb)
  replace QB := Lib.hid (QB.out.via hb)
  replace XCAdd := Lib.hid (XCAdd.out.via hb)
  replace XRAdd := Lib.hid (XRAdd.out.via hb)
  replace XCSub := Lib.hid (XCSub.out.via hb)
  replace XRSub := Lib.hid (XRSub.out.via hb)
  replace XCMul := Lib.hid (XCMul.out.via hb)
  replace XRMul := Lib.hid (XRMul.out.via hb)
  replace XCDiv := Lib.hid (XCDiv.out.via hb)
  replace XRDiv := Lib.hid (XRDiv.out.via hb)
  replace BX := Lib.hid (sbtr BX.out hb)
  clear hb
  have ⟨a0, a1, a2, a3, a4⟩ := QA.out
  have ⟨b0, b1, b2, b3, b4⟩ := QB.out
  go_wp2_with fail
  clear a0 a1 a2 a3 a4 b0 b1 b2 b3 b4
  refine (RCmp.out _).mono ?_
  rintro e w20 ⟨rfl, hb⟩
  replace QA := Lib.hid (QA.out.via hb)
  replace QB := Lib.hid (QB.out.via hb)
  replace XCAdd := Lib.hid (XCAdd.out.via hb)
  replace XRAdd := Lib.hid (XRAdd.out.via hb)
  replace XCSub := Lib.hid (XCSub.out.via hb)
  replace XRSub := Lib.hid (XRSub.out.via hb)
  replace XCMul := Lib.hid (XCMul.out.via hb)
  replace XRMul := Lib.hid (XRMul.out.via hb)
  replace XCDiv := Lib.hid (XCDiv.out.via hb)
  replace XRDiv := Lib.hid (XRDiv.out.via hb)
  replace BX := Lib.hid (sbtr BX.out hb)
  clear hb
  have ⟨x0_0, x0_1, x0_2, x0_3, x0_4⟩ := XCAdd.out
  have ⟨x1_0, x1_1, x1_2, x1_3, x1_4⟩ := XRAdd.out
  have ⟨x2_0, x2_1, x2_2, x2_3, x2_4⟩ := XCSub.out
  have ⟨x3_0, x3_1, x3_2, x3_3, x3_4⟩ := XRSub.out
  have ⟨x4_0, x4_1, x4_2, x4_3, x4_4⟩ := XCMul.out
  have ⟨x5_0, x5_1, x5_2, x5_3, x5_4⟩ := XRMul.out
  have ⟨x6_0, x6_1, x6_2, x6_3, x6_4⟩ := XCDiv.out
  have ⟨x7_0, x7_1, x7_2, x7_3, x7_4⟩ := XRDiv.out
  go_wp2
  go_ret
  exact ⟨rfl, BX.out⟩
end Go.Proofs.Ytchhndlpngidcaa

namespace Go.Proofs.Ytchhndlpngidcaa
open Go.ChangeShapes Go.WideShapes Go.ChangeAt Go.RowKit

theorem own : ownKnob Try.prog.godebug = none := by kernel_rfl

set_option maxRecDepth 100000 in
theorem reckons_lifted (os : Os) (started : os.Started) (H : Type) (enc : TypeId × Value → H) :
    ReturnsInHanded {} Try.checked os 3 .any (Rows.spanReckonsSpec.pre6 enc Try.prog Try.f3 Rows.spanReckonsRow.domain false) (Rows.spanReckonsSpec.post enc Try.prog Try.f3 false true false false) := by
  refine returnsInHanded_of_change (C := Try.checked) own started (by kernel_rfl) Try.func3
    (ChangeSpec.witness6 (enc := enc) (C := Try.checked) false ⟨#[], #[.agg #[.int .i64 0, .int .i64 0], .agg #[.int .i64 0, .int .i64 0]], []⟩ 8 (by kernel_rfl) (by kernel_rfl) (by kernel_rfl) (by kernel_rfl)) ?_
  intro W base args ds gs before hval0 hW hcnd _
  have hval : ∀ (j : Nat) t v, Try.f3.params[j]? = some t → args[j]? = some v → Value.okWide Try.prog W .any base t v := hval0
  have hW' := hW
  obtain ⟨p, q, hA0, hV, rfl, hfz, hnd⟩ := hW
  have hA : DataW.TrodAll enc Try.prog W 0 (fun _ => true) true Try.f3.params.toList args.toList ds p := hA0
  rw [Try.params3] at hA hval
  obtain ⟨v0, v1, d0, d1, p0, p1, rfl, rfl, rfl, h0, h1⟩ := trodAll_two hA
  obtain ⟨rfl, rfl⟩ := trodVars_none hV
  clear hA0 hval0
  simp only [List.append_nil] at hW'
  have hlt : ∀ x ∈ p0 ++ p1, x.block < W.heap.size := fun x hx => by
    refine hW'.lt x ?_
    simpa using hx
  have hlt0 : ∀ x ∈ p0, x.block < W.heap.size := fun x hx => hlt x (List.mem_append_left _ hx)
  have hlt1 : ∀ x ∈ p1, x.block < W.heap.size := fun x hx => hlt x (List.mem_append_right _ hx)
  obtain ⟨al, ah, rfl, _, _, _, _⟩ := open_iv (hval 0 23 v0 rfl rfl) h0
  obtain ⟨bl, bh, rfl, _, _, _, _⟩ := open_iv (hval 1 23 v1 rfl rfl) h1
  refine (reckons_any W al ah bl bh).mono fun e W' ⟨he, hb⟩ => ?_
  subst he
  exact ⟨_, rfl, _, _, _, [], p0 ++ p1, [], hW', trodAll_mk1 (shut_bool Try.underlying4 _),
    trodAll_mk2 (Below.trod laidOutS (by kernel_rfl) (of_decide_eq_true (by kernel_rfl)) h0 hb hlt0) (Below.trod laidOutS (by kernel_rfl) (of_decide_eq_true (by kernel_rfl)) h1 hb hlt1), rfl, hb.frame _, fun h => by cases h⟩

theorem reckons_holds : Rows.SpanReckonsSaid :=
  OpenClaim.holds_of_wide 3 Try.f3 rfl rfl rfl rfl rfl rfl rfl ⟨rfl, rfl, rfl, rfl, rfl⟩ rfl rfl rfl rfl rfl (by kernel_rfl) Try.func3 (by kernel_rfl)
    (of_decide_eq_true (by kernel_rfl)) (by unfold Func.isWrapper; first | (rw [if_pos (by decide +kernel)]; kernel_rfl) | (rw [if_neg (by decide +kernel)]; exact ⟨rfl, rfl⟩))
    (fun os started H enc _ => reckons_lifted os started H enc)

end Go.Proofs.Ytchhndlpngidcaa

