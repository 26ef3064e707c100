/- Lemmas, part 7. -/
import Derived.Deep.QuietTactic
import Derived.BigQuiet
import Derived.Deep.RegionHeld3
import Derived.RegionTactic
import Derived.ChangeAlike
import Derived.BigRegion
import Derived.Deep.RegionWith
import Derived.Deep.DeepCutAuto
import Derived.Deep.CutBlock
import Derived.Test.YtegnaknoaflppaaGreatDoornames6
/- Products of two words: size, multiply, Times, around, over on both sides. -/
namespace Go.Proofs.YtegnaknoaflppaaGreatDoor
open Go.RowKit

abbrev pv (neg : Bool) (N : Nat) : Value := .agg #[.bool neg, .int .u64 ((N / 18446744073709551616 : Nat) : Int), .int .u64 ((N % 18446744073709551616 : Nat) : Int)]
/-- Block g holds three cells, and may be written. -/
structure C3 (w : World) (g : Nat) (x0 x1 x2 : Value) : Prop where
  c0 : w.cell? ⟨g, 0, none⟩ = some x0
  c1 : w.cell? ⟨g, 1, none⟩ = some x1
  c2 : w.cell? ⟨g, 2, none⟩ = some x2
  f0 : w.frozen? ⟨g, 0, none⟩ = false
  f1 : w.frozen? ⟨g, 1, none⟩ = false
  f2 : w.frozen? ⟨g, 2, none⟩ = false
  lt : g < w.heap.size
theorem C3.new (w : World) (k : Nat) (hk : w.heap.size = k) (x0 x1 x2 : Value) (t : TypeId) : C3 (w.alloc (.cells #[x0, x1, x2] t)) k x0 x1 x2 := by
  subst hk
  refine ⟨?_, ?_, ?_, ?_, ?_, ?_, by simp⟩ <;> go_simp
theorem C3.via {w w' : World} {g : Nat} {x0 x1 x2 : Value} (p : C3 w g x0 x1 x2) (hb : Below w.heap.size w w') : C3 w' g x0 x1 x2 :=
  ⟨(hb.cell (p := ⟨g, 0, none⟩) p.lt).trans p.c0, (hb.cell (p := ⟨g, 1, none⟩) p.lt).trans p.c1, (hb.cell (p := ⟨g, 2, none⟩) p.lt).trans p.c2, (hb.frozen (p := ⟨g, 0, none⟩) p.lt).trans p.f0, (hb.frozen (p := ⟨g, 1, none⟩) p.lt).trans p.f1, (hb.frozen (p := ⟨g, 2, none⟩) p.lt).trans p.f2, Nat.lt_of_lt_of_le p.lt hb.size⟩
theorem C3.alloc {w : World} {g : Nat} {x0 x1 x2 : Value} (p : C3 w g x0 x1 x2) (o : Obj) : C3 (w.alloc o) g x0 x1 x2 := p.via ((Below.refl _ _).alloc (Nat.le_refl _) o)
theorem C3.drewN {w : World} {g : Nat} {x0 x1 x2 : Value} (p : C3 w g x0 x1 x2) (k : Nat) : C3 (w.drewN k) g x0 x1 x2 := ⟨p.c0, p.c1, p.c2, p.f0, p.f1, p.f2, p.lt⟩
theorem res_p3 {fn : Func} {r : Nat} (hr : fn.results = #[.cell r 55]) {tmps : Array Value} {w : World} {g : Nat} {x y z : Value} (ht : tmps.getD r undef = .pointer (some ⟨g, 0, none⟩))
    (p : C3 w g x y z) : (results fn tmps).run Tryz.prog w = .ok (.agg #[x, y, z]) w := by
  have h0 := p.c0; have h1 := p.c1; have h2 := p.c2
  rw [Array.getD_eq_getD_getElem?] at ht
  simp [results, hr, go_sem, ht, h0, h1, h2]
set_option maxRecDepth 100000 in
theorem ssize_any (w : World) (x : Int) (h1 : -9223372036854775808 ≤ x) (h2 : x ≤ 9223372036854775807) : Calls Tryz.prog 53 #[.int .i64 x] w fun e w' => e = .returned (.int .u64 (x.natAbs : Int)) ∧ w = w' := by
  by_cases h : x < 0
  · have e1 : IntKind.u64.wrap x = x + 18446744073709551616 := by rw [IntKind.wrap_u64]; omega
    have e2 : IntKind.u64.wrap (-(x + 18446744073709551616)) = -x := by rw [IntKind.wrap_u64]; omega
    go_enter Tryz.func53, Tryz.ntmps53
    go_wp2
    go_ret
    exact ⟨ret_int (by omega), rfl⟩
  · go_enter Tryz.func53, Tryz.ntmps53
    go_wp2
    go_ret
    exact ⟨ret_int (by omega), rfl⟩
theorem natAbs_lt {x : Int} (h1 : -9223372036854775808 ≤ x) (h2 : x ≤ 9223372036854775807) : x.natAbs < 18446744073709551616 := by omega
/-- A call returns a product with a sign; what was there is kept. -/
def RP (w : World) (neg : Bool) (N : Nat) (e : Ending) (w' : World) : Prop := e = .returned (pv neg N) ∧ Below w.heap.size w w'
/-- The sign of a product. -/
def sgB (x y : Int) : Bool := decide (x < 0) != decide (y < 0)
set_option maxRecDepth 100000 in
set_option maxHeartbeats 1000000 in
theorem smul_any (w : World) (x y : Int) (hx1 : -9223372036854775808 ≤ x) (hx2 : x ≤ 9223372036854775807) (hy1 : -9223372036854775808 ≤ y) (hy2 : y ≤ 9223372036854775807) :
    Calls Tryz.prog 33 #[.int .i64 x, .int .i64 y] w (RP w (sgB x y) (x.natAbs * y.natAbs)) := by
  have HX := Lib.hid (fun w => ssize_any w x hx1 hx2)
  have HY := Lib.hid (fun w => ssize_any w y hy1 hy2)
  have HM := Lib.hid (fun w => smul64_any x.natAbs y.natAbs (natAbs_lt hx1 hx2) (natAbs_lt hy1 hy2) w)
  generalize x.natAbs = a at *
  generalize y.natAbs = b at *
  clear hx1 hx2 hy1 hy2
  obtain ⟨H, hH⟩ : ∃ H, H = a * b / 18446744073709551616 := ⟨_, rfl⟩
  obtain ⟨L, hL⟩ : ∃ L, L = a * b % 18446744073709551616 := ⟨_, rfl⟩
  rw [← hH, ← hL] at HM
  have HE : Hid (pv (sgB x y) (a * b) = .agg #[.bool (sgB x y), .int .u64 (H : Int), .int .u64 (L : Int)]) := by show _ = _; unfold pv; rw [← hH, ← hL]
  
  clear hH hL
  go_enter Tryz.func33, Tryz.ntmps33
  go_wp2_with fail
  refine (HX.out _).mono ?_
  rintro e w1 ⟨rfl, rfl⟩
  go_wp2_with fail
  refine (HY.out _).mono ?_
  rintro e w1 ⟨rfl, rfl⟩
  go_wp2_with fail
  refine (HM.out _).mono ?_
  rintro e w1 ⟨rfl, rfl⟩
  clear HX HY HM
  go_wp2
  refine bodyPost_ret (v := pv (sgB x y) (a * b)) ?_ rfl ⟨rfl, by go_grown⟩
  rw [HE.out]
  refine res_p3 Tryz.results33 rfl ?_
  unfold sgB
  exact C3.new _ _ (by simp) _ _ _ _
theorem neg_cases (x : Int) : x < 0 ∨ decide (x < 0) = false ∧ 0 ≤ x := by
  by_cases h : x < 0
  · exact .inl h
  · exact .inr ⟨decide_eq_false h, by omega⟩
theorem pos_cases (L : Nat) : ((0 : Int) < (L : Int) ∧ 0 < L) ∨ (decide ((0 : Int) < (L : Int)) = false ∧ decide (0 < L) = false ∧ (L : Int) ≤ 0) := by
  by_cases h : 0 < L
  · exact .inl ⟨by omega, h⟩
  · exact .inr ⟨decide_eq_false (by omega), decide_eq_false h, by omega⟩
/-- The sign of the reference's product: 0 is not negative. -/
def sgT (x y : Int) : Bool := sgB x y && decide (0 < x.natAbs * y.natAbs)
theorem sgT_iff (x y : Int) : sgT x y = true ↔ (x < 0 ∧ ¬ y < 0 ∨ ¬ x < 0 ∧ y < 0) ∧ 0 < x.natAbs * y.natAbs := by
  unfold sgT sgB
  by_cases hx : x < 0 <;> by_cases hy : y < 0 <;> simp [hx, hy]
end Go.Proofs.YtegnaknoaflppaaGreatDoor

/- Intervals: around, over on both sides. -/
namespace Go.Proofs.YtegnaknoaflppaaGreatDoor
open Go.RowKit

set_option maxRecDepth 100000 in
set_option maxHeartbeats 1000000 in
theorem around_any (w : World) (neg more : Bool) (q : Nat) (hq9 : q < 18446744073709551616) :
    Calls Tryz.prog 54 #[.bool neg, .int .u64 (q : Int), .bool more] w (RV w (ovLo neg q more) (ovHi neg q more)) := by
  obtain ⟨m, hm⟩ : ∃ m : Int, m = arLo q := ⟨_, rfl⟩
  have hm0 : 0 ≤ m := by rw [hm]; unfold arLo; omega
  have hm1 : m ≤ 2305843009213693953 := by rw [hm]; unfold arLo; omega
  have HL : Hid (ovLo neg q more = if neg then -(m + (if more then 1 else 0)) else m) := by show _ = _; unfold ovLo arHi; rw [hm]
  have HH : Hid (ovHi neg q more = if neg then -m else m + (if more then 1 else 0)) := by show _ = _; unfold ovHi arHi; rw [hm]
  generalize ovLo neg q more = lo at *
  generalize ovHi neg q more = hi at *
  rcases Nat.lt_or_ge q 2305843009213693953 with hq | hq
  · have hmq : m = (q : Int) := by rw [hm]; unfold arLo; omega
    subst hmq
    have hqi : (q : Int) < 2305843009213693953 := by omega
    clear hq hq9 hm
    cases neg <;> cases more
    · go_enter Tryz.func54, Tryz.ntmps54
      go_wp2
      have hl := HL.out
      have hh := HH.out
      exact post_iv1 Tryz.results54 rfl rfl ((Pr.new w _ rfl _ _ _).alloc _) ⟨ret_iv (by simp at hl; omega) (by simp at hh; omega), by go_grown⟩
    · go_enter Tryz.func54, Tryz.ntmps54
      go_wp2
      have hl := HL.out
      have hh := HH.out
      exact post_iv1 Tryz.results54 rfl rfl ((Pr.new w _ rfl _ _ _).alloc _) ⟨ret_iv (by simp at hl; omega) (by simp at hh; omega), by go_grown⟩
    · go_enter Tryz.func54, Tryz.ntmps54
      go_wp2_with fail
      refine (negative_any _ _ _ (by omega) (by omega) (by omega) (by omega)).mono ?_
      rintro e w1 ⟨rfl, hb⟩
      have PR := ((Pr.new w w.heap.size rfl (.int .i64 0) (.int .i64 0) 23).alloc _).via hb
      have B1 := Lib.hid (sbtr (sbal (sbal (Below.refl _ _) _) _) hb)
      have ⟨r0, r1, r2, r3, rl⟩ := PR
      clear hb
      go_wp2
      have hl := HL.out
      have hh := HH.out
      exact post_iv1 Tryz.results54 rfl rfl (PR.set _ _) ⟨ret_iv (by simp at hl; omega) (by simp at hh; omega), below_set2 B1.out (by omega) _ _⟩
    · go_enter Tryz.func54, Tryz.ntmps54
      go_wp2_with fail
      refine (negative_any _ _ _ (by omega) (by omega) (by omega) (by omega)).mono ?_
      rintro e w1 ⟨rfl, hb⟩
      have PR := ((Pr.new w w.heap.size rfl (.int .i64 0) (.int .i64 0) 23).alloc _).via hb
      have B1 := Lib.hid (sbtr (sbal (sbal (Below.refl _ _) _) _) hb)
      have ⟨r0, r1, r2, r3, rl⟩ := PR
      clear hb
      go_wp2
      have hl := HL.out
      have hh := HH.out
      exact post_iv1 Tryz.results54 rfl rfl (PR.set _ _) ⟨ret_iv (by simp at hl; omega) (by simp at hh; omega), below_set2 B1.out (by omega) _ _⟩
  · have hmq : m = 2305843009213693953 := by rw [hm]; unfold arLo; omega
    subst hmq
    have hqi : (2305843009213693953 : Int) ≤ (q : Int) := by omega
    clear hq hm
    cases neg <;> cases more
    · go_enter Tryz.func54, Tryz.ntmps54
      go_wp2
      have hl := HL.out
      have hh := HH.out
      exact post_iv1 Tryz.results54 rfl rfl ((Pr.new w _ rfl _ _ _).alloc _) ⟨ret_iv (by simp at hl; omega) (by simp at hh; omega), by go_grown⟩
    · go_enter Tryz.func54, Tryz.ntmps54
      go_wp2
      have hl := HL.out
      have hh := HH.out
      exact post_iv1 Tryz.results54 rfl rfl ((Pr.new w _ rfl _ _ _).alloc _) ⟨ret_iv (by simp at hl; omega) (by simp at hh; omega), by go_grown⟩
    · go_enter Tryz.func54, Tryz.ntmps54
      go_wp2_with fail
      refine (negative_any _ _ _ (by omega) (by omega) (by omega) (by omega)).mono ?_
      rintro e w1 ⟨rfl, hb⟩
      have PR := ((Pr.new w w.heap.size rfl (.int .i64 0) (.int .i64 0) 23).alloc _).via hb
      have B1 := Lib.hid (sbtr (sbal (sbal (Below.refl _ _) _) _) hb)
      have ⟨r0, r1, r2, r3, rl⟩ := PR
      clear hb
      go_wp2
      have hl := HL.out
      have hh := HH.out
      exact post_iv1 Tryz.results54 rfl rfl (PR.set _ _) ⟨ret_iv (by simp at hl; omega) (by simp at hh; omega), below_set2 B1.out (by omega) _ _⟩
    · go_enter Tryz.func54, Tryz.ntmps54
      go_wp2_with fail
      refine (negative_any _ _ _ (by omega) (by omega) (by omega) (by omega)).mono ?_
      rintro e w1 ⟨rfl, hb⟩
      have PR := ((Pr.new w w.heap.size rfl (.int .i64 0) (.int .i64 0) 23).alloc _).via hb
      have B1 := Lib.hid (sbtr (sbal (sbal (Below.refl _ _) _) _) hb)
      have ⟨r0, r1, r2, r3, rl⟩ := PR
      clear hb
      go_wp2
      have hl := HL.out
      have hh := HH.out
      exact post_iv1 Tryz.results54 rfl rfl (PR.set _ _) ⟨ret_iv (by simp at hl; omega) (by simp at hh; omega), below_set2 B1.out (by omega) _ _⟩
set_option maxRecDepth 100000 in
set_option maxHeartbeats 2000000 in
theorem over_great (w : World) (neg : Bool) (H L : Nat) (d : Int) (hd1 : -9223372036854775808 ≤ d) (hd2 : d ≤ 9223372036854775807) (hge : d.natAbs ≤ H) :
    Calls Tryz.prog 34 #[.agg #[.bool neg, .int .u64 (H : Int), .int .u64 (L : Int)], .int .i64 d] w (RV w (ovLo (neg != decide (d < 0)) 2305843009213693953 false) (ovHi (neg != decide (d < 0)) 2305843009213693953 false)) := by
  have HS := Lib.hid (fun w => ssize_any w d hd1 hd2)
  have HB : Hid (Below w.heap.size w ((w.alloc (.cells #[.bool neg, .int .u64 (H : Int), .int .u64 (L : Int)] 55)).alloc (ivB 0 0))) := sbal (sbal (Below.refl _ _) _) _
  have PR := Lib.hid (Pr.new (w.alloc (.cells #[.bool neg, .int .u64 (H : Int), .int .u64 (L : Int)] 55)) (w.heap.size + 1) (by simp) (.int .i64 0) (.int .i64 0) 23)
  have P3 := Lib.hid ((C3.new w w.heap.size rfl (.bool neg) (.int .u64 (H : Int)) (.int .u64 (L : Int)) 55).alloc (ivB 0 0))
  obtain ⟨b, hb⟩ : ∃ b, decide (d < 0) = b := ⟨_, rfl⟩
  rw [hb]
  obtain ⟨ng, hng⟩ : ∃ ng, (neg != b) = ng := ⟨_, rfl⟩
  rw [hng]
  have hng2 : (!neg == b) = ng := by rw [← hng]; cases neg <;> cases b <;> rfl
  have HA := Lib.hid (fun W => around_any W ng false 2305843009213693953 (by omega))
  have hgi : (d.natAbs : Int) ≤ (H : Int) := by omega
  generalize d.natAbs = D at *
  clear hd1 hd2
  go_enter Tryz.func34, Tryz.ntmps34
  go_wp2_with fail
  generalize ((w.alloc (.cells #[.bool neg, .int .u64 (H : Int), .int .u64 (L : Int)] 55)).alloc (ivB 0 0)) = W0 at *
  have ⟨p0, p1, p2, _, _, _, _⟩ := P3.out
  go_quiet ((go_at_call 53; exact quiet_eq (HS.out _)))
  go_wp2_with fail
  refine (HA.out _).mono ?_
  rintro e w1 ⟨rfl, hb1⟩
  have P4 := Lib.hid ((PR.out.drewN _).via hb1)
  have B4 := Lib.hid (sbtr (bdrewN HB.out _) hb1)
  clear hb1 PR HB HA HS P3 p0 p1 p2
  have ⟨r0, r1, r2, r3, rl⟩ := P4.out
  go_wp2
  exact post_iv1 Tryz.results34 rfl rfl (P4.out.set _ _) ⟨rfl, below_set2 B4.out (by omega) _ _⟩
set_option maxRecDepth 100000 in
set_option maxHeartbeats 2000000 in
theorem over_fit (w : World) (neg : Bool) (H L : Nat) (d : Int) (hd1 : -9223372036854775808 ≤ d) (hd2 : d ≤ 9223372036854775807) (hlt : H < d.natAbs) (hL : L < 18446744073709551616) :
    Calls Tryz.prog 34 #[.agg #[.bool neg, .int .u64 (H : Int), .int .u64 (L : Int)], .int .i64 d] w (RV w (ovLo (neg != decide (d < 0)) ((H * 18446744073709551616 + L) / d.natAbs) (decide (0 < (H * 18446744073709551616 + L) % d.natAbs))) (ovHi (neg != decide (d < 0)) ((H * 18446744073709551616 + L) / d.natAbs) (decide (0 < (H * 18446744073709551616 + L) % d.natAbs)))) := by
  have HS := Lib.hid (fun w => ssize_any w d hd1 hd2)
  have HB : Hid (Below w.heap.size w ((w.alloc (.cells #[.bool neg, .int .u64 (H : Int), .int .u64 (L : Int)] 55)).alloc (ivB 0 0))) := sbal (sbal (Below.refl _ _) _) _
  have PR := Lib.hid (Pr.new (w.alloc (.cells #[.bool neg, .int .u64 (H : Int), .int .u64 (L : Int)] 55)) (w.heap.size + 1) (by simp) (.int .i64 0) (.int .i64 0) 23)
  have P3 := Lib.hid ((C3.new w w.heap.size rfl (.bool neg) (.int .u64 (H : Int)) (.int .u64 (L : Int)) 55).alloc (ivB 0 0))
  obtain ⟨b, hb⟩ : ∃ b, decide (d < 0) = b := ⟨_, rfl⟩
  rw [hb]
  obtain ⟨ng, hng⟩ : ∃ ng, (neg != b) = ng := ⟨_, rfl⟩
  rw [hng]
  have hng2 : (!neg == b) = ng := by rw [← hng]; cases neg <;> cases b <;> rfl
  have HD := Lib.hid (fun W => div64_any W H L d.natAbs hlt (natAbs_lt hd1 hd2) hL)
  have hq9 : (H * 18446744073709551616 + L) / d.natAbs < 18446744073709551616 := by
    rw [Nat.div_lt_iff_lt_mul (by omega), Nat.mul_comm]
    have := Nat.mul_le_mul_right 18446744073709551616 (show H + 1 ≤ d.natAbs from hlt)
    omega
  have hdf : decide (d.natAbs ≤ H) = false := decide_eq_false (by omega)
  have hdf2 : decide ((d.natAbs : Int) ≤ (H : Int)) = false := decide_eq_false (by omega)
  generalize (H * 18446744073709551616 + L) / d.natAbs = q at *
  generalize (H * 18446744073709551616 + L) % d.natAbs = r at *
  generalize d.natAbs = D at *
  obtain ⟨more, hmo⟩ : ∃ more, decide (0 < r) = more := ⟨_, rfl⟩
  have hmo2 : decide ((0 : Int) < (r : Int)) = more := by rw [← hmo]; simp
  rw [hmo]
  have HA := Lib.hid (fun W => around_any W ng more q hq9)
  clear hd1 hd2 hlt hL hq9
  go_enter Tryz.func34, Tryz.ntmps34
  go_wp2_with fail
  generalize ((w.alloc (.cells #[.bool neg, .int .u64 (H : Int), .int .u64 (L : Int)] 55)).alloc (ivB 0 0)) = W0 at *
  have ⟨p0, p1, p2, _, _, _, _⟩ := P3.out
  go_quiet ((go_at_call 53; exact quiet_eq (HS.out _)))
  have Q3 := Lib.hid (P3.out.drewN nq)
  have QR := Lib.hid (PR.out.drewN nq)
  have QB := Lib.hid (bdrewN HB.out nq)
  clear P3 PR HB p0 p1 p2
  generalize W0.drewN nq = W1 at *
  go_wp2_with fail
  have ⟨p0, p1, p2, _, _, _, _⟩ := Q3.out
  go_quiet ((first | (go_at_call 53; exact quiet_eq (HS.out _)) | (go_at_call 55; exact Calls.quiet_of (HD.out _))))
  go_wp2_with fail
  refine (HA.out _).mono ?_
  rintro e w1 ⟨rfl, hb1⟩
  have P4 := Lib.hid ((QR.out.drewN _).via hb1)
  have B4 := Lib.hid (sbtr (bdrewN QB.out _) hb1)
  clear hb1 QR QB HA HS HD Q3 p0 p1 p2
  have ⟨r0, r1, r2, r3, rl⟩ := P4.out
  go_wp2
  exact post_iv1 Tryz.results34 rfl rfl (P4.out.set _ _) ⟨rfl, below_set2 B4.out (by omega) _ _⟩
end Go.Proofs.YtegnaknoaflppaaGreatDoor

/- Intervals: over of the reference; over, the closures of times and quotient, as clamped quotients. -/
namespace Go.Proofs.YtegnaknoaflppaaGreatDoor
open Go.RowKit

theorem roK_big {N d : Nat} {b : Bool} (h : 4611686018427387904 ≤ N / d) : roK N d b = 4611686018427387904 := by unfold roK; rw [if_pos h]
theorem roK_more {N d : Nat} {b : Bool} (h : N / d < 4611686018427387904) (hb : b = true) (hr : 0 < N % d) : roK N d b = N / d + 1 := by
  unfold roK; rw [if_neg (by omega), hb, decide_eq_true hr]; rfl
theorem roK_same {N d : Nat} {b : Bool} (h : N / d < 4611686018427387904) (hb : b = false ∨ N % d = 0) : roK N d b = N / d := by
  unfold roK; rw [if_neg (by omega)]
  rcases hb with hb | hb
  · rw [hb]; rfl
  · rw [hb, decide_eq_false (by omega), Bool.and_false]; rfl
theorem rov_t {up : Bool} {N d : Nat} : rov true up N d = -(roK N d (up != true) : Int) := by unfold rov sgn; rfl
theorem rov_f {up : Bool} {N d : Nat} : rov false up N d = (roK N d (up != false) : Int) := by unfold rov sgn; rfl
theorem split128 (N : Nat) (hN : N < 340282366920938463463374607431768211456) : N / 18446744073709551616 < 18446744073709551616 ∧ N / 18446744073709551616 * 18446744073709551616 + N % 18446744073709551616 = N := by omega
theorem over_ex (neg : Bool) (N : Nat) (d : Int) (hd0 : d ≠ 0) (hd1 : -9223372036854775808 ≤ d) (hd2 : d ≤ 9223372036854775807) :
    ∃ lo hi, lo ≤ hi ∧ cl lo = cl (sgn (neg != decide (d < 0)) N / (d.natAbs : Int)) ∧ cl hi = cl (cdiv (sgn (neg != decide (d < 0)) N) (d.natAbs : Int)) ∧ ∀ w, Calls Tryz.prog 34 #[pv neg N, .int .i64 d] w (RV w lo hi) := by
  have hD : 0 < d.natAbs := by omega
  have hs : N / 18446744073709551616 * 18446744073709551616 + N % 18446744073709551616 = N := by omega
  rcases Nat.lt_or_ge (N / 18446744073709551616) d.natAbs with h | h
  · refine ⟨_, _, ov_le _ _ _, ?_, ?_, fun w => over_fit w neg (N / 18446744073709551616) (N % 18446744073709551616) d hd1 hd2 h (by omega)⟩
    · rw [hs]; exact ovLo_cl _ N d.natAbs hD _ (fun e => by simp at e; omega) (fun e => by simp at e; omega)
    · rw [hs]; exact ovHi_cl _ N d.natAbs hD _ (fun e => by simp at e; omega) (fun e => by simp at e; omega)
  · have hbig : 18446744073709551616 ≤ N / d.natAbs := by
      rw [Nat.le_div_iff_mul_le hD]
      have := Nat.mul_le_mul_right 18446744073709551616 h
      rw [Nat.mul_comm]
      omega
    have e1 : ∀ g, ovLo g 2305843009213693953 false = ovLo g (N / d.natAbs) false := fun g => by
      have : arLo 2305843009213693953 = arLo (N / d.natAbs) := by unfold arLo; omega
      unfold ovLo arHi; rw [this]
    have e2 : ∀ g, ovHi g 2305843009213693953 false = ovHi g (N / d.natAbs) false := fun g => by
      have : arLo 2305843009213693953 = arLo (N / d.natAbs) := by unfold arLo; omega
      unfold ovHi arHi; rw [this]
    refine ⟨_, _, ov_le _ _ _, ?_, ?_, fun w => over_great w neg (N / 18446744073709551616) (N % 18446744073709551616) d hd1 hd2 h⟩
    · rw [e1]; exact ovLo_cl _ N d.natAbs hD _ (fun e => by cases e) (fun _ => .inr (by omega))
    · rw [e2]; exact ovHi_cl _ N d.natAbs hD _ (fun e => by cases e) (fun _ => .inr (by omega))
/-- The sign of a product and its absolute value make the product. -/
theorem sgn_mul (x y : Int) : sgn (sgB x y) (x.natAbs * y.natAbs) = x * y := by
  unfold sgn sgB
  rcases Int.lt_or_le x 0 with hx | hx <;> rcases Int.lt_or_le y 0 with hy | hy
  · have e1 : (x.natAbs : Int) = -x := by omega
    have e2 : (y.natAbs : Int) = -y := by omega
    rw [decide_eq_true hx, decide_eq_true hy, Int.natCast_mul, e1, e2]
    simp [Int.neg_mul, Int.mul_neg]
  · have e1 : (x.natAbs : Int) = -x := by omega
    have e2 : (y.natAbs : Int) = y := by omega
    rw [decide_eq_true hx, decide_eq_false (by omega), Int.natCast_mul, e1, e2]
    simp [Int.neg_mul]
  · have e1 : (x.natAbs : Int) = x := by omega
    have e2 : (y.natAbs : Int) = -y := by omega
    rw [decide_eq_false (by omega), decide_eq_true hy, Int.natCast_mul, e1, e2]
    simp [Int.mul_neg]
  · have e1 : (x.natAbs : Int) = x := by omega
    have e2 : (y.natAbs : Int) = y := by omega
    rw [decide_eq_false (by omega), decide_eq_false (by omega), Int.natCast_mul, e1, e2]
    simp
theorem sgn_zero (b : Bool) : sgn b 0 = 0 := by cases b <;> rfl
theorem sgnT_mul (x y : Int) : sgn (sgT x y) (x.natAbs * y.natAbs) = x * y := by
  by_cases h : 0 < x.natAbs * y.natAbs
  · have e : sgT x y = sgB x y := by unfold sgT; rw [decide_eq_true h, Bool.and_true]
    rw [e]; exact sgn_mul x y
  · have e : x.natAbs * y.natAbs = 0 := by omega
    have h2 := sgn_mul x y
    rw [e, sgn_zero] at h2
    rw [e, sgn_zero, h2]
end Go.Proofs.YtegnaknoaflppaaGreatDoor

/- Intervals: the closures of times and quotient; square. -/
namespace Go.Proofs.YtegnaknoaflppaaGreatDoor
open Go.RowKit

def qn (x y : Int) : Int := if y < 0 then -(x * 1099511627776) else x * 1099511627776
theorem sgn_not (b : Bool) (N : Nat) : sgn (!b) N = -sgn b N := by cases b <;> simp [sgn]
set_option maxRecDepth 100000 in
theorem tclos_ex (x y : Int) (hx1 : -2305843009213693952 ≤ x) (hx2 : x ≤ 2305843009213693952) (hy1 : -2305843009213693952 ≤ y) (hy2 : y ≤ 2305843009213693952) :
    ∃ lo hi, lo ≤ hi ∧ cl lo = cl (x * y / 1099511627776) ∧ cl hi = cl (cdiv (x * y) 1099511627776) ∧ ∀ w, Calls Tryz.prog 50 #[.int .i64 x, .int .i64 y] w (RV w lo hi) := by
  obtain ⟨lo, hi, h1, h2, h3, h4⟩ := over_ex (sgB (x) (y)) ((x).natAbs * (y).natAbs) (1099511627776 : Int) (by omega) (by omega) (by omega)
  have e : (sgB x y != decide ((1099511627776 : Int) < 0)) = sgB x y := by cases sgB x y <;> rfl
  rw [e, sgn_mul] at h2 h3
  refine ⟨lo, hi, h1, h2, h3, fun w => ?_⟩
  have H4 := Lib.hid h4
  have HM := Lib.hid (fun w => smul_any w (x) (y) (by omega) (by omega) (by omega) (by omega))
  have HB : Hid (Below w.heap.size w (w.alloc (ivB 0 0))) := sbal (Below.refl _ _) _
  have PR := Lib.hid (Pr.new w w.heap.size rfl (.int .i64 0) (.int .i64 0) 23)
  clear h1 h2 h3 h4
  go_enter Tryz.func50, Tryz.ntmps50
  go_wp2_with fail
  generalize w.alloc (ivB 0 0) = W0 at *
  refine (HM.out _).mono ?_
  rintro e w1 ⟨rfl, hb⟩
  have P1 := Lib.hid (PR.out.via hb)
  have B1 := Lib.hid (sbtr HB.out hb)
  clear hb PR HB HM
  go_wp2_with fail
  refine (H4.out _).mono ?_
  rintro e w2 ⟨rfl, hb⟩
  have P2 := Lib.hid (P1.out.via hb)
  have B2 := Lib.hid (sbtr B1.out hb)
  clear hb P1 B1 H4
  have ⟨r0, r1, r2, r3, rl⟩ := P2.out
  go_wp2
  exact post_iv1 Tryz.results50 rfl rfl (P2.out.set _ _) ⟨rfl, below_set2 B2.out (by omega) _ _⟩
set_option maxRecDepth 100000 in
theorem qclos_ex (x y : Int) (hx1 : -2305843009213693952 ≤ x) (hx2 : x ≤ 2305843009213693952) (hy1 : -2305843009213693952 ≤ y) (hy2 : y ≤ 2305843009213693952) (hy0 : y ≠ 0) :
    ∃ lo hi, lo ≤ hi ∧ cl lo = cl (qn x y / (y.natAbs : Int)) ∧ cl hi = cl (cdiv (qn x y) (y.natAbs : Int)) ∧ ∀ w, Calls Tryz.prog 56 #[.int .i64 x, .int .i64 y] w (RV w lo hi) := by
  obtain ⟨lo, hi, h1, h2, h3, h4⟩ := over_ex (sgB (x) (1099511627776 : Int)) ((x).natAbs * (1099511627776 : Int).natAbs) (y) (by omega) (by omega) (by omega)
  have e : sgn (sgB x 1099511627776 != decide (y < 0)) (x.natAbs * (1099511627776 : Int).natAbs) = qn x y := by
    have h := sgn_mul x 1099511627776
    unfold qn
    rcases neg_cases y with hy | ⟨hy, hy'⟩
    · rw [if_pos hy, decide_eq_true hy, show (sgB x 1099511627776 != true) = !sgB x 1099511627776 by cases sgB x 1099511627776 <;> rfl, sgn_not, h]
    · rw [if_neg (by omega), hy, show (sgB x 1099511627776 != false) = sgB x 1099511627776 by cases sgB x 1099511627776 <;> rfl, h]
  rw [e] at h2 h3
  refine ⟨lo, hi, h1, h2, h3, fun w => ?_⟩
  have H4 := Lib.hid h4
  have HM := Lib.hid (fun w => smul_any w (x) (1099511627776 : Int) (by omega) (by omega) (by omega) (by omega))
  have HB : Hid (Below w.heap.size w (w.alloc (ivB 0 0))) := sbal (Below.refl _ _) _
  have PR := Lib.hid (Pr.new w w.heap.size rfl (.int .i64 0) (.int .i64 0) 23)
  clear h1 h2 h3 h4
  go_enter Tryz.func56, Tryz.ntmps56
  go_wp2_with fail
  generalize w.alloc (ivB 0 0) = W0 at *
  refine (HM.out _).mono ?_
  rintro e w1 ⟨rfl, hb⟩
  have P1 := Lib.hid (PR.out.via hb)
  have B1 := Lib.hid (sbtr HB.out hb)
  clear hb PR HB HM
  go_wp2_with fail
  refine (H4.out _).mono ?_
  rintro e w2 ⟨rfl, hb⟩
  have P2 := Lib.hid (P1.out.via hb)
  have B2 := Lib.hid (sbtr B1.out hb)
  clear hb P1 B1 H4
  have ⟨r0, r1, r2, r3, rl⟩ := P2.out
  go_wp2
  exact post_iv1 Tryz.results56 rfl rfl (P2.out.set _ _) ⟨rfl, below_set2 B2.out (by omega) _ _⟩
set_option maxRecDepth 100000 in
theorem square_ex (x : Int) (hx1 : -2305843009213693952 ≤ x) (hx2 : x ≤ 2305843009213693952) :
    ∃ lo hi, lo ≤ hi ∧ cl lo = cl (x * x / 1099511627776) ∧ cl hi = cl (cdiv (x * x) 1099511627776) ∧ ∀ w, Calls Tryz.prog 46 #[.int .i64 x] w (RV w lo hi) := by
  obtain ⟨lo, hi, h1, h2, h3, h4⟩ := over_ex (sgB (x) (x)) ((x).natAbs * (x).natAbs) (1099511627776 : Int) (by omega) (by omega) (by omega)
  have e : (sgB x x != decide ((1099511627776 : Int) < 0)) = sgB x x := by cases sgB x x <;> rfl
  rw [e, sgn_mul] at h2 h3
  refine ⟨lo, hi, h1, h2, h3, fun w => ?_⟩
  have H4 := Lib.hid h4
  have HM := Lib.hid (fun w => smul_any w (x) (x) (by omega) (by omega) (by omega) (by omega))
  have HB : Hid (Below w.heap.size w (w.alloc (ivB 0 0))) := sbal (Below.refl _ _) _
  have PR := Lib.hid (Pr.new w w.heap.size rfl (.int .i64 0) (.int .i64 0) 23)
  clear h1 h2 h3 h4
  go_enter Tryz.func46, Tryz.ntmps46
  go_wp2_with fail
  generalize w.alloc (ivB 0 0) = W0 at *
  refine (HM.out _).mono ?_
  rintro e w1 ⟨rfl, hb⟩
  have P1 := Lib.hid (PR.out.via hb)
  have B1 := Lib.hid (sbtr HB.out hb)
  clear hb PR HB HM
  go_wp2_with fail
  refine (H4.out _).mono ?_
  rintro e w2 ⟨rfl, hb⟩
  have P2 := Lib.hid (P1.out.via hb)
  have B2 := Lib.hid (sbtr B1.out hb)
  clear hb P1 B1 H4
  have ⟨r0, r1, r2, r3, rl⟩ := P2.out
  go_wp2
  exact post_iv1 Tryz.results46 rfl rfl (P2.out.set _ _) ⟨rfl, below_set2 B2.out (by omega) _ _⟩
end Go.Proofs.YtegnaknoaflppaaGreatDoor

/- Intervals: corners: an operation at the four pairs of ends. -/
namespace Go.Proofs.YtegnaknoaflppaaGreatDoor
open Go.RowKit

/-- Block g has eight cells that may be written, and the first m of them are done. -/
structure Arr (w : World) (g m : Nat) (L : List Int) : Prop where
  any : ∀ j, j < 8 → (w.cell? ⟨g, j, none⟩).isSome = true ∧ w.frozen? ⟨g, j, none⟩ = false
  done : ∀ j, j < m → w.cell? ⟨g, j, none⟩ = some (.int .i64 (L[j]?.getD 0))
  lt : g < w.heap.size
theorem Arr.via {w w' : World} {g m : Nat} {L : List Int} (p : Arr w g m L) (hb : Below w.heap.size w w') : Arr w' g m L :=
  ⟨fun j hj => by
    have h1 := p.any j hj
    rw [hb.cell (p := ⟨g, j, none⟩) p.lt, hb.frozen (p := ⟨g, j, none⟩) p.lt]
    exact h1, fun j hj => (hb.cell (p := ⟨g, j, none⟩) p.lt).trans (p.done j hj), Nat.lt_of_lt_of_le p.lt hb.size⟩
theorem Arr.alloc {w : World} {g m : Nat} {L : List Int} (p : Arr w g m L) (o : Obj) : Arr (w.alloc o) g m L := p.via ((Below.refl _ _).alloc (Nat.le_refl _) o)
theorem Arr.new (w : World) (k : Nat) (hk : w.heap.size = k) (L : List Int) : Arr (w.alloc (.cells #[.int .i64 0, .int .i64 0, .int .i64 0, .int .i64 0, .int .i64 0, .int .i64 0, .int .i64 0, .int .i64 0] 23)) k 0 L := by
  subst hk
  refine ⟨fun j hj => ?_, fun j hj => absurd hj (by omega), by simp⟩
  rcases (show j = 0 ∨ j = 1 ∨ j = 2 ∨ j = 3 ∨ j = 4 ∨ j = 5 ∨ j = 6 ∨ j = 7 by omega) with rfl | rfl | rfl | rfl | rfl | rfl | rfl | rfl <;> constructor <;> go_simp
theorem Arr.put {w : World} {g m : Nat} {L : List Int} (p : Arr w g m L) (hm : m + 1 < 8) (x y : Int) (hx : L[m]?.getD 0 = x) (hy : L[m + 1]?.getD 0 = y) :
    Arr ((w.setCell ⟨g, m, none⟩ (.int .i64 x)).setCell ⟨g, m + 1, none⟩ (.int .i64 y)) g (m + 2) L := by
  have ne : ∀ i j : Nat, i ≠ j → (⟨g, i, none⟩ : Addr) ≠ ⟨g, j, none⟩ := fun i j h e => h (congrArg Addr.off e)
  obtain ⟨u, hu⟩ := Option.isSome_iff_exists.1 (p.any m (by omega)).1
  obtain ⟨v, hv⟩ := Option.isSome_iff_exists.1 (p.any (m + 1) (by omega)).1
  have c0 : ((w.setCell ⟨g, m, none⟩ (.int .i64 x)).setCell ⟨g, m + 1, none⟩ (.int .i64 y)).cell? ⟨g, m, none⟩ = some (.int .i64 x) := by
    rw [World.cell?_setCell_other _ _ _ _ (ne _ _ (by omega))]
    exact World.cell?_setCell_same _ _ _ hu
  have c1 : ((w.setCell ⟨g, m, none⟩ (.int .i64 x)).setCell ⟨g, m + 1, none⟩ (.int .i64 y)).cell? ⟨g, m + 1, none⟩ = some (.int .i64 y) := by
    refine World.cell?_setCell_same (u := v) _ _ _ ?_
    rw [World.cell?_setCell_other _ _ _ _ (ne _ _ (by omega))]
    exact hv
  have co : ∀ j, j ≠ m → j ≠ m + 1 → ((w.setCell ⟨g, m, none⟩ (.int .i64 x)).setCell ⟨g, m + 1, none⟩ (.int .i64 y)).cell? ⟨g, j, none⟩ = w.cell? ⟨g, j, none⟩ := fun j h1 h2 => by
    rw [World.cell?_setCell_other _ _ _ _ (ne _ _ (by omega)), World.cell?_setCell_other _ _ _ _ (ne _ _ (by omega))]
  refine ⟨fun j hj => ⟨?_, by have := (p.any j hj).2; simpa using this⟩, fun j hj => ?_, by simpa [World.size_setCell] using p.lt⟩
  · by_cases h1 : j = m
    · subst h1; rw [c0]; rfl
    · by_cases h2 : j = m + 1
      · subst h2; rw [c1]; rfl
      · rw [co j h1 h2]; exact (p.any j hj).1
  · by_cases h1 : j = m
    · subst h1; rw [c0, hx]
    · by_cases h2 : j = m + 1
      · subst h2; rw [c1, hy]
      · rw [co j h1 h2]; exact p.done j (by omega)
theorem Arr.far {w : World} {g h m : Nat} {L : List Int} (p : Arr w g m L) (hne : g ≠ h) (x y : Value) : Arr ((w.setCell ⟨h, 0, none⟩ x).setCell ⟨h, 1, none⟩ y) g m L := by
  have e : ∀ (i j : Nat), (⟨h, i, none⟩ : Addr) ≠ ⟨g, j, none⟩ := fun i j e => hne (congrArg Addr.block e).symm
  refine ⟨fun j hj => ?_, fun j hj => ?_, by simpa [World.size_setCell] using p.lt⟩
  · rw [World.cell?_setCell_other _ _ _ _ (e _ _), World.cell?_setCell_other _ _ _ _ (e _ _)]
    have := p.any j hj
    simpa using this
  · rw [World.cell?_setCell_other _ _ _ _ (e _ _), World.cell?_setCell_other _ _ _ _ (e _ _)]
    exact p.done j hj
theorem Pr.farAt {w : World} {g h m : Nat} {a b : Value} (p : Pr w g a b) (hne : g ≠ h) (x y : Value) : Pr ((w.setCell ⟨h, m, none⟩ x).setCell ⟨h, m + 1, none⟩ y) g a b := by
  have e : ∀ (i j : Nat), (⟨h, i, none⟩ : Addr) ≠ ⟨g, j, none⟩ := fun i j e => hne (congrArg Addr.block e).symm
  refine ⟨?_, ?_, by have := p.f0; simpa using this, by have := p.f1; simpa using this, by simpa [World.size_setCell] using p.lt⟩
  · rw [World.cell?_setCell_other _ _ _ _ (e _ _), World.cell?_setCell_other _ _ _ _ (e _ _)]; exact p.c0
  · rw [World.cell?_setCell_other _ _ _ _ (e _ _), World.cell?_setCell_other _ _ _ _ (e _ _)]; exact p.c1
theorem below_setAt {B : Nat} {w w1 : World} (h : Below B w w1) {g m : Nat} (hg : B ≤ g) (x y : Value) : Below B w ((w1.setCell ⟨g, m, none⟩ x).setCell ⟨g, m + 1, none⟩ y) :=
  (h.setCell (p := ⟨g, m, none⟩) hg x).setCell (p := ⟨g, m + 1, none⟩) hg y
theorem Iv1.of {w : World} {g m k : Nat} {L : List Int} (p : Arr w g m L) (hk : k + 1 < m) {x y : Int} (hx : L[k]?.getD 0 = x) (hy : L[k + 1]?.getD 0 = y) : Iv1 w g k x y :=
  ⟨by rw [p.done k (by omega), hx], by rw [p.done (k + 1) hk, hy], p.lt⟩
theorem iv_info : (Tryz.prog.info? 23).map (fun i => (i.zero, i.size, i.bytes)) = some (some (.agg #[.int .i64 0, .int .i64 0]), 2, 16) := by kernel_rfl
/-- append of one interval to a slice that has room. -/
theorem wpList_append_iv (w : World) {ops : Array Oper} {rest : List Oper} {o : Oper} {a : Act} {Q : Exit → Act → World → Prop} (hgd : o.guard = none) (s x : Operand)
    (ho : o.op = .call { callee := .builtin .append, args := #[s, x], argTypes := #[69, 69] }) (g n m : Nat) (L : List Int) (hs : a.eval s = .slice (some ⟨g, 0, none⟩) n 4) (hm : m = n * 2) (hn : n < 4) (hA : Arr w g m L)
    (h : Nat) (hx : a.eval x = .slice (some ⟨h, 0, none⟩) 1 1) (lo hi : Int) (hC : Iv1 w h 0 lo hi)
    (hK : wpList Tryz.prog ops Q rest (a.put o.dst (.slice (some ⟨g, 0, none⟩) (n + 1) 4)) ((w.setCell ⟨g, m, none⟩ (.int .i64 lo)).setCell ⟨g, m + 1, none⟩ (.int .i64 hi))) :
    wpList Tryz.prog ops Q (o :: rest) a w := by
  obtain ⟨i0, hi0, hz0, hz1, hz2⟩ := info_parts iv_info
  refine wpList_plain hgd fun K hKK => ?_
  have hr := run_append_room_cells (P := Tryz.prog) w 69 o.type 23 i0 Tryz.underlying69 hi0 g 0 n 4 ⟨h, 0, none⟩ 1 1 [.int .i64 lo, .int .i64 hi] (by rw [hz1]; rfl)
    (fun j u hu => by
      match j, hu with
      | 0, hu => simp at hu; subst hu; exact hC.c0
      | 1, hu => simp at hu; subst hu; exact hC.c1) (by simp [Value.oneCell']) (by omega) (fun j hj => by rw [hz1]; simp at hj; exact (hA.any _ (by omega)).1) (fun j hj => by rw [hz1]; simp at hj; exact (hA.any _ (by omega)).2)
  rw [hz1, Nat.zero_add, ← hm] at hr
  unfold Oper.wp execOp
  simp only [ho, resolve, invoke, builtin, Sem.run_bind, Sem.run_pure, Result.andThen_ok, List.map_toArray, List.map_cons, List.map_nil, hs, hx, hr]
  exact hKK _ _ hK
set_option maxRecDepth 100000 in
set_option maxHeartbeats 4000000 in
theorem corners_any (w : World) (f : FuncId) (al ah bl bh l0 h0 l1 h1 l2 h2 l3 h3 : Int) (hcf : ∀ (u v : Value) (W : World), (callFunc f #[u, v]).run Tryz.prog W = .ok (.enter f #[u, v]) W)
    (k0 : ∀ W, Calls Tryz.prog f #[.int .i64 al, .int .i64 bl] W (RV W l0 h0)) (k1 : ∀ W, Calls Tryz.prog f #[.int .i64 al, .int .i64 bh] W (RV W l1 h1)) (k2 : ∀ W, Calls Tryz.prog f #[.int .i64 ah, .int .i64 bl] W (RV W l2 h2)) (k3 : ∀ W, Calls Tryz.prog f #[.int .i64 ah, .int .i64 bh] W (RV W l3 h3)) :
    Calls Tryz.prog 49 #[iv al ah, iv bl bh, .func (.func f) #[] #[]] w (RV w (mn4 l0 l1 l2 l3) (mx4 h0 h1 h2 h3)) := by
  have hmk : ∀ w : World, (Instr.makeSlice 69 (.int .i64 0) (.int .i64 4)).run Tryz.prog w = .ok (.slice (some ⟨w.heap.size, 0, none⟩) 0 4) (w.alloc (.cells #[.int .i64 0, .int .i64 0, .int .i64 0, .int .i64 0, .int .i64 0, .int .i64 0, .int .i64 0, .int .i64 0] 23)) := fun _ => by kernel_rfl
  have ia0 : ∀ (w : World) (x y : Value), (Instr.index 91 (.agg #[x, y]) (.int .i64 0)).run Tryz.prog w = .ok x w := fun _ _ _ => by kernel_rfl
  have ia1 : ∀ (w : World) (x y : Value), (Instr.index 91 (.agg #[x, y]) (.int .i64 1)).run Tryz.prog w = .ok y w := fun _ _ _ => by kernel_rfl
  have K0 := Lib.hid k0
  have K1 := Lib.hid k1
  have K2 := Lib.hid k2
  have K3 := Lib.hid k3
  clear k0 k1 k2 k3
  obtain ⟨L, hL⟩ : ∃ L : List Int, L = [l0, h0, l1, h1, l2, h2, l3, h3] := ⟨_, rfl⟩
  have HL := Lib.hid hL
  clear hL
  have PA := Lib.hid ((((Pr.new w w.heap.size rfl (.int .i64 al) (.int .i64 ah) 23).alloc (ivB bl bh)).alloc (ivB 0 0)).alloc (.cells #[.int .i64 0, .int .i64 0, .int .i64 0, .int .i64 0, .int .i64 0, .int .i64 0, .int .i64 0, .int .i64 0] 23))
  have PB := Lib.hid (((Pr.new (w.alloc (ivB al ah)) (w.heap.size + 1) (by simp) (.int .i64 bl) (.int .i64 bh) 23).alloc (ivB 0 0)).alloc (.cells #[.int .i64 0, .int .i64 0, .int .i64 0, .int .i64 0, .int .i64 0, .int .i64 0, .int .i64 0, .int .i64 0] 23))
  have PR := Lib.hid ((Pr.new ((w.alloc (ivB al ah)).alloc (ivB bl bh)) (w.heap.size + 1 + 1) (by simp) (.int .i64 0) (.int .i64 0) 23).alloc (.cells #[.int .i64 0, .int .i64 0, .int .i64 0, .int .i64 0, .int .i64 0, .int .i64 0, .int .i64 0, .int .i64 0] 23))
  have BW : Hid (Below w.heap.size w ((((w.alloc (ivB al ah)).alloc (ivB bl bh)).alloc (ivB 0 0)).alloc (.cells #[.int .i64 0, .int .i64 0, .int .i64 0, .int .i64 0, .int .i64 0, .int .i64 0, .int .i64 0, .int .i64 0] 23))) := sbal (sbal (sbal (sbal (Below.refl _ _) _) _) _) _
  have AW := Lib.hid (Arr.new (((w.alloc (ivB al ah)).alloc (ivB bl bh)).alloc (ivB 0 0)) (w.heap.size + 1 + 1 + 1) (by simp) L)
  go_enter Tryz.func49, Tryz.ntmps49
  go_wp2_with fail
  generalize (((w.alloc (ivB al ah)).alloc (ivB bl bh)).alloc (ivB 0 0)).alloc (.cells #[.int .i64 0, .int .i64 0, .int .i64 0, .int .i64 0, .int .i64 0, .int .i64 0, .int .i64 0, .int .i64 0] 23) = W0 at *
  go_loopw [7, 18] (fun s i wr => ∃ m : Nat, (s = .slice (some ⟨w.heap.size + 1 + 1 + 1, 0, none⟩) 0 4 ∧ i = .int .i64 0 ∧ m = 0 ∨ s = .slice (some ⟨w.heap.size + 1 + 1 + 1, 0, none⟩) 2 4 ∧ i = .int .i64 1 ∧ m = 4 ∨ s = .slice (some ⟨w.heap.size + 1 + 1 + 1, 0, none⟩) 4 4 ∧ i = .int .i64 2 ∧ m = 8) ∧ Pr wr (w.heap.size + 1) (.int .i64 bl) (.int .i64 bh) ∧ Pr wr (w.heap.size + 1 + 1) (.int .i64 0) (.int .i64 0) ∧ Arr wr (w.heap.size + 1 + 1 + 1) m L ∧ Below w.heap.size w wr) (fun _ i _ => 2 - (intOf i).toNat)
  case atStart => exact ⟨0, .inl ⟨rfl, rfl, rfl⟩, PB.out, PR.out, AW.out, BW.out⟩
  case round =>
    obtain ⟨m, hk, pb, pr, aw, bw⟩ := hrel
    clear PA PB PR AW BW
    have PB := Lib.hid pb
    have PR := Lib.hid pr
    have AW := Lib.hid aw
    have BW := Lib.hid bw
    clear pb pr aw bw
    obtain ⟨wo, rfl⟩ : ∃ wo : World, wo = wr := ⟨_, rfl⟩
    rcases hk with ⟨rfl, rfl, rfl⟩ | ⟨rfl, rfl, rfl⟩ | ⟨rfl, rfl, rfl⟩
    · have ⟨b0, b1, _, _, _⟩ := PB.out
      go_wp2_with fail
      clear b0 b1
      go_loopw [7, 26] (fun s i wr => ∃ m : Nat, (s = .slice (some ⟨w.heap.size + 1 + 1 + 1, 0, none⟩) 0 4 ∧ i = .int .i64 0 ∧ m = 0 ∨ s = .slice (some ⟨w.heap.size + 1 + 1 + 1, 0, none⟩) 1 4 ∧ i = .int .i64 1 ∧ m = 2 ∨ s = .slice (some ⟨w.heap.size + 1 + 1 + 1, 0, none⟩) 2 4 ∧ i = .int .i64 2 ∧ m = 4) ∧ Pr wr (w.heap.size + 1) (.int .i64 bl) (.int .i64 bh) ∧ Pr wr (w.heap.size + 1 + 1) (.int .i64 0) (.int .i64 0) ∧ Arr wr (w.heap.size + 1 + 1 + 1) m L ∧ Below w.heap.size w wr) (fun _ i _ => 2 - (intOf i).toNat)
      case atStart => exact ⟨0, .inl ⟨rfl, rfl, rfl⟩, PB.out, PR.out, AW.out, BW.out⟩
      case round =>
        obtain ⟨m, hj, pb, pr, aw, bw⟩ := hrel
        clear PB PR AW BW
        have PB := Lib.hid pb
        have PR := Lib.hid pr
        have AW := Lib.hid aw
        have BW := Lib.hid bw
        clear pb pr aw bw
        rcases hj with ⟨rfl, rfl, rfl⟩ | ⟨rfl, rfl, rfl⟩ | ⟨rfl, rfl, rfl⟩
        · go_wp2_with fail
          refine (K0.out _).mono ?_
          rintro e w1 ⟨rfl, hb⟩
          have IC : Hid (Iv1 (w1.alloc (ivB l0 h0)) w1.heap.size 0 l0 h0) := (by
            have p := Pr.new w1 _ rfl (.int .i64 l0) (.int .i64 h0) 23
            exact ⟨p.c0, p.c1, p.lt⟩)
          have A1 := Lib.hid ((AW.out.via hb).alloc (ivB l0 h0))
          have Q1 := Lib.hid ((PB.out.via hb).alloc (ivB l0 h0))
          have R1 := Lib.hid ((PR.out.via hb).alloc (ivB l0 h0))
          have B1 := Lib.hid (sbal (sbtr BW.out hb) (ivB l0 h0))
          have A2 := Lib.hid (A1.out.put (by omega) l0 h0 (by rw [HL.out]; rfl) (by rw [HL.out]; rfl))
          have hgl := PB.out.lt
          clear hb
          go_wp2_with (at_builtin; refine wpList_append_iv _ rfl _ _ rfl (w.heap.size + 1 + 1 + 1) 0 0 L rfl rfl (by omega) A1.out w1.heap.size rfl l0 h0 IC.out ?_)
          go_roundw
          case rel => exact ⟨2, .inr (.inl ⟨rfl, rfl, rfl⟩), Q1.out.farAt (by omega) _ _, R1.out.farAt (by omega) _ _, A2.out, below_setAt B1.out (by omega) _ _⟩
          case measure => simp [intOf]
        · go_wp2_with fail
          refine (K1.out _).mono ?_
          rintro e w1 ⟨rfl, hb⟩
          have IC : Hid (Iv1 (w1.alloc (ivB l1 h1)) w1.heap.size 0 l1 h1) := (by
            have p := Pr.new w1 _ rfl (.int .i64 l1) (.int .i64 h1) 23
            exact ⟨p.c0, p.c1, p.lt⟩)
          have A1 := Lib.hid ((AW.out.via hb).alloc (ivB l1 h1))
          have Q1 := Lib.hid ((PB.out.via hb).alloc (ivB l1 h1))
          have R1 := Lib.hid ((PR.out.via hb).alloc (ivB l1 h1))
          have B1 := Lib.hid (sbal (sbtr BW.out hb) (ivB l1 h1))
          have A2 := Lib.hid (A1.out.put (by omega) l1 h1 (by rw [HL.out]; rfl) (by rw [HL.out]; rfl))
          have hgl := PB.out.lt
          clear hb
          go_wp2_with (at_builtin; refine wpList_append_iv _ rfl _ _ rfl (w.heap.size + 1 + 1 + 1) 1 2 L rfl rfl (by omega) A1.out w1.heap.size rfl l1 h1 IC.out ?_)
          go_roundw
          case rel => exact ⟨4, .inr (.inr ⟨rfl, rfl, rfl⟩), Q1.out.farAt (by omega) _ _, R1.out.farAt (by omega) _ _, A2.out, below_setAt B1.out (by omega) _ _⟩
          case measure => simp [intOf]
        · go_wp2
          go_roundw
          case rel => exact ⟨4, .inr (.inl ⟨rfl, rfl, rfl⟩), PB.out, PR.out, AW.out, BW.out⟩
          case measure => simp [intOf]
    · have ⟨b0, b1, _, _, _⟩ := PB.out
      go_wp2_with fail
      clear b0 b1
      go_loopw [7, 26] (fun s i wr => ∃ m : Nat, (s = .slice (some ⟨w.heap.size + 1 + 1 + 1, 0, none⟩) 2 4 ∧ i = .int .i64 0 ∧ m = 4 ∨ s = .slice (some ⟨w.heap.size + 1 + 1 + 1, 0, none⟩) 3 4 ∧ i = .int .i64 1 ∧ m = 6 ∨ s = .slice (some ⟨w.heap.size + 1 + 1 + 1, 0, none⟩) 4 4 ∧ i = .int .i64 2 ∧ m = 8) ∧ Pr wr (w.heap.size + 1) (.int .i64 bl) (.int .i64 bh) ∧ Pr wr (w.heap.size + 1 + 1) (.int .i64 0) (.int .i64 0) ∧ Arr wr (w.heap.size + 1 + 1 + 1) m L ∧ Below w.heap.size w wr) (fun _ i _ => 2 - (intOf i).toNat)
      case atStart => exact ⟨4, .inl ⟨rfl, rfl, rfl⟩, PB.out, PR.out, AW.out, BW.out⟩
      case round =>
        obtain ⟨m, hj, pb, pr, aw, bw⟩ := hrel
        clear PB PR AW BW
        have PB := Lib.hid pb
        have PR := Lib.hid pr
        have AW := Lib.hid aw
        have BW := Lib.hid bw
        clear pb pr aw bw
        rcases hj with ⟨rfl, rfl, rfl⟩ | ⟨rfl, rfl, rfl⟩ | ⟨rfl, rfl, rfl⟩
        · go_wp2_with fail
          refine (K2.out _).mono ?_
          rintro e w1 ⟨rfl, hb⟩
          have IC : Hid (Iv1 (w1.alloc (ivB l2 h2)) w1.heap.size 0 l2 h2) := (by
            have p := Pr.new w1 _ rfl (.int .i64 l2) (.int .i64 h2) 23
            exact ⟨p.c0, p.c1, p.lt⟩)
          have A1 := Lib.hid ((AW.out.via hb).alloc (ivB l2 h2))
          have Q1 := Lib.hid ((PB.out.via hb).alloc (ivB l2 h2))
          have R1 := Lib.hid ((PR.out.via hb).alloc (ivB l2 h2))
          have B1 := Lib.hid (sbal (sbtr BW.out hb) (ivB l2 h2))
          have A2 := Lib.hid (A1.out.put (by omega) l2 h2 (by rw [HL.out]; rfl) (by rw [HL.out]; rfl))
          have hgl := PB.out.lt
          clear hb
          go_wp2_with (at_builtin; refine wpList_append_iv _ rfl _ _ rfl (w.heap.size + 1 + 1 + 1) 2 4 L rfl rfl (by omega) A1.out w1.heap.size rfl l2 h2 IC.out ?_)
          go_roundw
          case rel => exact ⟨6, .inr (.inl ⟨rfl, rfl, rfl⟩), Q1.out.farAt (by omega) _ _, R1.out.farAt (by omega) _ _, A2.out, below_setAt B1.out (by omega) _ _⟩
          case measure => simp [intOf]
        · go_wp2_with fail
          refine (K3.out _).mono ?_
          rintro e w1 ⟨rfl, hb⟩
          have IC : Hid (Iv1 (w1.alloc (ivB l3 h3)) w1.heap.size 0 l3 h3) := (by
            have p := Pr.new w1 _ rfl (.int .i64 l3) (.int .i64 h3) 23
            exact ⟨p.c0, p.c1, p.lt⟩)
          have A1 := Lib.hid ((AW.out.via hb).alloc (ivB l3 h3))
          have Q1 := Lib.hid ((PB.out.via hb).alloc (ivB l3 h3))
          have R1 := Lib.hid ((PR.out.via hb).alloc (ivB l3 h3))
          have B1 := Lib.hid (sbal (sbtr BW.out hb) (ivB l3 h3))
          have A2 := Lib.hid (A1.out.put (by omega) l3 h3 (by rw [HL.out]; rfl) (by rw [HL.out]; rfl))
          have hgl := PB.out.lt
          clear hb
          go_wp2_with (at_builtin; refine wpList_append_iv _ rfl _ _ rfl (w.heap.size + 1 + 1 + 1) 3 6 L rfl rfl (by omega) A1.out w1.heap.size rfl l3 h3 IC.out ?_)
          go_roundw
          case rel => exact ⟨8, .inr (.inr ⟨rfl, rfl, rfl⟩), Q1.out.farAt (by omega) _ _, R1.out.farAt (by omega) _ _, A2.out, below_setAt B1.out (by omega) _ _⟩
          case measure => simp [intOf]
        · go_wp2
          go_roundw
          case rel => exact ⟨8, .inr (.inr ⟨rfl, rfl, rfl⟩), PB.out, PR.out, AW.out, BW.out⟩
          case measure => simp [intOf]
    · go_wp2_with fail
      have I0 := Lib.hid (Iv1.of AW.out (k := 0) (by omega) (x := l0) (y := h0) (by rw [HL.out]; rfl) (by rw [HL.out]; rfl))
      have I1 := Lib.hid (Iv1.of AW.out (k := 2) (by omega) (x := l1) (y := h1) (by rw [HL.out]; rfl) (by rw [HL.out]; rfl))
      have I2 := Lib.hid (Iv1.of AW.out (k := 4) (by omega) (x := l2) (y := h2) (by rw [HL.out]; rfl) (by rw [HL.out]; rfl))
      have I3 := Lib.hid (Iv1.of AW.out (k := 6) (by omega) (x := l3) (y := h3) (by rw [HL.out]; rfl) (by rw [HL.out]; rfl))
      clear AW PB HL K0 K1 K2 K3 ia0 ia1 hmk hcf
      have HKS : Hid (∀ X : World, Below wo.heap.size wo X → X.cell? ⟨w.heap.size + 1 + 1 + 1, 0, none⟩ = some (.int .i64 l0) ∧ X.cell? ⟨w.heap.size + 1 + 1 + 1, 1, none⟩ = some (.int .i64 h0)) := fun X h => ⟨(I0.out.via h).c0, (I0.out.via h).c1⟩
      have ⟨r0, r1, f0, f1, rl⟩ := PR.out
      go_region_held3 (fun w' => w'.cell? ⟨w.heap.size + 1 + 1 + 1, 0, none⟩ = some (.int .i64 l0) ∧ w'.cell? ⟨w.heap.size + 1 + 1 + 1, 1, none⟩ = some (.int .i64 h0))
        (first
         | exact HKS.out _ (Below.refl _ _)
         | exact HKS.out _ (Below.refl _ _).drew
         | exact HKS.out _ B2
         | exact ⟨((I0.out.via B2).far (by omega) _ _).c0, ((I0.out.via B2).far (by omega) _ _).c1⟩)
        (first
         | (go_at_call 32; refine (hull3_any _ (w.heap.size + 1 + 1 + 1) l0 h0 l1 h1 l2 h2 l3 h3 (by first | exact I1.out | exact I1.out.via (Below.refl _ _).drew) (by first | exact I2.out | exact I2.out.via (Below.refl _ _).drew) (by first | exact I3.out | exact I3.out.via (Below.refl _ _).drew)).mono ?_; rintro e w2 ⟨rfl, hb2⟩; have B2 : Below wo.heap.size wo w2 := (by first | exact (Below.refl _ _).drew.trans hb2 | exact hb2); have P2 := PR.out.via B2; have ⟨q0, q1, g0, g1, ql⟩ := P2)
         | fail)
      all_goals
        go_wp2
        exact post_iv1 Tryz.results49 rfl rfl (P2.set _ _) ⟨ret_iv (by unfold mn4; omega) (by unfold mx4; omega), below_set2 (sbtr BW.out B2) (by omega) _ _⟩
end Go.Proofs.YtegnaknoaflppaaGreatDoor

/- Intervals: Add, Sub, Min, Max, Hull, Neg, Abs of package span. -/
namespace Go.Proofs.YtegnaknoaflppaaGreatDoor
open Go.RowKit

theorem ivIn_of {lo hi : Int} (h : ivC lo hi = 0) : IvIn lo hi := ivC_le h
set_option maxRecDepth 100000 in
theorem sadd_any (w : World) (al ah bl bh : Int) : Calls Tryz.prog 7 #[iv al ah, iv bl bh] w (RO w (j2 al ah bl bh (mkI (al + bl) (ah + bh)))) := by
  have PR := Lib.hid (Pr.new ((w.alloc (ivB al ah)).alloc (ivB bl bh)) (w.heap.size + 1 + 1) (by simp) (.int .i64 0) (.int .i64 0) 23)
  have BW : Hid (Below w.heap.size w (((w.alloc (ivB al ah)).alloc (ivB bl bh)).alloc (ivB 0 0))) := sbal (sbal (sbal (Below.refl _ _) _) _) _
  have hcf : ∀ (u v : Value) (W : World), (callFunc 25 #[u, v]).run Tryz.prog W = .ok (.enter 25 #[u, v]) W := fun u v W => by go_simp
  have J := Lib.hid (fun W => join_any W 25 al ah bl bh (al + bl) (ah + bh) hcf fun ha hb => ⟨(by have := ivC_le ha; have := ivC_le hb; omega), fun W' => ssum_any W' al ah bl bh (ivIn_of ha) (ivIn_of hb)⟩)
  clear hcf
  go_enter Tryz.func7, Tryz.ntmps7
  go_wp2_with fail
  generalize ((w.alloc (ivB al ah)).alloc (ivB bl bh)).alloc (ivB 0 0) = W0 at *
  refine (J.out _).mono ?_
  rintro e w1 ⟨rfl, hb⟩
  have P3 := Lib.hid (PR.out.via hb)
  have B1 := Lib.hid (sbtr BW.out hb)
  clear hb PR BW J
  have ⟨r0, r1, f0, f1, rl⟩ := P3.out
  go_wp2
  exact post_iv Tryz.results7 rfl rfl (P3.out.set _ _) ⟨rfl, below_set2 B1.out (by omega) _ _⟩
set_option maxRecDepth 100000 in
theorem ssub_any (w : World) (al ah bl bh : Int) : Calls Tryz.prog 22 #[iv al ah, iv bl bh] w (RO w (j2 al ah bl bh (mkI (al - bh) (ah - bl)))) := by
  have PR := Lib.hid (Pr.new ((w.alloc (ivB al ah)).alloc (ivB bl bh)) (w.heap.size + 1 + 1) (by simp) (.int .i64 0) (.int .i64 0) 23)
  have BW : Hid (Below w.heap.size w (((w.alloc (ivB al ah)).alloc (ivB bl bh)).alloc (ivB 0 0))) := sbal (sbal (sbal (Below.refl _ _) _) _) _
  have hcf : ∀ (u v : Value) (W : World), (callFunc 47 #[u, v]).run Tryz.prog W = .ok (.enter 47 #[u, v]) W := fun u v W => by go_simp
  have J := Lib.hid (fun W => join_any W 47 al ah bl bh (al - bh) (ah - bl) hcf fun ha hb => ⟨(by have := ivC_le ha; have := ivC_le hb; omega), fun W' => sdiff_any W' al ah bl bh (ivIn_of ha) (ivIn_of hb)⟩)
  clear hcf
  go_enter Tryz.func22, Tryz.ntmps22
  go_wp2_with fail
  generalize ((w.alloc (ivB al ah)).alloc (ivB bl bh)).alloc (ivB 0 0) = W0 at *
  refine (J.out _).mono ?_
  rintro e w1 ⟨rfl, hb⟩
  have P3 := Lib.hid (PR.out.via hb)
  have B1 := Lib.hid (sbtr BW.out hb)
  clear hb PR BW J
  have ⟨r0, r1, f0, f1, rl⟩ := P3.out
  go_wp2
  exact post_iv Tryz.results22 rfl rfl (P3.out.set _ _) ⟨rfl, below_set2 B1.out (by omega) _ _⟩
set_option maxRecDepth 100000 in
theorem shull_any (w : World) (al ah bl bh : Int) : Calls Tryz.prog 23 #[iv al ah, iv bl bh] w (RO w (j2 al ah bl bh (mkI (min al bl) (max ah bh)))) := by
  have PR := Lib.hid (Pr.new ((w.alloc (ivB al ah)).alloc (ivB bl bh)) (w.heap.size + 1 + 1) (by simp) (.int .i64 0) (.int .i64 0) 23)
  have BW : Hid (Below w.heap.size w (((w.alloc (ivB al ah)).alloc (ivB bl bh)).alloc (ivB 0 0))) := sbal (sbal (sbal (Below.refl _ _) _) _) _
  have hcf : ∀ (u v : Value) (W : World), (callFunc 48 #[u, v]).run Tryz.prog W = .ok (.enter 48 #[u, v]) W := fun u v W => by go_simp
  have J := Lib.hid (fun W => join_any W 48 al ah bl bh (min al bl) (max ah bh) hcf fun ha hb => ⟨(by have := ivC_le ha; have := ivC_le hb; omega), fun W' => hullf_any W' al ah bl bh⟩)
  clear hcf
  go_enter Tryz.func23, Tryz.ntmps23
  go_wp2_with fail
  generalize ((w.alloc (ivB al ah)).alloc (ivB bl bh)).alloc (ivB 0 0) = W0 at *
  refine (J.out _).mono ?_
  rintro e w1 ⟨rfl, hb⟩
  have P3 := Lib.hid (PR.out.via hb)
  have B1 := Lib.hid (sbtr BW.out hb)
  clear hb PR BW J
  have ⟨r0, r1, f0, f1, rl⟩ := P3.out
  go_wp2
  exact post_iv Tryz.results23 rfl rfl (P3.out.set _ _) ⟨rfl, below_set2 B1.out (by omega) _ _⟩
set_option maxRecDepth 100000 in
theorem sneg_any (w : World) (al ah : Int) : Calls Tryz.prog 17 #[iv al ah] w (RO w (j1 al ah (mkI (-ah) (-al)))) := by
  have PR := Lib.hid (Pr.new (w.alloc (ivB al ah)) (w.heap.size + 1) (by simp) (.int .i64 0) (.int .i64 0) 23)
  have BW : Hid (Below w.heap.size w ((w.alloc (ivB al ah)).alloc (ivB 0 0))) := sbal (sbal (Below.refl _ _) _) _
  have hcf : ∀ (u : Value) (W : World), (callFunc 41 #[u]).run Tryz.prog W = .ok (.enter 41 #[u]) W := fun u W => by go_simp
  have J := Lib.hid (fun W => change_any W 41 al ah (-ah) (-al) hcf fun ha => ⟨(by have := ivC_le ha; omega), fun W' => negative_any W' al ah (by have := ivC_le ha; omega) (by have := ivC_le ha; omega) (by have := ivC_le ha; omega) (by have := ivC_le ha; omega)⟩)
  clear hcf
  go_enter Tryz.func17, Tryz.ntmps17
  go_wp2_with fail
  generalize (w.alloc (ivB al ah)).alloc (ivB 0 0) = W0 at *
  refine (J.out _).mono ?_
  rintro e w1 ⟨rfl, hb⟩
  have P3 := Lib.hid (PR.out.via hb)
  have B1 := Lib.hid (sbtr BW.out hb)
  clear hb PR BW J
  have ⟨r0, r1, f0, f1, rl⟩ := P3.out
  go_wp2
  exact post_iv Tryz.results17 rfl rfl (P3.out.set _ _) ⟨rfl, below_set2 B1.out (by omega) _ _⟩
end Go.Proofs.YtegnaknoaflppaaGreatDoor

/- Intervals: order, Meet, In, Cmp, Mid on both sides; Add, Sub, Neg, Abs, Min, Max, Hull of the reference. -/
namespace Go.Proofs.YtegnaknoaflppaaGreatDoor
open Go.RowKit

def RB2 (w : World) (v : Bool) (err : Int) (e : Ending) (w' : World) : Prop := e = .returned (.tuple #[.bool v, .int .i64 err]) ∧ Below w.heap.size w w'
def RI2 (w : World) (v err : Int) (e : Ending) (w' : World) : Prop := e = .returned (.tuple #[.int .i64 v, .int .i64 err]) ∧ Below w.heap.size w w'
def ordI (al ah bl bh : Int) : Int := if ah < bl then -1 else if bh < al then 1 else 0
def inR (al ah bl bh : Int) : Bool := decide (ivB2 al ah bl bh = 0) && (decide (bl ≤ al) && decide (ah ≤ bh))
def ordR (al ah bl bh : Int) : Int := if ivB2 al ah bl bh = 0 then ordI al ah bl bh else 0
def meetO (al ah bl bh : Int) : Out := if ordI al ah bl bh = 0 then mkI (max al bl) (min ah bh) else ⟨0, 0, 6⟩
def midR (al ah : Int) : Int := if ivC al ah = 0 then (al + ah) / 2 else 0
theorem ret_bi {a b : Bool} {c d : Int} (h1 : a = b) (h2 : c = d) : Ending.returned (.tuple #[.bool a, .int .i64 c]) = .returned (.tuple #[.bool b, .int .i64 d]) := by rw [h1, h2]
theorem ret_ii {a b c d : Int} (h1 : a = b) (h2 : c = d) : Ending.returned (.tuple #[.int .i64 a, .int .i64 c]) = .returned (.tuple #[.int .i64 b, .int .i64 d]) := by rw [h1, h2]
set_option maxRecDepth 100000 in
theorem order_any (w : World) (al ah bl bh : Int) : Calls Tryz.prog 31 #[iv al ah, iv bl bh] w (RN1 w (ordI al ah bl bh)) := by
  by_cases h1 : ah < bl
  · go_enter Tryz.func31, Tryz.ntmps31
    go_wp2
    go_ret
    exact ⟨ret_int (by unfold ordI; rw [if_pos h1]), by go_grown⟩
  · by_cases h2 : bh < al
    · go_enter Tryz.func31, Tryz.ntmps31
      go_wp2
      go_ret
      exact ⟨ret_int (by unfold ordI; rw [if_neg (by omega), if_pos h2]), by go_grown⟩
    · go_enter Tryz.func31, Tryz.ntmps31
      go_wp2
      go_ret
      exact ⟨ret_int (by unfold ordI; rw [if_neg (by omega), if_neg (by omega)]), by go_grown⟩
set_option maxRecDepth 100000 in
set_option maxHeartbeats 1000000 in
theorem sin_any (w : World) (al ah bl bh : Int) : Calls Tryz.prog 16 #[iv al ah, iv bl bh] w (RB2 w (inR al ah bl bh) (ivB2 al ah bl bh)) := by
  have PA := Lib.hid ((Pr.new w (w.heap.size) rfl (.int .i64 al) (.int .i64 ah) 23).alloc (ivB bl bh))
  have PB := Lib.hid (Pr.new (w.alloc (ivB al ah)) (w.heap.size + 1) (by simp) (.int .i64 bl) (.int .i64 bh) 23)
  have BW : Hid (Below w.heap.size w ((w.alloc (ivB al ah)).alloc (ivB bl bh))) := (sbal (sbal (Below.refl _ _) _) _)
  have hs : ((w.alloc (ivB al ah)).alloc (ivB bl bh)).heap.size = w.heap.size + 1 + 1 := by simp
  have HS := Lib.hid hs
  clear hs
  go_enter Tryz.func16, Tryz.ntmps16
  go_wp2_with fail
  generalize (w.alloc (ivB al ah)).alloc (ivB bl bh) = W0 at *
  refine (checkall_any _ _ al ah bl bh (C4.new W0 _ HS.out _ _ _ _ _)).mono ?_
  rintro e w1 ⟨rfl, hb⟩
  have P1 := Lib.hid (PA.out.via (bbox hb))
  have P2 := Lib.hid (PB.out.via (bbox hb))
  have B1 := Lib.hid (sbtr BW.out (bbox hb))
  clear hb PA PB BW HS
  rcases ivB2_cases al ah bl bh with ⟨h, ha, hbb⟩ | h
  · rw [h]
    have HH := Lib.hid h
    clear h ha hbb
    have ⟨a0, a1, a2, a3, a4⟩ := P1.out
    have ⟨b0, b1, b2, b3, b4⟩ := P2.out
    by_cases h1 : bl ≤ al
    · by_cases h2 : ah ≤ bh
      · go_wp2
        go_ret2
        exact ⟨ret_bi (by unfold inR; rw [HH.out, decide_eq_true h1, decide_eq_true h2]; rfl) HH.out.symm, B1.out⟩
      · have hd : decide (ah ≤ bh) = false := decide_eq_false h2
        go_wp2
        go_ret2
        exact ⟨ret_bi (by unfold inR; rw [HH.out, decide_eq_true h1, show decide (ah ≤ bh) = false from decide_eq_false (by omega)]; rfl) HH.out.symm, B1.out⟩
    · have hd : decide (bl ≤ al) = false := decide_eq_false h1
      go_wp2
      go_ret2
      exact ⟨ret_bi (by unfold inR; rw [HH.out, show decide (bl ≤ al) = false from decide_eq_false (by omega)]; rfl) HH.out.symm, B1.out⟩
  · rw [h]
    have HH := Lib.hid h
    clear h
    go_wp2
    go_ret2
    exact ⟨ret_bi (by unfold inR; rw [HH.out]; rfl) HH.out.symm, B1.out⟩
set_option maxRecDepth 100000 in
set_option maxHeartbeats 1000000 in
theorem smid_any (w : World) (al ah : Int) : Calls Tryz.prog 14 #[iv al ah] w (RI2 w (midR al ah) (ivC al ah)) := by
  have PA := Lib.hid (Pr.new w (w.heap.size) rfl (.int .i64 al) (.int .i64 ah) 23)
  have BW : Hid (Below w.heap.size w (w.alloc (ivB al ah))) := (sbal (Below.refl _ _) _)
  go_enter Tryz.func14, Tryz.ntmps14
  go_wp2_with fail
  generalize w.alloc (ivB al ah) = W0 at *
  refine (scheck_any _ al ah).mono ?_
  rintro e w1 ⟨rfl, hb⟩
  have P1 := Lib.hid (PA.out.via hb)
  have B1 := Lib.hid (sbtr BW.out hb)
  clear hb PA BW
  rcases ivC_cases al ah with ⟨h, ha1, ha2, ha3⟩ | ⟨h, _⟩
  · rw [h]
    have HH := Lib.hid h
    clear h
    have ⟨a0, a1, a2, a3, a4⟩ := P1.out
    go_wp2
    go_ret2
    exact ⟨ret_ii (by unfold midR; rw [if_pos HH.out]) HH.out.symm, B1.out⟩
  · rw [h]
    have HH := Lib.hid h
    clear h
    go_wp2
    go_ret2
    exact ⟨ret_ii (by unfold midR; rw [if_neg (by rw [HH.out]; decide)]) HH.out.symm, B1.out⟩
end Go.Proofs.YtegnaknoaflppaaGreatDoor

/- Intervals: Add, Sub, Neg, Min, Max, Hull, Abs of the reference; Meet on both sides. -/
namespace Go.Proofs.YtegnaknoaflppaaGreatDoor
open Go.RowKit

theorem j2_ok {al ah bl bh : Int} {o : Out} (h : ivB2 al ah bl bh = 0) : j2 al ah bl bh o = o := by unfold j2; rw [if_pos h]
theorem j2_bad {al ah bl bh : Int} {o : Out} (h : ivB2 al ah bl bh = 8) : j2 al ah bl bh o = ⟨0, 0, 8⟩ := by unfold j2; rw [if_neg (by rw [h]; decide), h]
theorem j1_ok {al ah : Int} {o : Out} (h : ivC al ah = 0) : j1 al ah o = o := by unfold j1; rw [if_pos h]
theorem j1_bad {al ah : Int} {o : Out} (h : ivC al ah = 8) : j1 al ah o = ⟨0, 0, 8⟩ := by unfold j1; rw [if_neg (by rw [h]; decide), h]
theorem mk_eq {a b c d : Int} (h1 : a = c) (h2 : b = d) : mkI a b = mkI c d := by rw [h1, h2]
theorem ret_mk {X Y : Int} {o : Out} (h : mkI X Y = o) : Ending.returned (.tuple #[iv (mkI X Y).lo (mkI X Y).hi, .int .i64 (mkI X Y).err]) = .returned (.tuple #[iv o.lo o.hi, .int .i64 o.err]) := by rw [h]
theorem ret_out {a b c : Int} {o : Out} (h : o = ⟨a, b, c⟩) : Ending.returned (.tuple #[iv a b, .int .i64 c]) = .returned (.tuple #[iv o.lo o.hi, .int .i64 o.err]) := by rw [h]
theorem out_eq {a b c d : Int} (h1 : a = c) (h2 : b = d) : (⟨a, b, 0⟩ : Out) = ⟨c, d, 0⟩ := by rw [h1, h2]
theorem meet_no {al ah bl bh : Int} (g : ah < bl ∨ bh < al) : meetO al ah bl bh = ⟨0, 0, 6⟩ := by
  unfold meetO ordI
  by_cases h1 : ah < bl
  · rw [if_pos h1, if_neg (by decide)]
  · have h2 : bh < al := by omega
    rw [if_neg h1, if_pos h2, if_neg (by decide)]
theorem meet_yes {al ah bl bh : Int} (g : ¬ (ah < bl ∨ bh < al)) : meetO al ah bl bh = mkI (max al bl) (min ah bh) := by
  unfold meetO ordI
  have h1 : ¬ ah < bl := by omega
  have h2 : ¬ bh < al := by omega
  rw [if_neg h1, if_neg h2, if_pos rfl]
end Go.Proofs.YtegnaknoaflppaaGreatDoor

/- Intervals: Meet of package span; the laws of the words of both sides. -/
namespace Go.Proofs.YtegnaknoaflppaaGreatDoor
open Go.RowKit

theorem ord_no {al ah bl bh : Int} (g : ah < bl ∨ bh < al) : ordI al ah bl bh = -1 ∨ ordI al ah bl bh = 1 := by
  unfold ordI
  by_cases h1 : ah < bl
  · rw [if_pos h1]; exact .inl rfl
  · have h2 : bh < al := by omega
    rw [if_neg h1, if_pos h2]; exact .inr rfl
theorem ord_yes {al ah bl bh : Int} (g : ¬ (ah < bl ∨ bh < al)) : ordI al ah bl bh = 0 := by
  have h1 : ¬ ah < bl := by omega
  have h2 : ¬ bh < al := by omega
  unfold ordI; rw [if_neg h1, if_neg h2]
set_option maxRecDepth 100000 in
set_option maxHeartbeats 1000000 in
theorem smeet_any (w : World) (al ah bl bh : Int) : Calls Tryz.prog 10 #[iv al ah, iv bl bh] w (RO w (j2 al ah bl bh (meetO al ah bl bh))) := by
  have PA := Lib.hid (((Pr.new w (w.heap.size) rfl (.int .i64 al) (.int .i64 ah) 23).alloc (ivB bl bh)).alloc (ivB 0 0))
  have PB := Lib.hid ((Pr.new (w.alloc (ivB al ah)) (w.heap.size + 1) (by simp) (.int .i64 bl) (.int .i64 bh) 23).alloc (ivB 0 0))
  have PR := Lib.hid (Pr.new ((w.alloc (ivB al ah)).alloc (ivB bl bh)) (w.heap.size + 1 + 1) (by simp) (.int .i64 0) (.int .i64 0) 23)
  have BW : Hid (Below w.heap.size w (((w.alloc (ivB al ah)).alloc (ivB bl bh)).alloc (ivB 0 0))) := (sbal (sbal (sbal (Below.refl _ _) _) _) _)
  have hs : (((w.alloc (ivB al ah)).alloc (ivB bl bh)).alloc (ivB 0 0)).heap.size = w.heap.size + 1 + 1 + 1 := by simp
  have HS := Lib.hid hs
  clear hs
  go_enter Tryz.func10, Tryz.ntmps10
  go_wp2_with fail
  generalize ((w.alloc (ivB al ah)).alloc (ivB bl bh)).alloc (ivB 0 0) = W0 at *
  refine (checkall_any _ _ al ah bl bh (C4.new W0 _ HS.out _ _ _ _ _)).mono ?_
  rintro e w1 ⟨rfl, hb⟩
  have P1 := Lib.hid (PA.out.via (bbox hb))
  have P2 := Lib.hid (PB.out.via (bbox hb))
  have P3 := Lib.hid (PR.out.via (bbox hb))
  have B1 := Lib.hid (sbtr BW.out (bbox hb))
  clear hb PA PB PR BW HS
  rcases ivB2_cases al ah bl bh with ⟨h, ha, hbb⟩ | h
  · rw [h]
    have HH := Lib.hid h
    have ⟨x1, x2, x3⟩ := ivC_le ha
    have ⟨y1, y2, y3⟩ := ivC_le hbb
    clear h ha hbb
    have ⟨a0, a1, a2, a3, a4⟩ := P1.out
    have ⟨b0, b1, b2, b3, b4⟩ := P2.out
    go_wp2_with fail
    refine (order_any _ al ah bl bh).mono ?_
    rintro e w2 ⟨rfl, hb⟩
    have B2 := Lib.hid (sbtr B1.out hb)
    have Q1 := Lib.hid (P1.out.via hb)
    have Q2 := Lib.hid (P2.out.via hb)
    have Q3 := Lib.hid (P3.out.via hb)
    clear hb a0 a1 a2 a3 a4 b0 b1 b2 b3 b4
    have ⟨a0, a1, a2, a3, a4⟩ := Q1.out
    have ⟨b0, b1, b2, b3, b4⟩ := Q2.out
    have ⟨r0, r1, r2, r3, r4⟩ := Q3.out
    by_cases g : ah < bl ∨ bh < al
    · have HM := Lib.hid (meet_no g)
      rcases ord_no g with ho | ho
      · rw [ho]
        clear ho g
        go_wp2
        exact post_iv Tryz.results10 rfl rfl (Q3.out.set _ _) ⟨ret_out ((j2_ok HH.out).trans HM.out), below_set2 B2.out (by omega) _ _⟩
      · rw [ho]
        clear ho g
        go_wp2
        exact post_iv Tryz.results10 rfl rfl (Q3.out.set _ _) ⟨ret_out ((j2_ok HH.out).trans HM.out), below_set2 B2.out (by omega) _ _⟩
    · have HM := Lib.hid (meet_yes g)
      rw [ord_yes g]
      go_wp2_with fail
      all_goals
        refine (smade_any _ _ _ (by omega)).mono ?_
        rintro e w3 ⟨rfl, hb⟩
        have B3 := Lib.hid (sbtr B2.out hb)
        have P5 := Lib.hid (Q3.out.via hb)
        clear hb r0 r1 r2 r3 r4 a0 a1 a2 a3 a4 b0 b1 b2 b3 b4
        have ⟨r0, r1, r2, r3, r4⟩ := P5.out
        go_wp2
        exact post_iv Tryz.results10 rfl rfl (P5.out.set _ _) ⟨ret_mk ((mk_eq (by omega) (by omega)).trans (HM.out.symm.trans (j2_ok HH.out).symm)), below_set2 B3.out (by omega) _ _⟩
  · rw [h]
    have HH := Lib.hid h
    clear h
    have ⟨r0, r1, r2, r3, r4⟩ := P3.out
    go_wp2
    exact post_iv Tryz.results10 rfl rfl (P3.out.set _ _) ⟨by rw [j2_bad HH.out]; rfl, below_set2 B1.out (by omega) _ _⟩
end Go.Proofs.YtegnaknoaflppaaGreatDoor

/- Intervals: times, quotient, Mul and Div of package span. -/
namespace Go.Proofs.YtegnaknoaflppaaGreatDoor
open Go.RowKit

def mulLo (al ah bl bh : Int) : Int := mn4 (al * bl) (al * bh) (ah * bl) (ah * bh) / 1099511627776
def mulHi (al ah bl bh : Int) : Int := cdiv (mx4 (al * bl) (al * bh) (ah * bl) (ah * bh)) 1099511627776
theorem mul_le (al ah bl bh : Int) : mulLo al ah bl bh ≤ mulHi al ah bl bh := by
  unfold mulLo mulHi
  have h : mn4 (al * bl) (al * bh) (ah * bl) (ah * bh) ≤ mx4 (al * bl) (al * bh) (ah * bl) (ah * bh) := mn_mx (Int.le_refl _) (Int.le_refl _) (Int.le_refl _) (Int.le_refl _)
  exact Int.le_trans (fdiv_le_cdiv (by omega)) (cdiv_mono (by omega) h)
/-- The ends of the quotients, the divisors greater than 0. -/
def dvLo (p q c d : Int) : Int := mn4 (p / c) (p / d) (q / c) (q / d)
def dvHi (p q c d : Int) : Int := mx4 (cdiv p c) (cdiv p d) (cdiv q c) (cdiv q d)
theorem dv_le {p q c d : Int} (hc : 0 < c) (hd : 0 < d) : dvLo p q c d ≤ dvHi p q c d := mn_mx (fdiv_le_cdiv hc) (fdiv_le_cdiv hd) (fdiv_le_cdiv hc) (fdiv_le_cdiv hd)
def divO (al ah bl bh : Int) : Out :=
  if bl ≤ 0 ∧ 0 ≤ bh then ⟨0, 0, 18⟩ else if 0 < bl then mkI (dvLo (al * 1099511627776) (ah * 1099511627776) bl bh) (dvHi (al * 1099511627776) (ah * 1099511627776) bl bh)
    else mkI (dvLo (-(ah * 1099511627776)) (-(al * 1099511627776)) (-bh) (-bl)) (dvHi (-(ah * 1099511627776)) (-(al * 1099511627776)) (-bh) (-bl))
set_option maxRecDepth 100000 in
theorem times_ex (al ah bl bh : Int) (ha : IvIn al ah) (hb : IvIn bl bh)  :
    ∃ lo hi, lo ≤ hi ∧ cl lo = cl (mulLo al ah bl bh) ∧ cl hi = cl (mulHi al ah bl bh) ∧ ∀ w, Calls Tryz.prog 26 #[iv al ah, iv bl bh] w (RV w lo hi) := by
  obtain ⟨x1, x2, x3⟩ := ha
  obtain ⟨y1, y2, y3⟩ := hb
  obtain ⟨l0, h0, u0, q0, r0, k0⟩ := tclos_ex al bl (by omega) (by omega) (by omega) (by omega)
  obtain ⟨l1, h1, u1, q1, r1, k1⟩ := tclos_ex al bh (by omega) (by omega) (by omega) (by omega)
  obtain ⟨l2, h2, u2, q2, r2, k2⟩ := tclos_ex ah bl (by omega) (by omega) (by omega) (by omega)
  obtain ⟨l3, h3, u3, q3, r3, k3⟩ := tclos_ex ah bh (by omega) (by omega) (by omega) (by omega)
  refine ⟨mn4 l0 l1 l2 l3, mx4 h0 h1 h2 h3, mn_mx u0 u1 u2 u3, ?_, ?_, fun w => ?_⟩
  · unfold mulLo; rw [mn4_cl q0 q1 q2 q3, mn4_fdiv (by omega)]
  · unfold mulHi; rw [mx4_cl r0 r1 r2 r3, mx4_cdiv (by omega)]
  have hcf : ∀ (u v : Value) (W : World), (callFunc 50 #[u, v]).run Tryz.prog W = .ok (.enter 50 #[u, v]) W := fun u v W => by go_simp
  have J := Lib.hid (fun W => corners_any W 50 al ah bl bh l0 h0 l1 h1 l2 h2 l3 h3 hcf k0 k1 k2 k3)
  have PR := Lib.hid (Pr.new ((w.alloc (ivB al ah)).alloc (ivB bl bh)) (w.heap.size + 1 + 1) (by simp) (.int .i64 0) (.int .i64 0) 23)
  have BW : Hid (Below w.heap.size w (((w.alloc (ivB al ah)).alloc (ivB bl bh)).alloc (ivB 0 0))) := sbal (sbal (sbal (Below.refl _ _) _) _) _
  clear hcf k0 k1 k2 k3 u0 u1 u2 u3 q0 q1 q2 q3 r0 r1 r2 r3
  generalize mn4 l0 l1 l2 l3 = lo at *
  generalize mx4 h0 h1 h2 h3 = hi at *
  go_enter Tryz.func26, Tryz.ntmps26
  go_wp2_with fail
  generalize ((w.alloc (ivB al ah)).alloc (ivB bl bh)).alloc (ivB 0 0) = W0 at *
  refine (J.out _).mono ?_
  rintro e w1 ⟨rfl, hb⟩
  have P3 := Lib.hid (PR.out.via hb)
  have B1 := Lib.hid (sbtr BW.out hb)
  clear hb PR BW J
  have ⟨r0, r1, f0, f1, rl⟩ := P3.out
  go_wp2
  exact post_iv1 Tryz.results26 rfl rfl (P3.out.set _ _) ⟨rfl, below_set2 B1.out (by omega) _ _⟩
set_option maxRecDepth 100000 in
theorem quotient_pos (al ah bl bh : Int) (ha : IvIn al ah) (hb : IvIn bl bh) (hp : 0 < bl) :
    ∃ lo hi, lo ≤ hi ∧ cl lo = cl (dvLo (al * 1099511627776) (ah * 1099511627776) bl bh) ∧ cl hi = cl (dvHi (al * 1099511627776) (ah * 1099511627776) bl bh) ∧ ∀ w, Calls Tryz.prog 35 #[iv al ah, iv bl bh] w (RV w lo hi) := by
  obtain ⟨x1, x2, x3⟩ := ha
  obtain ⟨y1, y2, y3⟩ := hb
  obtain ⟨l0, h0, u0, q0, r0, k0⟩ := qclos_ex al bl (by omega) (by omega) (by omega) (by omega) (by omega)
  obtain ⟨l1, h1, u1, q1, r1, k1⟩ := qclos_ex al bh (by omega) (by omega) (by omega) (by omega) (by omega)
  obtain ⟨l2, h2, u2, q2, r2, k2⟩ := qclos_ex ah bl (by omega) (by omega) (by omega) (by omega) (by omega)
  obtain ⟨l3, h3, u3, q3, r3, k3⟩ := qclos_ex ah bh (by omega) (by omega) (by omega) (by omega) (by omega)
  have e1 : ∀ x, qn x bl = x * 1099511627776 := fun x => by unfold qn; rw [if_neg (by omega)]
  have e2 : ∀ x, qn x bh = x * 1099511627776 := fun x => by unfold qn; rw [if_neg (by omega)]
  have n1 : (bl.natAbs : Int) = bl := by omega
  have n2 : (bh.natAbs : Int) = bh := by omega
  refine ⟨mn4 l0 l1 l2 l3, mx4 h0 h1 h2 h3, mn_mx u0 u1 u2 u3, ?_, ?_, fun w => ?_⟩
  · rw [mn4_cl q0 q1 q2 q3, e1, e1, e2, e2, n1, n2]; rfl
  · rw [mx4_cl r0 r1 r2 r3, e1, e1, e2, e2, n1, n2]; rfl
  have hcf : ∀ (u v : Value) (W : World), (callFunc 56 #[u, v]).run Tryz.prog W = .ok (.enter 56 #[u, v]) W := fun u v W => by go_simp
  have J := Lib.hid (fun W => corners_any W 56 al ah bl bh l0 h0 l1 h1 l2 h2 l3 h3 hcf k0 k1 k2 k3)
  have PR := Lib.hid (Pr.new ((w.alloc (ivB al ah)).alloc (ivB bl bh)) (w.heap.size + 1 + 1) (by simp) (.int .i64 0) (.int .i64 0) 23)
  have BW : Hid (Below w.heap.size w (((w.alloc (ivB al ah)).alloc (ivB bl bh)).alloc (ivB 0 0))) := sbal (sbal (sbal (Below.refl _ _) _) _) _
  clear e1 e2 n1 n2 hcf k0 k1 k2 k3 u0 u1 u2 u3 q0 q1 q2 q3 r0 r1 r2 r3
  generalize mn4 l0 l1 l2 l3 = lo at *
  generalize mx4 h0 h1 h2 h3 = hi at *
  go_enter Tryz.func35, Tryz.ntmps35
  go_wp2_with fail
  generalize ((w.alloc (ivB al ah)).alloc (ivB bl bh)).alloc (ivB 0 0) = W0 at *
  refine (J.out _).mono ?_
  rintro e w1 ⟨rfl, hb⟩
  have P3 := Lib.hid (PR.out.via hb)
  have B1 := Lib.hid (sbtr BW.out hb)
  clear hb PR BW J
  have ⟨r0, r1, f0, f1, rl⟩ := P3.out
  go_wp2
  exact post_iv1 Tryz.results35 rfl rfl (P3.out.set _ _) ⟨rfl, below_set2 B1.out (by omega) _ _⟩
set_option maxRecDepth 100000 in
theorem quotient_neg (al ah bl bh : Int) (ha : IvIn al ah) (hb : IvIn bl bh) (hp : bh < 0) :
    ∃ lo hi, lo ≤ hi ∧ cl lo = cl (dvLo (-(ah * 1099511627776)) (-(al * 1099511627776)) (-bh) (-bl)) ∧ cl hi = cl (dvHi (-(ah * 1099511627776)) (-(al * 1099511627776)) (-bh) (-bl)) ∧ ∀ w, Calls Tryz.prog 35 #[iv al ah, iv bl bh] w (RV w lo hi) := by
  obtain ⟨x1, x2, x3⟩ := ha
  obtain ⟨y1, y2, y3⟩ := hb
  obtain ⟨l0, h0, u0, q0, r0, k0⟩ := qclos_ex al bl (by omega) (by omega) (by omega) (by omega) (by omega)
  obtain ⟨l1, h1, u1, q1, r1, k1⟩ := qclos_ex al bh (by omega) (by omega) (by omega) (by omega) (by omega)
  obtain ⟨l2, h2, u2, q2, r2, k2⟩ := qclos_ex ah bl (by omega) (by omega) (by omega) (by omega) (by omega)
  obtain ⟨l3, h3, u3, q3, r3, k3⟩ := qclos_ex ah bh (by omega) (by omega) (by omega) (by omega) (by omega)
  have e1 : ∀ x, qn x bl = -(x * 1099511627776) := fun x => by unfold qn; rw [if_pos (by omega)]
  have e2 : ∀ x, qn x bh = -(x * 1099511627776) := fun x => by unfold qn; rw [if_pos (by omega)]
  have n1 : (bl.natAbs : Int) = -bl := by omega
  have n2 : (bh.natAbs : Int) = -bh := by omega
  refine ⟨mn4 l0 l1 l2 l3, mx4 h0 h1 h2 h3, mn_mx u0 u1 u2 u3, ?_, ?_, fun w => ?_⟩
  · rw [mn4_cl q0 q1 q2 q3, e1, e1, e2, e2, n1, n2]; congr 1; unfold dvLo mn4; omega
  · rw [mx4_cl r0 r1 r2 r3, e1, e1, e2, e2, n1, n2]; congr 1; unfold dvHi mx4; omega
  have hcf : ∀ (u v : Value) (W : World), (callFunc 56 #[u, v]).run Tryz.prog W = .ok (.enter 56 #[u, v]) W := fun u v W => by go_simp
  have J := Lib.hid (fun W => corners_any W 56 al ah bl bh l0 h0 l1 h1 l2 h2 l3 h3 hcf k0 k1 k2 k3)
  have PR := Lib.hid (Pr.new ((w.alloc (ivB al ah)).alloc (ivB bl bh)) (w.heap.size + 1 + 1) (by simp) (.int .i64 0) (.int .i64 0) 23)
  have BW : Hid (Below w.heap.size w (((w.alloc (ivB al ah)).alloc (ivB bl bh)).alloc (ivB 0 0))) := sbal (sbal (sbal (Below.refl _ _) _) _) _
  clear e1 e2 n1 n2 hcf k0 k1 k2 k3 u0 u1 u2 u3 q0 q1 q2 q3 r0 r1 r2 r3
  generalize mn4 l0 l1 l2 l3 = lo at *
  generalize mx4 h0 h1 h2 h3 = hi at *
  go_enter Tryz.func35, Tryz.ntmps35
  go_wp2_with fail
  generalize ((w.alloc (ivB al ah)).alloc (ivB bl bh)).alloc (ivB 0 0) = W0 at *
  refine (J.out _).mono ?_
  rintro e w1 ⟨rfl, hb⟩
  have P3 := Lib.hid (PR.out.via hb)
  have B1 := Lib.hid (sbtr BW.out hb)
  clear hb PR BW J
  have ⟨r0, r1, f0, f1, rl⟩ := P3.out
  go_wp2
  exact post_iv1 Tryz.results35 rfl rfl (P3.out.set _ _) ⟨rfl, below_set2 B1.out (by omega) _ _⟩
theorem j2_bad2 {al ah bl bh : Int} (o o' : Out) (h : ivB2 al ah bl bh = 8) : j2 al ah bl bh o = j2 al ah bl bh o' := by rw [j2_bad h, j2_bad h]
set_option maxRecDepth 100000 in
theorem smulp_any (w : World) (al ah bl bh : Int) : Calls Tryz.prog 8 #[iv al ah, iv bl bh] w (RO w (j2 al ah bl bh (mkI (mulLo al ah bl bh) (mulHi al ah bl bh)))) := by
  have hcf : ∀ (u v : Value) (W : World), (callFunc 26 #[u, v]).run Tryz.prog W = .ok (.enter 26 #[u, v]) W := fun u v W => by go_simp
  have hJ : ∀ W, Calls Tryz.prog 24 #[iv al ah, iv bl bh, .func (.func 26) #[] #[]] W (RO W (j2 al ah bl bh (mkI (mulLo al ah bl bh) (mulHi al ah bl bh)))) := fun W => by
    rcases ivB2_cases al ah bl bh with ⟨h, ha, hb⟩ | h
    · obtain ⟨lo, hi, h1, h2, h3, h4⟩ := times_ex al ah bl bh (ivIn_of ha) (ivIn_of hb)
      rw [← mkI_cl h2 h3 h1 (mul_le _ _ _ _)]
      exact join_any W 26 al ah bl bh lo hi hcf fun _ _ => ⟨h1, h4⟩
    · rw [j2_bad2 _ (mkI 0 0) h]
      exact join_any W 26 al ah bl bh 0 0 hcf fun ha hb => by rw [ivB2_ok ha, hb] at h; cases h
  have J := Lib.hid hJ
  clear hJ hcf
  generalize j2 al ah bl bh (mkI (mulLo al ah bl bh) (mulHi al ah bl bh)) = o at *
  have PR := Lib.hid (Pr.new ((w.alloc (ivB al ah)).alloc (ivB bl bh)) (w.heap.size + 1 + 1) (by simp) (.int .i64 0) (.int .i64 0) 23)
  have BW : Hid (Below w.heap.size w (((w.alloc (ivB al ah)).alloc (ivB bl bh)).alloc (ivB 0 0))) := sbal (sbal (sbal (Below.refl _ _) _) _) _
  go_enter Tryz.func8, Tryz.ntmps8
  go_wp2_with fail
  generalize ((w.alloc (ivB al ah)).alloc (ivB bl bh)).alloc (ivB 0 0) = W0 at *
  refine (J.out _).mono ?_
  rintro e w1 ⟨rfl, hb⟩
  have P3 := Lib.hid (PR.out.via hb)
  have B1 := Lib.hid (sbtr BW.out hb)
  clear hb PR BW J
  have ⟨r0, r1, f0, f1, rl⟩ := P3.out
  go_wp2
  exact post_iv Tryz.results8 rfl rfl (P3.out.set _ _) ⟨rfl, below_set2 B1.out (by omega) _ _⟩
set_option maxRecDepth 100000 in
set_option maxHeartbeats 1000000 in
theorem sdiv_any (w : World) (al ah bl bh : Int) : Calls Tryz.prog 12 #[iv al ah, iv bl bh] w (RO w (j2 al ah bl bh (divO al ah bl bh))) := by
  have PA := Lib.hid (((Pr.new w (w.heap.size) rfl (.int .i64 al) (.int .i64 ah) 23).alloc (ivB bl bh)).alloc (ivB 0 0))
  have PB := Lib.hid ((Pr.new (w.alloc (ivB al ah)) (w.heap.size + 1) (by simp) (.int .i64 bl) (.int .i64 bh) 23).alloc (ivB 0 0))
  have PR := Lib.hid (Pr.new ((w.alloc (ivB al ah)).alloc (ivB bl bh)) (w.heap.size + 1 + 1) (by simp) (.int .i64 0) (.int .i64 0) 23)
  have BW : Hid (Below w.heap.size w (((w.alloc (ivB al ah)).alloc (ivB bl bh)).alloc (ivB 0 0))) := (sbal (sbal (sbal (Below.refl _ _) _) _) _)
  have hs : (((w.alloc (ivB al ah)).alloc (ivB bl bh)).alloc (ivB 0 0)).heap.size = w.heap.size + 1 + 1 + 1 := by simp
  have HS := Lib.hid hs
  clear hs
  go_enter Tryz.func12, Tryz.ntmps12
  go_wp2_with fail
  generalize ((w.alloc (ivB al ah)).alloc (ivB bl bh)).alloc (ivB 0 0) = W0 at *
  refine (checkall_any _ _ al ah bl bh (C4.new W0 _ HS.out _ _ _ _ _)).mono ?_
  rintro e w1 ⟨rfl, hb⟩
  have P1 := Lib.hid (PA.out.via (bbox hb))
  have P2 := Lib.hid (PB.out.via (bbox hb))
  have P3 := Lib.hid (PR.out.via (bbox hb))
  have B1 := Lib.hid (sbtr BW.out (bbox hb))
  clear hb PA PB PR BW HS
  rcases ivB2_cases al ah bl bh with ⟨h, ha, hbb⟩ | h
  · rw [h]
    have HH := Lib.hid h
    have HA := Lib.hid ha
    have HB := Lib.hid hbb
    have ⟨x1, x2, x3⟩ := ivC_le ha
    have ⟨y1, y2, y3⟩ := ivC_le hbb
    clear h ha hbb
    have ⟨a0, a1, a2, a3, a4⟩ := P1.out
    have ⟨b0, b1, b2, b3, b4⟩ := P2.out
    by_cases g1 : bl ≤ 0
    · by_cases g2 : 0 ≤ bh
      · have HM : Hid (divO al ah bl bh = ⟨0, 0, 18⟩) := by show _ = _; unfold divO; rw [if_pos ⟨g1, g2⟩]
        have ⟨r0, r1, r2, r3, r4⟩ := P3.out
        go_wp2
        exact post_iv Tryz.results12 rfl rfl (P3.out.set _ _) ⟨ret_out ((j2_ok HH.out).trans HM.out), below_set2 B1.out (by omega) _ _⟩
      · obtain ⟨lo, hi, h1, h2, h3, h4⟩ := quotient_neg al ah bl bh (ivIn_of HA.out) (ivIn_of HB.out) (by omega)
        have HM : Hid (divO al ah bl bh = mkI lo hi) := by show _ = _; unfold divO; rw [if_neg (by omega), if_neg (by omega), mkI_cl h2 h3 h1 (dv_le (by omega) (by omega))]
        have HQ := Lib.hid h4
        clear h2 h3 h4 HA HB
        have hd : decide (0 ≤ bh) = false := decide_eq_false g2
        go_wp2_with fail
        refine (HQ.out _).mono ?_
        rintro e w2 ⟨rfl, hb⟩
        have B2 := Lib.hid (sbtr B1.out hb)
        have Q3 := Lib.hid (P3.out.via hb)
        clear hb HQ a0 a1 a2 a3 a4 b0 b1 b2 b3 b4
        go_wp2_with fail
        refine (smade_any _ lo hi h1).mono ?_
        rintro e w3 ⟨rfl, hb⟩
        have B3 := Lib.hid (sbtr B2.out hb)
        have P5 := Lib.hid (Q3.out.via hb)
        clear hb
        have ⟨r0, r1, r2, r3, r4⟩ := P5.out
        go_wp2
        exact post_iv Tryz.results12 rfl rfl (P5.out.set _ _) ⟨ret_mk (HM.out.symm.trans (j2_ok HH.out).symm), below_set2 B3.out (by omega) _ _⟩
    · obtain ⟨lo, hi, h1, h2, h3, h4⟩ := quotient_pos al ah bl bh (ivIn_of HA.out) (ivIn_of HB.out) (by omega)
      have HM : Hid (divO al ah bl bh = mkI lo hi) := by show _ = _; unfold divO; rw [if_neg (by omega), if_pos (by omega), mkI_cl h2 h3 h1 (dv_le (by omega) (by omega))]
      have HQ := Lib.hid h4
      clear h2 h3 h4 HA HB
      have hd : decide (bl ≤ 0) = false := decide_eq_false g1
      go_wp2_with fail
      refine (HQ.out _).mono ?_
      rintro e w2 ⟨rfl, hb⟩
      have B2 := Lib.hid (sbtr B1.out hb)
      have Q3 := Lib.hid (P3.out.via hb)
      clear hb HQ a0 a1 a2 a3 a4 b0 b1 b2 b3 b4
      go_wp2_with fail
      refine (smade_any _ lo hi h1).mono ?_
      rintro e w3 ⟨rfl, hb⟩
      have B3 := Lib.hid (sbtr B2.out hb)
      have P5 := Lib.hid (Q3.out.via hb)
      clear hb
      have ⟨r0, r1, r2, r3, r4⟩ := P5.out
      go_wp2
      exact post_iv Tryz.results12 rfl rfl (P5.out.set _ _) ⟨ret_mk (HM.out.symm.trans (j2_ok HH.out).symm), below_set2 B3.out (by omega) _ _⟩
  · rw [h]
    have HH := Lib.hid h
    clear h
    have ⟨r0, r1, r2, r3, r4⟩ := P3.out
    go_wp2
    exact post_iv Tryz.results12 rfl rfl (P3.out.set _ _) ⟨by rw [j2_bad HH.out]; rfl, below_set2 B1.out (by omega) _ _⟩
end Go.Proofs.YtegnaknoaflppaaGreatDoor

/- Intervals: less of the reference. -/
namespace Go.Proofs.YtegnaknoaflppaaGreatDoor
open Go.RowKit

def RB1 (w : World) (v : Bool) (e : Ending) (w' : World) : Prop := e = .returned (.bool v) ∧ Below w.heap.size w w'
def ltB (H L H' L' : Nat) : Bool := decide (H < H') || (decide (H = H') && decide (L < L'))
theorem sdrew {B : Nat} {a w : World} (h : Below B a w) : Below B a w.drew := bdrewN h 1
theorem ltB_iff (N M : Nat) : ltB (N / 18446744073709551616) (N % 18446744073709551616) (M / 18446744073709551616) (M % 18446744073709551616) = decide (N < M) := by
  unfold ltB
  by_cases h : N < M
  · rw [decide_eq_true h]
    by_cases h1 : N / 18446744073709551616 < M / 18446744073709551616
    · rw [decide_eq_true h1]; rfl
    · have h2 : N / 18446744073709551616 = M / 18446744073709551616 := by omega
      have h3 : N % 18446744073709551616 < M % 18446744073709551616 := by omega
      rw [decide_eq_true h2, decide_eq_true h3]; simp
  · rw [decide_eq_false h]
    have h1 : ¬ N / 18446744073709551616 < M / 18446744073709551616 := by omega
    rw [decide_eq_false h1]
    by_cases h2 : N / 18446744073709551616 = M / 18446744073709551616
    · have h3 : ¬ N % 18446744073709551616 < M % 18446744073709551616 := by omega
      rw [decide_eq_false h3]; simp
    · rw [decide_eq_false h2]; rfl
theorem sgT_pos {x y : Int} (h : sgT x y = true) : 0 < x.natAbs * y.natAbs := ((sgT_iff x y).1 h).2
end Go.Proofs.YtegnaknoaflppaaGreatDoor

/- Intervals: ends of the reference. -/
namespace Go.Proofs.YtegnaknoaflppaaGreatDoor
open Go.RowKit

/-- Block g has twelve cells that hold these values, and may be written. -/
structure D12 (w : World) (g : Nat) (vs : List Value) : Prop where
  len : vs.length = 12
  at_ : ∀ j (h : j < vs.length), w.cell? ⟨g, j, none⟩ = some vs[j]
  free : ∀ j, j < 12 → w.frozen? ⟨g, j, none⟩ = false
  lt : g < w.heap.size
theorem D12.via {w w' : World} {g : Nat} {vs : List Value} (p : D12 w g vs) (hb : Below w.heap.size w w') : D12 w' g vs :=
  ⟨p.len, fun j h => (hb.cell (p := ⟨g, j, none⟩) p.lt).trans (p.at_ j h), fun j h => (hb.frozen (p := ⟨g, j, none⟩) p.lt).trans (p.free j h), Nat.lt_of_lt_of_le p.lt hb.size⟩
theorem D12.alloc {w : World} {g : Nat} {vs : List Value} (p : D12 w g vs) (o : Obj) : D12 (w.alloc o) g vs := p.via ((Below.refl _ _).alloc (Nat.le_refl _) o)
theorem D12.drew {w : World} {g : Nat} {vs : List Value} (p : D12 w g vs) : D12 w.drew g vs := ⟨p.len, p.at_, p.free, p.lt⟩
theorem D12.new (w : World) (k : Nat) (hk : w.heap.size = k) (v0 v1 v2 v3 v4 v5 v6 v7 v8 v9 v10 v11 : Value) (t : TypeId) : D12 (w.alloc (.cells #[v0, v1, v2, v3, v4, v5, v6, v7, v8, v9, v10, v11] t)) k [v0, v1, v2, v3, v4, v5, v6, v7, v8, v9, v10, v11] := by
  subst hk
  refine ⟨rfl, fun j h => ?_, fun j h => ?_, by simp⟩
  · simp only [List.length_cons, List.length_nil] at h
    rcases (show j = 0 ∨ j = 1 ∨ j = 2 ∨ j = 3 ∨ j = 4 ∨ j = 5 ∨ j = 6 ∨ j = 7 ∨ j = 8 ∨ j = 9 ∨ j = 10 ∨ j = 11 by omega) with rfl | rfl | rfl | rfl | rfl | rfl | rfl | rfl | rfl | rfl | rfl | rfl <;> go_simp
  · rcases (show j = 0 ∨ j = 1 ∨ j = 2 ∨ j = 3 ∨ j = 4 ∨ j = 5 ∨ j = 6 ∨ j = 7 ∨ j = 8 ∨ j = 9 ∨ j = 10 ∨ j = 11 by omega) with rfl | rfl | rfl | rfl | rfl | rfl | rfl | rfl | rfl | rfl | rfl | rfl <;> go_simp
theorem D12.raw {w : World} {g : Nat} {v0 v1 v2 v3 v4 v5 v6 v7 v8 v9 v10 v11 : Value} (p : D12 w g [v0, v1, v2, v3, v4, v5, v6, v7, v8, v9, v10, v11]) : w.cell? ⟨g, 0, none⟩ = some v0 ∧ w.cell? ⟨g, 1, none⟩ = some v1 ∧ w.cell? ⟨g, 2, none⟩ = some v2 ∧ w.cell? ⟨g, 3, none⟩ = some v3 ∧ w.cell? ⟨g, 4, none⟩ = some v4 ∧ w.cell? ⟨g, 5, none⟩ = some v5 ∧ w.cell? ⟨g, 6, none⟩ = some v6 ∧ w.cell? ⟨g, 7, none⟩ = some v7 ∧ w.cell? ⟨g, 8, none⟩ = some v8 ∧ w.cell? ⟨g, 9, none⟩ = some v9 ∧ w.cell? ⟨g, 10, none⟩ = some v10 ∧ w.cell? ⟨g, 11, none⟩ = some v11 ∧ w.frozen? ⟨g, 0, none⟩ = false ∧ w.frozen? ⟨g, 1, none⟩ = false ∧ w.frozen? ⟨g, 2, none⟩ = false ∧ w.frozen? ⟨g, 3, none⟩ = false ∧ w.frozen? ⟨g, 4, none⟩ = false ∧ w.frozen? ⟨g, 5, none⟩ = false ∧ w.frozen? ⟨g, 6, none⟩ = false ∧ w.frozen? ⟨g, 7, none⟩ = false ∧ w.frozen? ⟨g, 8, none⟩ = false ∧ w.frozen? ⟨g, 9, none⟩ = false ∧ w.frozen? ⟨g, 10, none⟩ = false ∧ w.frozen? ⟨g, 11, none⟩ = false :=
  ⟨p.at_ 0 (by simp), p.at_ 1 (by simp), p.at_ 2 (by simp), p.at_ 3 (by simp), p.at_ 4 (by simp), p.at_ 5 (by simp), p.at_ 6 (by simp), p.at_ 7 (by simp), p.at_ 8 (by simp), p.at_ 9 (by simp), p.at_ 10 (by simp), p.at_ 11 (by simp), p.free 0 (by omega), p.free 1 (by omega), p.free 2 (by omega), p.free 3 (by omega), p.free 4 (by omega), p.free 5 (by omega), p.free 6 (by omega), p.free 7 (by omega), p.free 8 (by omega), p.free 9 (by omega), p.free 10 (by omega), p.free 11 (by omega)⟩
theorem size_setCells (b : Nat) : ∀ (vs : List Value) (o : Nat) (w : World), (w.setCells b o vs).heap.size = w.heap.size
  | [], _, _ => rfl
  | v :: r, o, w => by rw [World.setCells, size_setCells b r]; simp [World.size_setCell]
theorem D12.set {w : World} {g : Nat} {vs : List Value} (p : D12 w g vs) (us : List Value) (hu : us.length = 12) : D12 (w.setCells g 0 us) g us :=
  ⟨hu, fun j h => by
    have := World.cell?_setCells_in g us 0 w (fun i hi => by rw [Nat.zero_add, p.at_ i (by rw [p.len]; omega)]; rfl) j h
    rwa [Nat.zero_add] at this, fun j h => by rw [World.frozen?_setCells]; exact p.free j h, by rw [size_setCells]; exact p.lt⟩
theorem below_setCells {B g : Nat} (hg : B ≤ g) : ∀ (vs : List Value) (o : Nat) (w w1 : World), Below B w w1 → Below B w (w1.setCells g o vs)
  | [], _, _, _, h => h
  | v :: r, o, w, _, h => below_setCells hg r (o + 1) w _ (h.setCell (p := ⟨g, o, none⟩) hg v)
theorem set12_eq (w : World) (g : Nat) (v0 v1 v2 v3 v4 v5 v6 v7 v8 v9 v10 v11 : Value) : (((((((((((w.setCell ⟨g, 0, none⟩ v0).setCell ⟨g, 1, none⟩ v1).setCell ⟨g, 2, none⟩ v2).setCell ⟨g, 3, none⟩ v3).setCell ⟨g, 4, none⟩ v4).setCell ⟨g, 5, none⟩ v5).setCell ⟨g, 6, none⟩ v6).setCell ⟨g, 7, none⟩ v7).setCell ⟨g, 8, none⟩ v8).setCell ⟨g, 9, none⟩ v9).setCell ⟨g, 10, none⟩ v10).setCell ⟨g, 11, none⟩ v11 = w.setCells g 0 [v0, v1, v2, v3, v4, v5, v6, v7, v8, v9, v10, v11] := rfl
/-- The first slot points to the four products. -/
def EndsAt (W : World) (us : List Value) (s : Value) (wx : World) : Prop := ∃ g, s = .pointer (some ⟨g, 0, none⟩) ∧ D12 wx g us ∧ W.heap.size ≤ g ∧ Below W.heap.size W wx
theorem efin1 {W w : World} (hB : Below W.heap.size W w) (v0 v1 v2 v3 v4 v5 v6 v7 v8 v9 v10 v11 : Value) (t : TypeId) : EndsAt W [v0, v1, v2, v3, v4, v5, v6, v7, v8, v9, v10, v11] (.pointer (some ⟨w.heap.size, 0, none⟩)) (w.alloc (.cells #[v0, v1, v2, v3, v4, v5, v6, v7, v8, v9, v10, v11] t)) :=
  ⟨_, rfl, D12.new w _ rfl v0 v1 v2 v3 v4 v5 v6 v7 v8 v9 v10 v11 t, hB.size, sbal hB _⟩
theorem efin2 {W w : World} {g : Nat} {zs : List Value} (hB : Below W.heap.size W w) (p : D12 w g zs) (hg : W.heap.size ≤ g) (v0 v1 v2 v3 v4 v5 v6 v7 v8 v9 v10 v11 : Value) : EndsAt W [v0, v1, v2, v3, v4, v5, v6, v7, v8, v9, v10, v11] (.pointer (some ⟨g, 0, none⟩)) (w.setCells g 0 [v0, v1, v2, v3, v4, v5, v6, v7, v8, v9, v10, v11]) :=
  ⟨_, rfl, p.set _ rfl, hg, below_setCells hg _ _ _ _ hB⟩
/-- The number of a product of two words. -/
def sv (s : Bool) (H L : Nat) : Int := sgn s (H * 18446744073709551616 + L)
/-- A product as the reference has it. -/
structure Lg (s : Bool) (H L : Nat) : Prop where
  pos : s = true → 0 < H * 18446744073709551616 + L
  low : L < 18446744073709551616
abbrev lv (s : Bool) (H L : Nat) : Value := .agg #[.bool s, .int .u64 (H : Int), .int .u64 (L : Int)]
def RLg (w : World) (s : Bool) (H L : Nat) (e : Ending) (w' : World) : Prop := e = .returned (lv s H L) ∧ Below w.heap.size w w'
theorem split_hl (H : Nat) {L : Nat} (h : L < 18446744073709551616) : (H * 18446744073709551616 + L) / 18446744073709551616 = H ∧ (H * 18446744073709551616 + L) % 18446744073709551616 = L := by omega
theorem C3.setC {w : World} {g : Nat} {x0 x1 x2 : Value} (p : C3 w g x0 x1 x2) (y0 y1 y2 : Value) : C3 (w.setCells g 0 [y0, y1, y2]) g y0 y1 y2 := by
  have h := World.cell?_setCells_in g [y0, y1, y2] 0 w (fun i hi => by
    simp at hi
    rcases (show i = 0 ∨ i = 1 ∨ i = 2 by omega) with rfl | rfl | rfl
    · rw [Nat.zero_add, p.c0]; rfl
    · rw [Nat.zero_add, p.c1]; rfl
    · rw [Nat.zero_add, p.c2]; rfl)
  exact ⟨h 0 (by simp), h 1 (by simp), h 2 (by simp), by rw [World.frozen?_setCells]; exact p.f0, by rw [World.frozen?_setCells]; exact p.f1, by rw [World.frozen?_setCells]; exact p.f2, by rw [size_setCells]; exact p.lt⟩
theorem far_cell {w : World} {g h : Nat} (hne : g ≠ h) (vs : List Value) (j : Nat) : (w.setCells h 0 vs).cell? ⟨g, j, none⟩ = w.cell? ⟨g, j, none⟩ :=
  World.cell?_setCells_out h vs 0 w ⟨g, j, none⟩ (fun e => absurd e hne)
theorem C3.farC {w : World} {g h : Nat} {x0 x1 x2 : Value} (p : C3 w g x0 x1 x2) (hne : g ≠ h) (vs : List Value) : C3 (w.setCells h 0 vs) g x0 x1 x2 :=
  ⟨(far_cell hne vs 0).trans p.c0, (far_cell hne vs 1).trans p.c1, (far_cell hne vs 2).trans p.c2, by rw [World.frozen?_setCells]; exact p.f0, by rw [World.frozen?_setCells]; exact p.f1, by rw [World.frozen?_setCells]; exact p.f2, by rw [size_setCells]; exact p.lt⟩
theorem D12.farC {w : World} {g h : Nat} {us : List Value} (p : D12 w g us) (hne : g ≠ h) (vs : List Value) : D12 (w.setCells h 0 vs) g us :=
  ⟨p.len, fun j hj => (far_cell hne vs j).trans (p.at_ j hj), fun j hj => by rw [World.frozen?_setCells]; exact p.free j hj, by rw [size_setCells]; exact p.lt⟩
theorem set3_eq (w : World) (g : Nat) (x y z : Value) : ((w.setCell ⟨g, 0, none⟩ x).setCell ⟨g, 1, none⟩ y).setCell ⟨g, 2, none⟩ z = w.setCells g 0 [x, y, z] := rfl
theorem tfin1 {w : World} {g : Nat} (hg : g < w.heap.size) (x y z : Value) (t : TypeId) : ∃ p q, (Value.pointer (some ⟨w.heap.size, 0, none⟩)) = .pointer (some ⟨p, 0, none⟩) ∧ (Value.pointer (some ⟨w.heap.size + 1, 0, none⟩)) = .pointer (some ⟨q, 0, none⟩) ∧ C3 (((w.alloc (.cells #[x, y, z] t)).alloc (.cells #[x, y, z] t)).drew) p x y z ∧ C3 (((w.alloc (.cells #[x, y, z] t)).alloc (.cells #[x, y, z] t)).drew) q x y z ∧ p ≠ q ∧ g < p ∧ g < q ∧ Below w.heap.size w (((w.alloc (.cells #[x, y, z] t)).alloc (.cells #[x, y, z] t)).drew) :=
  ⟨_, _, rfl, rfl, ((C3.new w _ rfl x y z t).alloc _).drewN 1, (C3.new (w.alloc _) _ (by simp) x y z t).drewN 1, by omega, by omega, by omega, bdrewN (sbal (sbal (Below.refl _ _) _) _) 1⟩
theorem tfin2 {w : World} {g : Nat} (hg : g < w.heap.size) (x y z : Value) (t : TypeId) : ∃ p q, (Value.pointer (some ⟨w.heap.size + 1, 0, none⟩)) = .pointer (some ⟨p, 0, none⟩) ∧ (Value.pointer (some ⟨w.heap.size, 0, none⟩)) = .pointer (some ⟨q, 0, none⟩) ∧ C3 (((w.alloc (.cells #[x, y, z] t)).alloc (.cells #[x, y, z] t)).drew) p x y z ∧ C3 (((w.alloc (.cells #[x, y, z] t)).alloc (.cells #[x, y, z] t)).drew) q x y z ∧ p ≠ q ∧ g < p ∧ g < q ∧ Below w.heap.size w (((w.alloc (.cells #[x, y, z] t)).alloc (.cells #[x, y, z] t)).drew) :=
  ⟨_, _, rfl, rfl, (C3.new (w.alloc _) _ (by simp) x y z t).drewN 1, ((C3.new w _ rfl x y z t).alloc _).drewN 1, by omega, by omega, by omega, bdrewN (sbal (sbal (Below.refl _ _) _) _) 1⟩
/-- The least and the greatest of four numbers are returned as products. -/
def RE2 (w : World) (v0 v1 v2 v3 : Int) (e : Ending) (w' : World) : Prop := ∃ s H L s' H' L', Lg s H L ∧ Lg s' H' L' ∧ sv s H L = mn4 v0 v1 v2 v3 ∧ sv s' H' L' = mx4 v0 v1 v2 v3 ∧ e = .returned (.tuple #[lv s H L, lv s' H' L']) ∧ Below w.heap.size w w'
end Go.Proofs.YtegnaknoaflppaaGreatDoor

/- Intervals: Mul of the reference. -/
namespace Go.Proofs.YtegnaknoaflppaaGreatDoor
open Go.RowKit

theorem mkI_cl2 {lo hi lo' hi' : Int} (h1 : cl lo = cl lo') (h2 : cl hi = cl hi') (h4 : lo' ≤ hi') : mkI lo hi = mkI lo' hi' := by
  unfold mkI cl at *
  by_cases h : lo' < -2305843009213693952 ∨ 2305843009213693952 < hi'
  · rw [if_pos (show lo < -2305843009213693952 ∨ 2305843009213693952 < hi by omega), if_pos h]
  · have h5 : ¬ (lo < -2305843009213693952 ∨ 2305843009213693952 < hi) := by omega
    rw [if_neg h5, if_neg h]
    have e1 : lo = lo' := by omega
    have e2 : hi = hi' := by omega
    rw [e1, e2]
theorem C3.far2 {w : World} {g h : Nat} {x0 x1 x2 : Value} (p : C3 w g x0 x1 x2) (hne : g ≠ h) (x y : Value) : C3 ((w.setCell ⟨h, 0, none⟩ x).setCell ⟨h, 1, none⟩ y) g x0 x1 x2 := p.farC hne [x, y]
end Go.Proofs.YtegnaknoaflppaaGreatDoor

/- Intervals: made where the ends may be far out; rising; Sq on both sides. -/
namespace Go.Proofs.YtegnaknoaflppaaGreatDoor
open Go.RowKit

set_option maxRecDepth 100000 in
theorem smade_bad (w : World) (lo hi : Int) (h : ivC lo hi = 8) : Calls Tryz.prog 27 #[iv lo hi] w (RO w ⟨0, 0, 16⟩) := by
  have PA := Lib.hid ((Pr.new w w.heap.size rfl (.int .i64 lo) (.int .i64 hi) 23).alloc (ivB 0 0))
  have PB := Lib.hid (Pr.new (w.alloc (ivB lo hi)) (w.heap.size + 1) (by simp) (.int .i64 0) (.int .i64 0) 23)
  have H := Lib.hid h
  clear h
  go_enter Tryz.func27, Tryz.ntmps27
  go_wp2_with fail
  refine (scheck_any _ lo hi).mono ?_
  rintro e w1 ⟨rfl, hb⟩
  have P1 := Lib.hid (PA.out.via hb)
  have P2 := Lib.hid (PB.out.via hb)
  have B1 := Lib.hid (bbox (bbox hb))
  clear hb PA PB
  rw [H.out]
  have ⟨a0, a1, _, _, _⟩ := P1.out
  have ⟨b0, b1, f0, f1, bl⟩ := P2.out
  go_wp2
  exact post_iv Tryz.results27 rfl rfl (P2.out.set _ _) ⟨rfl, below_set2 B1.out (by omega) _ _⟩
theorem smade2_any (w : World) (lo hi : Int) (h : lo ≤ hi ∨ lo < -2305843009213693952 ∨ 2305843009213693952 < hi) : Calls Tryz.prog 27 #[iv lo hi] w (RO w (mkI lo hi)) := by
  by_cases hle : lo ≤ hi
  · exact smade_any w lo hi hle
  · rw [mkI_out (by omega)]
    exact smade_bad w lo hi (ivC_bad (by omega))
theorem cl_le_or {a b e f : Int} (h1 : cl a = cl e) (h2 : cl b = cl f) (h : e ≤ f) : a ≤ b ∨ a < -2305843009213693952 ∨ 2305843009213693952 < b := by
  unfold cl at *; omega
set_option maxRecDepth 100000 in
set_option maxHeartbeats 1000000 in
theorem change2_any (w : World) (f : FuncId) (al ah lo hi : Int) (hcf : ∀ (u : Value) (W : World), (callFunc f #[u]).run Tryz.prog W = .ok (.enter f #[u]) W)
    (H : ivC al ah = 0 → (lo ≤ hi ∨ lo < -2305843009213693952 ∨ 2305843009213693952 < hi) ∧ ∀ W, Calls Tryz.prog f #[iv al ah] W (RV W lo hi)) :
    Calls Tryz.prog 40 #[iv al ah, .func (.func f) #[] #[]] w (RO w (j1 al ah (mkI lo hi))) := by
  have HH := Lib.hid H
  have PA := Lib.hid ((Pr.new w w.heap.size rfl (.int .i64 al) (.int .i64 ah) 23).alloc (ivB 0 0))
  have PR := Lib.hid (Pr.new (w.alloc (ivB al ah)) (w.heap.size + 1) (by simp) (.int .i64 0) (.int .i64 0) 23)
  have BW : Hid (Below w.heap.size w ((w.alloc (ivB al ah)).alloc (ivB 0 0))) := sbal (sbal (Below.refl _ _) _) _
  clear H
  go_enter Tryz.func40, Tryz.ntmps40
  go_wp2_with fail
  generalize (w.alloc (ivB al ah)).alloc (ivB 0 0) = W0 at *
  refine (scheck_any _ al ah).mono ?_
  rintro e w1 ⟨rfl, hb⟩
  have P1 := Lib.hid (PA.out.via hb)
  have P3 := Lib.hid (PR.out.via hb)
  have B1 := Lib.hid (sbtr BW.out hb)
  clear hb PA PR BW
  rcases ivC_cases al ah with ⟨h, _⟩ | ⟨h, _⟩
  · have e : j1 al ah (mkI lo hi) = mkI lo hi := by unfold j1; rw [if_pos h]
    rw [h]
    have E := Lib.hid e
    obtain ⟨hle, hc⟩ := HH.out h
    have HC := Lib.hid hc
    have ⟨a0, a1, _, _, _⟩ := P1.out
    clear h hc e HH
    go_wp2_with fail
    refine (HC.out _).mono ?_
    rintro e w2 ⟨rfl, hb⟩
    have B2 := Lib.hid (sbtr B1.out hb)
    have P4 := Lib.hid (P3.out.via hb)
    clear hb a0 a1 B1
    go_wp2_with fail
    refine (smade2_any _ lo hi hle).mono ?_
    rintro e w3 ⟨rfl, hb⟩
    have B3 := Lib.hid (sbtr B2.out hb)
    have P5 := Lib.hid (P4.out.via hb)
    clear hb B2 hcf
    have ⟨r0, r1, f0, f1, rl⟩ := P5.out
    go_wp2
    exact post_iv Tryz.results40 rfl rfl (P5.out.set _ _) ⟨by rw [E.out]; rfl, below_set2 B3.out (by omega) _ _⟩
  · have e : j1 al ah (mkI lo hi) = ⟨0, 0, 8⟩ := by unfold j1; rw [if_neg (by rw [h]; decide), h]
    rw [h]
    have E := Lib.hid e
    have ⟨r0, r1, f0, f1, rl⟩ := P3.out
    clear h e HH hcf
    go_wp2
    exact post_iv Tryz.results40 rfl rfl (P3.out.set _ _) ⟨by rw [E.out]; rfl, below_set2 B1.out (by omega) _ _⟩
set_option maxRecDepth 100000 in
set_option maxHeartbeats 1000000 in
theorem rising_sq (w : World) (lo hi l0 h0 l1 h1 : Int) (k0 : ∀ W, Calls Tryz.prog 46 #[.int .i64 lo] W (RV W l0 h0)) (k1 : ∀ W, Calls Tryz.prog 46 #[.int .i64 hi] W (RV W l1 h1)) :
    Calls Tryz.prog 28 #[iv lo hi, .func (.func 46) #[] #[]] w (RV w l0 h1) := by
  have hf0 : ∀ (w : World) (x y : Value), (Instr.field 23 (.agg #[x, y]) 0).run Tryz.prog w = .ok x w := fun _ _ _ => by kernel_rfl
  have hf1 : ∀ (w : World) (x y : Value), (Instr.field 23 (.agg #[x, y]) 1).run Tryz.prog w = .ok y w := fun _ _ _ => by kernel_rfl
  have K0 := Lib.hid k0
  have K1 := Lib.hid k1
  clear k0 k1
  have PA := Lib.hid ((Pr.new w w.heap.size rfl (.int .i64 lo) (.int .i64 hi) 23).alloc (ivB 0 0))
  have PR := Lib.hid (Pr.new (w.alloc (ivB lo hi)) (w.heap.size + 1) (by simp) (.int .i64 0) (.int .i64 0) 23)
  have BW : Hid (Below w.heap.size w ((w.alloc (ivB lo hi)).alloc (ivB 0 0))) := sbal (sbal (Below.refl _ _) _) _
  go_enter Tryz.func28, Tryz.ntmps28
  go_wp2_with fail
  generalize (w.alloc (ivB lo hi)).alloc (ivB 0 0) = W0 at *
  have HKS : Hid (∀ X : World, Below W0.heap.size W0 X → X.cell? ⟨w.heap.size, 0, none⟩ = some (.int .i64 lo) ∧ X.cell? ⟨w.heap.size, 1, none⟩ = some (.int .i64 hi)) := fun X h => ⟨(PA.out.via h).c0, (PA.out.via h).c1⟩
  go_region_held3 (fun X => X.cell? ⟨w.heap.size, 0, none⟩ = some (.int .i64 lo) ∧ X.cell? ⟨w.heap.size, 1, none⟩ = some (.int .i64 hi))
    (first | exact HKS.out _ (Below.refl _ _) | exact HKS.out _ (Below.refl _ _).drew | exact HKS.out _ D2 | exact HKS.out _ D1 | exact ⟨((PA.out.via D2).far (by omega) _ _).c0, ((PA.out.via D2).far (by omega) _ _).c1⟩)
    (first
     | (have _t := D1; go_at_call 46; refine (K1.out _).mono ?_; rintro e w2 ⟨rfl, hb2⟩; have D2 : Below W0.heap.size W0 w2 := sbtr D1 hb2; have P7 := PR.out.via D2; have ⟨q0, q1, q2, q3, ql⟩ := P7)
     | (go_at_call 46; refine (K0.out _).mono ?_; rintro e w1 ⟨rfl, hb1⟩; have D1 : Below W0.heap.size W0 w1 := (by first | exact (bdrewN (Below.refl _ _) 1).trans hb1 | exact hb1))
     | fail)
  all_goals
    go_wp2
    exact post_iv1 Tryz.results28 rfl rfl (P7.set _ _) ⟨rfl, below_set2 (sbtr BW.out D2) (by omega) _ _⟩
set_option maxRecDepth 100000 in
set_option maxHeartbeats 1000000 in
theorem rising_rt (w : World) (lo hi l0 h0 l1 h1 : Int) (k0 : ∀ W, Calls Tryz.prog 29 #[.int .i64 lo] W (RV W l0 h0)) (k1 : ∀ W, Calls Tryz.prog 29 #[.int .i64 hi] W (RV W l1 h1)) :
    Calls Tryz.prog 28 #[iv lo hi, .func (.func 29) #[] #[]] w (RV w l0 h1) := by
  have hf0 : ∀ (w : World) (x y : Value), (Instr.field 23 (.agg #[x, y]) 0).run Tryz.prog w = .ok x w := fun _ _ _ => by kernel_rfl
  have hf1 : ∀ (w : World) (x y : Value), (Instr.field 23 (.agg #[x, y]) 1).run Tryz.prog w = .ok y w := fun _ _ _ => by kernel_rfl
  have K0 := Lib.hid k0
  have K1 := Lib.hid k1
  clear k0 k1
  have PA := Lib.hid ((Pr.new w w.heap.size rfl (.int .i64 lo) (.int .i64 hi) 23).alloc (ivB 0 0))
  have PR := Lib.hid (Pr.new (w.alloc (ivB lo hi)) (w.heap.size + 1) (by simp) (.int .i64 0) (.int .i64 0) 23)
  have BW : Hid (Below w.heap.size w ((w.alloc (ivB lo hi)).alloc (ivB 0 0))) := sbal (sbal (Below.refl _ _) _) _
  go_enter Tryz.func28, Tryz.ntmps28
  go_wp2_with fail
  generalize (w.alloc (ivB lo hi)).alloc (ivB 0 0) = W0 at *
  have HKS : Hid (∀ X : World, Below W0.heap.size W0 X → X.cell? ⟨w.heap.size, 0, none⟩ = some (.int .i64 lo) ∧ X.cell? ⟨w.heap.size, 1, none⟩ = some (.int .i64 hi)) := fun X h => ⟨(PA.out.via h).c0, (PA.out.via h).c1⟩
  go_region_held3 (fun X => X.cell? ⟨w.heap.size, 0, none⟩ = some (.int .i64 lo) ∧ X.cell? ⟨w.heap.size, 1, none⟩ = some (.int .i64 hi))
    (first | exact HKS.out _ (Below.refl _ _) | exact HKS.out _ (Below.refl _ _).drew | exact HKS.out _ D2 | exact HKS.out _ D1 | exact ⟨((PA.out.via D2).far (by omega) _ _).c0, ((PA.out.via D2).far (by omega) _ _).c1⟩)
    (first
     | (have _t := D1; go_at_call 29; refine (K1.out _).mono ?_; rintro e w2 ⟨rfl, hb2⟩; have D2 : Below W0.heap.size W0 w2 := sbtr D1 hb2; have P7 := PR.out.via D2; have ⟨q0, q1, q2, q3, ql⟩ := P7)
     | (go_at_call 29; refine (K0.out _).mono ?_; rintro e w1 ⟨rfl, hb1⟩; have D1 : Below W0.heap.size W0 w1 := (by first | exact (bdrewN (Below.refl _ _) 1).trans hb1 | exact hb1))
     | fail)
  all_goals
    go_wp2
    exact post_iv1 Tryz.results28 rfl rfl (P7.set _ _) ⟨rfl, below_set2 (sbtr BW.out D2) (by omega) _ _⟩
def sqA (al ah : Int) : Int := max al (max (-ah) 0)
def sqB (al ah : Int) : Int := max (-al) ah
def sqO (al ah : Int) : Out := mkI (sqA al ah * sqA al ah / 1099511627776) (cdiv (sqB al ah * sqB al ah) 1099511627776)
theorem sqAB {al ah : Int} (h : IvIn al ah) : 0 ≤ sqA al ah ∧ sqA al ah ≤ sqB al ah ∧ sqB al ah ≤ 2305843009213693952 := by
  obtain ⟨x1, x2, x3⟩ := h
  unfold sqA sqB
  omega
theorem sq_mono {a b : Int} (h0 : 0 ≤ a) (h : a ≤ b) : a * a ≤ b * b := Int.mul_le_mul h h h0 (by omega)
set_option maxRecDepth 100000 in
set_option maxHeartbeats 1000000 in
theorem sqf_ex (al ah : Int) (h : IvIn al ah) : ∃ lo hi, (lo ≤ hi ∨ lo < -2305843009213693952 ∨ 2305843009213693952 < hi) ∧ mkI lo hi = sqO al ah ∧ ∀ w, Calls Tryz.prog 44 #[iv al ah] w (RV w lo hi) := by
  obtain ⟨a0, ab, b1⟩ := sqAB h
  obtain ⟨l0, h0, u0, q0, r0, k0⟩ := square_ex (sqA al ah) (by omega) (by omega)
  obtain ⟨l1, h1, u1, q1, r1, k1⟩ := square_ex (sqB al ah) (by omega) (by omega)
  have hle : sqA al ah * sqA al ah / 1099511627776 ≤ cdiv (sqB al ah * sqB al ah) 1099511627776 := Int.le_trans (fdiv_mono (by omega) (sq_mono a0 ab)) (fdiv_le_cdiv (by omega))
  refine ⟨l0, h1, cl_le_or q0 r1 hle, mkI_cl2 q0 r1 hle, fun w => ?_⟩
  have HA := Lib.hid (fun W => absolute_any W al ah h)
  have HR := Lib.hid (fun W => rising_sq W (sqA al ah) (sqB al ah) l0 h0 l1 h1 k0 k1)
  unfold sqA sqB at HR
  have PR := Lib.hid (Pr.new (w.alloc (ivB al ah)) (w.heap.size + 1) (by simp) (.int .i64 0) (.int .i64 0) 23)
  have BW : Hid (Below w.heap.size w ((w.alloc (ivB al ah)).alloc (ivB 0 0))) := sbal (sbal (Below.refl _ _) _) _
  clear a0 ab b1 u0 q0 r0 k0 u1 q1 r1 k1 hle h
  go_enter Tryz.func44, Tryz.ntmps44
  go_wp2_with fail
  generalize (w.alloc (ivB al ah)).alloc (ivB 0 0) = W0 at *
  refine (HA.out _).mono ?_
  rintro e w1 ⟨rfl, hb⟩
  have P1 := Lib.hid (PR.out.via hb)
  have B1 := Lib.hid (sbtr BW.out hb)
  clear hb PR HA BW
  go_wp2_with fail
  refine (HR.out _).mono ?_
  rintro e w2 ⟨rfl, hb⟩
  have P2 := Lib.hid (P1.out.via hb)
  have B2 := Lib.hid (sbtr B1.out hb)
  clear hb P1 B1 HR
  have ⟨r0, r1, r2, r3, rl⟩ := P2.out
  go_wp2
  exact post_iv1 Tryz.results44 rfl rfl (P2.out.set _ _) ⟨rfl, below_set2 B2.out (by omega) _ _⟩
set_option maxRecDepth 100000 in
theorem ssq_any (w : World) (al ah : Int) : Calls Tryz.prog 21 #[iv al ah] w (RO w (j1 al ah (sqO al ah))) := by
  have hcf : ∀ (u : Value) (W : World), (callFunc 44 #[u]).run Tryz.prog W = .ok (.enter 44 #[u]) W := fun u W => by go_simp
  have hJ : ∀ W, Calls Tryz.prog 40 #[iv al ah, .func (.func 44) #[] #[]] W (RO W (j1 al ah (sqO al ah))) := fun W => by
    rcases ivC_cases al ah with ⟨h, _⟩ | ⟨h, _⟩
    · obtain ⟨lo, hi, h1, h2, h3⟩ := sqf_ex al ah (ivC_le h)
      rw [← h2]
      exact change2_any W 44 al ah lo hi hcf fun _ => ⟨h1, h3⟩
    · rw [j1_bad h, ← j1_bad (o := mkI 0 0) h]
      exact change2_any W 44 al ah 0 0 hcf fun ha => by rw [h] at ha; cases ha
  have J := Lib.hid hJ
  clear hJ hcf
  generalize j1 al ah (sqO al ah) = o at *
  have PR := Lib.hid (Pr.new (w.alloc (ivB al ah)) (w.heap.size + 1) (by simp) (.int .i64 0) (.int .i64 0) 23)
  have BW : Hid (Below w.heap.size w ((w.alloc (ivB al ah)).alloc (ivB 0 0))) := sbal (sbal (Below.refl _ _) _) _
  go_enter Tryz.func21, Tryz.ntmps21
  go_wp2_with fail
  generalize (w.alloc (ivB al ah)).alloc (ivB 0 0) = W0 at *
  refine (J.out _).mono ?_
  rintro e w1 ⟨rfl, hb⟩
  have P3 := Lib.hid (PR.out.via hb)
  have B1 := Lib.hid (sbtr BW.out hb)
  clear hb PR BW J
  have ⟨r0, r1, f0, f1, rl⟩ := P3.out
  go_wp2
  exact post_iv Tryz.results21 rfl rfl (P3.out.set _ _) ⟨rfl, below_set2 B1.out (by omega) _ _⟩
end Go.Proofs.YtegnaknoaflppaaGreatDoor

/- Intervals: Sq of the reference. -/
namespace Go.Proofs.YtegnaknoaflppaaGreatDoor
open Go.RowKit

theorem mul_self {A B : Int} (h0 : 0 ≤ A) (h : A ≤ B) : mulLo A B A B = A * A / 1099511627776 ∧ mulHi A B A B = cdiv (B * B) 1099511627776 := by
  have h1 : A * A ≤ A * B := Int.mul_le_mul_of_nonneg_left h h0
  have h2 : A * B ≤ B * B := Int.mul_le_mul_of_nonneg_right h (by omega)
  have h3 : B * A = A * B := Int.mul_comm _ _
  constructor
  · unfold mulLo mn4; congr 1; omega
  · unfold mulHi mx4; congr 1; omega
end Go.Proofs.YtegnaknoaflppaaGreatDoor

/- Intervals: Scale of package span. -/
namespace Go.Proofs.YtegnaknoaflppaaGreatDoor
open Go.RowKit

def sN (x num den : Int) : Int := if den < 0 then -(x * num) else x * num
def scO (al ah num den : Int) : Out :=
  if den = 0 then ⟨0, 0, 18⟩ else mkI (min (sN al num den / (den.natAbs : Int)) (sN ah num den / (den.natAbs : Int))) (max (cdiv (sN al num den) (den.natAbs : Int)) (cdiv (sN ah num den) (den.natAbs : Int)))
theorem sgn_sN (x num den : Int) : sgn (sgB x num != decide (den < 0)) (x.natAbs * num.natAbs) = sN x num den := by
  have h := sgn_mul x num
  unfold sN
  rcases neg_cases den with hy | ⟨hy, hy'⟩
  · rw [if_pos hy, decide_eq_true hy, show (sgB x num != true) = !sgB x num by cases sgB x num <;> rfl, sgn_not, h]
  · rw [if_neg (by omega), hy, show (sgB x num != false) = sgB x num by cases sgB x num <;> rfl, h]
theorem mo_ex (x num den : Int) (hx1 : -9223372036854775808 ≤ x) (hx2 : x ≤ 9223372036854775807) (hn1 : -9223372036854775808 ≤ num) (hn2 : num ≤ 9223372036854775807) (hd0 : den ≠ 0) (hd1 : -9223372036854775808 ≤ den) (hd2 : den ≤ 9223372036854775807) :
    ∃ v lo hi, lo ≤ hi ∧ cl lo = cl (sN x num den / (den.natAbs : Int)) ∧ cl hi = cl (cdiv (sN x num den) (den.natAbs : Int)) ∧
      (∀ w, Calls Tryz.prog 33 #[.int .i64 x, .int .i64 num] w fun e w' => e = .returned v ∧ Below w.heap.size w w') ∧
      ∀ w, Calls Tryz.prog 34 #[v, .int .i64 den] w (RV w lo hi) := by
  obtain ⟨lo, hi, h1, h2, h3, h4⟩ := over_ex (sgB x num) (x.natAbs * num.natAbs) den hd0 hd1 hd2
  rw [sgn_sN] at h2 h3
  exact ⟨_, lo, hi, h1, h2, h3, fun w => smul_any w x num hx1 hx2 hn1 hn2, h4⟩
set_option maxRecDepth 100000 in
set_option maxHeartbeats 2000000 in
theorem sscale_any (w : World) (al ah num den : Int) (hn1 : -9223372036854775808 ≤ num) (hn2 : num ≤ 9223372036854775807) (hd1 : -9223372036854775808 ≤ den) (hd2 : den ≤ 9223372036854775807) :
    Calls Tryz.prog 11 #[iv al ah, .int .i64 num, .int .i64 den] w (RO w (j1 al ah (scO al ah num den))) := by
  have PA := Lib.hid ((Pr.new w w.heap.size rfl (.int .i64 al) (.int .i64 ah) 23).alloc (ivB 0 0))
  have PR := Lib.hid (Pr.new (w.alloc (ivB al ah)) (w.heap.size + 1) (by simp) (.int .i64 0) (.int .i64 0) 23)
  have BW : Hid (Below w.heap.size w ((w.alloc (ivB al ah)).alloc (ivB 0 0))) := sbal (sbal (Below.refl _ _) _) _
  go_enter Tryz.func11, Tryz.ntmps11
  go_wp2_with fail
  generalize (w.alloc (ivB al ah)).alloc (ivB 0 0) = W0 at *
  refine (scheck_any _ al ah).mono ?_
  rintro e w1 ⟨rfl, hb⟩
  have P1 := Lib.hid (PA.out.via hb)
  have P3 := Lib.hid (PR.out.via hb)
  have B1 := Lib.hid (sbtr BW.out hb)
  clear hb PA PR BW
  rcases ivC_cases al ah with ⟨h, x1, x2, x3⟩ | ⟨h, _⟩
  · rw [h]
    have HO : Hid (j1 al ah (scO al ah num den) = scO al ah num den) := j1_ok h
    clear h
    by_cases hz : den = 0
    · subst hz
      have HM : Hid (scO al ah num 0 = ⟨0, 0, 18⟩) := by show _ = _; unfold scO; rw [if_pos rfl]
      have ⟨r0, r1, r2, r3, r4⟩ := P3.out
      clear x1 x2 x3 hn1 hn2 hd1 hd2
      go_wp2
      exact post_iv Tryz.results11 rfl rfl (P3.out.set _ _) ⟨ret_out (HO.out.trans HM.out), below_set2 B1.out (by omega) _ _⟩
    · obtain ⟨v0, l0, h0, u0, q0, r0, m0, k0⟩ := mo_ex al num den (by omega) (by omega) hn1 hn2 hz hd1 hd2
      obtain ⟨v1, l1, h1, u1, q1, r1, m1, k1⟩ := mo_ex ah num den (by omega) (by omega) hn1 hn2 hz hd1 hd2
      have hD : 0 < (den.natAbs : Int) := by omega
      have HM : Hid (mkI (min l0 l1) (max h0 h1) = scO al ah num den) := by
        show _ = _
        unfold scO
        rw [if_neg hz]
        have f0 := fdiv_le_cdiv (p := sN al num den) hD
        refine mkI_cl2 (by rw [cl_min, cl_min, q0, q1]) (by rw [cl_max, cl_max, r0, r1]) (by omega)
      have M0 := Lib.hid m0
      have M1 := Lib.hid m1
      have K0 := Lib.hid k0
      have K1 := Lib.hid k1
      have hle : min l0 l1 ≤ max h0 h1 := by omega
      have hdz : ((den : Int) == 0) = false := by simp [hz]
      have HLE := Lib.hid hle
      clear q0 q1 r0 r1 m0 m1 k0 k1 u0 u1 hD x1 x2 x3 hn1 hn2 hd1 hd2 hle
      have ⟨a0, a1, _, _, _⟩ := P1.out
      go_wp2_with fail
      clear a0 a1
      have HKS : Hid (∀ X : World, Below w1.heap.size w1 X → X.cell? ⟨w.heap.size, 0, none⟩ = some (.int .i64 al) ∧ X.cell? ⟨w.heap.size, 1, none⟩ = some (.int .i64 ah)) := fun X h => ⟨(P1.out.via h).c0, (P1.out.via h).c1⟩
      have hqa := P1.out.lt
      have hqr := P3.out.lt
      go_region_held3 (fun X => X.cell? ⟨w.heap.size, 0, none⟩ = some (.int .i64 al) ∧ X.cell? ⟨w.heap.size, 1, none⟩ = some (.int .i64 ah))
        (first | exact HKS.out _ (Below.refl _ _) | exact HKS.out _ (Below.refl _ _).drew | exact HKS.out _ E5 | exact HKS.out _ E4 | exact HKS.out _ E3 | exact HKS.out _ (sbal E3 _) | exact HKS.out _ E2 | exact HKS.out _ E1 | exact HKS.out _ E0 | exact ⟨((P1.out.via E5).far (by omega) _ _).c0, ((P1.out.via E5).far (by omega) _ _).c1⟩)
        (first
         | (have _t := E4; go_at_call 27; refine (smade_any _ (min l0 l1) (max h0 h1) HLE.out).mono ?_; rintro e y5 ⟨rfl, h5⟩; have E5 : Below w1.heap.size w1 y5 := sbtr E4 h5; have P7 := P3.out.via E5; have ⟨q0, q1, q2, q3, ql⟩ := P7)
         | (have _t := E3; go_at_call 32; refine (hull1_any _ y3.heap.size l0 h0 l1 h1 ⟨(Pr.new y3 _ rfl (.int .i64 l1) (.int .i64 h1) 23).c0, (Pr.new y3 _ rfl (.int .i64 l1) (.int .i64 h1) 23).c1, (Pr.new y3 _ rfl (.int .i64 l1) (.int .i64 h1) 23).lt⟩).mono ?_; rintro e y4 ⟨rfl, h4⟩; have E4 : Below w1.heap.size w1 y4 := sbtr E3 (bbox h4))
         | (have _t := E2; go_at_call 34; refine (K1.out _).mono ?_; rintro e y3 ⟨rfl, h3⟩; have E3 : Below w1.heap.size w1 y3 := sbtr E2 h3)
         | (have _t := E1; go_at_call 33; refine (M1.out _).mono ?_; rintro e y2 ⟨rfl, h2⟩; have E2 : Below w1.heap.size w1 y2 := sbtr E1 h2)
         | (have _t := E0; go_at_call 34; refine (K0.out _).mono ?_; rintro e y1 ⟨rfl, hh1⟩; have E1 : Below w1.heap.size w1 y1 := sbtr E0 hh1)
         | (go_at_call 33; refine (M0.out _).mono ?_; rintro e y0 ⟨rfl, hh0⟩; have E0 : Below w1.heap.size w1 y0 := (by first | exact (bdrewN (Below.refl _ _) 1).trans hh0 | exact hh0))
         | fail)
      all_goals
        go_wp2
        exact post_iv Tryz.results11 rfl rfl (P7.set _ _) ⟨ret_mk (HM.out.trans HO.out.symm), below_set2 (sbtr B1.out E5) (by omega) _ _⟩
  · rw [h]
    have HO : Hid (j1 al ah (scO al ah num den) = ⟨0, 0, 8⟩) := j1_bad h
    have ⟨r0, r1, r2, r3, r4⟩ := P3.out
    clear h hn1 hn2 hd1 hd2
    go_wp2
    exact post_iv Tryz.results11 rfl rfl (P3.out.set _ _) ⟨by rw [HO.out]; rfl, below_set2 B1.out (by omega) _ _⟩
end Go.Proofs.YtegnaknoaflppaaGreatDoor

/- Intervals: length of a product; turned of the reference. -/
namespace Go.Proofs.YtegnaknoaflppaaGreatDoor
open Go.RowKit

def plen (H L : Nat) : Nat := if H = 0 then Lib.bitLen L else 64 + Lib.bitLen H
theorem plen_lt {H L : Nat} (hH : H < 18446744073709551616) (hL : L < 18446744073709551616) : H * 18446744073709551616 + L < 2 ^ plen H L := by
  unfold plen
  by_cases h : H = 0
  · rw [if_pos h, h, Nat.zero_mul, Nat.zero_add]
    rcases Nat.eq_zero_or_pos L with h0 | h0
    · rw [h0]; exact Nat.pow_pos (by omega)
    · exact (bitLen_bd h0 hL).2.2.2
  · rw [if_neg h, Nat.pow_add]
    have h1 := (bitLen_bd (show 0 < H by omega) hH).2.2.2
    have h2 := Nat.mul_le_mul_right 18446744073709551616 (show H + 1 ≤ 2 ^ Lib.bitLen H from h1)
    have e : (2 : Nat) ^ 64 = 18446744073709551616 := rfl
    rw [e, Nat.mul_comm]
    omega
theorem plen_le {H L : Nat} (hH : H < 18446744073709551616) (hL : L < 18446744073709551616) : plen H L ≤ 128 := by
  unfold plen
  have h1 := Lib.bitLen_le L 64 (by omega) hL
  have h2 := Lib.bitLen_le H 64 (by omega) hH
  split <;> omega
set_option maxRecDepth 100000 in
theorem slength_any (w : World) (neg : Bool) (H L : Nat) (hH : H < 18446744073709551616) (hL : L < 18446744073709551616) :
    Calls Tryz.prog 70 #[.agg #[.bool neg, .int .u64 (H : Int), .int .u64 (L : Int)]] w (RN1 w ((plen H L : Nat) : Int)) := by
  have S1 := Lib.hid (fun W => slen64_any L W hL)
  have S2 := Lib.hid (fun W => slen64_any H W hH)
  have b2 := Lib.bitLen_le H 64 (by omega) hH
  rcases Nat.eq_zero_or_pos H with h | h
  · subst h
    have HP : Hid (plen 0 L = Lib.bitLen L) := by show _ = _; unfold plen; rw [if_pos rfl]
    clear S2 hH b2
    go_enter Tryz.func70, Tryz.ntmps70
    go_wp2_with fail
    refine (S1.out _).mono ?_
    rintro e w1 ⟨rfl, rfl⟩
    clear S1 hL
    go_wp2
    go_ret
    exact ⟨ret_int (by rw [HP.out]), by go_grown⟩
  · have HP : Hid (plen H L = 64 + Lib.bitLen H) := by show _ = _; unfold plen; rw [if_neg (by omega)]
    have he : ((H : Int) == 0) = false := by simp; omega
    have he2 : (H == 0) = false := by simp; omega
    have b3 : (Lib.bitLen H : Int) ≤ 64 := by omega
    clear S1 hL b2 h
    go_enter Tryz.func70, Tryz.ntmps70
    go_wp2_with fail
    refine (S2.out _).mono ?_
    rintro e w1 ⟨rfl, rfl⟩
    clear S2 hH
    go_wp2
    go_ret
    exact ⟨ret_int (by rw [HP.out]; omega), by go_grown⟩
end Go.Proofs.YtegnaknoaflppaaGreatDoor

/- Newton's steps from above, in numbers. -/
namespace Go.Proofs.YtegnaknoaflppaaGreatDoor
theorem newt_next {v x : Nat} (hx : 0 < x) : v < ((v / x + x) / 2 + 1) * ((v / x + x) / 2 + 1) := by
  obtain ⟨q, hq⟩ : ∃ q, v / x = q := ⟨_, rfl⟩
  obtain ⟨h, hh⟩ : ∃ h, (q + x) / 2 = h := ⟨_, rfl⟩
  rw [hq, hh]
  have h1 : v < x * (q + 1) := by rw [← hq]; exact Nat.lt_mul_div_succ v hx
  have h2 : x + (q + 1) ≤ 2 * (h + 1) := by omega
  have h3 := Nat.mul_le_mul h2 h2
  have h4 := @sq_le x (q + 1)
  have e1 : 2 * (h + 1) * (2 * (h + 1)) = 4 * ((h + 1) * (h + 1)) := by grind
  have e2 : (x + (q + 1)) * (x + (q + 1)) = x * x + (q + 1) * (q + 1) + 2 * x * (q + 1) := by grind
  have e3 : 2 * x * (q + 1) = 2 * (x * (q + 1)) := by grind
  omega
theorem newt_end {v x : Nat} (h : v < (x + 1) * (x + 1)) (hh : x ≤ (v / x + x) / 2) : IsRt v x := by
  refine ⟨?_, h⟩
  have h1 : x ≤ v / x := by omega
  exact Nat.le_trans (Nat.mul_le_mul_right x h1) (Nat.div_mul_le_self v x)
theorem newt_pos {v x : Nat} (hv : 0 < v) (hx : 0 < x) : 0 < (v / x + x) / 2 := by
  rcases Nat.lt_or_ge 1 x with h | h
  · generalize v / x = q
    omega
  · obtain rfl : x = 1 := by omega
    rw [Nat.div_one]
    omega
theorem newt_start {v n : Nat} (h : v < 2 ^ n) : v < (2 ^ ((n + 1) / 2) + 1) * (2 ^ ((n + 1) / 2) + 1) := by
  have h1 : 2 ^ n ≤ 2 ^ ((n + 1) / 2) * 2 ^ ((n + 1) / 2) := by
    rw [← Nat.pow_add]
    exact Nat.pow_le_pow_right (by omega) (by omega)
  have h2 : 2 ^ ((n + 1) / 2) * 2 ^ ((n + 1) / 2) ≤ (2 ^ ((n + 1) / 2) + 1) * (2 ^ ((n + 1) / 2) + 1) := Nat.mul_le_mul (by omega) (by omega)
  omega
end Go.Proofs.YtegnaknoaflppaaGreatDoor

/- Intervals: the square root of a product, by Newton's rule. -/
namespace Go.Proofs.YtegnaknoaflppaaGreatDoor
open Go.RowKit

theorem isRt_ex : ∀ N : Nat, ∃ r, IsRt N r
  | 0 => ⟨0, by unfold IsRt; omega⟩
  | N + 1 => by
    obtain ⟨r, h1, h2⟩ := isRt_ex N
    by_cases h : (r + 1) * (r + 1) ≤ N + 1
    · refine ⟨r + 1, h, ?_⟩
      have : (r + 1 + 1) * (r + 1 + 1) = (r + 1) * (r + 1) + 2 * (r + 1) + 1 := by grind
      omega
    · exact ⟨r, by omega, by omega⟩
theorem rt_high {H L r : Nat} (h0 : 0 < r) (hr : r ≤ 2251799813685248) (h : H * 18446744073709551616 + L < (r + 1) * (r + 1)) : H < r := by
  have h1 : (r + 1) * (r + 1) ≤ (2 * r) * (2 * r) := Nat.mul_le_mul (by omega) (by omega)
  have h2 : (2 * r) * (2 * r) = 4 * (r * r) := by grind
  have h3 : r * r ≤ r * 2251799813685248 := Nat.mul_le_mul_left r hr
  omega
theorem rt_quo {N r : Nat} (h0 : 0 < r) (h : N < (r + 1) * (r + 1)) : N / r ≤ r + 2 := by
  refine Nat.le_of_lt_succ ((Nat.div_lt_iff_lt_mul h0).2 ?_)
  have h1 : (r + 2).succ * r = r * r + 3 * r := by grind
  have h2 : (r + 1) * (r + 1) = r * r + 2 * r + 1 := by grind
  omega
set_option maxRecDepth 100000 in
set_option maxHeartbeats 2000000 in
theorem proot_any (w : World) (H L R : Nat) (hN : 0 < H * 18446744073709551616 + L) (hb : plen H L ≤ 102) (hH : H < 18446744073709551616) (hL : L < 18446744073709551616) (hR : IsRt (H * 18446744073709551616 + L) R) :
    Calls Tryz.prog 51 #[.agg #[.bool false, .int .u64 (H : Int), .int .u64 (L : Int)]] w (RN1 w (R : Int)) := by
  have HL := Lib.hid (fun W => slength_any W false H L hH hL)
  have hst := newt_start (plen_lt hH hL)
  have hDV : ∀ (r : Nat) (h0 : 0 < r) (hr : r ≤ 2251799813685248) (h : H * 18446744073709551616 + L < (r + 1) * (r + 1)) (W : World), Calls Tryz.prog 55 #[.int .u64 (H : Int), .int .u64 (L : Int), .int .u64 (r : Int)] W fun e w' => e = .returned (.tuple #[.int .u64 (((H * 18446744073709551616 + L) / r : Nat) : Int), .int .u64 (((H * 18446744073709551616 + L) % r : Nat) : Int)]) ∧ ∃ d, w' = W.drewN d :=
    fun r h0 hr h W => div64_any W H L r (rt_high h0 hr h) (by omega) hL
  obtain ⟨N, hNN⟩ : ∃ N, N = H * 18446744073709551616 + L := ⟨_, rfl⟩
  rw [← hNN] at hst hDV hR hN
  have hsp : H = 0 ∧ ¬ L = 0 ∨ ¬ H = 0 := by omega
  have HDV := Lib.hid hDV
  have HRT := Lib.hid hR
  have PN := hN
  obtain ⟨k, hk⟩ : ∃ k, k = (plen H L + 1) / 2 := ⟨_, rfl⟩
  have hk51 : k ≤ 51 := by omega
  rw [← hk] at hst
  have hp0 : 0 < 2 ^ k := Nat.pow_pos (by omega)
  have hp1 : 2 ^ k ≤ 2 ^ 51 := Nat.pow_le_pow_right (by omega) hk51
  have hki : ((plen H L : Int) + 1) / 2 = (k : Int) := by omega
  have hkt : ((plen H L : Int) + 1).tdiv 2 = (k : Int) := by rw [Int.tdiv_eq_ediv_of_nonneg (by omega)]; exact hki
  obtain ⟨r0, hr0⟩ : ∃ r0 : Nat, r0 = 2 ^ k := ⟨_, rfl⟩
  have hpw : IntKind.u64.wrap ((2 : Int) ^ k) = (r0 : Int) := by
    have e : ((2 : Int) ^ k) = ((2 ^ k : Nat) : Int) := by rw [Int.natCast_pow]; rfl
    rw [e, wrap_nat, Nat.mod_eq_of_lt (by omega), ← hr0]
  rw [← hr0] at hst hp0 hp1
  have hp2 : r0 ≤ 2251799813685248 := hp1
  have HST := Lib.hid hst
  have P3 := Lib.hid (C3.new w w.heap.size rfl (.bool false) (.int .u64 (H : Int)) (.int .u64 (L : Int)) 55)
  have BW : Hid (Below w.heap.size w (w.alloc (.cells #[.bool false, .int .u64 (H : Int), .int .u64 (L : Int)] 55))) := sbal (Below.refl _ _) _
  clear hDV hR hst hH hL hk hr0 hp1 hNN
  generalize plen H L = pl at *
  rcases hsp with ⟨rfl, hz⟩ | hz
  · clear hN
    go_enter Tryz.func51, Tryz.ntmps51
    go_wp2_with fail
    generalize w.alloc _ = W0 at *
    refine (HL.out _).mono ?_
    rintro e w1 ⟨rfl, hb1⟩
    have P1 := Lib.hid (P3.out.via hb1)
    have B1 := Lib.hid (sbtr BW.out hb1)
    clear hb1 P3 BW HL
    go_wp2_with fail
    go_loopw [3] (fun s wr => ∃ r : Nat, s = .int .u64 (r : Int) ∧ 0 < r ∧ r ≤ 2251799813685248 ∧ N < (r + 1) * (r + 1) ∧ C3 wr w.heap.size (.bool false) (.int .u64 0) (.int .u64 (L : Int)) ∧ Below w.heap.size w wr) (fun s _ => (intOf s).toNat)
    case atStart => exact ⟨r0, rfl, hp0, hp2, HST.out, P1.out, B1.out⟩
    case round =>
      obtain ⟨r, rfl, q0, q1, q2, cp, bx⟩ := hrel
      have HD := Lib.hid (HDV.out r q0 q1 q2)
      have hq := rt_quo q0 q2
      have QN := Lib.hid q2
      have P2 := Lib.hid cp
      have B2 := Lib.hid bx
      clear cp bx q2 P1 B1 HST hp0 hp2 HDV
      obtain ⟨q, hqq⟩ : ∃ q, q = N / r := ⟨_, rfl⟩
      rw [← hqq] at HD hq
      have HQ := Lib.hid hqq
      clear hqq
      have ⟨c0, c1, c2, _, _, _, _⟩ := P2.out
      go_wp2_with fail
      clear c0 c1 c2
      refine (HD.out _).mono ?_
      rintro e w2 ⟨rfl, d, rfl⟩
      have P4 := Lib.hid (P2.out.drewN d)
      have B4 := Lib.hid (bdrewN B2.out d)
      clear P2 B2 HD
      by_cases hlt : (r + q) / 2 < r
      · have hld : decide ((r : Int) ≤ ((r : Int) + (q : Int)) / 2) = false := decide_eq_false (by omega)
        have hnd : decide (r ≤ (r + q) / 2) = false := decide_eq_false (by omega)
        go_wp2
        go_roundw
        case rel => exact ⟨(r + q) / 2, by go_num, by rw [HQ.out, Nat.add_comm r]; exact newt_pos (by have := PN; omega) q0, by omega, by rw [HQ.out, Nat.add_comm r]; exact newt_next q0, P4.out, B4.out⟩
        case measure => simp [intOf]; omega
      · have hrr : r = R := IsRt.uniq (newt_end QN.out (by rw [← HQ.out, Nat.add_comm q]; omega)) HRT.out
        have HRR := Lib.hid hrr
        have hli : (r : Int) ≤ ((r : Int) + (q : Int)) / 2 := by omega
        have hni : r ≤ (r + q) / 2 := by omega
        clear hrr hlt
        go_wp2
        go_ret
        exact ⟨ret_int (by rw [HRR.out]), B4.out⟩
  · clear hN
    go_enter Tryz.func51, Tryz.ntmps51
    go_wp2_with fail
    generalize w.alloc _ = W0 at *
    refine (HL.out _).mono ?_
    rintro e w1 ⟨rfl, hb1⟩
    have P1 := Lib.hid (P3.out.via hb1)
    have B1 := Lib.hid (sbtr BW.out hb1)
    clear hb1 P3 BW HL
    go_wp2_with fail
    go_loopw [3] (fun s wr => ∃ r : Nat, s = .int .u64 (r : Int) ∧ 0 < r ∧ r ≤ 2251799813685248 ∧ N < (r + 1) * (r + 1) ∧ C3 wr w.heap.size (.bool false) (.int .u64 (H : Int)) (.int .u64 (L : Int)) ∧ Below w.heap.size w wr) (fun s _ => (intOf s).toNat)
    case atStart => exact ⟨r0, rfl, hp0, hp2, HST.out, P1.out, B1.out⟩
    case round =>
      obtain ⟨r, rfl, q0, q1, q2, cp, bx⟩ := hrel
      have HD := Lib.hid (HDV.out r q0 q1 q2)
      have hq := rt_quo q0 q2
      have QN := Lib.hid q2
      have P2 := Lib.hid cp
      have B2 := Lib.hid bx
      clear cp bx q2 P1 B1 HST hp0 hp2 HDV
      obtain ⟨q, hqq⟩ : ∃ q, q = N / r := ⟨_, rfl⟩
      rw [← hqq] at HD hq
      have HQ := Lib.hid hqq
      clear hqq
      have ⟨c0, c1, c2, _, _, _, _⟩ := P2.out
      go_wp2_with fail
      clear c0 c1 c2
      refine (HD.out _).mono ?_
      rintro e w2 ⟨rfl, d, rfl⟩
      have P4 := Lib.hid (P2.out.drewN d)
      have B4 := Lib.hid (bdrewN B2.out d)
      clear P2 B2 HD
      by_cases hlt : (r + q) / 2 < r
      · have hld : decide ((r : Int) ≤ ((r : Int) + (q : Int)) / 2) = false := decide_eq_false (by omega)
        have hnd : decide (r ≤ (r + q) / 2) = false := decide_eq_false (by omega)
        go_wp2
        go_roundw
        case rel => exact ⟨(r + q) / 2, by go_num, by rw [HQ.out, Nat.add_comm r]; exact newt_pos (by have := PN; omega) q0, by omega, by rw [HQ.out, Nat.add_comm r]; exact newt_next q0, P4.out, B4.out⟩
        case measure => simp [intOf]; omega
      · have hrr : r = R := IsRt.uniq (newt_end QN.out (by rw [← HQ.out, Nat.add_comm q]; omega)) HRT.out
        have HRR := Lib.hid hrr
        have hli : (r : Int) ≤ ((r : Int) + (q : Int)) / 2 := by omega
        have hni : r ≤ (r + q) / 2 := by omega
        clear hrr hlt
        go_wp2
        go_ret
        exact ⟨ret_int (by rw [HRR.out]), B4.out⟩
end Go.Proofs.YtegnaknoaflppaaGreatDoor

/- Intervals: squareRoot of package span. -/
namespace Go.Proofs.YtegnaknoaflppaaGreatDoor
open Go.RowKit

set_option maxRecDepth 100000 in
theorem root_zero (w : World) : Calls Tryz.prog 51 #[.agg #[.bool false, .int .u64 ((0 : Nat) : Int), .int .u64 ((0 : Nat) : Int)]] w (RN1 w 0) := by
  go_enter Tryz.func51, Tryz.ntmps51
  go_wp2
  go_ret
  exact ⟨rfl, by go_grown⟩
theorem plen_small {H L : Nat} (h : H * 18446744073709551616 + L ≤ 2535301200456458802993406410752) (hL : L < 18446744073709551616) : plen H L ≤ 102 := by
  unfold plen
  by_cases h0 : H = 0
  · rw [if_pos h0]; have := Lib.bitLen_le L 64 (by omega) hL; omega
  · rw [if_neg h0]
    have h1 : H < 2 ^ 38 := by have e : (2 : Nat) ^ 38 = 274877906944 := rfl; rw [e]; omega
    have := Lib.bitLen_le H 38 (by omega) h1
    omega
/-- root at every product of the square root's range. -/
theorem root_all (w : World) (H L R : Nat) (h : H * 18446744073709551616 + L ≤ 2535301200456458802993406410752) (hL : L < 18446744073709551616) (hR : IsRt (H * 18446744073709551616 + L) R) :
    Calls Tryz.prog 51 #[.agg #[.bool false, .int .u64 (H : Int), .int .u64 (L : Int)]] w (RN1 w (R : Int)) := by
  rcases Nat.eq_zero_or_pos (H * 18446744073709551616 + L) with h0 | h0
  · obtain rfl : H = 0 := by omega
    obtain rfl : L = 0 := by omega
    obtain rfl : R = 0 := IsRt.uniq hR (by unfold IsRt; omega)
    exact root_zero w
  · exact proot_any w H L R h0 (plen_small h hL) (by omega) hL hR
theorem smul_self (r : Nat) (hr : r ≤ 9223372036854775807) (w : World) : Calls Tryz.prog 33 #[.int .i64 (r : Int), .int .i64 (r : Int)] w (RP w false (r * r)) := by
  have h := smul_any w (r : Int) (r : Int) (by omega) (by omega) (by omega) (by omega)
  rw [Int.natAbs_natCast, show sgB (r : Int) (r : Int) = false by unfold sgB; simp] at h
  exact h
end Go.Proofs.YtegnaknoaflppaaGreatDoor

/- Intervals: squareRoot of package span. -/
namespace Go.Proofs.YtegnaknoaflppaaGreatDoor
open Go.RowKit
theorem Pr.farO {w : World} {g h : Nat} {x y : Value} (p : Pr w g x y) (hne : g ≠ h) (i : Nat) (z : Value) : Pr (w.setCell ⟨h, i, none⟩ z) g x y := by
  have h1 := p.c0; have h2 := p.c1; have h3 := p.f0; have h4 := p.f1; have h5 := p.lt
  have hne2 : ¬ h = g := fun e => hne e.symm
  exact ⟨by go_simp, by go_simp, by simpa using h3, by simpa using h4, by simpa [World.size_setCell] using h5⟩
theorem smul_hl (x y : Nat) (hx : x ≤ 9223372036854775807) (hy : y ≤ 9223372036854775807) : ∃ H L, H * 18446744073709551616 + L = x * y ∧ L < 18446744073709551616 ∧ ∀ w, Calls Tryz.prog 33 #[.int .i64 (x : Int), .int .i64 (y : Int)] w fun e w' => e = .returned (.agg #[.bool false, .int .u64 (H : Int), .int .u64 (L : Int)]) ∧ Below w.heap.size w w' := by
  refine ⟨x * y / 18446744073709551616, x * y % 18446744073709551616, Nat.div_add_mod' _ _, Nat.mod_lt _ (by omega), fun w => ?_⟩
  have h := smul_any w (x : Int) (y : Int) (by omega) (by omega) (by omega) (by omega)
  rw [Int.natAbs_natCast, Int.natAbs_natCast, show sgB (x : Int) (y : Int) = false by unfold sgB; rw [decide_eq_false (by omega), decide_eq_false (by omega)]; rfl] at h
  exact h
def rtHi (N R : Nat) : Int := if R * R = N then (R : Int) else (R : Int) + 1
set_option maxRecDepth 100000 in
set_option maxHeartbeats 2000000 in
theorem sroot_any (w : World) (x R : Nat) (hx : x ≤ 2305843009213693952) (hR : IsRt (x * 1099511627776) R) :
    Calls Tryz.prog 29 #[.int .i64 (x : Int)] w (RV w (R : Int) (rtHi (x * 1099511627776) R)) := by
  have hR9 : R ≤ 9223372036854775806 := by
    have h1 := hR.1
    rcases Nat.lt_or_ge R 9223372036854775807 with h | h
    · omega
    · have := Nat.mul_le_mul h h; omega
  obtain ⟨H, L, e1, l1, m1⟩ := smul_hl x 1099511627776 (by omega) (by omega)
  obtain ⟨H2, L2, e2, l2, m2⟩ := smul_hl R R (by omega) (by omega)
  have hrt := fun W => root_all W H L R (by rw [e1]; omega) l1 (by rw [e1]; exact hR)
  have heq : R * R = x * 1099511627776 ↔ H2 = H ∧ L2 = L := by rw [← e1, ← e2]; omega
  have M1 := Lib.hid m1
  have M2 := Lib.hid m2
  have RT := Lib.hid hrt
  have HV : Hid (H2 = H ∧ L2 = L → rtHi (x * 1099511627776) R = (R : Int)) := fun h => by unfold rtHi; rw [if_pos (heq.2 h)]
  have HW : Hid (¬ (H2 = H ∧ L2 = L) → rtHi (x * 1099511627776) R = (R : Int) + 1) := fun h => by unfold rtHi; rw [if_neg (fun e => h (heq.1 e))]
  clear m1 m2 hrt e1 e2 l1 l2 heq hR
  generalize rtHi (x * 1099511627776) R = v at *
  have PR := Lib.hid (Pr.new w w.heap.size rfl (.int .i64 0) (.int .i64 0) 23)
  have BW : Hid (Below w.heap.size w (w.alloc (ivB 0 0))) := sbal (Below.refl _ _) _
  go_enter Tryz.func29, Tryz.ntmps29
  go_wp2_with fail
  generalize w.alloc (ivB 0 0) = W0 at *
  refine (M1.out _).mono ?_
  rintro e w1 ⟨rfl, hb⟩
  have P1 := Lib.hid ((PR.out.via hb).alloc (.cells #[.bool false, .int .u64 (H : Int), .int .u64 (L : Int)] 55))
  have B1 := Lib.hid (sbal (sbtr BW.out hb) (.cells #[.bool false, .int .u64 (H : Int), .int .u64 (L : Int)] 55))
  have X1 := Lib.hid (C3.new w1 _ rfl (.bool false) (.int .u64 (H : Int)) (.int .u64 (L : Int)) 55)
  have hl1 := (PR.out.via hb).lt
  clear hb PR BW M1
  go_wp2_with fail
  generalize w1.alloc (.cells #[.bool false, .int .u64 (H : Int), .int .u64 (L : Int)] 55) = W1 at *
  generalize w1.heap.size = g1 at *
  refine (RT.out _).mono ?_
  rintro e w2 ⟨rfl, hb⟩
  have P2 := Lib.hid ((P1.out.via hb).alloc (ivB R R))
  have B2 := Lib.hid (sbal (sbtr B1.out hb) (ivB R R))
  have X2 := Lib.hid ((X1.out.via hb).alloc (ivB R R))
  have Y2 := Lib.hid (Pr.new w2 _ rfl (.int .i64 (R : Int)) (.int .i64 (R : Int)) 23)
  have hl2 := (X1.out.via hb).lt
  clear hb P1 B1 X1 RT
  go_wp2_with fail
  generalize w2.alloc (ivB R R) = W2 at *
  generalize w2.heap.size = g2 at *
  have hlg : w.heap.size < g2 := by omega
  rcases (show H = H2 ∧ L = L2 ∨ H = H2 ∧ ¬ L2 = L ∨ ¬ H2 = H by omega) with ⟨rfl, rfl⟩ | ⟨rfl, hz⟩ | hz
  · have HKS : Hid (∀ X : World, Below W2.heap.size W2 X → X.cell? ⟨g1, 0, none⟩ = some (.bool false) ∧ X.cell? ⟨g1, 1, none⟩ = some (.int .u64 (H : Int)) ∧ X.cell? ⟨g1, 2, none⟩ = some (.int .u64 (L : Int))) := fun X h => ⟨(X2.out.via h).c0, (X2.out.via h).c1, (X2.out.via h).c2⟩
    go_region_held3 (fun X => X.cell? ⟨g1, 0, none⟩ = some (.bool false) ∧ X.cell? ⟨g1, 1, none⟩ = some (.int .u64 (H : Int)) ∧ X.cell? ⟨g1, 2, none⟩ = some (.int .u64 (L : Int)))
      (first | exact HKS.out _ (Below.refl _ _) | exact HKS.out _ (Below.refl _ _).drew | exact HKS.out _ E0)
      (first | (go_at_call 33; refine (M2.out _).mono ?_; rintro e y0 ⟨rfl, hh0⟩; have E0 : Below W2.heap.size W2 y0 := (by first | exact (bdrewN (Below.refl _ _) 1).trans hh0 | exact hh0)) | fail)
    have P5 := Lib.hid (P2.out.via E0)
    have Y5 := Lib.hid (Y2.out.via E0)
    have B5 := Lib.hid (sbtr B2.out E0)
    clear P2 Y2 X2 B2 HKS E0 M2
    have ⟨r0, r1, r2, r3, rl⟩ := P5.out
    have ⟨t0, t1, t2, t3, tl⟩ := Y5.out
    have hng := Nat.ne_of_lt hlg
    have hng2 := Nat.ne_of_gt hlg
    go_wp2
    exact post_iv1 Tryz.results29 rfl rfl (P5.out.set _ _) ⟨ret_iv rfl (HV.out (by simp)).symm, below_set2 B5.out (by omega) _ _⟩
  · have HW2 := Lib.hid (HW.out (by omega))
    have hz_a : (((L2 : Nat) : Int) == ((L : Nat) : Int)) = false := by simp; omega
    have hz_b : ¬ ((L2 : Int) = (L : Int)) := by omega
    have hz_c : decide ((L2 : Int) = (L : Int)) = false := decide_eq_false (by omega)
    have hz_d : decide (L2 = L) = false := decide_eq_false (by omega)
    have hz_e : (L2 == L) = false := by simp; omega
    have HKS : Hid (∀ X : World, Below W2.heap.size W2 X → X.cell? ⟨g1, 0, none⟩ = some (.bool false) ∧ X.cell? ⟨g1, 1, none⟩ = some (.int .u64 (H : Int)) ∧ X.cell? ⟨g1, 2, none⟩ = some (.int .u64 (L : Int))) := fun X h => ⟨(X2.out.via h).c0, (X2.out.via h).c1, (X2.out.via h).c2⟩
    go_region_held3 (fun X => X.cell? ⟨g1, 0, none⟩ = some (.bool false) ∧ X.cell? ⟨g1, 1, none⟩ = some (.int .u64 (H : Int)) ∧ X.cell? ⟨g1, 2, none⟩ = some (.int .u64 (L : Int)))
      (first | exact HKS.out _ (Below.refl _ _) | exact HKS.out _ (Below.refl _ _).drew | exact HKS.out _ E0)
      (first | (go_at_call 33; refine (M2.out _).mono ?_; rintro e y0 ⟨rfl, hh0⟩; have E0 : Below W2.heap.size W2 y0 := (by first | exact (bdrewN (Below.refl _ _) 1).trans hh0 | exact hh0)) | fail)
    have P5 := Lib.hid (P2.out.via E0)
    have Y5 := Lib.hid (Y2.out.via E0)
    have B5 := Lib.hid (sbtr B2.out E0)
    clear P2 Y2 X2 B2 HKS E0 M2
    have ⟨r0, r1, r2, r3, rl⟩ := P5.out
    have ⟨t0, t1, t2, t3, tl⟩ := Y5.out
    have hng := Nat.ne_of_lt hlg
    have hng2 := Nat.ne_of_gt hlg
    go_wp2
    have hP := (P5.out.farO hng 1 (.int .i64 ((R : Int) + 1))).set (.int .i64 (R : Int)) (.int .i64 ((R : Int) + 1))
    exact post_iv1 Tryz.results29 rfl rfl hP ⟨ret_iv rfl HW2.out.symm, below_set2 (B5.out.setCell (p := ⟨g2, 1, none⟩) (Nat.le_of_lt hlg) _) (by omega) _ _⟩
  · have HW2 := Lib.hid (HW.out (by omega))
    have hz_a : (((H2 : Nat) : Int) == ((H : Nat) : Int)) = false := by simp; omega
    have hz_b : ¬ ((H2 : Int) = (H : Int)) := by omega
    have hz_c : decide ((H2 : Int) = (H : Int)) = false := decide_eq_false (by omega)
    have hz_d : decide (H2 = H) = false := decide_eq_false (by omega)
    have hz_e : (H2 == H) = false := by simp; omega
    have HKS : Hid (∀ X : World, Below W2.heap.size W2 X → X.cell? ⟨g1, 0, none⟩ = some (.bool false) ∧ X.cell? ⟨g1, 1, none⟩ = some (.int .u64 (H : Int)) ∧ X.cell? ⟨g1, 2, none⟩ = some (.int .u64 (L : Int))) := fun X h => ⟨(X2.out.via h).c0, (X2.out.via h).c1, (X2.out.via h).c2⟩
    go_region_held3 (fun X => X.cell? ⟨g1, 0, none⟩ = some (.bool false) ∧ X.cell? ⟨g1, 1, none⟩ = some (.int .u64 (H : Int)) ∧ X.cell? ⟨g1, 2, none⟩ = some (.int .u64 (L : Int)))
      (first | exact HKS.out _ (Below.refl _ _) | exact HKS.out _ (Below.refl _ _).drew | exact HKS.out _ E0)
      (first | (go_at_call 33; refine (M2.out _).mono ?_; rintro e y0 ⟨rfl, hh0⟩; have E0 : Below W2.heap.size W2 y0 := (by first | exact (bdrewN (Below.refl _ _) 1).trans hh0 | exact hh0)) | fail)
    have P5 := Lib.hid (P2.out.via E0)
    have Y5 := Lib.hid (Y2.out.via E0)
    have B5 := Lib.hid (sbtr B2.out E0)
    clear P2 Y2 X2 B2 HKS E0 M2
    have ⟨r0, r1, r2, r3, rl⟩ := P5.out
    have ⟨t0, t1, t2, t3, tl⟩ := Y5.out
    have hng := Nat.ne_of_lt hlg
    have hng2 := Nat.ne_of_gt hlg
    go_wp2
    have hP := (P5.out.farO hng 1 (.int .i64 ((R : Int) + 1))).set (.int .i64 (R : Int)) (.int .i64 ((R : Int) + 1))
    exact post_iv1 Tryz.results29 rfl rfl hP ⟨ret_iv rfl HW2.out.symm, below_set2 (B5.out.setCell (p := ⟨g2, 1, none⟩) (Nat.le_of_lt hlg) _) (by omega) _ _⟩
end Go.Proofs.YtegnaknoaflppaaGreatDoor

/- Intervals: Sqrt of package span. -/
namespace Go.Proofs.YtegnaknoaflppaaGreatDoor
open Go.RowKit

theorem IsRt.mono {N M r s : Nat} (h : N ≤ M) (hr : IsRt N r) (hs : IsRt M s) : r ≤ s := by
  obtain ⟨a1, _⟩ := hr
  obtain ⟨_, b2⟩ := hs
  rcases Nat.lt_or_ge s r with g | g
  · have := Nat.mul_le_mul (show s + 1 ≤ r by omega) (show s + 1 ≤ r by omega); omega
  · exact g
theorem rtHi_le (N R : Nat) : (R : Int) ≤ rtHi N R := by unfold rtHi; split <;> omega
def rtO (al ah : Int) (Rl Rh : Nat) : Out := if al < 0 then ⟨0, 0, 2⟩ else mkI (Rl : Int) (rtHi (ah.toNat * 1099511627776) Rh)
set_option maxRecDepth 100000 in
set_option maxHeartbeats 2000000 in
theorem ssqrt_any (w : World) (al ah : Int) (Rl Rh : Nat) (hl : IsRt (al.toNat * 1099511627776) Rl) (hh : IsRt (ah.toNat * 1099511627776) Rh) :
    Calls Tryz.prog 9 #[iv al ah] w (RO w (j1 al ah (rtO al ah Rl Rh))) := by
  have PA := Lib.hid ((Pr.new w w.heap.size rfl (.int .i64 al) (.int .i64 ah) 23).alloc (ivB 0 0))
  have PR := Lib.hid (Pr.new (w.alloc (ivB al ah)) (w.heap.size + 1) (by simp) (.int .i64 0) (.int .i64 0) 23)
  have BW : Hid (Below w.heap.size w ((w.alloc (ivB al ah)).alloc (ivB 0 0))) := sbal (sbal (Below.refl _ _) _) _
  go_enter Tryz.func9, Tryz.ntmps9
  go_wp2_with fail
  generalize (w.alloc (ivB al ah)).alloc (ivB 0 0) = W0 at *
  refine (scheck_any _ al ah).mono ?_
  rintro e w1 ⟨rfl, hb⟩
  have P1 := Lib.hid (PA.out.via hb)
  have P3 := Lib.hid (PR.out.via hb)
  have B1 := Lib.hid (sbtr BW.out hb)
  clear hb PA PR BW
  rcases ivC_cases al ah with ⟨h, x1, x2, x3⟩ | ⟨h, _⟩
  · rw [h]
    have HO : Hid (j1 al ah (rtO al ah Rl Rh) = rtO al ah Rl Rh) := j1_ok h
    clear h
    by_cases hz : al < 0
    · have HM : Hid (rtO al ah Rl Rh = ⟨0, 0, 2⟩) := by show _ = _; unfold rtO; rw [if_pos hz]
      have ⟨a0, a1, _, _, _⟩ := P1.out
      have ⟨r0, r1, r2, r3, r4⟩ := P3.out
      clear x1 x2 x3 hl hh
      go_wp2
      exact post_iv Tryz.results9 rfl rfl (P3.out.set _ _) ⟨ret_out (HO.out.trans HM.out), below_set2 B1.out (by omega) _ _⟩
    · have hm : (Rl : Int) ≤ rtHi (ah.toNat * 1099511627776) Rh := by
        have h1 := IsRt.mono (Nat.mul_le_mul_right _ (show al.toNat ≤ ah.toNat by omega)) hl hh
        have h2 := rtHi_le (ah.toNat * 1099511627776) Rh
        omega
      have k0 : ∀ W, Calls Tryz.prog 29 #[.int .i64 al] W (RV W (Rl : Int) (rtHi (al.toNat * 1099511627776) Rl)) := fun W => by
        have := sroot_any W al.toNat Rl (by omega) hl
        rwa [Int.toNat_of_nonneg (by omega)] at this
      have k1 : ∀ W, Calls Tryz.prog 29 #[.int .i64 ah] W (RV W (Rh : Int) (rtHi (ah.toNat * 1099511627776) Rh)) := fun W => by
        have := sroot_any W ah.toNat Rh (by omega) hh
        rwa [Int.toNat_of_nonneg (by omega)] at this
      have HM : Hid (mkI (Rl : Int) (rtHi (ah.toNat * 1099511627776) Rh) = rtO al ah Rl Rh) := by show _ = _; unfold rtO; rw [if_neg hz]
      have RI := Lib.hid (fun W => rising_rt W al ah _ _ _ _ k0 k1)
      have HLE := Lib.hid hm
      have hal : decide (al < 0) = false := decide_eq_false hz
      clear k0 k1 hm hl hh x1 x2 x3
      generalize rtHi (ah.toNat * 1099511627776) Rh = v at *
      generalize rtO al ah Rl Rh = o at *
      have ⟨a0, a1, _, _, _⟩ := P1.out
      go_wp2_with fail
      clear a0 a1
      refine (RI.out _).mono ?_
      rintro e w2 ⟨rfl, hb⟩
      have P4 := Lib.hid (P3.out.via hb)
      have B2 := Lib.hid (sbtr B1.out hb)
      clear hb P3 B1 RI P1
      go_wp2_with fail
      refine (smade_any _ _ _ HLE.out).mono ?_
      rintro e w3 ⟨rfl, hb⟩
      have P5 := Lib.hid (P4.out.via hb)
      have B3 := Lib.hid (sbtr B2.out hb)
      clear hb P4 B2
      have ⟨r0, r1, r2, r3, r4⟩ := P5.out
      go_wp2
      exact post_iv Tryz.results9 rfl rfl (P5.out.set _ _) ⟨ret_mk (HM.out.trans HO.out.symm), below_set2 B3.out (by omega) _ _⟩
  · rw [h]
    have HO : Hid (j1 al ah (rtO al ah Rl Rh) = ⟨0, 0, 8⟩) := j1_bad h
    clear h hl hh
    have ⟨r0, r1, r2, r3, r4⟩ := P3.out
    go_wp2
    exact post_iv Tryz.results9 rfl rfl (P3.out.set _ _) ⟨by rw [HO.out]; rfl, below_set2 B1.out (by omega) _ _⟩
end Go.Proofs.YtegnaknoaflppaaGreatDoor

/- What the chapter's examples of intervals need: the fraction 1/3 of the reference, and the results at closed numbers. -/
namespace Go.Proofs.YtegnaknoaflppaaGreatDoor
open Go.RowKit

theorem rred_third (w : World) (A B : Option Addr) (n m ca cb : Nat) (hA : Lm w w.heap.size A n ca (digs 1)) (hB : Lm w w.heap.size B m cb (digs 3)) :
    Calls Tryz.prog 106 #[.agg #[.bool false, .slice A n ca], .agg #[.bool false, .slice B m cb]] w (RFr w 1 3) := by
  have h := rreduced_pos w A B n m ca cb 1 1 3 hA hB (by unfold Sz; decide) (by unfold Sz; decide) (by omega) (na := false) (nb := false) (by decide) (by decide) (by decide)
  have e1 : (1 : Int) / dvr 1 3 = 1 := by decide
  have e2 : (3 : Int) / dvr 1 3 = 3 := by decide
  rwa [e1, e2] at h
theorem rmake_third (w : World) (A B : Option Addr) (n m ca cb : Nat) (hA : Lm w w.heap.size A n ca (digs 1)) (hB : Lm w w.heap.size B m cb (digs 3)) :
    Calls Tryz.prog 87 #[.agg #[.bool false, .slice A n ca], .agg #[.bool false, .slice B m cb]] w (RG w false (digs 1) false (digs 3) 0) :=
  rmake_ok w false false A B n m ca cb (digs 1) (digs 3) hA hB (by decide) (by decide) (by decide) 1 3 (fun W h1 h2 => rred_third W A B n m ca cb h1 h2)
theorem rof_third (w : World) : Calls Tryz.prog 69 #[.int .i64 1, .int .i64 3] w (RG w false (digs 1) false (digs 3) 0) :=
  rof_g w 1 3 (by omega) (by omega) (by omega) (by omega) false false (digs 1) (digs 3) 0 (fun W A B n m ca cb h1 h2 => rmake_third W A B n m ca cb h1 h2)
theorem sz_one : Sz 1 1 := by unfold Sz; decide
theorem sz_three : Sz 1 3 := by unfold Sz; decide
theorem sof_third (w : World) (A B : Option Addr) (n m ca cb : Nat) (hA : Lm w w.heap.size A n ca (digs 1)) (hB : Lm w w.heap.size B m cb (digs 3)) :
    Calls Tryz.prog 15 #[fv false A n ca false B m cb] w (RO w ⟨366503875925, 366503875926, 0⟩) := by
  have h := sof_c1 w false A B n m ca cb 1 3 hA hB (by decide) (sz_one.mono (by omega)) (sz_three.mono (by omega)) (by decide) (by decide) (by decide) (by decide) (by decide)
  exact h
theorem smul_ex (w : World) : Calls Tryz.prog 8 #[iv (-1099511627776) 2199023255552, iv 3298534883328 4398046511104] w (RO w ⟨-4398046511104, 8796093022208, 0⟩) := smulp_any w _ _ _ _
theorem ssq_ex (w : World) : Calls Tryz.prog 21 #[iv (-1099511627776) 2199023255552] w (RO w ⟨0, 4398046511104, 0⟩) := ssq_any w _ _
theorem sdiv_ex (w : World) : Calls Tryz.prog 12 #[iv 1099511627776 1099511627776, iv 0 1099511627776] w (RO w ⟨0, 0, 18⟩) := sdiv_any w _ _ _ _
theorem rt_ex : IsRt ((2199023255552 : Int).toNat * 1099511627776) 1554944255987 := by unfold IsRt; decide
theorem ssqrt_ex (w : World) : Calls Tryz.prog 9 #[iv 2199023255552 2199023255552] w (RO w ⟨1554944255987, 1554944255988, 0⟩) := ssqrt_any w _ _ _ _ rt_ex rt_ex
end Go.Proofs.YtegnaknoaflppaaGreatDoor

/- The chapter's examples of intervals hold. -/
namespace Go.Proofs.YtegnaknoaflppaaGreatDoor
open Go.RowKit

set_option maxRecDepth 100000 in
theorem liv_any (w : World) (x y : Int) : Calls Tryz.prog 5 #[.int .i64 x, .int .i64 y] w (RV w x y) := by
  go_enter Tryz.func5, Tryz.ntmps5
  go_wp2
  exact post_iv1 Tryz.results5 rfl rfl (Pr.new w _ rfl _ _ _) ⟨rfl, sbal (Below.refl _ _) _⟩
set_option maxRecDepth 100000 in
theorem lones_any (w : World) (x y X Y : Int) (hx : X = x * 1099511627776) (hy : Y = y * 1099511627776) (h1 : -2305843009213693952 ≤ X) (h2 : X ≤ 2305843009213693952) (h3 : -2305843009213693952 ≤ Y) (h4 : Y ≤ 2305843009213693952) :
    Calls Tryz.prog 43 #[.int .i64 x, .int .i64 y] w (RV w X Y) := by
  have e1 : IntKind.i64.wrap (x * 1099511627776) = X := by rw [← hx]; exact IntWalk.i64_in _ (by omega)
  have e2 : IntKind.i64.wrap (y * 1099511627776) = Y := by rw [← hy]; exact IntWalk.i64_in _ (by omega)
  have E : Hid (Ending.returned (iv (x * 1099511627776) (y * 1099511627776)) = .returned (iv X Y)) := by show _ = _; rw [← hx, ← hy]
  have hx1 : -9223372036854775808 ≤ x * 1099511627776 := by omega
  have hx2 : x * 1099511627776 ≤ 9223372036854775807 := by omega
  have hy1 : -9223372036854775808 ≤ y * 1099511627776 := by omega
  have hy2 : y * 1099511627776 ≤ 9223372036854775807 := by omega
  clear hx hy h1 h2 h3 h4
  go_enter Tryz.func43, Tryz.ntmps43
  go_wp2
  first
  | exact post_iv1 Tryz.results43 rfl rfl (Pr.new w _ rfl _ _ _) ⟨rfl, sbal (Below.refl _ _) _⟩
  | exact post_iv1 Tryz.results43 rfl rfl (Pr.new w _ rfl _ _ _) ⟨E.out, sbal (Below.refl _ _) _⟩
set_option maxRecDepth 100000 in
set_option maxHeartbeats 1000000 in
theorem lpart_third (w : World) : Calls Tryz.prog 42 #[.int .i64 1, .int .i64 3] w fun e w' => ∃ A n c B m c', e = .returned (fv false A n c false B m c') ∧ Lm w' w'.heap.size A n c (digs 1) ∧ Lm w' w'.heap.size B m c' (digs 3) ∧ Below w.heap.size w w' := by
  have QR := Lib.hid (Qd.new w w.heap.size rfl (.bool false) (.slice none 0 0) (.bool false) (.slice none 0 0) 39)
  have BW : Hid (Below w.heap.size w (w.alloc (.cells #[.bool false, .slice none 0 0, .bool false, .slice none 0 0] 39))) := sbal (Below.refl _ _) _
  go_enter Tryz.func42, Tryz.ntmps42
  go_wp2_with fail
  generalize w.alloc _ = W0 at *
  refine (rof_third _).mono ?_
  rintro e w1 ⟨A, n, c, B, m, c', rfl, hA, hB, hb⟩
  have L1 := Lib.hid (hA.box (.cells #[.bool false, .slice A n c, .bool false, .slice B m c'] 39))
  have L2 := Lib.hid (hB.box (.cells #[.bool false, .slice A n c, .bool false, .slice B m c'] 39))
  have Q1 := Lib.hid ((QR.out.via hb).alloc (.cells #[.bool false, .slice A n c, .bool false, .slice B m c'] 39))
  have B1 := Lib.hid (sbal (sbtr BW.out hb) (.cells #[.bool false, .slice A n c, .bool false, .slice B m c'] 39))
  have X1 := Lib.hid (Qd.new w1 _ rfl (.bool false) (.slice A n c) (.bool false) (.slice B m c') 39)
  clear hb hA hB QR BW
  go_upto_region 2 with (fail)
  generalize w1.alloc (.cells #[.bool false, .slice A n c, .bool false, .slice B m c'] 39) = W1 at *
  generalize w1.heap.size = g1 at *
  have ⟨x0, x1, x2, x3, _, _, _, _, xl⟩ := X1.out
  have ⟨q0, q1, q2, q3, q4, q5, q6, q7, ql⟩ := Q1.out
  go_wp2
  exact post_f1 Tryz.results42 rfl rfl (Q1.out.set (.bool false) (.slice A n c) (.bool false) (.slice B m c')) ⟨A, n, c, B, m, c', rfl, L1.out.put4 Q1.out _ _ _ _, L2.out.put4 Q1.out _ _ _ _, below_put4 B1.out (by omega) _ _ _ _⟩
set_option maxRecDepth 100000 in
set_option maxHeartbeats 8000000 in
theorem lalive_any (w : World) : Calls Tryz.prog 18 #[] w (RB1 w true) := by
  have BX : Hid (Below w.heap.size w w) := Below.refl _ _
  go_enter Tryz.func18, Tryz.ntmps18
  go_wp2_with fail
  refine (lpart_third _).mono ?_
  rintro e w1 ⟨A, n, c, B, m, c', rfl, hL1, hL2, hb⟩
  replace BX := Lib.hid (sbtr BX.out hb)
  have L1 := Lib.hid hL1
  have L2 := Lib.hid hL2
  clear hb hL1 hL2
  go_wp2_with fail
  refine (sof_third _ A B n m c c' L1.out L2.out).mono ?_
  rintro e w2 ⟨rfl, hb⟩
  replace L1 := Lib.hid (L1.out.via hb)
  replace L2 := Lib.hid (L2.out.via hb)
  replace BX := Lib.hid (sbtr BX.out hb)
  clear hb
  clear L1 L2
  go_upto_region 2 with (fail)
  have XA := Lib.hid (Pr.new w2 _ rfl (.int .i64 (366503875925)) (.int .i64 (366503875926)) 23)
  replace BX := Lib.hid (sbal BX.out (ivB (366503875925) (366503875926)))
  generalize w2.heap.size = gXA at *
  generalize w2.alloc (ivB (366503875925) (366503875926)) = V2 at *
  go_wp2_with fail
  refine (lones_any _ (-1) 2 (-1099511627776) 2199023255552 (by decide) (by decide) (by decide) (by decide) (by decide) (by decide)).mono ?_
  rintro e w3 ⟨rfl, hb⟩
  replace XA := Lib.hid (XA.out.via hb)
  replace BX := Lib.hid (sbtr BX.out hb)
  clear hb
  go_wp2_with fail
  refine (lones_any _ (3) 4 (3298534883328) 4398046511104 (by decide) (by decide) (by decide) (by decide) (by decide) (by decide)).mono ?_
  rintro e w4 ⟨rfl, hb⟩
  replace XA := Lib.hid (XA.out.via hb)
  replace BX := Lib.hid (sbtr BX.out hb)
  clear hb
  go_wp2_with fail
  refine (smul_ex _).mono ?_
  rintro e w5 ⟨rfl, hb⟩
  replace XA := Lib.hid (XA.out.via hb)
  replace BX := Lib.hid (sbtr BX.out hb)
  clear hb
  go_upto_region 3 with (fail)
  replace XA := Lib.hid (XA.out.alloc (ivB (-4398046511104) (8796093022208)))
  have XB := Lib.hid (Pr.new w5 _ rfl (.int .i64 (-4398046511104)) (.int .i64 (8796093022208)) 23)
  replace BX := Lib.hid (sbal BX.out (ivB (-4398046511104) (8796093022208)))
  generalize w5.heap.size = gXB at *
  generalize w5.alloc (ivB (-4398046511104) (8796093022208)) = V5 at *
  go_wp2_with fail
  refine (lones_any _ (-1) 2 (-1099511627776) 2199023255552 (by decide) (by decide) (by decide) (by decide) (by decide) (by decide)).mono ?_
  rintro e w6 ⟨rfl, hb⟩
  replace XA := Lib.hid (XA.out.via hb)
  replace XB := Lib.hid (XB.out.via hb)
  replace BX := Lib.hid (sbtr BX.out hb)
  clear hb
  go_wp2_with fail
  refine (ssq_ex _).mono ?_
  rintro e w7 ⟨rfl, hb⟩
  replace XA := Lib.hid (XA.out.via hb)
  replace XB := Lib.hid (XB.out.via hb)
  replace BX := Lib.hid (sbtr BX.out hb)
  clear hb
  go_upto_region 4 with (fail)
  replace XA := Lib.hid (XA.out.alloc (ivB (0) (4398046511104)))
  replace XB := Lib.hid (XB.out.alloc (ivB (0) (4398046511104)))
  have XC := Lib.hid (Pr.new w7 _ rfl (.int .i64 (0)) (.int .i64 (4398046511104)) 23)
  replace BX := Lib.hid (sbal BX.out (ivB (0) (4398046511104)))
  generalize w7.heap.size = gXC at *
  generalize w7.alloc (ivB (0) (4398046511104)) = V7 at *
  go_wp2_with fail
  refine (lones_any _ (1) 1 (1099511627776) 1099511627776 (by decide) (by decide) (by decide) (by decide) (by decide) (by decide)).mono ?_
  rintro e w8 ⟨rfl, hb⟩
  replace XA := Lib.hid (XA.out.via hb)
  replace XB := Lib.hid (XB.out.via hb)
  replace XC := Lib.hid (XC.out.via hb)
  replace BX := Lib.hid (sbtr BX.out hb)
  clear hb
  go_wp2_with fail
  refine (lones_any _ (0) 1 (0) 1099511627776 (by decide) (by decide) (by decide) (by decide) (by decide) (by decide)).mono ?_
  rintro e w9 ⟨rfl, hb⟩
  replace XA := Lib.hid (XA.out.via hb)
  replace XB := Lib.hid (XB.out.via hb)
  replace XC := Lib.hid (XC.out.via hb)
  replace BX := Lib.hid (sbtr BX.out hb)
  clear hb
  go_wp2_with fail
  refine (sdiv_ex _).mono ?_
  rintro e w10 ⟨rfl, hb⟩
  replace XA := Lib.hid (XA.out.via hb)
  replace XB := Lib.hid (XB.out.via hb)
  replace XC := Lib.hid (XC.out.via hb)
  replace BX := Lib.hid (sbtr BX.out hb)
  clear hb
  go_upto_region 5 with (fail)
  replace XA := Lib.hid (XA.out.alloc (ivB (0) (0)))
  replace XB := Lib.hid (XB.out.alloc (ivB (0) (0)))
  replace XC := Lib.hid (XC.out.alloc (ivB (0) (0)))
  have XZ := Lib.hid (Pr.new w10 _ rfl (.int .i64 (0)) (.int .i64 (0)) 23)
  replace BX := Lib.hid (sbal BX.out (ivB (0) (0)))
  generalize w10.heap.size = gXZ at *
  generalize w10.alloc (ivB (0) (0)) = V10 at *
  go_wp2_with fail
  refine (lones_any _ (2) 2 (2199023255552) 2199023255552 (by decide) (by decide) (by decide) (by decide) (by decide) (by decide)).mono ?_
  rintro e w11 ⟨rfl, hb⟩
  replace XA := Lib.hid (XA.out.via hb)
  replace XB := Lib.hid (XB.out.via hb)
  replace XC := Lib.hid (XC.out.via hb)
  replace XZ := Lib.hid (XZ.out.via hb)
  replace BX := Lib.hid (sbtr BX.out hb)
  clear hb
  go_wp2_with fail
  refine (ssqrt_ex _).mono ?_
  rintro e w12 ⟨rfl, hb⟩
  replace XA := Lib.hid (XA.out.via hb)
  replace XB := Lib.hid (XB.out.via hb)
  replace XC := Lib.hid (XC.out.via hb)
  replace XZ := Lib.hid (XZ.out.via hb)
  replace BX := Lib.hid (sbtr BX.out hb)
  clear hb
  go_upto_region 6 with (fail)
  replace XA := Lib.hid (XA.out.alloc (ivB (1554944255987) (1554944255988)))
  replace XB := Lib.hid (XB.out.alloc (ivB (1554944255987) (1554944255988)))
  replace XC := Lib.hid (XC.out.alloc (ivB (1554944255987) (1554944255988)))
  replace XZ := Lib.hid (XZ.out.alloc (ivB (1554944255987) (1554944255988)))
  have XD := Lib.hid (Pr.new w12 _ rfl (.int .i64 (1554944255987)) (.int .i64 (1554944255988)) 23)
  replace BX := Lib.hid (sbal BX.out (ivB (1554944255987) (1554944255988)))
  generalize w12.heap.size = gXD at *
  generalize w12.alloc (ivB (1554944255987) (1554944255988)) = V12 at *
  have HKS : Hid (∀ X : World, Below V12.heap.size V12 X → X.cell? ⟨gXA, 0, none⟩ = some (.int .i64 (366503875925)) ∧ X.cell? ⟨gXA, 1, none⟩ = some (.int .i64 (366503875926)) ∧ X.cell? ⟨gXB, 0, none⟩ = some (.int .i64 (-4398046511104)) ∧ X.cell? ⟨gXB, 1, none⟩ = some (.int .i64 (8796093022208)) ∧ X.cell? ⟨gXC, 0, none⟩ = some (.int .i64 (0)) ∧ X.cell? ⟨gXC, 1, none⟩ = some (.int .i64 (4398046511104)) ∧ X.cell? ⟨gXD, 0, none⟩ = some (.int .i64 (1554944255987)) ∧ X.cell? ⟨gXD, 1, none⟩ = some (.int .i64 (1554944255988))) := fun X h => ⟨(XA.out.via h).c0, (XA.out.via h).c1, (XB.out.via h).c0, (XB.out.via h).c1, (XC.out.via h).c0, (XC.out.via h).c1, (XD.out.via h).c0, (XD.out.via h).c1⟩
  go_region_held3 (fun X => X.cell? ⟨gXA, 0, none⟩ = some (.int .i64 (366503875925)) ∧ X.cell? ⟨gXA, 1, none⟩ = some (.int .i64 (366503875926)) ∧ X.cell? ⟨gXB, 0, none⟩ = some (.int .i64 (-4398046511104)) ∧ X.cell? ⟨gXB, 1, none⟩ = some (.int .i64 (8796093022208)) ∧ X.cell? ⟨gXC, 0, none⟩ = some (.int .i64 (0)) ∧ X.cell? ⟨gXC, 1, none⟩ = some (.int .i64 (4398046511104)) ∧ X.cell? ⟨gXD, 0, none⟩ = some (.int .i64 (1554944255987)) ∧ X.cell? ⟨gXD, 1, none⟩ = some (.int .i64 (1554944255988)))
    (first | exact HKS.out _ (Below.refl _ _) | exact HKS.out _ (Below.refl _ _).drew | exact HKS.out _ E3 | exact HKS.out _ E2 | exact HKS.out _ E1 | exact HKS.out _ E0)
    (first
     | (have _t := E2; go_at_call 5; refine (liv_any _ _ _).mono ?_; rintro e y3 ⟨rfl, hh3⟩; have E3 : Below V12.heap.size V12 y3 := sbtr E2 hh3)
     | (have _t := E1; go_at_call 43; refine (lones_any _ (0) 4 (0) 4398046511104 (by decide) (by decide) (by decide) (by decide) (by decide) (by decide)).mono ?_; rintro e y2 ⟨rfl, hh2⟩; have E2 : Below V12.heap.size V12 y2 := sbtr E1 hh2)
     | (have _t := E0; go_at_call 43; refine (lones_any _ (-4) 8 (-4398046511104) 8796093022208 (by decide) (by decide) (by decide) (by decide) (by decide) (by decide)).mono ?_; rintro e y1 ⟨rfl, hh1⟩; have E1 : Below V12.heap.size V12 y1 := sbtr E0 hh1)
     | (go_at_call 5; refine (liv_any _ _ _).mono ?_; rintro e y0 ⟨rfl, hh0⟩; have E0 : Below V12.heap.size V12 y0 := (by first | exact (bdrewN (Below.refl _ _) 1).trans hh0 | exact hh0))
     | fail)
  all_goals
    go_wp2
    go_ret
    exact ⟨rfl, sbtr BX.out E3⟩
end Go.Proofs.YtegnaknoaflppaaGreatDoor

/- A part of an interval has a part of the result. -/
namespace Go.Proofs.YtegnaknoaflppaaGreatDoor
open Go.RowKit

/-- If there is a result p, there is a result q, and it is a part of p. -/
def PartO (p q : Out) : Prop := p.err = 0 → q.err = 0 ∧ p.lo ≤ q.lo ∧ q.hi ≤ p.hi
theorem part_mk {lo hi lo' hi' : Int} (h1 : lo ≤ lo') (h2 : hi' ≤ hi) : PartO (mkI lo hi) (mkI lo' hi') := by
  intro h
  by_cases c : lo < -2305843009213693952 ∨ 2305843009213693952 < hi
  · rw [mkI_out c] at h; cases h
  · rw [mkI_in (by omega) (by omega), mkI_in (by omega) (by omega)]
    exact ⟨rfl, h1, h2⟩
theorem lin_mul {a b t c : Int} (h1 : a ≤ t) (h2 : t ≤ b) : min (a * c) (b * c) ≤ t * c ∧ t * c ≤ max (a * c) (b * c) := by
  rcases Int.le_total 0 c with h | h
  · have e1 := Int.mul_le_mul_of_nonneg_right h1 h
    have e2 := Int.mul_le_mul_of_nonneg_right h2 h
    omega
  · have e1 := Int.mul_le_mul_of_nonpos_right h1 h
    have e2 := Int.mul_le_mul_of_nonpos_right h2 h
    omega
theorem corner {al ah bl bh t s : Int} (h1 : al ≤ t) (h2 : t ≤ ah) (h3 : bl ≤ s) (h4 : s ≤ bh) :
    mn4 (al * bl) (al * bh) (ah * bl) (ah * bh) ≤ t * s ∧ t * s ≤ mx4 (al * bl) (al * bh) (ah * bl) (ah * bh) := by
  obtain ⟨a1, a2⟩ := lin_mul (c := s) h1 h2
  obtain ⟨b1, b2⟩ := lin_mul (c := al) h3 h4
  obtain ⟨c1, c2⟩ := lin_mul (c := ah) h3 h4
  rw [Int.mul_comm bl al, Int.mul_comm bh al, Int.mul_comm s al] at b1 b2
  rw [Int.mul_comm bl ah, Int.mul_comm bh ah, Int.mul_comm s ah] at c1 c2
  unfold mn4 mx4
  omega
theorem part_mul {al ah bl bh x y z w : Int} (h1 : al ≤ x) (h2 : x ≤ y) (h3 : y ≤ ah) (h4 : bl ≤ z) (h5 : z ≤ w) (h6 : w ≤ bh) :
    PartO (mkI (mulLo al ah bl bh) (mulHi al ah bl bh)) (mkI (mulLo x y z w) (mulHi x y z w)) := by
  obtain ⟨a1, a2⟩ := corner (t := x) (s := z) h1 (by omega) h4 (by omega) (ah := ah) (bh := bh)
  obtain ⟨b1, b2⟩ := corner (t := x) (s := w) h1 (by omega) (show bl ≤ w by omega) h6 (ah := ah)
  obtain ⟨c1, c2⟩ := corner (t := y) (s := z) (show al ≤ y by omega) h3 h4 (by omega) (bh := bh)
  obtain ⟨d1, d2⟩ := corner (t := y) (s := w) (show al ≤ y by omega) h3 (show bl ≤ w by omega) h6
  refine part_mk (fdiv_mono (by omega) ?_) (cdiv_mono (by omega) ?_)
  · show _ ≤ mn4 (x * z) (x * w) (y * z) (y * w)
    conv => rhs; unfold mn4
    omega
  · show mx4 (x * z) (x * w) (y * z) (y * w) ≤ _
    conv => lhs; unfold mx4
    omega
theorem dvLo_part {p q c d p' q' c' d' : Int} (h1 : p ≤ p') (h2 : p' ≤ q') (h3 : q' ≤ q) (h4 : 0 < c) (h5 : c ≤ c') (h6 : c' ≤ d') (h7 : d' ≤ d) : dvLo p q c d ≤ dvLo p' q' c' d' := by
  unfold dvLo
  rw [least_quo (by omega) h4 (by omega), least_quo h2 (by omega) h6]
  by_cases hp : p < 0
  · rw [if_pos hp]
    have e1 := fdiv_mono h4 h1
    by_cases hp' : p' < 0
    · rw [if_pos hp']
      have e2 := quo_mono_div_neg (p := p') (by omega) h4 h5
      omega
    · rw [if_neg hp']
      have e2 : 0 ≤ p' / d' := Int.ediv_nonneg (by omega) (by omega)
      have e3 := fdiv_mono h4 (show p ≤ 0 by omega)
      rw [Int.zero_ediv] at e3
      omega
  · rw [if_neg hp, if_neg (by omega)]
    have e1 := fdiv_mono (show 0 < d by omega) h1
    have e2 := quo_mono_div (p := p') (by omega) (show 0 < d' by omega) h7
    omega
theorem dvHi_part {p q c d p' q' c' d' : Int} (h1 : p ≤ p') (h2 : p' ≤ q') (h3 : q' ≤ q) (h4 : 0 < c) (h5 : c ≤ c') (h6 : c' ≤ d') (h7 : d' ≤ d) : dvHi p' q' c' d' ≤ dvHi p q c d := by
  unfold dvHi
  rw [most_quo (by omega) h4 (by omega), most_quo h2 (by omega) h6]
  by_cases hq : 0 < q
  · rw [if_pos hq]
    have e1 := cdiv_mono h4 h3
    by_cases hq' : 0 < q'
    · rw [if_pos hq']
      have e2 := cquo_mono_div (p := q') (by omega) h4 h5
      omega
    · rw [if_neg hq']
      have e2 := cdiv_mono (show 0 < d' by omega) (show q' ≤ 0 by omega)
      have e3 := cdiv_mono h4 (show 0 ≤ q by omega)
      have z1 : cdiv 0 d' = 0 := by unfold cdiv; simp
      have z2 : cdiv 0 c = 0 := by unfold cdiv; simp
      omega
  · rw [if_neg hq, if_neg (by omega)]
    have e1 := cdiv_mono (show 0 < d by omega) h3
    have e2 := cquo_mono_div_neg (p := q') (by omega) (show 0 < d' by omega) h7
    omega
theorem part_div {al ah bl bh x y z w : Int} (h1 : al ≤ x) (h2 : x ≤ y) (h3 : y ≤ ah) (h4 : bl ≤ z) (h5 : z ≤ w) (h6 : w ≤ bh) : PartO (divO al ah bl bh) (divO x y z w) := by
  unfold divO
  by_cases c0 : bl ≤ 0 ∧ 0 ≤ bh
  · rw [if_pos c0]; intro h; cases h
  · rw [if_neg c0, if_neg (show ¬ (z ≤ 0 ∧ 0 ≤ w) by omega)]
    by_cases c1 : 0 < bl
    · rw [if_pos c1, if_pos (show 0 < z by omega)]
      exact part_mk (dvLo_part (by omega) (by omega) (by omega) c1 h4 h5 h6) (dvHi_part (by omega) (by omega) (by omega) c1 h4 h5 h6)
    · rw [if_neg c1, if_neg (show ¬ 0 < z by omega)]
      exact part_mk (dvLo_part (by omega) (by omega) (by omega) (by omega) (by omega) (by omega) (by omega)) (dvHi_part (by omega) (by omega) (by omega) (by omega) (by omega) (by omega) (by omega))
theorem part_sq {al ah x y : Int} (h1 : al ≤ x) (h2 : x ≤ y) (h3 : y ≤ ah) : PartO (sqO al ah) (sqO x y) := by
  unfold sqO
  refine part_mk (fdiv_mono (by omega) (sq_mono ?_ ?_)) (cdiv_mono (by omega) (sq_mono ?_ ?_))
  all_goals first | (unfold sqA; omega) | (unfold sqB; omega)
theorem part_sub {al ah bl bh x y z w : Int} (h1 : al ≤ x) (h3 : y ≤ ah) (h4 : bl ≤ z) (h6 : w ≤ bh) : PartO (mkI (al - bh) (ah - bl)) (mkI (x - w) (y - z)) :=
  part_mk (by omega) (by omega)
end Go.Proofs.YtegnaknoaflppaaGreatDoor

