/- Lemmas, part 2. -/
import Derived.Deep.RegionHeld3
import Derived.RegionTactic
import Derived.ChangeAlike
import Derived.BigRegion
import Derived.Test.YtchhndlpngidcaaSR1
/- Intervals: over of the reference; over, the closures of times and quotient, as clamped quotients. -/
namespace Go.Proofs.Ytchhndlpngidcaa
open Go.RowKit

theorem roK_big {N d : Nat} {b : Bool} (h : 4611686018427387904 ≤ N / d) : roK N d b = 4611686018427387904 := by unfold roK; rw [if_pos h]
theorem roK_more {N d : Nat} {b : Bool} (h : N / d < 4611686018427387904) (hb : b = true) (hr : 0 < N % d) : roK N d b = N / d + 1 := by
  unfold roK; rw [if_neg (by omega), hb, decide_eq_true hr]; rfl
theorem roK_same {N d : Nat} {b : Bool} (h : N / d < 4611686018427387904) (hb : b = false ∨ N % d = 0) : roK N d b = N / d := by
  unfold roK; rw [if_neg (by omega)]
  rcases hb with hb | hb
  · rw [hb]; rfl
  · rw [hb, decide_eq_false (by omega), Bool.and_false]; rfl
theorem rov_t {up : Bool} {N d : Nat} : rov true up N d = -(roK N d (up != true) : Int) := by unfold rov sgn; rfl
theorem rov_f {up : Bool} {N d : Nat} : rov false up N d = (roK N d (up != false) : Int) := by unfold rov sgn; rfl
set_option maxRecDepth 100000 in
set_option maxHeartbeats 1000000 in
theorem rover_great (w : World) (neg up : Bool) (H L D : Nat) (hD : 0 < D) (hge : D ≤ H) :
    Calls Try.prog 46 #[.agg #[.bool neg, .int .u64 (H : Int), .int .u64 (L : Int)], .int .u64 (D : Int), .bool up] w (RN1 w (rov neg up (H * 18446744073709551616 + L) D)) := by
  have hk : ∀ b, roK (H * 18446744073709551616 + L) D b = 4611686018427387904 := fun b => roK_big (by
    rw [Nat.le_div_iff_mul_le hD]
    have := Nat.mul_le_mul_right 18446744073709551616 hge
    omega)
  have HK := Lib.hid hk
  have hd1 : decide (H < D) = false := decide_eq_false (by omega)
  have hd2 : decide ((H : Int) < (D : Int)) = false := decide_eq_false (by omega)
  clear hk hge
  cases neg
  all_goals
    go_enter Try.func46, Try.ntmps46
    go_wp2
    go_ret
    exact ⟨ret_int (by first | rw [rov_t, HK.out]; rfl | rw [rov_f, HK.out]; rfl), by go_grown⟩
set_option maxRecDepth 100000 in
set_option maxHeartbeats 2000000 in
theorem rover_fit (w : World) (neg up : Bool) (H L D : Nat) (hlt : H < D) (hD : D < 18446744073709551616) (hL : L < 18446744073709551616) :
    Calls Try.prog 46 #[.agg #[.bool neg, .int .u64 (H : Int), .int .u64 (L : Int)], .int .u64 (D : Int), .bool up] w (RN1 w (rov neg up (H * 18446744073709551616 + L) D)) := by
  have HD := Lib.hid (fun W => div64_any W H L D hlt hD hL)
  have hq9 : (H * 18446744073709551616 + L) / D < 18446744073709551616 := by
    rw [Nat.div_lt_iff_lt_mul (by omega), Nat.mul_comm]
    have := Nat.mul_le_mul_right 18446744073709551616 (show H + 1 ≤ D from hlt)
    omega
  have hli : (H : Int) < (D : Int) := by omega
  have HK1 := Lib.hid (fun (b : Bool) (h : 4611686018427387904 ≤ (H * 18446744073709551616 + L) / D) => roK_big (N := H * 18446744073709551616 + L) (d := D) (b := b) h)
  have HK2 := Lib.hid (fun (b : Bool) (h : (H * 18446744073709551616 + L) / D < 4611686018427387904) (hb : b = true) (hr : 0 < (H * 18446744073709551616 + L) % D) => roK_more h hb hr)
  have HK3 := Lib.hid (fun (b : Bool) (h : (H * 18446744073709551616 + L) / D < 4611686018427387904) (hb : b = false ∨ (H * 18446744073709551616 + L) % D = 0) => roK_same h hb)
  have HT := Lib.hid (rov_t (up := up) (N := H * 18446744073709551616 + L) (d := D))
  have HF := Lib.hid (rov_f (up := up) (N := H * 18446744073709551616 + L) (d := D))
  obtain ⟨v, hv⟩ : ∃ v, v = rov neg up (H * 18446744073709551616 + L) D := ⟨_, rfl⟩
  rw [← hv]
  have HV := Lib.hid hv
  clear hv
  generalize (H * 18446744073709551616 + L) / D = q at *
  generalize (H * 18446744073709551616 + L) % D = r at *
  generalize H * 18446744073709551616 + L = N at *
  have HB : Hid (Below w.heap.size w (w.alloc (.cells #[.bool neg, .int .u64 (H : Int), .int .u64 (L : Int)] 55))) := sbal (Below.refl _ _) _
  have P3 := Lib.hid (C3.new w w.heap.size rfl (.bool neg) (.int .u64 (H : Int)) (.int .u64 (L : Int)) 55)
  clear hlt hD hL
  go_enter Try.func46, Try.ntmps46
  go_wp2_with fail
  generalize w.alloc (.cells #[.bool neg, .int .u64 (H : Int), .int .u64 (L : Int)] 55) = W0 at *
  have ⟨p0, p1, p2, _, _, _, _⟩ := P3.out
  go_wp2_with fail
  refine (HD.out _).mono ?_
  rintro e w1 ⟨rfl, k, rfl⟩
  have Q3 := Lib.hid (P3.out.drewN k)
  have QB := Lib.hid (bdrewN HB.out k)
  clear P3 HB p0 p1 p2 HD
  generalize W0.drewN k = W1 at *
  have ⟨p0, p1, p2, _, _, _, _⟩ := Q3.out
  rcases Nat.lt_or_ge q 4611686018427387904 with hq | hq
  · have hqi : (q : Int) < 4611686018427387904 := by omega
    have hqd : decide ((4611686018427387904 : Int) ≤ (q : Int)) = false := decide_eq_false (by omega)
    have hq9i : (q : Int) < 18446744073709551616 := by omega
    have HQ := Lib.hid hq
    clear hq hq9
    rcases pos_cases r with ⟨hr, hr'⟩ | ⟨hr, hr', hr3⟩
    · have HR := Lib.hid hr'
      cases neg <;> cases up
      all_goals
        go_wp2
        go_ret
        exact ⟨ret_int (by
          first
          | (rw [HV.out, HT.out, HK2.out _ HQ.out (by rfl) HR.out] <;> omega)
          | (rw [HV.out, HT.out, HK3.out _ HQ.out (.inl (by rfl))] <;> omega)
          | (rw [HV.out, HF.out, HK2.out _ HQ.out (by rfl) HR.out] <;> omega)
          | (rw [HV.out, HF.out, HK3.out _ HQ.out (.inl (by rfl))] <;> omega)), QB.out⟩
    · have hr0 : r = 0 := by omega
      have HR := Lib.hid hr0
      clear hr0
      cases neg <;> cases up
      all_goals
        go_wp2
        go_ret
        exact ⟨ret_int (by
          first
          | (rw [HV.out, HT.out, HK3.out _ HQ.out (.inr HR.out)]; done)
          | (rw [HV.out, HF.out, HK3.out _ HQ.out (.inr HR.out)]; done)), QB.out⟩
  · have hqi : (4611686018427387904 : Int) ≤ (q : Int) := by omega
    have HQ := Lib.hid hq
    clear hq hq9
    cases neg
    all_goals
      go_wp2
      go_ret
      exact ⟨ret_int (by
        first
        | (rw [HV.out, HT.out, HK1.out _ HQ.out]; rfl)
        | (rw [HV.out, HF.out, HK1.out _ HQ.out]; rfl)), QB.out⟩
theorem split128 (N : Nat) (hN : N < 340282366920938463463374607431768211456) : N / 18446744073709551616 < 18446744073709551616 ∧ N / 18446744073709551616 * 18446744073709551616 + N % 18446744073709551616 = N := by omega
theorem over_ex (neg : Bool) (N : Nat) (d : Int) (hd0 : d ≠ 0) (hd1 : -9223372036854775808 ≤ d) (hd2 : d ≤ 9223372036854775807) :
    ∃ lo hi, lo ≤ hi ∧ cl lo = cl (sgn (neg != decide (d < 0)) N / (d.natAbs : Int)) ∧ cl hi = cl (cdiv (sgn (neg != decide (d < 0)) N) (d.natAbs : Int)) ∧ ∀ w, Calls Try.prog 65 #[pv neg N, .int .i64 d] w (RV w lo hi) := by
  have hD : 0 < d.natAbs := by omega
  have hs : N / 18446744073709551616 * 18446744073709551616 + N % 18446744073709551616 = N := by omega
  rcases Nat.lt_or_ge (N / 18446744073709551616) d.natAbs with h | h
  · refine ⟨_, _, ov_le _ _ _, ?_, ?_, fun w => over_fit w neg (N / 18446744073709551616) (N % 18446744073709551616) d hd1 hd2 h (by omega)⟩
    · rw [hs]; exact ovLo_cl _ N d.natAbs hD _ (fun e => by simp at e; omega) (fun e => by simp at e; omega)
    · rw [hs]; exact ovHi_cl _ N d.natAbs hD _ (fun e => by simp at e; omega) (fun e => by simp at e; omega)
  · have hbig : 18446744073709551616 ≤ N / d.natAbs := by
      rw [Nat.le_div_iff_mul_le hD]
      have := Nat.mul_le_mul_right 18446744073709551616 h
      rw [Nat.mul_comm]
      omega
    have e1 : ∀ g, ovLo g 2305843009213693953 false = ovLo g (N / d.natAbs) false := fun g => by
      have : arLo 2305843009213693953 = arLo (N / d.natAbs) := by unfold arLo; omega
      unfold ovLo arHi; rw [this]
    have e2 : ∀ g, ovHi g 2305843009213693953 false = ovHi g (N / d.natAbs) false := fun g => by
      have : arLo 2305843009213693953 = arLo (N / d.natAbs) := by unfold arLo; omega
      unfold ovHi arHi; rw [this]
    refine ⟨_, _, ov_le _ _ _, ?_, ?_, fun w => over_great w neg (N / 18446744073709551616) (N % 18446744073709551616) d hd1 hd2 h⟩
    · rw [e1]; exact ovLo_cl _ N d.natAbs hD _ (fun e => by cases e) (fun _ => .inr (by omega))
    · rw [e2]; exact ovHi_cl _ N d.natAbs hD _ (fun e => by cases e) (fun _ => .inr (by omega))
theorem rover_any (w : World) (neg up : Bool) (N D : Nat) (hD0 : 0 < D) (hD : D < 18446744073709551616) :
    Calls Try.prog 46 #[pv neg N, .int .u64 (D : Int), .bool up] w (RN1 w (rov neg up N D)) := by
  have hs : N / 18446744073709551616 * 18446744073709551616 + N % 18446744073709551616 = N := by omega
  rcases Nat.lt_or_ge (N / 18446744073709551616) D with h | h
  · have := rover_fit w neg up (N / 18446744073709551616) (N % 18446744073709551616) D h hD (by omega)
    rw [hs] at this
    exact this
  · have := rover_great w neg up (N / 18446744073709551616) (N % 18446744073709551616) D hD0 h
    rw [hs] at this
    exact this
/-- The sign of a product and its absolute value make the product. -/
theorem sgn_mul (x y : Int) : sgn (sgB x y) (x.natAbs * y.natAbs) = x * y := by
  unfold sgn sgB
  rcases Int.lt_or_le x 0 with hx | hx <;> rcases Int.lt_or_le y 0 with hy | hy
  · have e1 : (x.natAbs : Int) = -x := by omega
    have e2 : (y.natAbs : Int) = -y := by omega
    rw [decide_eq_true hx, decide_eq_true hy, Int.natCast_mul, e1, e2]
    simp [Int.neg_mul, Int.mul_neg]
  · have e1 : (x.natAbs : Int) = -x := by omega
    have e2 : (y.natAbs : Int) = y := by omega
    rw [decide_eq_true hx, decide_eq_false (by omega), Int.natCast_mul, e1, e2]
    simp [Int.neg_mul]
  · have e1 : (x.natAbs : Int) = x := by omega
    have e2 : (y.natAbs : Int) = -y := by omega
    rw [decide_eq_false (by omega), decide_eq_true hy, Int.natCast_mul, e1, e2]
    simp [Int.mul_neg]
  · have e1 : (x.natAbs : Int) = x := by omega
    have e2 : (y.natAbs : Int) = y := by omega
    rw [decide_eq_false (by omega), decide_eq_false (by omega), Int.natCast_mul, e1, e2]
    simp
theorem sgn_zero (b : Bool) : sgn b 0 = 0 := by cases b <;> rfl
theorem sgnT_mul (x y : Int) : sgn (sgT x y) (x.natAbs * y.natAbs) = x * y := by
  by_cases h : 0 < x.natAbs * y.natAbs
  · have e : sgT x y = sgB x y := by unfold sgT; rw [decide_eq_true h, Bool.and_true]
    rw [e]; exact sgn_mul x y
  · have e : x.natAbs * y.natAbs = 0 := by omega
    have h2 := sgn_mul x y
    rw [e, sgn_zero] at h2
    rw [e, sgn_zero, h2]
end Go.Proofs.Ytchhndlpngidcaa

/- Intervals: the closures of times and quotient; square. -/
namespace Go.Proofs.Ytchhndlpngidcaa
open Go.RowKit

def qn (x y : Int) : Int := if y < 0 then -(x * 1099511627776) else x * 1099511627776
theorem sgn_not (b : Bool) (N : Nat) : sgn (!b) N = -sgn b N := by cases b <;> simp [sgn]
set_option maxRecDepth 100000 in
theorem tclos_ex (x y : Int) (hx1 : -2305843009213693952 ≤ x) (hx2 : x ≤ 2305843009213693952) (hy1 : -2305843009213693952 ≤ y) (hy2 : y ≤ 2305843009213693952) :
    ∃ lo hi, lo ≤ hi ∧ cl lo = cl (x * y / 1099511627776) ∧ cl hi = cl (cdiv (x * y) 1099511627776) ∧ ∀ w, Calls Try.prog 70 #[.int .i64 x, .int .i64 y] w (RV w lo hi) := by
  obtain ⟨lo, hi, h1, h2, h3, h4⟩ := over_ex (sgB (x) (y)) ((x).natAbs * (y).natAbs) (1099511627776 : Int) (by omega) (by omega) (by omega)
  have e : (sgB x y != decide ((1099511627776 : Int) < 0)) = sgB x y := by cases sgB x y <;> rfl
  rw [e, sgn_mul] at h2 h3
  refine ⟨lo, hi, h1, h2, h3, fun w => ?_⟩
  have H4 := Lib.hid h4
  have HM := Lib.hid (fun w => smul_any w (x) (y) (by omega) (by omega) (by omega) (by omega))
  have HB : Hid (Below w.heap.size w (w.alloc (ivB 0 0))) := sbal (Below.refl _ _) _
  have PR := Lib.hid (Pr.new w w.heap.size rfl (.int .i64 0) (.int .i64 0) 23)
  clear h1 h2 h3 h4
  go_enter Try.func70, Try.ntmps70
  go_wp2_with fail
  generalize w.alloc (ivB 0 0) = W0 at *
  refine (HM.out _).mono ?_
  rintro e w1 ⟨rfl, hb⟩
  have P1 := Lib.hid (PR.out.via hb)
  have B1 := Lib.hid (sbtr HB.out hb)
  clear hb PR HB HM
  go_wp2_with fail
  refine (H4.out _).mono ?_
  rintro e w2 ⟨rfl, hb⟩
  have P2 := Lib.hid (P1.out.via hb)
  have B2 := Lib.hid (sbtr B1.out hb)
  clear hb P1 B1 H4
  have ⟨r0, r1, r2, r3, rl⟩ := P2.out
  go_wp2
  exact post_iv1 Try.results70 rfl rfl (P2.out.set _ _) ⟨rfl, below_set2 B2.out (by omega) _ _⟩
set_option maxRecDepth 100000 in
theorem qclos_ex (x y : Int) (hx1 : -2305843009213693952 ≤ x) (hx2 : x ≤ 2305843009213693952) (hy1 : -2305843009213693952 ≤ y) (hy2 : y ≤ 2305843009213693952) (hy0 : y ≠ 0) :
    ∃ lo hi, lo ≤ hi ∧ cl lo = cl (qn x y / (y.natAbs : Int)) ∧ cl hi = cl (cdiv (qn x y) (y.natAbs : Int)) ∧ ∀ w, Calls Try.prog 72 #[.int .i64 x, .int .i64 y] w (RV w lo hi) := by
  obtain ⟨lo, hi, h1, h2, h3, h4⟩ := over_ex (sgB (x) (1099511627776 : Int)) ((x).natAbs * (1099511627776 : Int).natAbs) (y) (by omega) (by omega) (by omega)
  have e : sgn (sgB x 1099511627776 != decide (y < 0)) (x.natAbs * (1099511627776 : Int).natAbs) = qn x y := by
    have h := sgn_mul x 1099511627776
    unfold qn
    rcases neg_cases y with hy | ⟨hy, hy'⟩
    · rw [if_pos hy, decide_eq_true hy, show (sgB x 1099511627776 != true) = !sgB x 1099511627776 by cases sgB x 1099511627776 <;> rfl, sgn_not, h]
    · rw [if_neg (by omega), hy, show (sgB x 1099511627776 != false) = sgB x 1099511627776 by cases sgB x 1099511627776 <;> rfl, h]
  rw [e] at h2 h3
  refine ⟨lo, hi, h1, h2, h3, fun w => ?_⟩
  have H4 := Lib.hid h4
  have HM := Lib.hid (fun w => smul_any w (x) (1099511627776 : Int) (by omega) (by omega) (by omega) (by omega))
  have HB : Hid (Below w.heap.size w (w.alloc (ivB 0 0))) := sbal (Below.refl _ _) _
  have PR := Lib.hid (Pr.new w w.heap.size rfl (.int .i64 0) (.int .i64 0) 23)
  clear h1 h2 h3 h4
  go_enter Try.func72, Try.ntmps72
  go_wp2_with fail
  generalize w.alloc (ivB 0 0) = W0 at *
  refine (HM.out _).mono ?_
  rintro e w1 ⟨rfl, hb⟩
  have P1 := Lib.hid (PR.out.via hb)
  have B1 := Lib.hid (sbtr HB.out hb)
  clear hb PR HB HM
  go_wp2_with fail
  refine (H4.out _).mono ?_
  rintro e w2 ⟨rfl, hb⟩
  have P2 := Lib.hid (P1.out.via hb)
  have B2 := Lib.hid (sbtr B1.out hb)
  clear hb P1 B1 H4
  have ⟨r0, r1, r2, r3, rl⟩ := P2.out
  go_wp2
  exact post_iv1 Try.results72 rfl rfl (P2.out.set _ _) ⟨rfl, below_set2 B2.out (by omega) _ _⟩
set_option maxRecDepth 100000 in
theorem square_ex (x : Int) (hx1 : -2305843009213693952 ≤ x) (hx2 : x ≤ 2305843009213693952) :
    ∃ lo hi, lo ≤ hi ∧ cl lo = cl (x * x / 1099511627776) ∧ cl hi = cl (cdiv (x * x) 1099511627776) ∧ ∀ w, Calls Try.prog 61 #[.int .i64 x] w (RV w lo hi) := by
  obtain ⟨lo, hi, h1, h2, h3, h4⟩ := over_ex (sgB (x) (x)) ((x).natAbs * (x).natAbs) (1099511627776 : Int) (by omega) (by omega) (by omega)
  have e : (sgB x x != decide ((1099511627776 : Int) < 0)) = sgB x x := by cases sgB x x <;> rfl
  rw [e, sgn_mul] at h2 h3
  refine ⟨lo, hi, h1, h2, h3, fun w => ?_⟩
  have H4 := Lib.hid h4
  have HM := Lib.hid (fun w => smul_any w (x) (x) (by omega) (by omega) (by omega) (by omega))
  have HB : Hid (Below w.heap.size w (w.alloc (ivB 0 0))) := sbal (Below.refl _ _) _
  have PR := Lib.hid (Pr.new w w.heap.size rfl (.int .i64 0) (.int .i64 0) 23)
  clear h1 h2 h3 h4
  go_enter Try.func61, Try.ntmps61
  go_wp2_with fail
  generalize w.alloc (ivB 0 0) = W0 at *
  refine (HM.out _).mono ?_
  rintro e w1 ⟨rfl, hb⟩
  have P1 := Lib.hid (PR.out.via hb)
  have B1 := Lib.hid (sbtr HB.out hb)
  clear hb PR HB HM
  go_wp2_with fail
  refine (H4.out _).mono ?_
  rintro e w2 ⟨rfl, hb⟩
  have P2 := Lib.hid (P1.out.via hb)
  have B2 := Lib.hid (sbtr B1.out hb)
  clear hb P1 B1 H4
  have ⟨r0, r1, r2, r3, rl⟩ := P2.out
  go_wp2
  exact post_iv1 Try.results61 rfl rfl (P2.out.set _ _) ⟨rfl, below_set2 B2.out (by omega) _ _⟩
end Go.Proofs.Ytchhndlpngidcaa

/- Intervals: corners: an operation at the four pairs of ends. -/
namespace Go.Proofs.Ytchhndlpngidcaa
open Go.RowKit

/-- Block g has eight cells that may be written, and the first m of them are done. -/
structure Arr (w : World) (g m : Nat) (L : List Int) : Prop where
  any : ∀ j, j < 8 → (w.cell? ⟨g, j, none⟩).isSome = true ∧ w.frozen? ⟨g, j, none⟩ = false
  done : ∀ j, j < m → w.cell? ⟨g, j, none⟩ = some (.int .i64 (L[j]?.getD 0))
  lt : g < w.heap.size
theorem Arr.via {w w' : World} {g m : Nat} {L : List Int} (p : Arr w g m L) (hb : Below w.heap.size w w') : Arr w' g m L :=
  ⟨fun j hj => by
    have h1 := p.any j hj
    rw [hb.cell (p := ⟨g, j, none⟩) p.lt, hb.frozen (p := ⟨g, j, none⟩) p.lt]
    exact h1, fun j hj => (hb.cell (p := ⟨g, j, none⟩) p.lt).trans (p.done j hj), Nat.lt_of_lt_of_le p.lt hb.size⟩
theorem Arr.alloc {w : World} {g m : Nat} {L : List Int} (p : Arr w g m L) (o : Obj) : Arr (w.alloc o) g m L := p.via ((Below.refl _ _).alloc (Nat.le_refl _) o)
theorem Arr.new (w : World) (k : Nat) (hk : w.heap.size = k) (L : List Int) : Arr (w.alloc (.cells #[.int .i64 0, .int .i64 0, .int .i64 0, .int .i64 0, .int .i64 0, .int .i64 0, .int .i64 0, .int .i64 0] 23)) k 0 L := by
  subst hk
  refine ⟨fun j hj => ?_, fun j hj => absurd hj (by omega), by simp⟩
  rcases (show j = 0 ∨ j = 1 ∨ j = 2 ∨ j = 3 ∨ j = 4 ∨ j = 5 ∨ j = 6 ∨ j = 7 by omega) with rfl | rfl | rfl | rfl | rfl | rfl | rfl | rfl <;> constructor <;> go_simp
theorem Arr.put {w : World} {g m : Nat} {L : List Int} (p : Arr w g m L) (hm : m + 1 < 8) (x y : Int) (hx : L[m]?.getD 0 = x) (hy : L[m + 1]?.getD 0 = y) :
    Arr ((w.setCell ⟨g, m, none⟩ (.int .i64 x)).setCell ⟨g, m + 1, none⟩ (.int .i64 y)) g (m + 2) L := by
  have ne : ∀ i j : Nat, i ≠ j → (⟨g, i, none⟩ : Addr) ≠ ⟨g, j, none⟩ := fun i j h e => h (congrArg Addr.off e)
  obtain ⟨u, hu⟩ := Option.isSome_iff_exists.1 (p.any m (by omega)).1
  obtain ⟨v, hv⟩ := Option.isSome_iff_exists.1 (p.any (m + 1) (by omega)).1
  have c0 : ((w.setCell ⟨g, m, none⟩ (.int .i64 x)).setCell ⟨g, m + 1, none⟩ (.int .i64 y)).cell? ⟨g, m, none⟩ = some (.int .i64 x) := by
    rw [World.cell?_setCell_other _ _ _ _ (ne _ _ (by omega))]
    exact World.cell?_setCell_same _ _ _ hu
  have c1 : ((w.setCell ⟨g, m, none⟩ (.int .i64 x)).setCell ⟨g, m + 1, none⟩ (.int .i64 y)).cell? ⟨g, m + 1, none⟩ = some (.int .i64 y) := by
    refine World.cell?_setCell_same (u := v) _ _ _ ?_
    rw [World.cell?_setCell_other _ _ _ _ (ne _ _ (by omega))]
    exact hv
  have co : ∀ j, j ≠ m → j ≠ m + 1 → ((w.setCell ⟨g, m, none⟩ (.int .i64 x)).setCell ⟨g, m + 1, none⟩ (.int .i64 y)).cell? ⟨g, j, none⟩ = w.cell? ⟨g, j, none⟩ := fun j h1 h2 => by
    rw [World.cell?_setCell_other _ _ _ _ (ne _ _ (by omega)), World.cell?_setCell_other _ _ _ _ (ne _ _ (by omega))]
  refine ⟨fun j hj => ⟨?_, by have := (p.any j hj).2; simpa using this⟩, fun j hj => ?_, by simpa [World.size_setCell] using p.lt⟩
  · by_cases h1 : j = m
    · subst h1; rw [c0]; rfl
    · by_cases h2 : j = m + 1
      · subst h2; rw [c1]; rfl
      · rw [co j h1 h2]; exact (p.any j hj).1
  · by_cases h1 : j = m
    · subst h1; rw [c0, hx]
    · by_cases h2 : j = m + 1
      · subst h2; rw [c1, hy]
      · rw [co j h1 h2]; exact p.done j (by omega)
theorem Arr.far {w : World} {g h m : Nat} {L : List Int} (p : Arr w g m L) (hne : g ≠ h) (x y : Value) : Arr ((w.setCell ⟨h, 0, none⟩ x).setCell ⟨h, 1, none⟩ y) g m L := by
  have e : ∀ (i j : Nat), (⟨h, i, none⟩ : Addr) ≠ ⟨g, j, none⟩ := fun i j e => hne (congrArg Addr.block e).symm
  refine ⟨fun j hj => ?_, fun j hj => ?_, by simpa [World.size_setCell] using p.lt⟩
  · rw [World.cell?_setCell_other _ _ _ _ (e _ _), World.cell?_setCell_other _ _ _ _ (e _ _)]
    have := p.any j hj
    simpa using this
  · rw [World.cell?_setCell_other _ _ _ _ (e _ _), World.cell?_setCell_other _ _ _ _ (e _ _)]
    exact p.done j hj
theorem Pr.farAt {w : World} {g h m : Nat} {a b : Value} (p : Pr w g a b) (hne : g ≠ h) (x y : Value) : Pr ((w.setCell ⟨h, m, none⟩ x).setCell ⟨h, m + 1, none⟩ y) g a b := by
  have e : ∀ (i j : Nat), (⟨h, i, none⟩ : Addr) ≠ ⟨g, j, none⟩ := fun i j e => hne (congrArg Addr.block e).symm
  refine ⟨?_, ?_, by have := p.f0; simpa using this, by have := p.f1; simpa using this, by simpa [World.size_setCell] using p.lt⟩
  · rw [World.cell?_setCell_other _ _ _ _ (e _ _), World.cell?_setCell_other _ _ _ _ (e _ _)]; exact p.c0
  · rw [World.cell?_setCell_other _ _ _ _ (e _ _), World.cell?_setCell_other _ _ _ _ (e _ _)]; exact p.c1
theorem below_setAt {B : Nat} {w w1 : World} (h : Below B w w1) {g m : Nat} (hg : B ≤ g) (x y : Value) : Below B w ((w1.setCell ⟨g, m, none⟩ x).setCell ⟨g, m + 1, none⟩ y) :=
  (h.setCell (p := ⟨g, m, none⟩) hg x).setCell (p := ⟨g, m + 1, none⟩) hg y
theorem Iv1.of {w : World} {g m k : Nat} {L : List Int} (p : Arr w g m L) (hk : k + 1 < m) {x y : Int} (hx : L[k]?.getD 0 = x) (hy : L[k + 1]?.getD 0 = y) : Iv1 w g k x y :=
  ⟨by rw [p.done k (by omega), hx], by rw [p.done (k + 1) hk, hy], p.lt⟩
theorem iv_info : (Try.prog.info? 23).map (fun i => (i.zero, i.size, i.bytes)) = some (some (.agg #[.int .i64 0, .int .i64 0]), 2, 16) := by kernel_rfl
/-- append of one interval to a slice that has room. -/
theorem wpList_append_iv (w : World) {ops : Array Oper} {rest : List Oper} {o : Oper} {a : Act} {Q : Exit → Act → World → Prop} (hgd : o.guard = none) (s x : Operand)
    (ho : o.op = .call { callee := .builtin .append, args := #[s, x], argTypes := #[80, 80] }) (g n m : Nat) (L : List Int) (hs : a.eval s = .slice (some ⟨g, 0, none⟩) n 4) (hm : m = n * 2) (hn : n < 4) (hA : Arr w g m L)
    (h : Nat) (hx : a.eval x = .slice (some ⟨h, 0, none⟩) 1 1) (lo hi : Int) (hC : Iv1 w h 0 lo hi)
    (hK : wpList Try.prog ops Q rest (a.put o.dst (.slice (some ⟨g, 0, none⟩) (n + 1) 4)) ((w.setCell ⟨g, m, none⟩ (.int .i64 lo)).setCell ⟨g, m + 1, none⟩ (.int .i64 hi))) :
    wpList Try.prog ops Q (o :: rest) a w := by
  obtain ⟨i0, hi0, hz0, hz1, hz2⟩ := info_parts iv_info
  refine wpList_plain hgd fun K hKK => ?_
  have hr := run_append_room_cells (P := Try.prog) w 80 o.type 23 i0 Try.underlying80 hi0 g 0 n 4 ⟨h, 0, none⟩ 1 1 [.int .i64 lo, .int .i64 hi] (by rw [hz1]; rfl)
    (fun j u hu => by
      match j, hu with
      | 0, hu => simp at hu; subst hu; exact hC.c0
      | 1, hu => simp at hu; subst hu; exact hC.c1) (by simp [Value.oneCell']) (by omega) (fun j hj => by rw [hz1]; simp at hj; exact (hA.any _ (by omega)).1) (fun j hj => by rw [hz1]; simp at hj; exact (hA.any _ (by omega)).2)
  rw [hz1, Nat.zero_add, ← hm] at hr
  unfold Oper.wp execOp
  simp only [ho, resolve, invoke, builtin, Sem.run_bind, Sem.run_pure, Result.andThen_ok, List.map_toArray, List.map_cons, List.map_nil, hs, hx, hr]
  exact hKK _ _ hK
set_option maxRecDepth 100000 in
set_option maxHeartbeats 4000000 in
theorem corners_any (w : World) (f : FuncId) (al ah bl bh l0 h0 l1 h1 l2 h2 l3 h3 : Int) (hcf : ∀ (u v : Value) (W : World), (callFunc f #[u, v]).run Try.prog W = .ok (.enter f #[u, v]) W)
    (k0 : ∀ W, Calls Try.prog f #[.int .i64 al, .int .i64 bl] W (RV W l0 h0)) (k1 : ∀ W, Calls Try.prog f #[.int .i64 al, .int .i64 bh] W (RV W l1 h1)) (k2 : ∀ W, Calls Try.prog f #[.int .i64 ah, .int .i64 bl] W (RV W l2 h2)) (k3 : ∀ W, Calls Try.prog f #[.int .i64 ah, .int .i64 bh] W (RV W l3 h3)) :
    Calls Try.prog 69 #[iv al ah, iv bl bh, .func (.func f) #[] #[]] w (RV w (mn4 l0 l1 l2 l3) (mx4 h0 h1 h2 h3)) := by
  have hmk : ∀ w : World, (Instr.makeSlice 80 (.int .i64 0) (.int .i64 4)).run Try.prog w = .ok (.slice (some ⟨w.heap.size, 0, none⟩) 0 4) (w.alloc (.cells #[.int .i64 0, .int .i64 0, .int .i64 0, .int .i64 0, .int .i64 0, .int .i64 0, .int .i64 0, .int .i64 0] 23)) := fun _ => by kernel_rfl
  have ia0 : ∀ (w : World) (x y : Value), (Instr.index 84 (.agg #[x, y]) (.int .i64 0)).run Try.prog w = .ok x w := fun _ _ _ => by kernel_rfl
  have ia1 : ∀ (w : World) (x y : Value), (Instr.index 84 (.agg #[x, y]) (.int .i64 1)).run Try.prog w = .ok y w := fun _ _ _ => by kernel_rfl
  have K0 := Lib.hid k0
  have K1 := Lib.hid k1
  have K2 := Lib.hid k2
  have K3 := Lib.hid k3
  clear k0 k1 k2 k3
  obtain ⟨L, hL⟩ : ∃ L : List Int, L = [l0, h0, l1, h1, l2, h2, l3, h3] := ⟨_, rfl⟩
  have HL := Lib.hid hL
  clear hL
  have PA := Lib.hid ((((Pr.new w w.heap.size rfl (.int .i64 al) (.int .i64 ah) 23).alloc (ivB bl bh)).alloc (ivB 0 0)).alloc (.cells #[.int .i64 0, .int .i64 0, .int .i64 0, .int .i64 0, .int .i64 0, .int .i64 0, .int .i64 0, .int .i64 0] 23))
  have PB := Lib.hid (((Pr.new (w.alloc (ivB al ah)) (w.heap.size + 1) (by simp) (.int .i64 bl) (.int .i64 bh) 23).alloc (ivB 0 0)).alloc (.cells #[.int .i64 0, .int .i64 0, .int .i64 0, .int .i64 0, .int .i64 0, .int .i64 0, .int .i64 0, .int .i64 0] 23))
  have PR := Lib.hid ((Pr.new ((w.alloc (ivB al ah)).alloc (ivB bl bh)) (w.heap.size + 1 + 1) (by simp) (.int .i64 0) (.int .i64 0) 23).alloc (.cells #[.int .i64 0, .int .i64 0, .int .i64 0, .int .i64 0, .int .i64 0, .int .i64 0, .int .i64 0, .int .i64 0] 23))
  have BW : Hid (Below w.heap.size w ((((w.alloc (ivB al ah)).alloc (ivB bl bh)).alloc (ivB 0 0)).alloc (.cells #[.int .i64 0, .int .i64 0, .int .i64 0, .int .i64 0, .int .i64 0, .int .i64 0, .int .i64 0, .int .i64 0] 23))) := sbal (sbal (sbal (sbal (Below.refl _ _) _) _) _) _
  have AW := Lib.hid (Arr.new (((w.alloc (ivB al ah)).alloc (ivB bl bh)).alloc (ivB 0 0)) (w.heap.size + 1 + 1 + 1) (by simp) L)
  go_enter Try.func69, Try.ntmps69
  go_wp2_with fail
  generalize (((w.alloc (ivB al ah)).alloc (ivB bl bh)).alloc (ivB 0 0)).alloc (.cells #[.int .i64 0, .int .i64 0, .int .i64 0, .int .i64 0, .int .i64 0, .int .i64 0, .int .i64 0, .int .i64 0] 23) = W0 at *
  go_loopw [7, 18] (fun s i wr => ∃ m : Nat, (s = .slice (some ⟨w.heap.size + 1 + 1 + 1, 0, none⟩) 0 4 ∧ i = .int .i64 0 ∧ m = 0 ∨ s = .slice (some ⟨w.heap.size + 1 + 1 + 1, 0, none⟩) 2 4 ∧ i = .int .i64 1 ∧ m = 4 ∨ s = .slice (some ⟨w.heap.size + 1 + 1 + 1, 0, none⟩) 4 4 ∧ i = .int .i64 2 ∧ m = 8) ∧ Pr wr (w.heap.size + 1) (.int .i64 bl) (.int .i64 bh) ∧ Pr wr (w.heap.size + 1 + 1) (.int .i64 0) (.int .i64 0) ∧ Arr wr (w.heap.size + 1 + 1 + 1) m L ∧ Below w.heap.size w wr) (fun _ i _ => 2 - (intOf i).toNat)
  case atStart => exact ⟨0, .inl ⟨rfl, rfl, rfl⟩, PB.out, PR.out, AW.out, BW.out⟩
  case round =>
    obtain ⟨m, hk, pb, pr, aw, bw⟩ := hrel
    clear PA PB PR AW BW
    have PB := Lib.hid pb
    have PR := Lib.hid pr
    have AW := Lib.hid aw
    have BW := Lib.hid bw
    clear pb pr aw bw
    obtain ⟨wo, rfl⟩ : ∃ wo : World, wo = wr := ⟨_, rfl⟩
    rcases hk with ⟨rfl, rfl, rfl⟩ | ⟨rfl, rfl, rfl⟩ | ⟨rfl, rfl, rfl⟩
    · have ⟨b0, b1, _, _, _⟩ := PB.out
      go_wp2_with fail
      clear b0 b1
      go_loopw [7, 26] (fun s i wr => ∃ m : Nat, (s = .slice (some ⟨w.heap.size + 1 + 1 + 1, 0, none⟩) 0 4 ∧ i = .int .i64 0 ∧ m = 0 ∨ s = .slice (some ⟨w.heap.size + 1 + 1 + 1, 0, none⟩) 1 4 ∧ i = .int .i64 1 ∧ m = 2 ∨ s = .slice (some ⟨w.heap.size + 1 + 1 + 1, 0, none⟩) 2 4 ∧ i = .int .i64 2 ∧ m = 4) ∧ Pr wr (w.heap.size + 1) (.int .i64 bl) (.int .i64 bh) ∧ Pr wr (w.heap.size + 1 + 1) (.int .i64 0) (.int .i64 0) ∧ Arr wr (w.heap.size + 1 + 1 + 1) m L ∧ Below w.heap.size w wr) (fun _ i _ => 2 - (intOf i).toNat)
      case atStart => exact ⟨0, .inl ⟨rfl, rfl, rfl⟩, PB.out, PR.out, AW.out, BW.out⟩
      case round =>
        obtain ⟨m, hj, pb, pr, aw, bw⟩ := hrel
        clear PB PR AW BW
        have PB := Lib.hid pb
        have PR := Lib.hid pr
        have AW := Lib.hid aw
        have BW := Lib.hid bw
        clear pb pr aw bw
        rcases hj with ⟨rfl, rfl, rfl⟩ | ⟨rfl, rfl, rfl⟩ | ⟨rfl, rfl, rfl⟩
        · go_wp2_with fail
          refine (K0.out _).mono ?_
          rintro e w1 ⟨rfl, hb⟩
          have IC : Hid (Iv1 (w1.alloc (ivB l0 h0)) w1.heap.size 0 l0 h0) := (by
            have p := Pr.new w1 _ rfl (.int .i64 l0) (.int .i64 h0) 23
            exact ⟨p.c0, p.c1, p.lt⟩)
          have A1 := Lib.hid ((AW.out.via hb).alloc (ivB l0 h0))
          have Q1 := Lib.hid ((PB.out.via hb).alloc (ivB l0 h0))
          have R1 := Lib.hid ((PR.out.via hb).alloc (ivB l0 h0))
          have B1 := Lib.hid (sbal (sbtr BW.out hb) (ivB l0 h0))
          have A2 := Lib.hid (A1.out.put (by omega) l0 h0 (by rw [HL.out]; rfl) (by rw [HL.out]; rfl))
          have hgl := PB.out.lt
          clear hb
          go_wp2_with (at_builtin; refine wpList_append_iv _ rfl _ _ rfl (w.heap.size + 1 + 1 + 1) 0 0 L rfl rfl (by omega) A1.out w1.heap.size rfl l0 h0 IC.out ?_)
          go_roundw
          case rel => exact ⟨2, .inr (.inl ⟨rfl, rfl, rfl⟩), Q1.out.farAt (by omega) _ _, R1.out.farAt (by omega) _ _, A2.out, below_setAt B1.out (by omega) _ _⟩
          case measure => simp [intOf]
        · go_wp2_with fail
          refine (K1.out _).mono ?_
          rintro e w1 ⟨rfl, hb⟩
          have IC : Hid (Iv1 (w1.alloc (ivB l1 h1)) w1.heap.size 0 l1 h1) := (by
            have p := Pr.new w1 _ rfl (.int .i64 l1) (.int .i64 h1) 23
            exact ⟨p.c0, p.c1, p.lt⟩)
          have A1 := Lib.hid ((AW.out.via hb).alloc (ivB l1 h1))
          have Q1 := Lib.hid ((PB.out.via hb).alloc (ivB l1 h1))
          have R1 := Lib.hid ((PR.out.via hb).alloc (ivB l1 h1))
          have B1 := Lib.hid (sbal (sbtr BW.out hb) (ivB l1 h1))
          have A2 := Lib.hid (A1.out.put (by omega) l1 h1 (by rw [HL.out]; rfl) (by rw [HL.out]; rfl))
          have hgl := PB.out.lt
          clear hb
          go_wp2_with (at_builtin; refine wpList_append_iv _ rfl _ _ rfl (w.heap.size + 1 + 1 + 1) 1 2 L rfl rfl (by omega) A1.out w1.heap.size rfl l1 h1 IC.out ?_)
          go_roundw
          case rel => exact ⟨4, .inr (.inr ⟨rfl, rfl, rfl⟩), Q1.out.farAt (by omega) _ _, R1.out.farAt (by omega) _ _, A2.out, below_setAt B1.out (by omega) _ _⟩
          case measure => simp [intOf]
        · go_wp2
          go_roundw
          case rel => exact ⟨4, .inr (.inl ⟨rfl, rfl, rfl⟩), PB.out, PR.out, AW.out, BW.out⟩
          case measure => simp [intOf]
    · have ⟨b0, b1, _, _, _⟩ := PB.out
      go_wp2_with fail
      clear b0 b1
      go_loopw [7, 26] (fun s i wr => ∃ m : Nat, (s = .slice (some ⟨w.heap.size + 1 + 1 + 1, 0, none⟩) 2 4 ∧ i = .int .i64 0 ∧ m = 4 ∨ s = .slice (some ⟨w.heap.size + 1 + 1 + 1, 0, none⟩) 3 4 ∧ i = .int .i64 1 ∧ m = 6 ∨ s = .slice (some ⟨w.heap.size + 1 + 1 + 1, 0, none⟩) 4 4 ∧ i = .int .i64 2 ∧ m = 8) ∧ Pr wr (w.heap.size + 1) (.int .i64 bl) (.int .i64 bh) ∧ Pr wr (w.heap.size + 1 + 1) (.int .i64 0) (.int .i64 0) ∧ Arr wr (w.heap.size + 1 + 1 + 1) m L ∧ Below w.heap.size w wr) (fun _ i _ => 2 - (intOf i).toNat)
      case atStart => exact ⟨4, .inl ⟨rfl, rfl, rfl⟩, PB.out, PR.out, AW.out, BW.out⟩
      case round =>
        obtain ⟨m, hj, pb, pr, aw, bw⟩ := hrel
        clear PB PR AW BW
        have PB := Lib.hid pb
        have PR := Lib.hid pr
        have AW := Lib.hid aw
        have BW := Lib.hid bw
        clear pb pr aw bw
        rcases hj with ⟨rfl, rfl, rfl⟩ | ⟨rfl, rfl, rfl⟩ | ⟨rfl, rfl, rfl⟩
        · go_wp2_with fail
          refine (K2.out _).mono ?_
          rintro e w1 ⟨rfl, hb⟩
          have IC : Hid (Iv1 (w1.alloc (ivB l2 h2)) w1.heap.size 0 l2 h2) := (by
            have p := Pr.new w1 _ rfl (.int .i64 l2) (.int .i64 h2) 23
            exact ⟨p.c0, p.c1, p.lt⟩)
          have A1 := Lib.hid ((AW.out.via hb).alloc (ivB l2 h2))
          have Q1 := Lib.hid ((PB.out.via hb).alloc (ivB l2 h2))
          have R1 := Lib.hid ((PR.out.via hb).alloc (ivB l2 h2))
          have B1 := Lib.hid (sbal (sbtr BW.out hb) (ivB l2 h2))
          have A2 := Lib.hid (A1.out.put (by omega) l2 h2 (by rw [HL.out]; rfl) (by rw [HL.out]; rfl))
          have hgl := PB.out.lt
          clear hb
          go_wp2_with (at_builtin; refine wpList_append_iv _ rfl _ _ rfl (w.heap.size + 1 + 1 + 1) 2 4 L rfl rfl (by omega) A1.out w1.heap.size rfl l2 h2 IC.out ?_)
          go_roundw
          case rel => exact ⟨6, .inr (.inl ⟨rfl, rfl, rfl⟩), Q1.out.farAt (by omega) _ _, R1.out.farAt (by omega) _ _, A2.out, below_setAt B1.out (by omega) _ _⟩
          case measure => simp [intOf]
        · go_wp2_with fail
          refine (K3.out _).mono ?_
          rintro e w1 ⟨rfl, hb⟩
          have IC : Hid (Iv1 (w1.alloc (ivB l3 h3)) w1.heap.size 0 l3 h3) := (by
            have p := Pr.new w1 _ rfl (.int .i64 l3) (.int .i64 h3) 23
            exact ⟨p.c0, p.c1, p.lt⟩)
          have A1 := Lib.hid ((AW.out.via hb).alloc (ivB l3 h3))
          have Q1 := Lib.hid ((PB.out.via hb).alloc (ivB l3 h3))
          have R1 := Lib.hid ((PR.out.via hb).alloc (ivB l3 h3))
          have B1 := Lib.hid (sbal (sbtr BW.out hb) (ivB l3 h3))
          have A2 := Lib.hid (A1.out.put (by omega) l3 h3 (by rw [HL.out]; rfl) (by rw [HL.out]; rfl))
          have hgl := PB.out.lt
          clear hb
          go_wp2_with (at_builtin; refine wpList_append_iv _ rfl _ _ rfl (w.heap.size + 1 + 1 + 1) 3 6 L rfl rfl (by omega) A1.out w1.heap.size rfl l3 h3 IC.out ?_)
          go_roundw
          case rel => exact ⟨8, .inr (.inr ⟨rfl, rfl, rfl⟩), Q1.out.farAt (by omega) _ _, R1.out.farAt (by omega) _ _, A2.out, below_setAt B1.out (by omega) _ _⟩
          case measure => simp [intOf]
        · go_wp2
          go_roundw
          case rel => exact ⟨8, .inr (.inr ⟨rfl, rfl, rfl⟩), PB.out, PR.out, AW.out, BW.out⟩
          case measure => simp [intOf]
    · go_wp2_with fail
      have I0 := Lib.hid (Iv1.of AW.out (k := 0) (by omega) (x := l0) (y := h0) (by rw [HL.out]; rfl) (by rw [HL.out]; rfl))
      have I1 := Lib.hid (Iv1.of AW.out (k := 2) (by omega) (x := l1) (y := h1) (by rw [HL.out]; rfl) (by rw [HL.out]; rfl))
      have I2 := Lib.hid (Iv1.of AW.out (k := 4) (by omega) (x := l2) (y := h2) (by rw [HL.out]; rfl) (by rw [HL.out]; rfl))
      have I3 := Lib.hid (Iv1.of AW.out (k := 6) (by omega) (x := l3) (y := h3) (by rw [HL.out]; rfl) (by rw [HL.out]; rfl))
      clear AW PB HL K0 K1 K2 K3 ia0 ia1 hmk hcf
      have HKS : Hid (∀ X : World, Below wo.heap.size wo X → X.cell? ⟨w.heap.size + 1 + 1 + 1, 0, none⟩ = some (.int .i64 l0) ∧ X.cell? ⟨w.heap.size + 1 + 1 + 1, 1, none⟩ = some (.int .i64 h0)) := fun X h => ⟨(I0.out.via h).c0, (I0.out.via h).c1⟩
      have ⟨r0, r1, f0, f1, rl⟩ := PR.out
      go_region_held3 (fun w' => w'.cell? ⟨w.heap.size + 1 + 1 + 1, 0, none⟩ = some (.int .i64 l0) ∧ w'.cell? ⟨w.heap.size + 1 + 1 + 1, 1, none⟩ = some (.int .i64 h0))
        (first
         | exact HKS.out _ (Below.refl _ _)
         | exact HKS.out _ (Below.refl _ _).drew
         | exact HKS.out _ B2
         | exact ⟨((I0.out.via B2).far (by omega) _ _).c0, ((I0.out.via B2).far (by omega) _ _).c1⟩)
        (first
         | (go_at_call 54; refine (hull3_any _ (w.heap.size + 1 + 1 + 1) l0 h0 l1 h1 l2 h2 l3 h3 (by first | exact I1.out | exact I1.out.via (Below.refl _ _).drew) (by first | exact I2.out | exact I2.out.via (Below.refl _ _).drew) (by first | exact I3.out | exact I3.out.via (Below.refl _ _).drew)).mono ?_; rintro e w2 ⟨rfl, hb2⟩; have B2 : Below wo.heap.size wo w2 := (by first | exact (Below.refl _ _).drew.trans hb2 | exact hb2); have P2 := PR.out.via B2; have ⟨q0, q1, g0, g1, ql⟩ := P2)
         | fail)
      all_goals
        go_wp2
        exact post_iv1 Try.results69 rfl rfl (P2.set _ _) ⟨ret_iv (by unfold mn4; omega) (by unfold mx4; omega), below_set2 (sbtr BW.out B2) (by omega) _ _⟩
end Go.Proofs.Ytchhndlpngidcaa

/- Intervals: Add, Sub, Min, Max, Hull, Neg, Abs of package span. -/
namespace Go.Proofs.Ytchhndlpngidcaa
open Go.RowKit

theorem ivIn_of {lo hi : Int} (h : ivC lo hi = 0) : IvIn lo hi := ivC_le h
set_option maxRecDepth 100000 in
theorem sadd_any (w : World) (al ah bl bh : Int) : Calls Try.prog 5 #[iv al ah, iv bl bh] w (RO w (j2 al ah bl bh (mkI (al + bl) (ah + bh)))) := by
  have PR := Lib.hid (Pr.new ((w.alloc (ivB al ah)).alloc (ivB bl bh)) (w.heap.size + 1 + 1) (by simp) (.int .i64 0) (.int .i64 0) 23)
  have BW : Hid (Below w.heap.size w (((w.alloc (ivB al ah)).alloc (ivB bl bh)).alloc (ivB 0 0))) := sbal (sbal (sbal (Below.refl _ _) _) _) _
  have hcf : ∀ (u v : Value) (W : World), (callFunc 40 #[u, v]).run Try.prog W = .ok (.enter 40 #[u, v]) W := fun u v W => by go_simp
  have J := Lib.hid (fun W => join_any W 40 al ah bl bh (al + bl) (ah + bh) hcf fun ha hb => ⟨(by have := ivC_le ha; have := ivC_le hb; omega), fun W' => sum_any W' al ah bl bh (ivIn_of ha) (ivIn_of hb)⟩)
  clear hcf
  go_enter Try.func5, Try.ntmps5
  go_wp2_with fail
  generalize ((w.alloc (ivB al ah)).alloc (ivB bl bh)).alloc (ivB 0 0) = W0 at *
  refine (J.out _).mono ?_
  rintro e w1 ⟨rfl, hb⟩
  have P3 := Lib.hid (PR.out.via hb)
  have B1 := Lib.hid (sbtr BW.out hb)
  clear hb PR BW J
  have ⟨r0, r1, f0, f1, rl⟩ := P3.out
  go_wp2
  exact post_iv Try.results5 rfl rfl (P3.out.set _ _) ⟨rfl, below_set2 B1.out (by omega) _ _⟩
set_option maxRecDepth 100000 in
theorem ssub_any (w : World) (al ah bl bh : Int) : Calls Try.prog 7 #[iv al ah, iv bl bh] w (RO w (j2 al ah bl bh (mkI (al - bh) (ah - bl)))) := by
  have PR := Lib.hid (Pr.new ((w.alloc (ivB al ah)).alloc (ivB bl bh)) (w.heap.size + 1 + 1) (by simp) (.int .i64 0) (.int .i64 0) 23)
  have BW : Hid (Below w.heap.size w (((w.alloc (ivB al ah)).alloc (ivB bl bh)).alloc (ivB 0 0))) := sbal (sbal (sbal (Below.refl _ _) _) _) _
  have hcf : ∀ (u v : Value) (W : World), (callFunc 43 #[u, v]).run Try.prog W = .ok (.enter 43 #[u, v]) W := fun u v W => by go_simp
  have J := Lib.hid (fun W => join_any W 43 al ah bl bh (al - bh) (ah - bl) hcf fun ha hb => ⟨(by have := ivC_le ha; have := ivC_le hb; omega), fun W' => difference_any W' al ah bl bh (ivIn_of ha) (ivIn_of hb)⟩)
  clear hcf
  go_enter Try.func7, Try.ntmps7
  go_wp2_with fail
  generalize ((w.alloc (ivB al ah)).alloc (ivB bl bh)).alloc (ivB 0 0) = W0 at *
  refine (J.out _).mono ?_
  rintro e w1 ⟨rfl, hb⟩
  have P3 := Lib.hid (PR.out.via hb)
  have B1 := Lib.hid (sbtr BW.out hb)
  clear hb PR BW J
  have ⟨r0, r1, f0, f1, rl⟩ := P3.out
  go_wp2
  exact post_iv Try.results7 rfl rfl (P3.out.set _ _) ⟨rfl, below_set2 B1.out (by omega) _ _⟩
set_option maxRecDepth 100000 in
theorem smin_any (w : World) (al ah bl bh : Int) : Calls Try.prog 13 #[iv al ah, iv bl bh] w (RO w (j2 al ah bl bh (mkI (min al bl) (min ah bh)))) := by
  have PR := Lib.hid (Pr.new ((w.alloc (ivB al ah)).alloc (ivB bl bh)) (w.heap.size + 1 + 1) (by simp) (.int .i64 0) (.int .i64 0) 23)
  have BW : Hid (Below w.heap.size w (((w.alloc (ivB al ah)).alloc (ivB bl bh)).alloc (ivB 0 0))) := sbal (sbal (sbal (Below.refl _ _) _) _) _
  have hcf : ∀ (u v : Value) (W : World), (callFunc 51 #[u, v]).run Try.prog W = .ok (.enter 51 #[u, v]) W := fun u v W => by go_simp
  have J := Lib.hid (fun W => join_any W 51 al ah bl bh (min al bl) (min ah bh) hcf fun ha hb => ⟨(by have := ivC_le ha; have := ivC_le hb; omega), fun W' => lesser_any W' al ah bl bh⟩)
  clear hcf
  go_enter Try.func13, Try.ntmps13
  go_wp2_with fail
  generalize ((w.alloc (ivB al ah)).alloc (ivB bl bh)).alloc (ivB 0 0) = W0 at *
  refine (J.out _).mono ?_
  rintro e w1 ⟨rfl, hb⟩
  have P3 := Lib.hid (PR.out.via hb)
  have B1 := Lib.hid (sbtr BW.out hb)
  clear hb PR BW J
  have ⟨r0, r1, f0, f1, rl⟩ := P3.out
  go_wp2
  exact post_iv Try.results13 rfl rfl (P3.out.set _ _) ⟨rfl, below_set2 B1.out (by omega) _ _⟩
set_option maxRecDepth 100000 in
theorem smax_any (w : World) (al ah bl bh : Int) : Calls Try.prog 15 #[iv al ah, iv bl bh] w (RO w (j2 al ah bl bh (mkI (max al bl) (max ah bh)))) := by
  have PR := Lib.hid (Pr.new ((w.alloc (ivB al ah)).alloc (ivB bl bh)) (w.heap.size + 1 + 1) (by simp) (.int .i64 0) (.int .i64 0) 23)
  have BW : Hid (Below w.heap.size w (((w.alloc (ivB al ah)).alloc (ivB bl bh)).alloc (ivB 0 0))) := sbal (sbal (sbal (Below.refl _ _) _) _) _
  have hcf : ∀ (u v : Value) (W : World), (callFunc 52 #[u, v]).run Try.prog W = .ok (.enter 52 #[u, v]) W := fun u v W => by go_simp
  have J := Lib.hid (fun W => join_any W 52 al ah bl bh (max al bl) (max ah bh) hcf fun ha hb => ⟨(by have := ivC_le ha; have := ivC_le hb; omega), fun W' => greater_any W' al ah bl bh⟩)
  clear hcf
  go_enter Try.func15, Try.ntmps15
  go_wp2_with fail
  generalize ((w.alloc (ivB al ah)).alloc (ivB bl bh)).alloc (ivB 0 0) = W0 at *
  refine (J.out _).mono ?_
  rintro e w1 ⟨rfl, hb⟩
  have P3 := Lib.hid (PR.out.via hb)
  have B1 := Lib.hid (sbtr BW.out hb)
  clear hb PR BW J
  have ⟨r0, r1, f0, f1, rl⟩ := P3.out
  go_wp2
  exact post_iv Try.results15 rfl rfl (P3.out.set _ _) ⟨rfl, below_set2 B1.out (by omega) _ _⟩
set_option maxRecDepth 100000 in
theorem shull_any (w : World) (al ah bl bh : Int) : Calls Try.prog 17 #[iv al ah, iv bl bh] w (RO w (j2 al ah bl bh (mkI (min al bl) (max ah bh)))) := by
  have PR := Lib.hid (Pr.new ((w.alloc (ivB al ah)).alloc (ivB bl bh)) (w.heap.size + 1 + 1) (by simp) (.int .i64 0) (.int .i64 0) 23)
  have BW : Hid (Below w.heap.size w (((w.alloc (ivB al ah)).alloc (ivB bl bh)).alloc (ivB 0 0))) := sbal (sbal (sbal (Below.refl _ _) _) _) _
  have hcf : ∀ (u v : Value) (W : World), (callFunc 53 #[u, v]).run Try.prog W = .ok (.enter 53 #[u, v]) W := fun u v W => by go_simp
  have J := Lib.hid (fun W => join_any W 53 al ah bl bh (min al bl) (max ah bh) hcf fun ha hb => ⟨(by have := ivC_le ha; have := ivC_le hb; omega), fun W' => hullf_any W' al ah bl bh⟩)
  clear hcf
  go_enter Try.func17, Try.ntmps17
  go_wp2_with fail
  generalize ((w.alloc (ivB al ah)).alloc (ivB bl bh)).alloc (ivB 0 0) = W0 at *
  refine (J.out _).mono ?_
  rintro e w1 ⟨rfl, hb⟩
  have P3 := Lib.hid (PR.out.via hb)
  have B1 := Lib.hid (sbtr BW.out hb)
  clear hb PR BW J
  have ⟨r0, r1, f0, f1, rl⟩ := P3.out
  go_wp2
  exact post_iv Try.results17 rfl rfl (P3.out.set _ _) ⟨rfl, below_set2 B1.out (by omega) _ _⟩
set_option maxRecDepth 100000 in
theorem sneg_any (w : World) (al ah : Int) : Calls Try.prog 25 #[iv al ah] w (RO w (j1 al ah (mkI (-ah) (-al)))) := by
  have PR := Lib.hid (Pr.new (w.alloc (ivB al ah)) (w.heap.size + 1) (by simp) (.int .i64 0) (.int .i64 0) 23)
  have BW : Hid (Below w.heap.size w ((w.alloc (ivB al ah)).alloc (ivB 0 0))) := sbal (sbal (Below.refl _ _) _) _
  have hcf : ∀ (u : Value) (W : World), (callFunc 57 #[u]).run Try.prog W = .ok (.enter 57 #[u]) W := fun u W => by go_simp
  have J := Lib.hid (fun W => change_any W 57 al ah (-ah) (-al) hcf fun ha => ⟨(by have := ivC_le ha; omega), fun W' => negative_any W' al ah (by have := ivC_le ha; omega) (by have := ivC_le ha; omega) (by have := ivC_le ha; omega) (by have := ivC_le ha; omega)⟩)
  clear hcf
  go_enter Try.func25, Try.ntmps25
  go_wp2_with fail
  generalize (w.alloc (ivB al ah)).alloc (ivB 0 0) = W0 at *
  refine (J.out _).mono ?_
  rintro e w1 ⟨rfl, hb⟩
  have P3 := Lib.hid (PR.out.via hb)
  have B1 := Lib.hid (sbtr BW.out hb)
  clear hb PR BW J
  have ⟨r0, r1, f0, f1, rl⟩ := P3.out
  go_wp2
  exact post_iv Try.results25 rfl rfl (P3.out.set _ _) ⟨rfl, below_set2 B1.out (by omega) _ _⟩
set_option maxRecDepth 100000 in
theorem sabs_any (w : World) (al ah : Int) : Calls Try.prog 31 #[iv al ah] w (RO w (j1 al ah (mkI (max al (max (-ah) 0)) (max (-al) ah)))) := by
  have PR := Lib.hid (Pr.new (w.alloc (ivB al ah)) (w.heap.size + 1) (by simp) (.int .i64 0) (.int .i64 0) 23)
  have BW : Hid (Below w.heap.size w ((w.alloc (ivB al ah)).alloc (ivB 0 0))) := sbal (sbal (Below.refl _ _) _) _
  have hcf : ∀ (u : Value) (W : World), (callFunc 60 #[u]).run Try.prog W = .ok (.enter 60 #[u]) W := fun u W => by go_simp
  have J := Lib.hid (fun W => change_any W 60 al ah (max al (max (-ah) 0)) (max (-al) ah) hcf fun ha => ⟨(by have := ivC_le ha; omega), fun W' => absolute_any W' al ah (ivIn_of ha)⟩)
  clear hcf
  go_enter Try.func31, Try.ntmps31
  go_wp2_with fail
  generalize (w.alloc (ivB al ah)).alloc (ivB 0 0) = W0 at *
  refine (J.out _).mono ?_
  rintro e w1 ⟨rfl, hb⟩
  have P3 := Lib.hid (PR.out.via hb)
  have B1 := Lib.hid (sbtr BW.out hb)
  clear hb PR BW J
  have ⟨r0, r1, f0, f1, rl⟩ := P3.out
  go_wp2
  exact post_iv Try.results31 rfl rfl (P3.out.set _ _) ⟨rfl, below_set2 B1.out (by omega) _ _⟩
end Go.Proofs.Ytchhndlpngidcaa

/- Intervals: order, Meet, In, Cmp, Mid on both sides; Add, Sub, Neg, Abs, Min, Max, Hull of the reference. -/
namespace Go.Proofs.Ytchhndlpngidcaa
open Go.RowKit

def RB2 (w : World) (v : Bool) (err : Int) (e : Ending) (w' : World) : Prop := e = .returned (.tuple #[.bool v, .int .i64 err]) ∧ Below w.heap.size w w'
def RI2 (w : World) (v err : Int) (e : Ending) (w' : World) : Prop := e = .returned (.tuple #[.int .i64 v, .int .i64 err]) ∧ Below w.heap.size w w'
def ordI (al ah bl bh : Int) : Int := if ah < bl then -1 else if bh < al then 1 else 0
def inR (al ah bl bh : Int) : Bool := decide (ivB2 al ah bl bh = 0) && (decide (bl ≤ al) && decide (ah ≤ bh))
def ordR (al ah bl bh : Int) : Int := if ivB2 al ah bl bh = 0 then ordI al ah bl bh else 0
def meetO (al ah bl bh : Int) : Out := if ordI al ah bl bh = 0 then mkI (max al bl) (min ah bh) else ⟨0, 0, 6⟩
def midR (al ah : Int) : Int := if ivC al ah = 0 then (al + ah) / 2 else 0
theorem ret_bi {a b : Bool} {c d : Int} (h1 : a = b) (h2 : c = d) : Ending.returned (.tuple #[.bool a, .int .i64 c]) = .returned (.tuple #[.bool b, .int .i64 d]) := by rw [h1, h2]
theorem ret_ii {a b c d : Int} (h1 : a = b) (h2 : c = d) : Ending.returned (.tuple #[.int .i64 a, .int .i64 c]) = .returned (.tuple #[.int .i64 b, .int .i64 d]) := by rw [h1, h2]
set_option maxRecDepth 100000 in
theorem order_any (w : World) (al ah bl bh : Int) : Calls Try.prog 55 #[iv al ah, iv bl bh] w (RN1 w (ordI al ah bl bh)) := by
  by_cases h1 : ah < bl
  · go_enter Try.func55, Try.ntmps55
    go_wp2
    go_ret
    exact ⟨ret_int (by unfold ordI; rw [if_pos h1]), by go_grown⟩
  · by_cases h2 : bh < al
    · go_enter Try.func55, Try.ntmps55
      go_wp2
      go_ret
      exact ⟨ret_int (by unfold ordI; rw [if_neg (by omega), if_pos h2]), by go_grown⟩
    · go_enter Try.func55, Try.ntmps55
      go_wp2
      go_ret
      exact ⟨ret_int (by unfold ordI; rw [if_neg (by omega), if_neg (by omega)]), by go_grown⟩
set_option maxRecDepth 100000 in
set_option maxHeartbeats 1000000 in
theorem sin_any (w : World) (al ah bl bh : Int) : Calls Try.prog 21 #[iv al ah, iv bl bh] w (RB2 w (inR al ah bl bh) (ivB2 al ah bl bh)) := by
  have PA := Lib.hid ((Pr.new w (w.heap.size) rfl (.int .i64 al) (.int .i64 ah) 23).alloc (ivB bl bh))
  have PB := Lib.hid (Pr.new (w.alloc (ivB al ah)) (w.heap.size + 1) (by simp) (.int .i64 bl) (.int .i64 bh) 23)
  have BW : Hid (Below w.heap.size w ((w.alloc (ivB al ah)).alloc (ivB bl bh))) := (sbal (sbal (Below.refl _ _) _) _)
  have hs : ((w.alloc (ivB al ah)).alloc (ivB bl bh)).heap.size = w.heap.size + 1 + 1 := by simp
  have HS := Lib.hid hs
  clear hs
  go_enter Try.func21, Try.ntmps21
  go_wp2_with fail
  generalize (w.alloc (ivB al ah)).alloc (ivB bl bh) = W0 at *
  refine (checkall_any _ _ al ah bl bh (C4.new W0 _ HS.out _ _ _ _ _)).mono ?_
  rintro e w1 ⟨rfl, hb⟩
  have P1 := Lib.hid (PA.out.via (bbox hb))
  have P2 := Lib.hid (PB.out.via (bbox hb))
  have B1 := Lib.hid (sbtr BW.out (bbox hb))
  clear hb PA PB BW HS
  rcases ivB2_cases al ah bl bh with ⟨h, ha, hbb⟩ | h
  · rw [h]
    have HH := Lib.hid h
    clear h ha hbb
    have ⟨a0, a1, a2, a3, a4⟩ := P1.out
    have ⟨b0, b1, b2, b3, b4⟩ := P2.out
    by_cases h1 : bl ≤ al
    · by_cases h2 : ah ≤ bh
      · go_wp2
        go_ret2
        exact ⟨ret_bi (by unfold inR; rw [HH.out, decide_eq_true h1, decide_eq_true h2]; rfl) HH.out.symm, B1.out⟩
      · have hd : decide (ah ≤ bh) = false := decide_eq_false h2
        go_wp2
        go_ret2
        exact ⟨ret_bi (by unfold inR; rw [HH.out, decide_eq_true h1, show decide (ah ≤ bh) = false from decide_eq_false (by omega)]; rfl) HH.out.symm, B1.out⟩
    · have hd : decide (bl ≤ al) = false := decide_eq_false h1
      go_wp2
      go_ret2
      exact ⟨ret_bi (by unfold inR; rw [HH.out, show decide (bl ≤ al) = false from decide_eq_false (by omega)]; rfl) HH.out.symm, B1.out⟩
  · rw [h]
    have HH := Lib.hid h
    clear h
    go_wp2
    go_ret2
    exact ⟨ret_bi (by unfold inR; rw [HH.out]; rfl) HH.out.symm, B1.out⟩
set_option maxRecDepth 100000 in
set_option maxHeartbeats 1000000 in
theorem rin_any (w : World) (al ah bl bh : Int) : Calls Try.prog 22 #[iv al ah, iv bl bh] w (RB2 w (inR al ah bl bh) (ivB2 al ah bl bh)) := by
  have PA := Lib.hid ((Pr.new w (w.heap.size) rfl (.int .i64 al) (.int .i64 ah) 23).alloc (ivB bl bh))
  have PB := Lib.hid (Pr.new (w.alloc (ivB al ah)) (w.heap.size + 1) (by simp) (.int .i64 bl) (.int .i64 bh) 23)
  have BW : Hid (Below w.heap.size w ((w.alloc (ivB al ah)).alloc (ivB bl bh))) := (sbal (sbal (Below.refl _ _) _) _)
  go_enter Try.func22, Try.ntmps22
  go_wp2_with fail
  generalize (w.alloc (ivB al ah)).alloc (ivB bl bh) = W0 at *
  refine (rboth_any _ al ah bl bh).mono ?_
  rintro e w1 ⟨rfl, hb⟩
  have P1 := Lib.hid (PA.out.via hb)
  have P2 := Lib.hid (PB.out.via hb)
  have B1 := Lib.hid (sbtr BW.out hb)
  clear hb PA PB BW
  rcases ivB2_cases al ah bl bh with ⟨h, ha, hbb⟩ | h
  · rw [h]
    have HH := Lib.hid h
    clear h ha hbb
    have ⟨a0, a1, a2, a3, a4⟩ := P1.out
    have ⟨b0, b1, b2, b3, b4⟩ := P2.out
    by_cases h1 : bl ≤ al
    · by_cases h2 : ah ≤ bh
      · go_wp2
        go_ret2
        exact ⟨ret_bi (by unfold inR; rw [HH.out, decide_eq_true h1, decide_eq_true h2]; rfl) HH.out.symm, B1.out⟩
      · have hd : decide (ah ≤ bh) = false := decide_eq_false h2
        go_wp2
        go_ret2
        exact ⟨ret_bi (by unfold inR; rw [HH.out, decide_eq_true h1, show decide (ah ≤ bh) = false from decide_eq_false (by omega)]; rfl) HH.out.symm, B1.out⟩
    · have hd : decide (bl ≤ al) = false := decide_eq_false h1
      go_wp2
      go_ret2
      exact ⟨ret_bi (by unfold inR; rw [HH.out, show decide (bl ≤ al) = false from decide_eq_false (by omega)]; rfl) HH.out.symm, B1.out⟩
  · rw [h]
    have HH := Lib.hid h
    clear h
    have ⟨a0, a1, a2, a3, a4⟩ := P1.out
    have ⟨b0, b1, b2, b3, b4⟩ := P2.out
    go_wp2_with fail
    refine (rboth_any _ al ah bl bh).mono ?_
    rintro e w2 ⟨rfl, hb⟩
    have B2 := Lib.hid (sbtr B1.out hb)
    clear hb a0 a1 a2 a3 a4 b0 b1 b2 b3 b4
    rw [HH.out]
    go_wp2
    go_ret2
    exact ⟨ret_bi (by unfold inR; rw [HH.out]; rfl) HH.out.symm, B2.out⟩
set_option maxRecDepth 100000 in
set_option maxHeartbeats 1000000 in
theorem scmp_any (w : World) (al ah bl bh : Int) : Calls Try.prog 23 #[iv al ah, iv bl bh] w (RI2 w (ordR al ah bl bh) (ivB2 al ah bl bh)) := by
  have PA := Lib.hid ((Pr.new w (w.heap.size) rfl (.int .i64 al) (.int .i64 ah) 23).alloc (ivB bl bh))
  have PB := Lib.hid (Pr.new (w.alloc (ivB al ah)) (w.heap.size + 1) (by simp) (.int .i64 bl) (.int .i64 bh) 23)
  have BW : Hid (Below w.heap.size w ((w.alloc (ivB al ah)).alloc (ivB bl bh))) := (sbal (sbal (Below.refl _ _) _) _)
  have hs : ((w.alloc (ivB al ah)).alloc (ivB bl bh)).heap.size = w.heap.size + 1 + 1 := by simp
  have HS := Lib.hid hs
  clear hs
  go_enter Try.func23, Try.ntmps23
  go_wp2_with fail
  generalize (w.alloc (ivB al ah)).alloc (ivB bl bh) = W0 at *
  refine (checkall_any _ _ al ah bl bh (C4.new W0 _ HS.out _ _ _ _ _)).mono ?_
  rintro e w1 ⟨rfl, hb⟩
  have P1 := Lib.hid (PA.out.via (bbox hb))
  have P2 := Lib.hid (PB.out.via (bbox hb))
  have B1 := Lib.hid (sbtr BW.out (bbox hb))
  clear hb PA PB BW HS
  rcases ivB2_cases al ah bl bh with ⟨h, ha, hbb⟩ | h
  · rw [h]
    have HH := Lib.hid h
    clear h ha hbb
    have ⟨a0, a1, a2, a3, a4⟩ := P1.out
    have ⟨b0, b1, b2, b3, b4⟩ := P2.out
    go_wp2_with fail
    refine (order_any _ al ah bl bh).mono ?_
    rintro e w2 ⟨rfl, hb⟩
    have B2 := Lib.hid (sbtr B1.out hb)
    clear hb a0 a1 a2 a3 a4 b0 b1 b2 b3 b4
    go_wp2
    go_ret2
    exact ⟨ret_ii (by unfold ordR; rw [if_pos HH.out]) HH.out.symm, B2.out⟩
  · rw [h]
    have HH := Lib.hid h
    clear h
    go_wp2
    go_ret2
    exact ⟨ret_ii (by unfold ordR; rw [if_neg (by rw [HH.out]; decide)]) HH.out.symm, B1.out⟩
set_option maxRecDepth 100000 in
set_option maxHeartbeats 1000000 in
theorem rcmpi_any (w : World) (al ah bl bh : Int) : Calls Try.prog 24 #[iv al ah, iv bl bh] w (RI2 w (ordR al ah bl bh) (ivB2 al ah bl bh)) := by
  have PA := Lib.hid ((Pr.new w (w.heap.size) rfl (.int .i64 al) (.int .i64 ah) 23).alloc (ivB bl bh))
  have PB := Lib.hid (Pr.new (w.alloc (ivB al ah)) (w.heap.size + 1) (by simp) (.int .i64 bl) (.int .i64 bh) 23)
  have BW : Hid (Below w.heap.size w ((w.alloc (ivB al ah)).alloc (ivB bl bh))) := (sbal (sbal (Below.refl _ _) _) _)
  go_enter Try.func24, Try.ntmps24
  go_wp2_with fail
  generalize (w.alloc (ivB al ah)).alloc (ivB bl bh) = W0 at *
  refine (rboth_any _ al ah bl bh).mono ?_
  rintro e w1 ⟨rfl, hb⟩
  have P1 := Lib.hid (PA.out.via hb)
  have P2 := Lib.hid (PB.out.via hb)
  have B1 := Lib.hid (sbtr BW.out hb)
  clear hb PA PB BW
  rcases ivB2_cases al ah bl bh with ⟨h, ha, hbb⟩ | h
  · rw [h]
    have HH := Lib.hid h
    clear h ha hbb
    have ⟨a0, a1, a2, a3, a4⟩ := P1.out
    have ⟨b0, b1, b2, b3, b4⟩ := P2.out
    by_cases h1 : ah < bl
    · go_wp2
      go_ret2
      exact ⟨ret_ii (by unfold ordR ordI; rw [if_pos HH.out, if_pos h1]) HH.out.symm, B1.out⟩
    · by_cases h2 : bh < al
      · go_wp2
        go_ret2
        exact ⟨ret_ii (by unfold ordR ordI; rw [if_pos HH.out, if_neg (by omega), if_pos h2]) HH.out.symm, B1.out⟩
      · go_wp2
        go_ret2
        exact ⟨ret_ii (by unfold ordR ordI; rw [if_pos HH.out, if_neg (by omega), if_neg (by omega)]) HH.out.symm, B1.out⟩
  · rw [h]
    have HH := Lib.hid h
    clear h
    have ⟨a0, a1, a2, a3, a4⟩ := P1.out
    have ⟨b0, b1, b2, b3, b4⟩ := P2.out
    go_wp2_with fail
    refine (rboth_any _ al ah bl bh).mono ?_
    rintro e w2 ⟨rfl, hb⟩
    have B2 := Lib.hid (sbtr B1.out hb)
    clear hb a0 a1 a2 a3 a4 b0 b1 b2 b3 b4
    rw [HH.out]
    go_wp2
    go_ret2
    exact ⟨ret_ii (by unfold ordR; rw [if_neg (by rw [HH.out]; decide)]) HH.out.symm, B2.out⟩
set_option maxRecDepth 100000 in
set_option maxHeartbeats 1000000 in
theorem smid_any (w : World) (al ah : Int) : Calls Try.prog 35 #[iv al ah] w (RI2 w (midR al ah) (ivC al ah)) := by
  have PA := Lib.hid (Pr.new w (w.heap.size) rfl (.int .i64 al) (.int .i64 ah) 23)
  have BW : Hid (Below w.heap.size w (w.alloc (ivB al ah))) := (sbal (Below.refl _ _) _)
  go_enter Try.func35, Try.ntmps35
  go_wp2_with fail
  generalize w.alloc (ivB al ah) = W0 at *
  refine (scheck_any _ al ah).mono ?_
  rintro e w1 ⟨rfl, hb⟩
  have P1 := Lib.hid (PA.out.via hb)
  have B1 := Lib.hid (sbtr BW.out hb)
  clear hb PA BW
  rcases ivC_cases al ah with ⟨h, ha1, ha2, ha3⟩ | ⟨h, _⟩
  · rw [h]
    have HH := Lib.hid h
    clear h
    have ⟨a0, a1, a2, a3, a4⟩ := P1.out
    go_wp2
    go_ret2
    exact ⟨ret_ii (by unfold midR; rw [if_pos HH.out]) HH.out.symm, B1.out⟩
  · rw [h]
    have HH := Lib.hid h
    clear h
    go_wp2
    go_ret2
    exact ⟨ret_ii (by unfold midR; rw [if_neg (by rw [HH.out]; decide)]) HH.out.symm, B1.out⟩
set_option maxRecDepth 100000 in
set_option maxHeartbeats 1000000 in
theorem rmid_any (w : World) (al ah : Int) : Calls Try.prog 36 #[iv al ah] w (RI2 w (midR al ah) (ivC al ah)) := by
  have PA := Lib.hid (Pr.new w (w.heap.size) rfl (.int .i64 al) (.int .i64 ah) 23)
  have BW : Hid (Below w.heap.size w (w.alloc (ivB al ah))) := (sbal (Below.refl _ _) _)
  go_enter Try.func36, Try.ntmps36
  go_wp2_with fail
  generalize w.alloc (ivB al ah) = W0 at *
  refine (rscheck_any _ al ah).mono ?_
  rintro e w1 ⟨rfl, hb⟩
  have P1 := Lib.hid (PA.out.via hb)
  have B1 := Lib.hid (sbtr BW.out hb)
  clear hb PA BW
  rcases ivC_cases al ah with ⟨h, ha1, ha2, ha3⟩ | ⟨h, _⟩
  · rw [h]
    have HH := Lib.hid h
    clear h
    have ⟨a0, a1, a2, a3, a4⟩ := P1.out
    go_wp2
    go_ret2
    exact ⟨ret_ii (by unfold midR; rw [if_pos HH.out]) HH.out.symm, B1.out⟩
  · rw [h]
    have HH := Lib.hid h
    clear h
    have ⟨a0, a1, a2, a3, a4⟩ := P1.out
    go_wp2_with fail
    refine (rscheck_any _ al ah).mono ?_
    rintro e w2 ⟨rfl, hb⟩
    have B2 := Lib.hid (sbtr B1.out hb)
    clear hb a0 a1 a2 a3 a4
    rw [HH.out]
    go_wp2
    go_ret2
    exact ⟨ret_ii (by unfold midR; rw [if_neg (by rw [HH.out]; decide)]) HH.out.symm, B2.out⟩
end Go.Proofs.Ytchhndlpngidcaa

/- Intervals: Add, Sub, Neg, Min, Max, Hull, Abs of the reference; Meet on both sides. -/
namespace Go.Proofs.Ytchhndlpngidcaa
open Go.RowKit

theorem j2_ok {al ah bl bh : Int} {o : Out} (h : ivB2 al ah bl bh = 0) : j2 al ah bl bh o = o := by unfold j2; rw [if_pos h]
theorem j2_bad {al ah bl bh : Int} {o : Out} (h : ivB2 al ah bl bh = 8) : j2 al ah bl bh o = ⟨0, 0, 8⟩ := by unfold j2; rw [if_neg (by rw [h]; decide), h]
theorem j1_ok {al ah : Int} {o : Out} (h : ivC al ah = 0) : j1 al ah o = o := by unfold j1; rw [if_pos h]
theorem j1_bad {al ah : Int} {o : Out} (h : ivC al ah = 8) : j1 al ah o = ⟨0, 0, 8⟩ := by unfold j1; rw [if_neg (by rw [h]; decide), h]
theorem mk_eq {a b c d : Int} (h1 : a = c) (h2 : b = d) : mkI a b = mkI c d := by rw [h1, h2]
theorem ret_mk {X Y : Int} {o : Out} (h : mkI X Y = o) : Ending.returned (.tuple #[iv (mkI X Y).lo (mkI X Y).hi, .int .i64 (mkI X Y).err]) = .returned (.tuple #[iv o.lo o.hi, .int .i64 o.err]) := by rw [h]
theorem ret_out {a b c : Int} {o : Out} (h : o = ⟨a, b, c⟩) : Ending.returned (.tuple #[iv a b, .int .i64 c]) = .returned (.tuple #[iv o.lo o.hi, .int .i64 o.err]) := by rw [h]
set_option maxRecDepth 100000 in
set_option maxHeartbeats 1000000 in
theorem radd_any (w : World) (al ah bl bh : Int) : Calls Try.prog 6 #[iv al ah, iv bl bh] w (RO w (j2 al ah bl bh (mkI (al + bl) (ah + bh)))) := by
  have PA := Lib.hid (((Pr.new w (w.heap.size) rfl (.int .i64 al) (.int .i64 ah) 23).alloc (ivB bl bh)).alloc (ivB 0 0))
  have PB := Lib.hid ((Pr.new (w.alloc (ivB al ah)) (w.heap.size + 1) (by simp) (.int .i64 bl) (.int .i64 bh) 23).alloc (ivB 0 0))
  have PR := Lib.hid (Pr.new ((w.alloc (ivB al ah)).alloc (ivB bl bh)) (w.heap.size + 1 + 1) (by simp) (.int .i64 0) (.int .i64 0) 23)
  have BW : Hid (Below w.heap.size w (((w.alloc (ivB al ah)).alloc (ivB bl bh)).alloc (ivB 0 0))) := (sbal (sbal (sbal (Below.refl _ _) _) _) _)
  go_enter Try.func6, Try.ntmps6
  go_wp2_with fail
  generalize ((w.alloc (ivB al ah)).alloc (ivB bl bh)).alloc (ivB 0 0) = W0 at *
  refine (rboth_any _ al ah bl bh).mono ?_
  rintro e w1 ⟨rfl, hb⟩
  have P1 := Lib.hid (PA.out.via hb)
  have P2 := Lib.hid (PB.out.via hb)
  have P3 := Lib.hid (PR.out.via hb)
  have B1 := Lib.hid (sbtr BW.out hb)
  clear hb PA PB PR BW
  rcases ivB2_cases al ah bl bh with ⟨h, ha, hbb⟩ | h
  · rw [h]
    have HH := Lib.hid h
    have ⟨x1, x2, x3⟩ := ivC_le ha
    have ⟨y1, y2, y3⟩ := ivC_le hbb
    clear h ha hbb
    have ⟨a0, a1, a2, a3, a4⟩ := P1.out
    have ⟨b0, b1, b2, b3, b4⟩ := P2.out
    go_wp2_with fail
    refine (rmade_any _ (al + bl) (ah + bh)).mono ?_
    rintro e w3 ⟨rfl, hb⟩
    have B3 := Lib.hid (sbtr B1.out hb)
    have P5 := Lib.hid (P3.out.via hb)
    clear hb a0 a1 a2 a3 a4 b0 b1 b2 b3 b4
    have ⟨r0, r1, r2, r3, r4⟩ := P5.out
    go_wp2
    exact post_iv Try.results6 rfl rfl (P5.out.set _ _) ⟨by rw [j2_ok HH.out]; rfl, below_set2 B3.out (by omega) _ _⟩
  · rw [h]
    have HH := Lib.hid h
    clear h
    have ⟨a0, a1, a2, a3, a4⟩ := P1.out
    have ⟨b0, b1, b2, b3, b4⟩ := P2.out
    go_wp2_with fail
    refine (rboth_any _ al ah bl bh).mono ?_
    rintro e w2 ⟨rfl, hb⟩
    have B2 := Lib.hid (sbtr B1.out hb)
    have P4 := Lib.hid (P3.out.via hb)
    clear hb a0 a1 a2 a3 a4 b0 b1 b2 b3 b4
    rw [HH.out]
    have ⟨r0, r1, r2, r3, r4⟩ := P4.out
    go_wp2
    exact post_iv Try.results6 rfl rfl (P4.out.set _ _) ⟨by rw [j2_bad HH.out]; rfl, below_set2 B2.out (by omega) _ _⟩
set_option maxRecDepth 100000 in
set_option maxHeartbeats 1000000 in
theorem rsub_any (w : World) (al ah bl bh : Int) : Calls Try.prog 8 #[iv al ah, iv bl bh] w (RO w (j2 al ah bl bh (mkI (al - bh) (ah - bl)))) := by
  have PA := Lib.hid (((Pr.new w (w.heap.size) rfl (.int .i64 al) (.int .i64 ah) 23).alloc (ivB bl bh)).alloc (ivB 0 0))
  have PB := Lib.hid ((Pr.new (w.alloc (ivB al ah)) (w.heap.size + 1) (by simp) (.int .i64 bl) (.int .i64 bh) 23).alloc (ivB 0 0))
  have PR := Lib.hid (Pr.new ((w.alloc (ivB al ah)).alloc (ivB bl bh)) (w.heap.size + 1 + 1) (by simp) (.int .i64 0) (.int .i64 0) 23)
  have BW : Hid (Below w.heap.size w (((w.alloc (ivB al ah)).alloc (ivB bl bh)).alloc (ivB 0 0))) := (sbal (sbal (sbal (Below.refl _ _) _) _) _)
  go_enter Try.func8, Try.ntmps8
  go_wp2_with fail
  generalize ((w.alloc (ivB al ah)).alloc (ivB bl bh)).alloc (ivB 0 0) = W0 at *
  refine (rboth_any _ al ah bl bh).mono ?_
  rintro e w1 ⟨rfl, hb⟩
  have P1 := Lib.hid (PA.out.via hb)
  have P2 := Lib.hid (PB.out.via hb)
  have P3 := Lib.hid (PR.out.via hb)
  have B1 := Lib.hid (sbtr BW.out hb)
  clear hb PA PB PR BW
  rcases ivB2_cases al ah bl bh with ⟨h, ha, hbb⟩ | h
  · rw [h]
    have HH := Lib.hid h
    have ⟨x1, x2, x3⟩ := ivC_le ha
    have ⟨y1, y2, y3⟩ := ivC_le hbb
    clear h ha hbb
    have ⟨a0, a1, a2, a3, a4⟩ := P1.out
    have ⟨b0, b1, b2, b3, b4⟩ := P2.out
    go_wp2_with fail
    refine (rmade_any _ (al - bh) (ah - bl)).mono ?_
    rintro e w3 ⟨rfl, hb⟩
    have B3 := Lib.hid (sbtr B1.out hb)
    have P5 := Lib.hid (P3.out.via hb)
    clear hb a0 a1 a2 a3 a4 b0 b1 b2 b3 b4
    have ⟨r0, r1, r2, r3, r4⟩ := P5.out
    go_wp2
    exact post_iv Try.results8 rfl rfl (P5.out.set _ _) ⟨by rw [j2_ok HH.out]; rfl, below_set2 B3.out (by omega) _ _⟩
  · rw [h]
    have HH := Lib.hid h
    clear h
    have ⟨a0, a1, a2, a3, a4⟩ := P1.out
    have ⟨b0, b1, b2, b3, b4⟩ := P2.out
    go_wp2_with fail
    refine (rboth_any _ al ah bl bh).mono ?_
    rintro e w2 ⟨rfl, hb⟩
    have B2 := Lib.hid (sbtr B1.out hb)
    have P4 := Lib.hid (P3.out.via hb)
    clear hb a0 a1 a2 a3 a4 b0 b1 b2 b3 b4
    rw [HH.out]
    have ⟨r0, r1, r2, r3, r4⟩ := P4.out
    go_wp2
    exact post_iv Try.results8 rfl rfl (P4.out.set _ _) ⟨by rw [j2_bad HH.out]; rfl, below_set2 B2.out (by omega) _ _⟩
set_option maxRecDepth 100000 in
set_option maxHeartbeats 1000000 in
theorem rneg_any (w : World) (al ah : Int) : Calls Try.prog 26 #[iv al ah] w (RO w (j1 al ah (mkI (-ah) (-al)))) := by
  have PA := Lib.hid ((Pr.new w (w.heap.size) rfl (.int .i64 al) (.int .i64 ah) 23).alloc (ivB 0 0))
  have PR := Lib.hid (Pr.new (w.alloc (ivB al ah)) (w.heap.size + 1) (by simp) (.int .i64 0) (.int .i64 0) 23)
  have BW : Hid (Below w.heap.size w ((w.alloc (ivB al ah)).alloc (ivB 0 0))) := (sbal (sbal (Below.refl _ _) _) _)
  go_enter Try.func26, Try.ntmps26
  go_wp2_with fail
  generalize (w.alloc (ivB al ah)).alloc (ivB 0 0) = W0 at *
  refine (rscheck_any _ al ah).mono ?_
  rintro e w1 ⟨rfl, hb⟩
  have P1 := Lib.hid (PA.out.via hb)
  have P3 := Lib.hid (PR.out.via hb)
  have B1 := Lib.hid (sbtr BW.out hb)
  clear hb PA PR BW
  rcases ivC_cases al ah with ⟨h, ha1, ha2, ha3⟩ | ⟨h, _⟩
  · rw [h]
    have HH := Lib.hid h
    clear h
    have ⟨a0, a1, a2, a3, a4⟩ := P1.out
    go_wp2_with fail
    refine (rmade_any _ (-ah) (-al)).mono ?_
    rintro e w3 ⟨rfl, hb⟩
    have B3 := Lib.hid (sbtr B1.out hb)
    have P5 := Lib.hid (P3.out.via hb)
    clear hb a0 a1 a2 a3 a4
    have ⟨r0, r1, r2, r3, r4⟩ := P5.out
    go_wp2
    exact post_iv Try.results26 rfl rfl (P5.out.set _ _) ⟨by rw [j1_ok HH.out]; rfl, below_set2 B3.out (by omega) _ _⟩
  · rw [h]
    have HH := Lib.hid h
    clear h
    have ⟨a0, a1, a2, a3, a4⟩ := P1.out
    go_wp2_with fail
    refine (rscheck_any _ al ah).mono ?_
    rintro e w2 ⟨rfl, hb⟩
    have B2 := Lib.hid (sbtr B1.out hb)
    have P4 := Lib.hid (P3.out.via hb)
    clear hb a0 a1 a2 a3 a4
    rw [HH.out]
    have ⟨r0, r1, r2, r3, r4⟩ := P4.out
    go_wp2
    exact post_iv Try.results26 rfl rfl (P4.out.set _ _) ⟨by rw [j1_bad HH.out]; rfl, below_set2 B2.out (by omega) _ _⟩
set_option maxRecDepth 100000 in
set_option maxHeartbeats 1000000 in
theorem rmin_any (w : World) (al ah bl bh : Int) : Calls Try.prog 14 #[iv al ah, iv bl bh] w (RO w (j2 al ah bl bh (mkI (min al bl) (min ah bh)))) := by
  have PA := Lib.hid (((Pr.new w (w.heap.size) rfl (.int .i64 al) (.int .i64 ah) 23).alloc (ivB bl bh)).alloc (ivB 0 0))
  have PB := Lib.hid ((Pr.new (w.alloc (ivB al ah)) (w.heap.size + 1) (by simp) (.int .i64 bl) (.int .i64 bh) 23).alloc (ivB 0 0))
  have PR := Lib.hid (Pr.new ((w.alloc (ivB al ah)).alloc (ivB bl bh)) (w.heap.size + 1 + 1) (by simp) (.int .i64 0) (.int .i64 0) 23)
  have BW : Hid (Below w.heap.size w (((w.alloc (ivB al ah)).alloc (ivB bl bh)).alloc (ivB 0 0))) := (sbal (sbal (sbal (Below.refl _ _) _) _) _)
  go_enter Try.func14, Try.ntmps14
  go_wp2_with fail
  generalize ((w.alloc (ivB al ah)).alloc (ivB bl bh)).alloc (ivB 0 0) = W0 at *
  refine (rboth_any _ al ah bl bh).mono ?_
  rintro e w1 ⟨rfl, hb⟩
  have P1 := Lib.hid (PA.out.via hb)
  have P2 := Lib.hid (PB.out.via hb)
  have P3 := Lib.hid (PR.out.via hb)
  have B1 := Lib.hid (sbtr BW.out hb)
  clear hb PA PB PR BW
  rcases ivB2_cases al ah bl bh with ⟨h, ha, hbb⟩ | h
  · rw [h]
    have HH := Lib.hid h
    have ⟨x1, x2, x3⟩ := ivC_le ha
    have ⟨y1, y2, y3⟩ := ivC_le hbb
    clear h ha hbb
    have ⟨a0, a1, a2, a3, a4⟩ := P1.out
    have ⟨b0, b1, b2, b3, b4⟩ := P2.out
    go_wp2_with fail
    all_goals
      refine (rmade_any _ _ _).mono ?_
      rintro e w3 ⟨rfl, hb⟩
      have B3 := Lib.hid (sbtr B1.out hb)
      have P5 := Lib.hid (P3.out.via hb)
      clear hb a0 a1 a2 a3 a4 b0 b1 b2 b3 b4
      have ⟨r0, r1, r2, r3, r4⟩ := P5.out
      go_wp2
      exact post_iv Try.results14 rfl rfl (P5.out.set _ _) ⟨ret_mk ((mk_eq (by omega) (by omega)).trans (j2_ok HH.out).symm), below_set2 B3.out (by omega) _ _⟩
  · rw [h]
    have HH := Lib.hid h
    clear h
    have ⟨a0, a1, a2, a3, a4⟩ := P1.out
    have ⟨b0, b1, b2, b3, b4⟩ := P2.out
    go_wp2_with fail
    refine (rboth_any _ al ah bl bh).mono ?_
    rintro e w2 ⟨rfl, hb⟩
    have B2 := Lib.hid (sbtr B1.out hb)
    have P4 := Lib.hid (P3.out.via hb)
    clear hb a0 a1 a2 a3 a4 b0 b1 b2 b3 b4
    rw [HH.out]
    have ⟨r0, r1, r2, r3, r4⟩ := P4.out
    go_wp2
    exact post_iv Try.results14 rfl rfl (P4.out.set _ _) ⟨by rw [j2_bad HH.out]; rfl, below_set2 B2.out (by omega) _ _⟩
set_option maxRecDepth 100000 in
set_option maxHeartbeats 1000000 in
theorem rmax_any (w : World) (al ah bl bh : Int) : Calls Try.prog 16 #[iv al ah, iv bl bh] w (RO w (j2 al ah bl bh (mkI (max al bl) (max ah bh)))) := by
  have PA := Lib.hid (((Pr.new w (w.heap.size) rfl (.int .i64 al) (.int .i64 ah) 23).alloc (ivB bl bh)).alloc (ivB 0 0))
  have PB := Lib.hid ((Pr.new (w.alloc (ivB al ah)) (w.heap.size + 1) (by simp) (.int .i64 bl) (.int .i64 bh) 23).alloc (ivB 0 0))
  have PR := Lib.hid (Pr.new ((w.alloc (ivB al ah)).alloc (ivB bl bh)) (w.heap.size + 1 + 1) (by simp) (.int .i64 0) (.int .i64 0) 23)
  have BW : Hid (Below w.heap.size w (((w.alloc (ivB al ah)).alloc (ivB bl bh)).alloc (ivB 0 0))) := (sbal (sbal (sbal (Below.refl _ _) _) _) _)
  go_enter Try.func16, Try.ntmps16
  go_wp2_with fail
  generalize ((w.alloc (ivB al ah)).alloc (ivB bl bh)).alloc (ivB 0 0) = W0 at *
  refine (rboth_any _ al ah bl bh).mono ?_
  rintro e w1 ⟨rfl, hb⟩
  have P1 := Lib.hid (PA.out.via hb)
  have P2 := Lib.hid (PB.out.via hb)
  have P3 := Lib.hid (PR.out.via hb)
  have B1 := Lib.hid (sbtr BW.out hb)
  clear hb PA PB PR BW
  rcases ivB2_cases al ah bl bh with ⟨h, ha, hbb⟩ | h
  · rw [h]
    have HH := Lib.hid h
    have ⟨x1, x2, x3⟩ := ivC_le ha
    have ⟨y1, y2, y3⟩ := ivC_le hbb
    clear h ha hbb
    have ⟨a0, a1, a2, a3, a4⟩ := P1.out
    have ⟨b0, b1, b2, b3, b4⟩ := P2.out
    go_wp2_with fail
    all_goals
      refine (rmade_any _ _ _).mono ?_
      rintro e w3 ⟨rfl, hb⟩
      have B3 := Lib.hid (sbtr B1.out hb)
      have P5 := Lib.hid (P3.out.via hb)
      clear hb a0 a1 a2 a3 a4 b0 b1 b2 b3 b4
      have ⟨r0, r1, r2, r3, r4⟩ := P5.out
      go_wp2
      exact post_iv Try.results16 rfl rfl (P5.out.set _ _) ⟨ret_mk ((mk_eq (by omega) (by omega)).trans (j2_ok HH.out).symm), below_set2 B3.out (by omega) _ _⟩
  · rw [h]
    have HH := Lib.hid h
    clear h
    have ⟨a0, a1, a2, a3, a4⟩ := P1.out
    have ⟨b0, b1, b2, b3, b4⟩ := P2.out
    go_wp2_with fail
    refine (rboth_any _ al ah bl bh).mono ?_
    rintro e w2 ⟨rfl, hb⟩
    have B2 := Lib.hid (sbtr B1.out hb)
    have P4 := Lib.hid (P3.out.via hb)
    clear hb a0 a1 a2 a3 a4 b0 b1 b2 b3 b4
    rw [HH.out]
    have ⟨r0, r1, r2, r3, r4⟩ := P4.out
    go_wp2
    exact post_iv Try.results16 rfl rfl (P4.out.set _ _) ⟨by rw [j2_bad HH.out]; rfl, below_set2 B2.out (by omega) _ _⟩
set_option maxRecDepth 100000 in
set_option maxHeartbeats 1000000 in
theorem rhull_any (w : World) (al ah bl bh : Int) : Calls Try.prog 18 #[iv al ah, iv bl bh] w (RO w (j2 al ah bl bh (mkI (min al bl) (max ah bh)))) := by
  have PA := Lib.hid (((Pr.new w (w.heap.size) rfl (.int .i64 al) (.int .i64 ah) 23).alloc (ivB bl bh)).alloc (ivB 0 0))
  have PB := Lib.hid ((Pr.new (w.alloc (ivB al ah)) (w.heap.size + 1) (by simp) (.int .i64 bl) (.int .i64 bh) 23).alloc (ivB 0 0))
  have PR := Lib.hid (Pr.new ((w.alloc (ivB al ah)).alloc (ivB bl bh)) (w.heap.size + 1 + 1) (by simp) (.int .i64 0) (.int .i64 0) 23)
  have BW : Hid (Below w.heap.size w (((w.alloc (ivB al ah)).alloc (ivB bl bh)).alloc (ivB 0 0))) := (sbal (sbal (sbal (Below.refl _ _) _) _) _)
  go_enter Try.func18, Try.ntmps18
  go_wp2_with fail
  generalize ((w.alloc (ivB al ah)).alloc (ivB bl bh)).alloc (ivB 0 0) = W0 at *
  refine (rboth_any _ al ah bl bh).mono ?_
  rintro e w1 ⟨rfl, hb⟩
  have P1 := Lib.hid (PA.out.via hb)
  have P2 := Lib.hid (PB.out.via hb)
  have P3 := Lib.hid (PR.out.via hb)
  have B1 := Lib.hid (sbtr BW.out hb)
  clear hb PA PB PR BW
  rcases ivB2_cases al ah bl bh with ⟨h, ha, hbb⟩ | h
  · rw [h]
    have HH := Lib.hid h
    have ⟨x1, x2, x3⟩ := ivC_le ha
    have ⟨y1, y2, y3⟩ := ivC_le hbb
    clear h ha hbb
    have ⟨a0, a1, a2, a3, a4⟩ := P1.out
    have ⟨b0, b1, b2, b3, b4⟩ := P2.out
    go_wp2_with fail
    all_goals
      refine (rmade_any _ _ _).mono ?_
      rintro e w3 ⟨rfl, hb⟩
      have B3 := Lib.hid (sbtr B1.out hb)
      have P5 := Lib.hid (P3.out.via hb)
      clear hb a0 a1 a2 a3 a4 b0 b1 b2 b3 b4
      have ⟨r0, r1, r2, r3, r4⟩ := P5.out
      go_wp2
      exact post_iv Try.results18 rfl rfl (P5.out.set _ _) ⟨ret_mk ((mk_eq (by omega) (by omega)).trans (j2_ok HH.out).symm), below_set2 B3.out (by omega) _ _⟩
  · rw [h]
    have HH := Lib.hid h
    clear h
    have ⟨a0, a1, a2, a3, a4⟩ := P1.out
    have ⟨b0, b1, b2, b3, b4⟩ := P2.out
    go_wp2_with fail
    refine (rboth_any _ al ah bl bh).mono ?_
    rintro e w2 ⟨rfl, hb⟩
    have B2 := Lib.hid (sbtr B1.out hb)
    have P4 := Lib.hid (P3.out.via hb)
    clear hb a0 a1 a2 a3 a4 b0 b1 b2 b3 b4
    rw [HH.out]
    have ⟨r0, r1, r2, r3, r4⟩ := P4.out
    go_wp2
    exact post_iv Try.results18 rfl rfl (P4.out.set _ _) ⟨by rw [j2_bad HH.out]; rfl, below_set2 B2.out (by omega) _ _⟩
theorem out_eq {a b c d : Int} (h1 : a = c) (h2 : b = d) : (⟨a, b, 0⟩ : Out) = ⟨c, d, 0⟩ := by rw [h1, h2]
set_option maxRecDepth 100000 in
set_option maxHeartbeats 1000000 in
theorem rabsi_any (w : World) (al ah : Int) : Calls Try.prog 32 #[iv al ah] w (RO w (j1 al ah (mkI (max al (max (-ah) 0)) (max (-al) ah)))) := by
  have PA := Lib.hid ((Pr.new w (w.heap.size) rfl (.int .i64 al) (.int .i64 ah) 23).alloc (ivB 0 0))
  have PR := Lib.hid (Pr.new (w.alloc (ivB al ah)) (w.heap.size + 1) (by simp) (.int .i64 0) (.int .i64 0) 23)
  have BW : Hid (Below w.heap.size w ((w.alloc (ivB al ah)).alloc (ivB 0 0))) := (sbal (sbal (Below.refl _ _) _) _)
  go_enter Try.func32, Try.ntmps32
  go_wp2_with fail
  generalize (w.alloc (ivB al ah)).alloc (ivB 0 0) = W0 at *
  refine (rscheck_any _ al ah).mono ?_
  rintro e w1 ⟨rfl, hb⟩
  have P1 := Lib.hid (PA.out.via hb)
  have P3 := Lib.hid (PR.out.via hb)
  have B1 := Lib.hid (sbtr BW.out hb)
  clear hb PA PR BW
  rcases ivC_cases al ah with ⟨h, ha1, ha2, ha3⟩ | ⟨h, _⟩
  · rw [h]
    have HH := Lib.hid h
    clear h
    have ⟨a0, a1, a2, a3, a4⟩ := P1.out
    have ⟨r0, r1, r2, r3, r4⟩ := P3.out
    by_cases g1 : 0 ≤ al
    · go_wp2
      exact post_iv Try.results32 rfl rfl (P3.out.set _ _) ⟨ret_out ((j1_ok HH.out).trans (by rw [mkI_in (by omega) (by omega)]; exact out_eq (by omega) (by omega))), below_set2 B1.out (by omega) _ _⟩
    · by_cases g2 : ah ≤ 0
      · go_wp2_with fail
        all_goals
          refine (rmade_any _ _ _).mono ?_
          rintro e w3 ⟨rfl, hb⟩
          have B3 := Lib.hid (sbtr B1.out hb)
          have P5 := Lib.hid (P3.out.via hb)
          clear hb r0 r1 r2 r3 r4 a0 a1 a2 a3 a4
          have ⟨r0, r1, r2, r3, r4⟩ := P5.out
          go_wp2
          exact post_iv Try.results32 rfl rfl (P5.out.set _ _) ⟨ret_mk ((mk_eq (by omega) (by omega)).trans (j1_ok HH.out).symm), below_set2 B3.out (by omega) _ _⟩
      · go_wp2_with fail
        all_goals
          refine (rmade_any _ _ _).mono ?_
          rintro e w3 ⟨rfl, hb⟩
          have B3 := Lib.hid (sbtr B1.out hb)
          have P5 := Lib.hid (P3.out.via hb)
          clear hb r0 r1 r2 r3 r4 a0 a1 a2 a3 a4
          have ⟨r0, r1, r2, r3, r4⟩ := P5.out
          go_wp2
          exact post_iv Try.results32 rfl rfl (P5.out.set _ _) ⟨ret_mk ((mk_eq (by omega) (by omega)).trans (j1_ok HH.out).symm), below_set2 B3.out (by omega) _ _⟩
  · rw [h]
    have HH := Lib.hid h
    clear h
    have ⟨a0, a1, a2, a3, a4⟩ := P1.out
    go_wp2_with fail
    refine (rscheck_any _ al ah).mono ?_
    rintro e w2 ⟨rfl, hb⟩
    have B2 := Lib.hid (sbtr B1.out hb)
    have P4 := Lib.hid (P3.out.via hb)
    clear hb a0 a1 a2 a3 a4
    rw [HH.out]
    have ⟨r0, r1, r2, r3, r4⟩ := P4.out
    go_wp2
    exact post_iv Try.results32 rfl rfl (P4.out.set _ _) ⟨by rw [j1_bad HH.out]; rfl, below_set2 B2.out (by omega) _ _⟩
theorem meet_no {al ah bl bh : Int} (g : ah < bl ∨ bh < al) : meetO al ah bl bh = ⟨0, 0, 6⟩ := by
  unfold meetO ordI
  by_cases h1 : ah < bl
  · rw [if_pos h1, if_neg (by decide)]
  · have h2 : bh < al := by omega
    rw [if_neg h1, if_pos h2, if_neg (by decide)]
theorem meet_yes {al ah bl bh : Int} (g : ¬ (ah < bl ∨ bh < al)) : meetO al ah bl bh = mkI (max al bl) (min ah bh) := by
  unfold meetO ordI
  have h1 : ¬ ah < bl := by omega
  have h2 : ¬ bh < al := by omega
  rw [if_neg h1, if_neg h2, if_pos rfl]
set_option maxRecDepth 100000 in
set_option maxHeartbeats 1000000 in
theorem rmeet_any (w : World) (al ah bl bh : Int) : Calls Try.prog 20 #[iv al ah, iv bl bh] w (RO w (j2 al ah bl bh (meetO al ah bl bh))) := by
  have PA := Lib.hid (((Pr.new w (w.heap.size) rfl (.int .i64 al) (.int .i64 ah) 23).alloc (ivB bl bh)).alloc (ivB 0 0))
  have PB := Lib.hid ((Pr.new (w.alloc (ivB al ah)) (w.heap.size + 1) (by simp) (.int .i64 bl) (.int .i64 bh) 23).alloc (ivB 0 0))
  have PR := Lib.hid (Pr.new ((w.alloc (ivB al ah)).alloc (ivB bl bh)) (w.heap.size + 1 + 1) (by simp) (.int .i64 0) (.int .i64 0) 23)
  have BW : Hid (Below w.heap.size w (((w.alloc (ivB al ah)).alloc (ivB bl bh)).alloc (ivB 0 0))) := (sbal (sbal (sbal (Below.refl _ _) _) _) _)
  go_enter Try.func20, Try.ntmps20
  go_wp2_with fail
  generalize ((w.alloc (ivB al ah)).alloc (ivB bl bh)).alloc (ivB 0 0) = W0 at *
  refine (rboth_any _ al ah bl bh).mono ?_
  rintro e w1 ⟨rfl, hb⟩
  have P1 := Lib.hid (PA.out.via hb)
  have P2 := Lib.hid (PB.out.via hb)
  have P3 := Lib.hid (PR.out.via hb)
  have B1 := Lib.hid (sbtr BW.out hb)
  clear hb PA PB PR BW
  rcases ivB2_cases al ah bl bh with ⟨h, ha, hbb⟩ | h
  · rw [h]
    have HH := Lib.hid h
    have ⟨x1, x2, x3⟩ := ivC_le ha
    have ⟨y1, y2, y3⟩ := ivC_le hbb
    clear h ha hbb
    have ⟨a0, a1, a2, a3, a4⟩ := P1.out
    have ⟨b0, b1, b2, b3, b4⟩ := P2.out
    have ⟨r0, r1, r2, r3, r4⟩ := P3.out
    by_cases g : ah < bl ∨ bh < al
    · go_wp2
      all_goals
        first
        | (exfalso; omega)
        | exact post_iv Try.results20 rfl rfl (P3.out.set _ _) ⟨ret_out ((j2_ok HH.out).trans (meet_no g)), below_set2 B1.out (by omega) _ _⟩
    · go_wp2_with fail
      all_goals
        refine (rmade_any _ _ _).mono ?_
        rintro e w3 ⟨rfl, hb⟩
        have B3 := Lib.hid (sbtr B1.out hb)
        have P5 := Lib.hid (P3.out.via hb)
        clear hb r0 r1 r2 r3 r4 a0 a1 a2 a3 a4 b0 b1 b2 b3 b4
        have ⟨r0, r1, r2, r3, r4⟩ := P5.out
        go_wp2
        exact post_iv Try.results20 rfl rfl (P5.out.set _ _) ⟨ret_mk ((mk_eq (by omega) (by omega)).trans ((meet_yes g).symm.trans (j2_ok HH.out).symm)), below_set2 B3.out (by omega) _ _⟩
  · rw [h]
    have HH := Lib.hid h
    clear h
    have ⟨a0, a1, a2, a3, a4⟩ := P1.out
    have ⟨b0, b1, b2, b3, b4⟩ := P2.out
    go_wp2_with fail
    refine (rboth_any _ al ah bl bh).mono ?_
    rintro e w2 ⟨rfl, hb⟩
    have B2 := Lib.hid (sbtr B1.out hb)
    have P4 := Lib.hid (P3.out.via hb)
    clear hb a0 a1 a2 a3 a4 b0 b1 b2 b3 b4
    rw [HH.out]
    have ⟨r0, r1, r2, r3, r4⟩ := P4.out
    go_wp2
    exact post_iv Try.results20 rfl rfl (P4.out.set _ _) ⟨by rw [j2_bad HH.out]; rfl, below_set2 B2.out (by omega) _ _⟩
end Go.Proofs.Ytchhndlpngidcaa

/- Intervals: Meet of package span; the laws of the words of both sides. -/
namespace Go.Proofs.Ytchhndlpngidcaa
open Go.RowKit

theorem ord_no {al ah bl bh : Int} (g : ah < bl ∨ bh < al) : ordI al ah bl bh = -1 ∨ ordI al ah bl bh = 1 := by
  unfold ordI
  by_cases h1 : ah < bl
  · rw [if_pos h1]; exact .inl rfl
  · have h2 : bh < al := by omega
    rw [if_neg h1, if_pos h2]; exact .inr rfl
theorem ord_yes {al ah bl bh : Int} (g : ¬ (ah < bl ∨ bh < al)) : ordI al ah bl bh = 0 := by
  have h1 : ¬ ah < bl := by omega
  have h2 : ¬ bh < al := by omega
  unfold ordI; rw [if_neg h1, if_neg h2]
set_option maxRecDepth 100000 in
set_option maxHeartbeats 1000000 in
theorem smeet_any (w : World) (al ah bl bh : Int) : Calls Try.prog 19 #[iv al ah, iv bl bh] w (RO w (j2 al ah bl bh (meetO al ah bl bh))) := by
  have PA := Lib.hid (((Pr.new w (w.heap.size) rfl (.int .i64 al) (.int .i64 ah) 23).alloc (ivB bl bh)).alloc (ivB 0 0))
  have PB := Lib.hid ((Pr.new (w.alloc (ivB al ah)) (w.heap.size + 1) (by simp) (.int .i64 bl) (.int .i64 bh) 23).alloc (ivB 0 0))
  have PR := Lib.hid (Pr.new ((w.alloc (ivB al ah)).alloc (ivB bl bh)) (w.heap.size + 1 + 1) (by simp) (.int .i64 0) (.int .i64 0) 23)
  have BW : Hid (Below w.heap.size w (((w.alloc (ivB al ah)).alloc (ivB bl bh)).alloc (ivB 0 0))) := (sbal (sbal (sbal (Below.refl _ _) _) _) _)
  have hs : (((w.alloc (ivB al ah)).alloc (ivB bl bh)).alloc (ivB 0 0)).heap.size = w.heap.size + 1 + 1 + 1 := by simp
  have HS := Lib.hid hs
  clear hs
  go_enter Try.func19, Try.ntmps19
  go_wp2_with fail
  generalize ((w.alloc (ivB al ah)).alloc (ivB bl bh)).alloc (ivB 0 0) = W0 at *
  refine (checkall_any _ _ al ah bl bh (C4.new W0 _ HS.out _ _ _ _ _)).mono ?_
  rintro e w1 ⟨rfl, hb⟩
  have P1 := Lib.hid (PA.out.via (bbox hb))
  have P2 := Lib.hid (PB.out.via (bbox hb))
  have P3 := Lib.hid (PR.out.via (bbox hb))
  have B1 := Lib.hid (sbtr BW.out (bbox hb))
  clear hb PA PB PR BW HS
  rcases ivB2_cases al ah bl bh with ⟨h, ha, hbb⟩ | h
  · rw [h]
    have HH := Lib.hid h
    have ⟨x1, x2, x3⟩ := ivC_le ha
    have ⟨y1, y2, y3⟩ := ivC_le hbb
    clear h ha hbb
    have ⟨a0, a1, a2, a3, a4⟩ := P1.out
    have ⟨b0, b1, b2, b3, b4⟩ := P2.out
    go_wp2_with fail
    refine (order_any _ al ah bl bh).mono ?_
    rintro e w2 ⟨rfl, hb⟩
    have B2 := Lib.hid (sbtr B1.out hb)
    have Q1 := Lib.hid (P1.out.via hb)
    have Q2 := Lib.hid (P2.out.via hb)
    have Q3 := Lib.hid (P3.out.via hb)
    clear hb a0 a1 a2 a3 a4 b0 b1 b2 b3 b4
    have ⟨a0, a1, a2, a3, a4⟩ := Q1.out
    have ⟨b0, b1, b2, b3, b4⟩ := Q2.out
    have ⟨r0, r1, r2, r3, r4⟩ := Q3.out
    by_cases g : ah < bl ∨ bh < al
    · have HM := Lib.hid (meet_no g)
      rcases ord_no g with ho | ho
      · rw [ho]
        clear ho g
        go_wp2
        exact post_iv Try.results19 rfl rfl (Q3.out.set _ _) ⟨ret_out ((j2_ok HH.out).trans HM.out), below_set2 B2.out (by omega) _ _⟩
      · rw [ho]
        clear ho g
        go_wp2
        exact post_iv Try.results19 rfl rfl (Q3.out.set _ _) ⟨ret_out ((j2_ok HH.out).trans HM.out), below_set2 B2.out (by omega) _ _⟩
    · have HM := Lib.hid (meet_yes g)
      rw [ord_yes g]
      go_wp2_with fail
      all_goals
        refine (smade_any _ _ _ (by omega)).mono ?_
        rintro e w3 ⟨rfl, hb⟩
        have B3 := Lib.hid (sbtr B2.out hb)
        have P5 := Lib.hid (Q3.out.via hb)
        clear hb r0 r1 r2 r3 r4 a0 a1 a2 a3 a4 b0 b1 b2 b3 b4
        have ⟨r0, r1, r2, r3, r4⟩ := P5.out
        go_wp2
        exact post_iv Try.results19 rfl rfl (P5.out.set _ _) ⟨ret_mk ((mk_eq (by omega) (by omega)).trans (HM.out.symm.trans (j2_ok HH.out).symm)), below_set2 B3.out (by omega) _ _⟩
  · rw [h]
    have HH := Lib.hid h
    clear h
    have ⟨r0, r1, r2, r3, r4⟩ := P3.out
    go_wp2
    exact post_iv Try.results19 rfl rfl (P3.out.set _ _) ⟨by rw [j2_bad HH.out]; rfl, below_set2 B1.out (by omega) _ _⟩
end Go.Proofs.Ytchhndlpngidcaa

/- Intervals: times, quotient, Mul and Div of package span. -/
namespace Go.Proofs.Ytchhndlpngidcaa
open Go.RowKit

def mulLo (al ah bl bh : Int) : Int := mn4 (al * bl) (al * bh) (ah * bl) (ah * bh) / 1099511627776
def mulHi (al ah bl bh : Int) : Int := cdiv (mx4 (al * bl) (al * bh) (ah * bl) (ah * bh)) 1099511627776
theorem mul_le (al ah bl bh : Int) : mulLo al ah bl bh ≤ mulHi al ah bl bh := by
  unfold mulLo mulHi
  have h : mn4 (al * bl) (al * bh) (ah * bl) (ah * bh) ≤ mx4 (al * bl) (al * bh) (ah * bl) (ah * bh) := mn_mx (Int.le_refl _) (Int.le_refl _) (Int.le_refl _) (Int.le_refl _)
  exact Int.le_trans (fdiv_le_cdiv (by omega)) (cdiv_mono (by omega) h)
/-- The ends of the quotients, the divisors greater than 0. -/
def dvLo (p q c d : Int) : Int := mn4 (p / c) (p / d) (q / c) (q / d)
def dvHi (p q c d : Int) : Int := mx4 (cdiv p c) (cdiv p d) (cdiv q c) (cdiv q d)
theorem dv_le {p q c d : Int} (hc : 0 < c) (hd : 0 < d) : dvLo p q c d ≤ dvHi p q c d := mn_mx (fdiv_le_cdiv hc) (fdiv_le_cdiv hd) (fdiv_le_cdiv hc) (fdiv_le_cdiv hd)
def divO (al ah bl bh : Int) : Out :=
  if bl ≤ 0 ∧ 0 ≤ bh then ⟨0, 0, 18⟩ else if 0 < bl then mkI (dvLo (al * 1099511627776) (ah * 1099511627776) bl bh) (dvHi (al * 1099511627776) (ah * 1099511627776) bl bh)
    else mkI (dvLo (-(ah * 1099511627776)) (-(al * 1099511627776)) (-bh) (-bl)) (dvHi (-(ah * 1099511627776)) (-(al * 1099511627776)) (-bh) (-bl))
set_option maxRecDepth 100000 in
theorem times_ex (al ah bl bh : Int) (ha : IvIn al ah) (hb : IvIn bl bh)  :
    ∃ lo hi, lo ≤ hi ∧ cl lo = cl (mulLo al ah bl bh) ∧ cl hi = cl (mulHi al ah bl bh) ∧ ∀ w, Calls Try.prog 44 #[iv al ah, iv bl bh] w (RV w lo hi) := by
  obtain ⟨x1, x2, x3⟩ := ha
  obtain ⟨y1, y2, y3⟩ := hb
  obtain ⟨l0, h0, u0, q0, r0, k0⟩ := tclos_ex al bl (by omega) (by omega) (by omega) (by omega)
  obtain ⟨l1, h1, u1, q1, r1, k1⟩ := tclos_ex al bh (by omega) (by omega) (by omega) (by omega)
  obtain ⟨l2, h2, u2, q2, r2, k2⟩ := tclos_ex ah bl (by omega) (by omega) (by omega) (by omega)
  obtain ⟨l3, h3, u3, q3, r3, k3⟩ := tclos_ex ah bh (by omega) (by omega) (by omega) (by omega)
  refine ⟨mn4 l0 l1 l2 l3, mx4 h0 h1 h2 h3, mn_mx u0 u1 u2 u3, ?_, ?_, fun w => ?_⟩
  · unfold mulLo; rw [mn4_cl q0 q1 q2 q3, mn4_fdiv (by omega)]
  · unfold mulHi; rw [mx4_cl r0 r1 r2 r3, mx4_cdiv (by omega)]
  have hcf : ∀ (u v : Value) (W : World), (callFunc 70 #[u, v]).run Try.prog W = .ok (.enter 70 #[u, v]) W := fun u v W => by go_simp
  have J := Lib.hid (fun W => corners_any W 70 al ah bl bh l0 h0 l1 h1 l2 h2 l3 h3 hcf k0 k1 k2 k3)
  have PR := Lib.hid (Pr.new ((w.alloc (ivB al ah)).alloc (ivB bl bh)) (w.heap.size + 1 + 1) (by simp) (.int .i64 0) (.int .i64 0) 23)
  have BW : Hid (Below w.heap.size w (((w.alloc (ivB al ah)).alloc (ivB bl bh)).alloc (ivB 0 0))) := sbal (sbal (sbal (Below.refl _ _) _) _) _
  clear hcf k0 k1 k2 k3 u0 u1 u2 u3 q0 q1 q2 q3 r0 r1 r2 r3
  generalize mn4 l0 l1 l2 l3 = lo at *
  generalize mx4 h0 h1 h2 h3 = hi at *
  go_enter Try.func44, Try.ntmps44
  go_wp2_with fail
  generalize ((w.alloc (ivB al ah)).alloc (ivB bl bh)).alloc (ivB 0 0) = W0 at *
  refine (J.out _).mono ?_
  rintro e w1 ⟨rfl, hb⟩
  have P3 := Lib.hid (PR.out.via hb)
  have B1 := Lib.hid (sbtr BW.out hb)
  clear hb PR BW J
  have ⟨r0, r1, f0, f1, rl⟩ := P3.out
  go_wp2
  exact post_iv1 Try.results44 rfl rfl (P3.out.set _ _) ⟨rfl, below_set2 B1.out (by omega) _ _⟩
set_option maxRecDepth 100000 in
theorem quotient_pos (al ah bl bh : Int) (ha : IvIn al ah) (hb : IvIn bl bh) (hp : 0 < bl) :
    ∃ lo hi, lo ≤ hi ∧ cl lo = cl (dvLo (al * 1099511627776) (ah * 1099511627776) bl bh) ∧ cl hi = cl (dvHi (al * 1099511627776) (ah * 1099511627776) bl bh) ∧ ∀ w, Calls Try.prog 49 #[iv al ah, iv bl bh] w (RV w lo hi) := by
  obtain ⟨x1, x2, x3⟩ := ha
  obtain ⟨y1, y2, y3⟩ := hb
  obtain ⟨l0, h0, u0, q0, r0, k0⟩ := qclos_ex al bl (by omega) (by omega) (by omega) (by omega) (by omega)
  obtain ⟨l1, h1, u1, q1, r1, k1⟩ := qclos_ex al bh (by omega) (by omega) (by omega) (by omega) (by omega)
  obtain ⟨l2, h2, u2, q2, r2, k2⟩ := qclos_ex ah bl (by omega) (by omega) (by omega) (by omega) (by omega)
  obtain ⟨l3, h3, u3, q3, r3, k3⟩ := qclos_ex ah bh (by omega) (by omega) (by omega) (by omega) (by omega)
  have e1 : ∀ x, qn x bl = x * 1099511627776 := fun x => by unfold qn; rw [if_neg (by omega)]
  have e2 : ∀ x, qn x bh = x * 1099511627776 := fun x => by unfold qn; rw [if_neg (by omega)]
  have n1 : (bl.natAbs : Int) = bl := by omega
  have n2 : (bh.natAbs : Int) = bh := by omega
  refine ⟨mn4 l0 l1 l2 l3, mx4 h0 h1 h2 h3, mn_mx u0 u1 u2 u3, ?_, ?_, fun w => ?_⟩
  · rw [mn4_cl q0 q1 q2 q3, e1, e1, e2, e2, n1, n2]; rfl
  · rw [mx4_cl r0 r1 r2 r3, e1, e1, e2, e2, n1, n2]; rfl
  have hcf : ∀ (u v : Value) (W : World), (callFunc 72 #[u, v]).run Try.prog W = .ok (.enter 72 #[u, v]) W := fun u v W => by go_simp
  have J := Lib.hid (fun W => corners_any W 72 al ah bl bh l0 h0 l1 h1 l2 h2 l3 h3 hcf k0 k1 k2 k3)
  have PR := Lib.hid (Pr.new ((w.alloc (ivB al ah)).alloc (ivB bl bh)) (w.heap.size + 1 + 1) (by simp) (.int .i64 0) (.int .i64 0) 23)
  have BW : Hid (Below w.heap.size w (((w.alloc (ivB al ah)).alloc (ivB bl bh)).alloc (ivB 0 0))) := sbal (sbal (sbal (Below.refl _ _) _) _) _
  clear e1 e2 n1 n2 hcf k0 k1 k2 k3 u0 u1 u2 u3 q0 q1 q2 q3 r0 r1 r2 r3
  generalize mn4 l0 l1 l2 l3 = lo at *
  generalize mx4 h0 h1 h2 h3 = hi at *
  go_enter Try.func49, Try.ntmps49
  go_wp2_with fail
  generalize ((w.alloc (ivB al ah)).alloc (ivB bl bh)).alloc (ivB 0 0) = W0 at *
  refine (J.out _).mono ?_
  rintro e w1 ⟨rfl, hb⟩
  have P3 := Lib.hid (PR.out.via hb)
  have B1 := Lib.hid (sbtr BW.out hb)
  clear hb PR BW J
  have ⟨r0, r1, f0, f1, rl⟩ := P3.out
  go_wp2
  exact post_iv1 Try.results49 rfl rfl (P3.out.set _ _) ⟨rfl, below_set2 B1.out (by omega) _ _⟩
set_option maxRecDepth 100000 in
theorem quotient_neg (al ah bl bh : Int) (ha : IvIn al ah) (hb : IvIn bl bh) (hp : bh < 0) :
    ∃ lo hi, lo ≤ hi ∧ cl lo = cl (dvLo (-(ah * 1099511627776)) (-(al * 1099511627776)) (-bh) (-bl)) ∧ cl hi = cl (dvHi (-(ah * 1099511627776)) (-(al * 1099511627776)) (-bh) (-bl)) ∧ ∀ w, Calls Try.prog 49 #[iv al ah, iv bl bh] w (RV w lo hi) := by
  obtain ⟨x1, x2, x3⟩ := ha
  obtain ⟨y1, y2, y3⟩ := hb
  obtain ⟨l0, h0, u0, q0, r0, k0⟩ := qclos_ex al bl (by omega) (by omega) (by omega) (by omega) (by omega)
  obtain ⟨l1, h1, u1, q1, r1, k1⟩ := qclos_ex al bh (by omega) (by omega) (by omega) (by omega) (by omega)
  obtain ⟨l2, h2, u2, q2, r2, k2⟩ := qclos_ex ah bl (by omega) (by omega) (by omega) (by omega) (by omega)
  obtain ⟨l3, h3, u3, q3, r3, k3⟩ := qclos_ex ah bh (by omega) (by omega) (by omega) (by omega) (by omega)
  have e1 : ∀ x, qn x bl = -(x * 1099511627776) := fun x => by unfold qn; rw [if_pos (by omega)]
  have e2 : ∀ x, qn x bh = -(x * 1099511627776) := fun x => by unfold qn; rw [if_pos (by omega)]
  have n1 : (bl.natAbs : Int) = -bl := by omega
  have n2 : (bh.natAbs : Int) = -bh := by omega
  refine ⟨mn4 l0 l1 l2 l3, mx4 h0 h1 h2 h3, mn_mx u0 u1 u2 u3, ?_, ?_, fun w => ?_⟩
  · rw [mn4_cl q0 q1 q2 q3, e1, e1, e2, e2, n1, n2]; congr 1; unfold dvLo mn4; omega
  · rw [mx4_cl r0 r1 r2 r3, e1, e1, e2, e2, n1, n2]; congr 1; unfold dvHi mx4; omega
  have hcf : ∀ (u v : Value) (W : World), (callFunc 72 #[u, v]).run Try.prog W = .ok (.enter 72 #[u, v]) W := fun u v W => by go_simp
  have J := Lib.hid (fun W => corners_any W 72 al ah bl bh l0 h0 l1 h1 l2 h2 l3 h3 hcf k0 k1 k2 k3)
  have PR := Lib.hid (Pr.new ((w.alloc (ivB al ah)).alloc (ivB bl bh)) (w.heap.size + 1 + 1) (by simp) (.int .i64 0) (.int .i64 0) 23)
  have BW : Hid (Below w.heap.size w (((w.alloc (ivB al ah)).alloc (ivB bl bh)).alloc (ivB 0 0))) := sbal (sbal (sbal (Below.refl _ _) _) _) _
  clear e1 e2 n1 n2 hcf k0 k1 k2 k3 u0 u1 u2 u3 q0 q1 q2 q3 r0 r1 r2 r3
  generalize mn4 l0 l1 l2 l3 = lo at *
  generalize mx4 h0 h1 h2 h3 = hi at *
  go_enter Try.func49, Try.ntmps49
  go_wp2_with fail
  generalize ((w.alloc (ivB al ah)).alloc (ivB bl bh)).alloc (ivB 0 0) = W0 at *
  refine (J.out _).mono ?_
  rintro e w1 ⟨rfl, hb⟩
  have P3 := Lib.hid (PR.out.via hb)
  have B1 := Lib.hid (sbtr BW.out hb)
  clear hb PR BW J
  have ⟨r0, r1, f0, f1, rl⟩ := P3.out
  go_wp2
  exact post_iv1 Try.results49 rfl rfl (P3.out.set _ _) ⟨rfl, below_set2 B1.out (by omega) _ _⟩
theorem j2_bad2 {al ah bl bh : Int} (o o' : Out) (h : ivB2 al ah bl bh = 8) : j2 al ah bl bh o = j2 al ah bl bh o' := by rw [j2_bad h, j2_bad h]
set_option maxRecDepth 100000 in
theorem smulp_any (w : World) (al ah bl bh : Int) : Calls Try.prog 9 #[iv al ah, iv bl bh] w (RO w (j2 al ah bl bh (mkI (mulLo al ah bl bh) (mulHi al ah bl bh)))) := by
  have hcf : ∀ (u v : Value) (W : World), (callFunc 44 #[u, v]).run Try.prog W = .ok (.enter 44 #[u, v]) W := fun u v W => by go_simp
  have hJ : ∀ W, Calls Try.prog 39 #[iv al ah, iv bl bh, .func (.func 44) #[] #[]] W (RO W (j2 al ah bl bh (mkI (mulLo al ah bl bh) (mulHi al ah bl bh)))) := fun W => by
    rcases ivB2_cases al ah bl bh with ⟨h, ha, hb⟩ | h
    · obtain ⟨lo, hi, h1, h2, h3, h4⟩ := times_ex al ah bl bh (ivIn_of ha) (ivIn_of hb)
      rw [← mkI_cl h2 h3 h1 (mul_le _ _ _ _)]
      exact join_any W 44 al ah bl bh lo hi hcf fun _ _ => ⟨h1, h4⟩
    · rw [j2_bad2 _ (mkI 0 0) h]
      exact join_any W 44 al ah bl bh 0 0 hcf fun ha hb => by rw [ivB2_ok ha, hb] at h; cases h
  have J := Lib.hid hJ
  clear hJ hcf
  generalize j2 al ah bl bh (mkI (mulLo al ah bl bh) (mulHi al ah bl bh)) = o at *
  have PR := Lib.hid (Pr.new ((w.alloc (ivB al ah)).alloc (ivB bl bh)) (w.heap.size + 1 + 1) (by simp) (.int .i64 0) (.int .i64 0) 23)
  have BW : Hid (Below w.heap.size w (((w.alloc (ivB al ah)).alloc (ivB bl bh)).alloc (ivB 0 0))) := sbal (sbal (sbal (Below.refl _ _) _) _) _
  go_enter Try.func9, Try.ntmps9
  go_wp2_with fail
  generalize ((w.alloc (ivB al ah)).alloc (ivB bl bh)).alloc (ivB 0 0) = W0 at *
  refine (J.out _).mono ?_
  rintro e w1 ⟨rfl, hb⟩
  have P3 := Lib.hid (PR.out.via hb)
  have B1 := Lib.hid (sbtr BW.out hb)
  clear hb PR BW J
  have ⟨r0, r1, f0, f1, rl⟩ := P3.out
  go_wp2
  exact post_iv Try.results9 rfl rfl (P3.out.set _ _) ⟨rfl, below_set2 B1.out (by omega) _ _⟩
set_option maxRecDepth 100000 in
set_option maxHeartbeats 1000000 in
theorem sdiv_any (w : World) (al ah bl bh : Int) : Calls Try.prog 11 #[iv al ah, iv bl bh] w (RO w (j2 al ah bl bh (divO al ah bl bh))) := by
  have PA := Lib.hid (((Pr.new w (w.heap.size) rfl (.int .i64 al) (.int .i64 ah) 23).alloc (ivB bl bh)).alloc (ivB 0 0))
  have PB := Lib.hid ((Pr.new (w.alloc (ivB al ah)) (w.heap.size + 1) (by simp) (.int .i64 bl) (.int .i64 bh) 23).alloc (ivB 0 0))
  have PR := Lib.hid (Pr.new ((w.alloc (ivB al ah)).alloc (ivB bl bh)) (w.heap.size + 1 + 1) (by simp) (.int .i64 0) (.int .i64 0) 23)
  have BW : Hid (Below w.heap.size w (((w.alloc (ivB al ah)).alloc (ivB bl bh)).alloc (ivB 0 0))) := (sbal (sbal (sbal (Below.refl _ _) _) _) _)
  have hs : (((w.alloc (ivB al ah)).alloc (ivB bl bh)).alloc (ivB 0 0)).heap.size = w.heap.size + 1 + 1 + 1 := by simp
  have HS := Lib.hid hs
  clear hs
  go_enter Try.func11, Try.ntmps11
  go_wp2_with fail
  generalize ((w.alloc (ivB al ah)).alloc (ivB bl bh)).alloc (ivB 0 0) = W0 at *
  refine (checkall_any _ _ al ah bl bh (C4.new W0 _ HS.out _ _ _ _ _)).mono ?_
  rintro e w1 ⟨rfl, hb⟩
  have P1 := Lib.hid (PA.out.via (bbox hb))
  have P2 := Lib.hid (PB.out.via (bbox hb))
  have P3 := Lib.hid (PR.out.via (bbox hb))
  have B1 := Lib.hid (sbtr BW.out (bbox hb))
  clear hb PA PB PR BW HS
  rcases ivB2_cases al ah bl bh with ⟨h, ha, hbb⟩ | h
  · rw [h]
    have HH := Lib.hid h
    have HA := Lib.hid ha
    have HB := Lib.hid hbb
    have ⟨x1, x2, x3⟩ := ivC_le ha
    have ⟨y1, y2, y3⟩ := ivC_le hbb
    clear h ha hbb
    have ⟨a0, a1, a2, a3, a4⟩ := P1.out
    have ⟨b0, b1, b2, b3, b4⟩ := P2.out
    by_cases g1 : bl ≤ 0
    · by_cases g2 : 0 ≤ bh
      · have HM : Hid (divO al ah bl bh = ⟨0, 0, 18⟩) := by show _ = _; unfold divO; rw [if_pos ⟨g1, g2⟩]
        have ⟨r0, r1, r2, r3, r4⟩ := P3.out
        go_wp2
        exact post_iv Try.results11 rfl rfl (P3.out.set _ _) ⟨ret_out ((j2_ok HH.out).trans HM.out), below_set2 B1.out (by omega) _ _⟩
      · obtain ⟨lo, hi, h1, h2, h3, h4⟩ := quotient_neg al ah bl bh (ivIn_of HA.out) (ivIn_of HB.out) (by omega)
        have HM : Hid (divO al ah bl bh = mkI lo hi) := by show _ = _; unfold divO; rw [if_neg (by omega), if_neg (by omega), mkI_cl h2 h3 h1 (dv_le (by omega) (by omega))]
        have HQ := Lib.hid h4
        clear h2 h3 h4 HA HB
        have hd : decide (0 ≤ bh) = false := decide_eq_false g2
        go_wp2_with fail
        refine (HQ.out _).mono ?_
        rintro e w2 ⟨rfl, hb⟩
        have B2 := Lib.hid (sbtr B1.out hb)
        have Q3 := Lib.hid (P3.out.via hb)
        clear hb HQ a0 a1 a2 a3 a4 b0 b1 b2 b3 b4
        go_wp2_with fail
        refine (smade_any _ lo hi h1).mono ?_
        rintro e w3 ⟨rfl, hb⟩
        have B3 := Lib.hid (sbtr B2.out hb)
        have P5 := Lib.hid (Q3.out.via hb)
        clear hb
        have ⟨r0, r1, r2, r3, r4⟩ := P5.out
        go_wp2
        exact post_iv Try.results11 rfl rfl (P5.out.set _ _) ⟨ret_mk (HM.out.symm.trans (j2_ok HH.out).symm), below_set2 B3.out (by omega) _ _⟩
    · obtain ⟨lo, hi, h1, h2, h3, h4⟩ := quotient_pos al ah bl bh (ivIn_of HA.out) (ivIn_of HB.out) (by omega)
      have HM : Hid (divO al ah bl bh = mkI lo hi) := by show _ = _; unfold divO; rw [if_neg (by omega), if_pos (by omega), mkI_cl h2 h3 h1 (dv_le (by omega) (by omega))]
      have HQ := Lib.hid h4
      clear h2 h3 h4 HA HB
      have hd : decide (bl ≤ 0) = false := decide_eq_false g1
      go_wp2_with fail
      refine (HQ.out _).mono ?_
      rintro e w2 ⟨rfl, hb⟩
      have B2 := Lib.hid (sbtr B1.out hb)
      have Q3 := Lib.hid (P3.out.via hb)
      clear hb HQ a0 a1 a2 a3 a4 b0 b1 b2 b3 b4
      go_wp2_with fail
      refine (smade_any _ lo hi h1).mono ?_
      rintro e w3 ⟨rfl, hb⟩
      have B3 := Lib.hid (sbtr B2.out hb)
      have P5 := Lib.hid (Q3.out.via hb)
      clear hb
      have ⟨r0, r1, r2, r3, r4⟩ := P5.out
      go_wp2
      exact post_iv Try.results11 rfl rfl (P5.out.set _ _) ⟨ret_mk (HM.out.symm.trans (j2_ok HH.out).symm), below_set2 B3.out (by omega) _ _⟩
  · rw [h]
    have HH := Lib.hid h
    clear h
    have ⟨r0, r1, r2, r3, r4⟩ := P3.out
    go_wp2
    exact post_iv Try.results11 rfl rfl (P3.out.set _ _) ⟨by rw [j2_bad HH.out]; rfl, below_set2 B1.out (by omega) _ _⟩
end Go.Proofs.Ytchhndlpngidcaa

/- Intervals: less of the reference. -/
namespace Go.Proofs.Ytchhndlpngidcaa
open Go.RowKit

def RB1 (w : World) (v : Bool) (e : Ending) (w' : World) : Prop := e = .returned (.bool v) ∧ Below w.heap.size w w'
def ltB (H L H' L' : Nat) : Bool := decide (H < H') || (decide (H = H') && decide (L < L'))
theorem sdrew {B : Nat} {a w : World} (h : Below B a w) : Below B a w.drew := bdrewN h 1
set_option maxRecDepth 100000 in
set_option maxHeartbeats 4000000 in
theorem less_pos (w : World) (H L H' L' : Nat) : Calls Try.prog 66 #[.agg #[.bool false, .int .u64 (H : Int), .int .u64 (L : Int)], .agg #[.bool false, .int .u64 (H' : Int), .int .u64 (L' : Int)]] w (RB1 w (ltB H L H' L')) := by
  rcases Nat.lt_trichotomy H H' with h | h | h
  · have HV : Hid (ltB H L H' L' = true) := by show _ = _; unfold ltB; rw [decide_eq_true h]; rfl
    go_enter Try.func66, Try.ntmps66
    go_wp2_with fail
    go_region
    all_goals
      go_wp2
      go_ret
      exact ⟨ret_bool HV.out.symm, sdrew (sbal (sbal (sbal (sbal (Below.refl _ _) _) _) _) _)⟩
  · subst h
    by_cases hl : L < L'
    · have HV : Hid (ltB H L H L' = true) := by show _ = _; unfold ltB; rw [decide_eq_true hl]; simp
      go_enter Try.func66, Try.ntmps66
      go_wp2_with fail
      go_region
      all_goals
        go_wp2
        go_ret
        exact ⟨ret_bool HV.out.symm, sdrew (sbal (sbal (sbal (sbal (Below.refl _ _) _) _) _) _)⟩
    · have HV : Hid (ltB H L H L' = false) := by show _ = _; unfold ltB; rw [decide_eq_false hl]; simp
      have hd : decide (L < L') = false := decide_eq_false hl
      have hd0 : decide (H < H) = false := by simp
      go_enter Try.func66, Try.ntmps66
      go_wp2_with fail
      go_region
      all_goals
        go_wp2
        go_ret
        exact ⟨ret_bool HV.out.symm, sdrew (sbal (sbal (sbal (sbal (Below.refl _ _) _) _) _) _)⟩
  · have HV : Hid (ltB H L H' L' = false) := by show _ = _; unfold ltB; rw [decide_eq_false (by omega), decide_eq_false (by omega)]; rfl
    have hd : decide (H < H') = false := decide_eq_false (by omega)
    have he : ((H : Int) == (H' : Int)) = false := by simp; omega
    have he2 : (H == H') = false := by simp; omega
    clear h
    go_enter Try.func66, Try.ntmps66
    go_wp2_with fail
    go_region
    all_goals
      go_wp2
      go_ret
      exact ⟨ret_bool HV.out.symm, sdrew (sbal (sbal (sbal (sbal (Below.refl _ _) _) _) _) _)⟩
set_option maxRecDepth 100000 in
set_option maxHeartbeats 4000000 in
theorem less_neg (w : World) (H L H' L' : Nat) : Calls Try.prog 66 #[.agg #[.bool true, .int .u64 (H : Int), .int .u64 (L : Int)], .agg #[.bool true, .int .u64 (H' : Int), .int .u64 (L' : Int)]] w (RB1 w (ltB H' L' H L)) := by
  rcases Nat.lt_trichotomy H' H with h | h | h
  · have HV : Hid (ltB H' L' H L = true) := by show _ = _; unfold ltB; rw [decide_eq_true h]; rfl
    go_enter Try.func66, Try.ntmps66
    go_wp2_with fail
    go_region
    all_goals
      go_wp2_with fail
      go_region
    all_goals
      go_wp2
      go_ret
      exact ⟨ret_bool HV.out.symm, by repeat' (first | exact Below.refl _ _ | with_reducible refine sdrew ?_ | with_reducible refine sbal ?_ _)⟩
  · subst h
    by_cases hl : L' < L
    · have HV : Hid (ltB H' L' H' L = true) := by show _ = _; unfold ltB; rw [decide_eq_true hl]; simp
      go_enter Try.func66, Try.ntmps66
      go_wp2_with fail
      go_region
      all_goals
        go_wp2_with fail
        go_region
      all_goals
        go_wp2
        go_ret
        exact ⟨ret_bool HV.out.symm, by repeat' (first | exact Below.refl _ _ | with_reducible refine sdrew ?_ | with_reducible refine sbal ?_ _)⟩
    · have HV : Hid (ltB H' L' H' L = false) := by show _ = _; unfold ltB; rw [decide_eq_false hl]; simp
      have hd : decide (L' < L) = false := decide_eq_false hl
      have hd0 : decide (H' < H') = false := by simp
      go_enter Try.func66, Try.ntmps66
      go_wp2_with fail
      go_region
      all_goals
        go_wp2_with fail
        go_region
      all_goals
        go_wp2
        go_ret
        exact ⟨ret_bool HV.out.symm, by repeat' (first | exact Below.refl _ _ | with_reducible refine sdrew ?_ | with_reducible refine sbal ?_ _)⟩
  · have HV : Hid (ltB H' L' H L = false) := by show _ = _; unfold ltB; rw [decide_eq_false (by omega), decide_eq_false (by omega)]; rfl
    have hd : decide (H' < H) = false := decide_eq_false (by omega)
    have he : ((H' : Int) == (H : Int)) = false := by simp; omega
    have he2 : (H' == H) = false := by simp; omega
    clear h
    go_enter Try.func66, Try.ntmps66
    go_wp2_with fail
    go_region
    all_goals
      go_wp2_with fail
      go_region
    all_goals
      go_wp2
      go_ret
      exact ⟨ret_bool HV.out.symm, by repeat' (first | exact Below.refl _ _ | with_reducible refine sdrew ?_ | with_reducible refine sbal ?_ _)⟩
theorem ltB_iff (N M : Nat) : ltB (N / 18446744073709551616) (N % 18446744073709551616) (M / 18446744073709551616) (M % 18446744073709551616) = decide (N < M) := by
  unfold ltB
  by_cases h : N < M
  · rw [decide_eq_true h]
    by_cases h1 : N / 18446744073709551616 < M / 18446744073709551616
    · rw [decide_eq_true h1]; rfl
    · have h2 : N / 18446744073709551616 = M / 18446744073709551616 := by omega
      have h3 : N % 18446744073709551616 < M % 18446744073709551616 := by omega
      rw [decide_eq_true h2, decide_eq_true h3]; simp
  · rw [decide_eq_false h]
    have h1 : ¬ N / 18446744073709551616 < M / 18446744073709551616 := by omega
    rw [decide_eq_false h1]
    by_cases h2 : N / 18446744073709551616 = M / 18446744073709551616
    · have h3 : ¬ N % 18446744073709551616 < M % 18446744073709551616 := by omega
      rw [decide_eq_false h3]; simp
    · rw [decide_eq_false h2]; rfl
set_option maxRecDepth 100000 in
theorem less_diff (w : World) (na : Bool) (H L H' L' : Nat) : Calls Try.prog 66 #[.agg #[.bool na, .int .u64 (H : Int), .int .u64 (L : Int)], .agg #[.bool !na, .int .u64 (H' : Int), .int .u64 (L' : Int)]] w (RB1 w na) := by
  cases na
  all_goals
    go_enter Try.func66, Try.ntmps66
    go_wp2
    go_ret
    exact ⟨rfl, by go_grown⟩
theorem less_any (w : World) (na nb : Bool) (N M : Nat) (ha : na = true → 0 < N) (hb : nb = true → 0 < M) :
    Calls Try.prog 66 #[pv na N, pv nb M] w (RB1 w (decide (sgn na N < sgn nb M))) := by
  cases na <;> cases nb
  · rw [show decide (sgn false N < sgn false M) = decide (N < M) by unfold sgn; simp, ← ltB_iff]
    exact less_pos w _ _ _ _
  · rw [show decide (sgn false N < sgn true M) = false by have := hb rfl; unfold sgn; simp <;> omega]
    exact less_diff w false _ _ _ _
  · rw [show decide (sgn true N < sgn false M) = true by have := ha rfl; unfold sgn; simp <;> omega]
    exact less_diff w true _ _ _ _
  · rw [show decide (sgn true N < sgn true M) = decide (M < N) by unfold sgn; simp, ← ltB_iff]
    exact less_neg w _ _ _ _
theorem sgT_pos {x y : Int} (h : sgT x y = true) : 0 < x.natAbs * y.natAbs := ((sgT_iff x y).1 h).2
end Go.Proofs.Ytchhndlpngidcaa

/- Two copies laid in new boxes, in whatever order. -/
namespace Go.Proofs.Ytchhndlpngidcaa
open Go.RowKit

/-- Two slots point to copies of both numbers. -/
def TwinsAt (w2 : World) (na : Bool) (n : Nat) (xs : List Nat) (nb : Bool) (m : Nat) (ys : List Nat) (s5 s6 : Value) (wc : World) : Prop :=
  ∃ gx gy A' c' A'' c'', s5 = .pointer (some ⟨gx, 0, none⟩) ∧ s6 = .pointer (some ⟨gy, 0, none⟩) ∧ Pr wc gx (.bool na) (.slice A' n c') ∧ Pr wc gy (.bool nb) (.slice A'' m c'') ∧ Lm wc wc.heap.size A' n c' xs ∧ Lm wc wc.heap.size A'' m c'' ys ∧ Below w2.heap.size w2 wc

section
variable {w2 w4 : World} {na nb : Bool} {n m : Nat} {xs ys : List Nat} {A3 A4 : Option Addr} {c3 c4 : Nat} {t : TypeId}
theorem fin1 (hB : Below w2.heap.size w2 w4) (L3 : Lm w4 w4.heap.size A3 n c3 xs) (L4 : Lm w4 w4.heap.size A4 m c4 ys) :
    TwinsAt w2 na n xs nb m ys (.pointer (some ⟨w4.heap.size, 0, none⟩)) (.pointer (some ⟨w4.heap.size + 1, 0, none⟩)) ((w4.alloc (.cells #[.bool na, .slice A3 n c3] t)).alloc (.cells #[.bool nb, .slice A4 m c4] t)) :=
  ⟨_, _, A3, c3, A4, c4, rfl, rfl, (Pr.new w4 _ rfl _ _ t).alloc _, Pr.new (w4.alloc _) _ (by simp) _ _ t, (L3.box _).box _, (L4.box _).box _, (hB.alloc hB.size _).alloc (hB.alloc hB.size _).size _⟩
theorem fin2 (hB : Below w2.heap.size w2 w4) (L3 : Lm w4 w4.heap.size A3 n c3 xs) (L4 : Lm w4 w4.heap.size A4 m c4 ys) :
    TwinsAt w2 na n xs nb m ys (.pointer (some ⟨w4.heap.size + 1, 0, none⟩)) (.pointer (some ⟨w4.heap.size, 0, none⟩)) ((w4.alloc (.cells #[.bool nb, .slice A4 m c4] t)).alloc (.cells #[.bool na, .slice A3 n c3] t)) :=
  ⟨_, _, A3, c3, A4, c4, rfl, rfl, Pr.new (w4.alloc _) _ (by simp) _ _ t, (Pr.new w4 _ rfl _ _ t).alloc _, (L3.box _).box _, (L4.box _).box _, (hB.alloc hB.size _).alloc (hB.alloc hB.size _).size _⟩
theorem fin3 {g : Nat} (hB : Below w2.heap.size w2 w4) (L3 : Lm w4 w4.heap.size A3 n c3 xs) (L4 : Lm w4 w4.heap.size A4 m c4 ys) (P : Pr w4 g (.bool false) (.slice none 0 0)) (hg : w2.heap.size ≤ g) :
    TwinsAt w2 na n xs nb m ys (.pointer (some ⟨g, 0, none⟩)) (.pointer (some ⟨w4.heap.size, 0, none⟩)) (((w4.setCell ⟨g, 0, none⟩ (.bool na)).setCell ⟨g, 1, none⟩ (.slice A3 n c3)).alloc (.cells #[.bool nb, .slice A4 m c4] t)) :=
  ⟨_, _, A3, c3, A4, c4, rfl, rfl, (P.set _ _).alloc _, Pr.new _ _ (size_set2 _ _ _ _) _ _ t, (L3.setP P _ _).box _, (L4.setP P _ _).box _, (below_set2 hB hg _ _).alloc (below_set2 hB hg _ _).size _⟩
theorem fin4 {g : Nat} (hB : Below w2.heap.size w2 w4) (L3 : Lm w4 w4.heap.size A3 n c3 xs) (L4 : Lm w4 w4.heap.size A4 m c4 ys) (P : Pr w4 g (.bool false) (.slice none 0 0)) (hg : w2.heap.size ≤ g) :
    TwinsAt w2 na n xs nb m ys (.pointer (some ⟨w4.heap.size, 0, none⟩)) (.pointer (some ⟨g, 0, none⟩)) (((w4.setCell ⟨g, 0, none⟩ (.bool nb)).setCell ⟨g, 1, none⟩ (.slice A4 m c4)).alloc (.cells #[.bool na, .slice A3 n c3] t)) :=
  ⟨_, _, A3, c3, A4, c4, rfl, rfl, Pr.new _ _ (size_set2 _ _ _ _) _ _ t, (P.set _ _).alloc _, (L3.setP P _ _).box _, (L4.setP P _ _).box _, (below_set2 hB hg _ _).alloc (below_set2 hB hg _ _).size _⟩
theorem fin5 {g h : Nat} (hB : Below w2.heap.size w2 w4) (L3 : Lm w4 w4.heap.size A3 n c3 xs) (L4 : Lm w4 w4.heap.size A4 m c4 ys) (P : Pr w4 g (.bool false) (.slice none 0 0)) (Q : Pr w4 h (.bool false) (.slice none 0 0)) (hg : w2.heap.size ≤ g) (hh : w2.heap.size ≤ h) (hne : g ≠ h) :
    TwinsAt w2 na n xs nb m ys (.pointer (some ⟨g, 0, none⟩)) (.pointer (some ⟨h, 0, none⟩)) ((((w4.setCell ⟨g, 0, none⟩ (.bool na)).setCell ⟨g, 1, none⟩ (.slice A3 n c3)).setCell ⟨h, 0, none⟩ (.bool nb)).setCell ⟨h, 1, none⟩ (.slice A4 m c4)) :=
  have Q' := Q.far (h := g) (fun e => hne e.symm) (.bool na) (.slice A3 n c3)
  ⟨_, _, A3, c3, A4, c4, rfl, rfl, (P.set _ _).far hne _ _, Q'.set _ _, (L3.setP P _ _).setP Q' _ _, (L4.setP P _ _).setP Q' _ _, below_set2 (below_set2 hB hg _ _) hh _ _⟩
end
theorem b_one {w w' : World} {o : Obj} (h : Below (w.alloc o).heap.size (w.alloc o) w') : Below w.heap.size w w' := bbox h
theorem b_two {w w' : World} {o o' : Obj} (h : Below ((w.alloc o).alloc o').heap.size ((w.alloc o).alloc o') w') : Below w.heap.size w w' := bbox (bbox h)
theorem b_one_d {w w' : World} {o : Obj} (h : Below (w.alloc o).drew.heap.size (w.alloc o).drew w') : Below w.heap.size w w' :=
  ((Below.refl w.heap.size w).alloc (Nat.le_refl _) o).drew.trans (h.mono (((Below.refl w.heap.size w).alloc (Nat.le_refl _) o).drew.size))
theorem b_two_d {w w' : World} {o o' : Obj} (h : Below ((w.alloc o).alloc o').drew.heap.size ((w.alloc o).alloc o').drew w') : Below w.heap.size w w' :=
  have q := (((Below.refl w.heap.size w).alloc (Nat.le_refl _) o).alloc ((Below.refl w.heap.size w).alloc (Nat.le_refl _) o).size o').drew
  q.trans (h.mono q.size)
end Go.Proofs.Ytchhndlpngidcaa

