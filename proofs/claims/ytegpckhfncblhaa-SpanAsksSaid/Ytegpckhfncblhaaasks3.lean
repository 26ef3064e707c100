
/-
  For any interval a and any whole numbers num and den the law SpanAsks returns true: Check, Neg, Sq, Sqrt, Abs, Scale and Mid of package span return what the reference returns, result and error, whether the interval is valid or not, and leave their arguments as they are. Condition: none.
-/
import Derived.Deep.DeepCutAuto
import Derived.Test.YtegpckhfncblhaaRows
import Derived.Test.Ytegpckhfncblhaaasks2
/- Intervals: root of the reference, by halving. -/
namespace Go.Proofs.Ytegpckhfncblhaa
open Go.RowKit

def Pw (b : Nat) : Prop := b = 0 ∨ ∃ k, b = 2 ^ k
theorem pw_half {b : Nat} (h : Pw b) (h0 : 0 < b) : Pw (b / 2) ∧ max (2 * (b / 2)) 1 = b := by
  rcases h with h | ⟨k, h⟩
  · omega
  · cases k with
    | zero => exact ⟨Or.inl (by rw [h]), by rw [h]; rfl⟩
    | succ k =>
      have e : 2 ^ (k + 1) = 2 * 2 ^ k := by rw [Nat.pow_succ]; omega
      have hp : 0 < 2 ^ k := Nat.pow_pos (by omega)
      exact ⟨Or.inr ⟨k, by omega⟩, by omega⟩
theorem times_nn (x y : Nat) (hx : x ≤ 9223372036854775807) (hy : y ≤ 9223372036854775807) :
    ∃ H L, H * 18446744073709551616 + L = x * y ∧ L < 18446744073709551616 ∧ ∀ w, Calls Try.prog 32 #[.int .i64 (x : Int), .int .i64 (y : Int)] w (RL w false H L) := by
  obtain ⟨s, H, L, g, e, t⟩ := times_lg (x : Int) (y : Int) (by omega) (by omega) (by omega) (by omega)
  have e2 : sv s H L = ((x * y : Nat) : Int) := by rw [e, Int.natCast_mul]
  generalize x * y = p at *
  cases s with
  | false => exact ⟨H, L, by unfold sv sgn at e2; simp at e2; omega, g.low, t⟩
  | true => have h := g.pos rfl; unfold sv sgn at e2; simp at e2; omega
/-- A number and whether it is exact. -/
def RT2 (w : World) (R : Nat) (q : Bool) (e : Ending) (w' : World) : Prop := e = .returned (.tuple #[.int .i64 (R : Int), .bool q]) ∧ Below w.heap.size w w'
set_option maxRecDepth 100000 in
set_option maxHeartbeats 4000000 in
theorem rroot_any (w : World) (x R : Nat) (hx : x ≤ 2305843009213693952) (hR : IsRt (x * 1099511627776) R) :
    Calls Try.prog 28 #[.int .i64 (x : Int)] w (RT2 w R (decide (R * R = x * 1099511627776))) := by
  have hR9 : R ≤ 9223372036854775806 := by
    have h1 := hR.1
    rcases Nat.lt_or_ge R 9223372036854775807 with h | h
    · omega
    · have := Nat.mul_le_mul h h; omega
  obtain ⟨H, L, e1, l1, m1⟩ := times_nn x 1099511627776 (by omega) (by omega)
  obtain ⟨H2, L2, e2, l2, m2⟩ := times_nn R R (by omega) (by omega)
  have heq : R * R = x * 1099511627776 ↔ H2 = H ∧ L2 = L := by rw [← e1, ← e2]; omega
  have M1 := Lib.hid m1
  have M2 := Lib.hid m2
  have HV : Hid (H2 = H ∧ L2 = L → decide (R * R = x * 1099511627776) = true) := fun h => decide_eq_true (heq.2 h)
  have HW : Hid (¬ (H2 = H ∧ L2 = L) → decide (R * R = x * 1099511627776) = false) := fun h => decide_eq_false (fun e => h (heq.1 e))
  have HR := Lib.hid hR
  have G1 : Hid (Lg false H L) := ⟨fun h => by simp at h, l1⟩
  have HN : Hid (H * 18446744073709551616 + L = x * 1099511627776) := e1
  have hN52 : x * 1099511627776 < 4503599627370496 * 4503599627370496 := by omega
  have HN52 := Lib.hid hN52
  clear m1 m2 e1 e2 l1 l2 heq hR hR9 hx hN52
  generalize decide (R * R = x * 1099511627776) = q at *
  have HX : Hid (∃ N, N = x * 1099511627776) := ⟨_, rfl⟩
  obtain ⟨N, hNN⟩ := HX.out
  rw [← hNN] at HN HN52 HR
  clear hNN HX
  go_enter Try.func28, Try.ntmps28
  go_wp2_with fail
  refine (M1.out _).mono ?_
  rintro e w1 ⟨rfl, hb⟩
  have C := Lib.hid (C3.new w1 _ rfl (.bool false) (.int .u64 (H : Int)) (.int .u64 (L : Int)) 52)
  have B1 := Lib.hid (sbal (hb) (.cells #[.bool false, .int .u64 (H : Int), .int .u64 (L : Int)] 52))
  clear hb M1
  go_wp2_with fail
  generalize w1.alloc (.cells #[.bool false, .int .u64 (H : Int), .int .u64 (L : Int)] 52) = W1 at *
  generalize w1.heap.size = g1 at *
  go_loopw [5, 6] (fun s t wr => ∃ r b : Nat, s = .int .i64 (r : Int) ∧ t = .int .i64 (b : Int) ∧ Pw b ∧ r * r ≤ N ∧ N < (r + max (2 * b) 1) * (r + max (2 * b) 1) ∧ r + max (2 * b) 1 ≤ 4503599627370496 ∧ C3 wr g1 (.bool false) (.int .u64 (H : Int)) (.int .u64 (L : Int)) ∧ Below w.heap.size w wr) (fun _ t _ => (intOf t).toNat)
  case atStart => exact ⟨0, 2251799813685248, rfl, rfl, Or.inr ⟨51, rfl⟩, by omega, HN52.out, by omega, C.out, B1.out⟩
  case round =>
    obtain ⟨r, b, rfl, rfl, hp, q1, q2, q3, cp, bx⟩ := hrel
    have C2 := Lib.hid cp
    have B2 := Lib.hid bx
    clear C B1 cp bx
    by_cases hb : b = 0
    · subst hb
      obtain rfl : r = R := IsRt.uniq ⟨q1, q2⟩ HR.out
      clear q1 q2 q3 hp HR HN52 HN G1
      go_wp2_with fail
      rcases (show H = H2 ∧ L = L2 ∨ H = H2 ∧ ¬ L2 = L ∨ ¬ H2 = H by omega) with ⟨rfl, rfl⟩ | ⟨rfl, hz⟩ | hz
      · have HQ2 : Hid (q = true) := by first | exact HV.out (by simp) | exact HW.out (by omega)
        clear HV HW
        have HKS : Hid (∀ X : World, Below wr.heap.size wr X → X.cell? ⟨g1, 0, none⟩ = some (.bool false) ∧ X.cell? ⟨g1, 1, none⟩ = some (.int .u64 (H : Int)) ∧ X.cell? ⟨g1, 2, none⟩ = some (.int .u64 (L : Int))) := fun X h => ⟨(C2.out.via h).c0, (C2.out.via h).c1, (C2.out.via h).c2⟩
        go_region_held3 (fun X => X.cell? ⟨g1, 0, none⟩ = some (.bool false) ∧ X.cell? ⟨g1, 1, none⟩ = some (.int .u64 (H : Int)) ∧ X.cell? ⟨g1, 2, none⟩ = some (.int .u64 (L : Int)))
          (first | exact HKS.out _ (Below.refl _ _) | exact HKS.out _ (Below.refl _ _).drew | exact HKS.out _ E1 | exact HKS.out _ E0)
          (first
           | (go_at_call 32; refine (M2.out _).mono ?_; rintro e y0 ⟨rfl, hh0⟩; have E0 : Below wr.heap.size wr y0 := (by first | exact (bdrewN (Below.refl _ _) 1).trans hh0 | exact hh0))
           | fail)
        all_goals
          go_wp2
          go_ret2
          exact ⟨by rw [HQ2.out]; rfl, sbtr B2.out E0⟩
      · have HQ2 : Hid (q = false) := by first | exact HV.out (by simp) | exact HW.out (by omega)
        clear HV HW
        have hz_a : (((L2 : Nat) : Int) == ((L : Nat) : Int)) = false := by simp; omega
        have hz_b : ¬ ((L2 : Int) = (L : Int)) := by omega
        have hz_c : decide ((L2 : Int) = (L : Int)) = false := decide_eq_false (by omega)
        have hz_d : decide (L2 = L) = false := decide_eq_false (by omega)
        have hz_e : (L2 == L) = false := by simp; omega
        have HKS : Hid (∀ X : World, Below wr.heap.size wr X → X.cell? ⟨g1, 0, none⟩ = some (.bool false) ∧ X.cell? ⟨g1, 1, none⟩ = some (.int .u64 (H : Int)) ∧ X.cell? ⟨g1, 2, none⟩ = some (.int .u64 (L : Int))) := fun X h => ⟨(C2.out.via h).c0, (C2.out.via h).c1, (C2.out.via h).c2⟩
        go_region_held3 (fun X => X.cell? ⟨g1, 0, none⟩ = some (.bool false) ∧ X.cell? ⟨g1, 1, none⟩ = some (.int .u64 (H : Int)) ∧ X.cell? ⟨g1, 2, none⟩ = some (.int .u64 (L : Int)))
          (first | exact HKS.out _ (Below.refl _ _) | exact HKS.out _ (Below.refl _ _).drew | exact HKS.out _ E1 | exact HKS.out _ E0)
          (first
           | (go_at_call 32; refine (M2.out _).mono ?_; rintro e y0 ⟨rfl, hh0⟩; have E0 : Below wr.heap.size wr y0 := (by first | exact (bdrewN (Below.refl _ _) 1).trans hh0 | exact hh0))
           | fail)
        all_goals
          go_wp2
          go_ret2
          exact ⟨by rw [HQ2.out]; rfl, sbtr B2.out E0⟩
      · have HQ2 : Hid (q = false) := by first | exact HV.out (by simp) | exact HW.out (by omega)
        clear HV HW
        have hz_a : (((H2 : Nat) : Int) == ((H : Nat) : Int)) = false := by simp; omega
        have hz_b : ¬ ((H2 : Int) = (H : Int)) := by omega
        have hz_c : decide ((H2 : Int) = (H : Int)) = false := decide_eq_false (by omega)
        have hz_d : decide (H2 = H) = false := decide_eq_false (by omega)
        have hz_e : (H2 == H) = false := by simp; omega
        have HKS : Hid (∀ X : World, Below wr.heap.size wr X → X.cell? ⟨g1, 0, none⟩ = some (.bool false) ∧ X.cell? ⟨g1, 1, none⟩ = some (.int .u64 (H : Int)) ∧ X.cell? ⟨g1, 2, none⟩ = some (.int .u64 (L : Int))) := fun X h => ⟨(C2.out.via h).c0, (C2.out.via h).c1, (C2.out.via h).c2⟩
        go_region_held3 (fun X => X.cell? ⟨g1, 0, none⟩ = some (.bool false) ∧ X.cell? ⟨g1, 1, none⟩ = some (.int .u64 (H : Int)) ∧ X.cell? ⟨g1, 2, none⟩ = some (.int .u64 (L : Int)))
          (first | exact HKS.out _ (Below.refl _ _) | exact HKS.out _ (Below.refl _ _).drew | exact HKS.out _ E1 | exact HKS.out _ E0)
          (first
           | (go_at_call 32; refine (M2.out _).mono ?_; rintro e y0 ⟨rfl, hh0⟩; have E0 : Below wr.heap.size wr y0 := (by first | exact (bdrewN (Below.refl _ _) 1).trans hh0 | exact hh0))
           | fail)
        all_goals
          go_wp2
          go_ret2
          exact ⟨by rw [HQ2.out]; rfl, sbtr B2.out E0⟩
    · obtain ⟨p1, p2⟩ := pw_half hp (by omega)
      obtain ⟨H3, L3, e3, l3, m3⟩ := times_nn (r + b) (r + b) (by omega) (by omega)
      have hls : ∀ W, Calls Try.prog 33 #[lv false H L, lv false H3 L3] W (RB1 W (decide (N < (r + b) * (r + b)))) := fun W => by
        have h := less_lg W G1.out (show Lg false H3 L3 from ⟨fun h => by simp at h, l3⟩)
        have e : decide (sv false H L < sv false H3 L3) = decide (N < (r + b) * (r + b)) := by
          rw [← HN.out, ← e3]; unfold sv sgn; simp; omega
        rwa [e] at h
      rw [Int.natCast_add] at m3
      have M3 := Lib.hid m3
      have LS := Lib.hid hls
      have P1 := Lib.hid p1
      have P2 := Lib.hid p2
      have Q1 := Lib.hid q1
      have Q2 := Lib.hid q2
      have hbi : (0 : Int) < (b : Int) := by omega
      have hr5 : (r : Int) + (b : Int) ≤ 4503599627370496 := by omega
      have HR5 : Hid (r + b ≤ 4503599627370496) := by show _ ≤ _; omega
      have hrb : IntKind.i64.wrap ((r : Int) + (b : Int)) = (r : Int) + (b : Int) := IntWalk.i64_in _ (by omega)
      have hb9 : (b : Int) ≤ 4503599627370496 := by omega
      have HB0 : Hid (0 < b) := by show _ < _; omega
      have HPW : Hid (max (2 * b) 1 = 2 * b) := by show _ = _; omega
      have HR6 : Hid (r + b + b ≤ 4503599627370496) := by show _ ≤ _; omega
      clear p1 p2 q1 q2 q3 hp m3 hls e3 l3 G1 HR HV HW M2
      go_wp2_with fail
      by_cases hlt : N < (r + b) * (r + b)
      · have HLT := Lib.hid hlt
        rw [decide_eq_true hlt] at LS
        clear hlt
        have HKS : Hid (∀ X : World, Below wr.heap.size wr X → X.cell? ⟨g1, 0, none⟩ = some (.bool false) ∧ X.cell? ⟨g1, 1, none⟩ = some (.int .u64 (H : Int)) ∧ X.cell? ⟨g1, 2, none⟩ = some (.int .u64 (L : Int))) := fun X h => ⟨(C2.out.via h).c0, (C2.out.via h).c1, (C2.out.via h).c2⟩
        go_region_held3 (fun X => X.cell? ⟨g1, 0, none⟩ = some (.bool false) ∧ X.cell? ⟨g1, 1, none⟩ = some (.int .u64 (H : Int)) ∧ X.cell? ⟨g1, 2, none⟩ = some (.int .u64 (L : Int)))
          (first | exact HKS.out _ (Below.refl _ _) | exact HKS.out _ (Below.refl _ _).drew | exact HKS.out _ E1 | exact HKS.out _ E0)
          (first
           | (have _t := E0; go_at_call 33; refine (LS.out _).mono ?_; rintro e y1 ⟨rfl, hh1⟩; have E1 : Below wr.heap.size wr y1 := sbtr E0 hh1)
           | (go_at_call 32; refine (M3.out _).mono ?_; rintro e y0 ⟨rfl, hh0⟩; have E0 : Below wr.heap.size wr y0 := (by first | exact (bdrewN (Below.refl _ _) 1).trans hh0 | exact hh0))
           | fail)
        all_goals
          go_wp2
          go_roundw
          case rel => exact ⟨r, b / 2, rfl, by go_num, P1.out, Q1.out, by rw [P2.out]; exact HLT.out, by rw [P2.out]; exact HR5.out, C2.out.via E1, B2.out.trans (E1.mono B2.out.size)⟩
          case measure => have := HB0.out; simp [intOf]; omega
      · have HLT := Lib.hid hlt
        rw [decide_eq_false hlt] at LS
        clear hlt
        have HKS : Hid (∀ X : World, Below wr.heap.size wr X → X.cell? ⟨g1, 0, none⟩ = some (.bool false) ∧ X.cell? ⟨g1, 1, none⟩ = some (.int .u64 (H : Int)) ∧ X.cell? ⟨g1, 2, none⟩ = some (.int .u64 (L : Int))) := fun X h => ⟨(C2.out.via h).c0, (C2.out.via h).c1, (C2.out.via h).c2⟩
        go_region_held3 (fun X => X.cell? ⟨g1, 0, none⟩ = some (.bool false) ∧ X.cell? ⟨g1, 1, none⟩ = some (.int .u64 (H : Int)) ∧ X.cell? ⟨g1, 2, none⟩ = some (.int .u64 (L : Int)))
          (first | exact HKS.out _ (Below.refl _ _) | exact HKS.out _ (Below.refl _ _).drew | exact HKS.out _ E1 | exact HKS.out _ E0)
          (first
           | (have _t := E0; go_at_call 33; refine (LS.out _).mono ?_; rintro e y1 ⟨rfl, hh1⟩; have E1 : Below wr.heap.size wr y1 := sbtr E0 hh1)
           | (go_at_call 32; refine (M3.out _).mono ?_; rintro e y0 ⟨rfl, hh0⟩; have E0 : Below wr.heap.size wr y0 := (by first | exact (bdrewN (Below.refl _ _) 1).trans hh0 | exact hh0))
           | fail)
        all_goals
          go_wp2
          go_roundw
          case rel => exact ⟨r + b, b / 2, by go_num, by go_num, P1.out, Nat.le_of_not_lt HLT.out, by rw [P2.out]; have h := Q2.out; rw [HPW.out] at h; rw [show r + b + b = r + 2 * b by omega]; exact h, by rw [P2.out]; have := HR6.out; omega, C2.out.via E1, B2.out.trans (E1.mono B2.out.size)⟩
          case measure => have := HB0.out; simp [intOf]; omega
end Go.Proofs.Ytegpckhfncblhaa

/- Intervals: Sqrt of the reference. -/
namespace Go.Proofs.Ytegpckhfncblhaa
open Go.RowKit

set_option maxRecDepth 100000 in
set_option maxHeartbeats 1000000 in
theorem rrt_any (w : World) (al ah : Int) (Rl Rh : Nat) (hl : IsRt (al.toNat * 1099511627776) Rl) (hh : IsRt (ah.toNat * 1099511627776) Rh) : Calls Try.prog 9 #[iv al ah] w (RO w (j1 al ah (rtO al ah Rl Rh))) := by
  have PA := Lib.hid ((Pr.new w (w.heap.size) rfl (.int .i64 al) (.int .i64 ah) 23).alloc (ivB 0 0))
  have PR := Lib.hid (Pr.new (w.alloc (ivB al ah)) (w.heap.size + 1) (by simp) (.int .i64 0) (.int .i64 0) 23)
  have BW : Hid (Below w.heap.size w ((w.alloc (ivB al ah)).alloc (ivB 0 0))) := (sbal (sbal (Below.refl _ _) _) _)
  go_enter Try.func9, Try.ntmps9
  go_wp2_with fail
  generalize (w.alloc (ivB al ah)).alloc (ivB 0 0) = W0 at *
  refine (rscheck_any _ al ah).mono ?_
  rintro e w1 ⟨rfl, hb⟩
  have P1 := Lib.hid (PA.out.via hb)
  have P3 := Lib.hid (PR.out.via hb)
  have B1 := Lib.hid (sbtr BW.out hb)
  clear hb PA PR BW
  rcases ivC_cases al ah with ⟨h, ha1, ha2, ha3⟩ | ⟨h, _⟩
  · rw [h]
    have HO : Hid (j1 al ah (rtO al ah Rl Rh) = rtO al ah Rl Rh) := j1_ok h
    clear h
    by_cases hz : al < 0
    · have HM : Hid (rtO al ah Rl Rh = ⟨0, 0, 2⟩) := by show _ = _; unfold rtO; rw [if_pos hz]
      have ⟨a0, a1, _, _, _⟩ := P1.out
      have ⟨r0, r1, r2, r3, r4⟩ := P3.out
      clear ha1 ha2 ha3 hl hh
      go_wp2
      exact post_iv Try.results9 rfl rfl (P3.out.set _ _) ⟨ret_out (HO.out.trans HM.out), below_set2 B1.out (by omega) _ _⟩
    · have k0 : ∀ W, Calls Try.prog 28 #[.int .i64 al] W (RT2 W Rl (decide (Rl * Rl = al.toNat * 1099511627776))) := fun W => by
        have := rroot_any W al.toNat Rl (by omega) hl
        rwa [Int.toNat_of_nonneg (by omega)] at this
      have k1 : ∀ W, Calls Try.prog 28 #[.int .i64 ah] W (RT2 W Rh (decide (Rh * Rh = ah.toNat * 1099511627776))) := fun W => by
        have := rroot_any W ah.toNat Rh (by omega) hh
        rwa [Int.toNat_of_nonneg (by omega)] at this
      have hr9 : (Rh : Int) ≤ 9223372036854775806 := by
        have h1 := hh.1
        rcases Nat.lt_or_ge Rh 9223372036854775807 with h | h
        · omega
        · have := Nat.mul_le_mul h h; omega
      have hal : decide (al < 0) = false := decide_eq_false hz
      have K0 := Lib.hid k0
      generalize decide (Rl * Rl = al.toNat * 1099511627776) = ql at *
      clear k0 hl hh ha1 ha2 ha3
      by_cases he : Rh * Rh = ah.toNat * 1099511627776
      · have K1 := Lib.hid k1
        rw [decide_eq_true he] at K1
        have HM : Hid (mkI (Rl : Int) ((Rh : Int)) = rtO al ah Rl Rh) := by show _ = _; unfold rtO rtHi; rw [if_neg hz, if_pos he]
        clear k1 he
        generalize rtO al ah Rl Rh = o at *
        have ⟨a0, a1, _, _, _⟩ := P1.out
        go_wp2_with fail
        clear a0 a1
        refine (K0.out _).mono ?_
        rintro e w2 ⟨rfl, hb⟩
        replace P1 := Lib.hid (P1.out.via hb)
        replace P3 := Lib.hid (P3.out.via hb)
        replace B1 := Lib.hid (sbtr B1.out hb)
        clear hb K0
        have ⟨a0, a1, _, _, _⟩ := P1.out
        go_wp2_with fail
        clear a0 a1
        refine (K1.out _).mono ?_
        rintro e w3 ⟨rfl, hb⟩
        replace P3 := Lib.hid (P3.out.via hb)
        replace B1 := Lib.hid (sbtr B1.out hb)
        clear hb K1 P1
        go_wp2_with fail
        refine (rmade_any _ (Rl : Int) ((Rh : Int))).mono ?_
        rintro e w4 ⟨rfl, hb⟩
        replace P3 := Lib.hid (P3.out.via hb)
        replace B1 := Lib.hid (sbtr B1.out hb)
        clear hb
        have ⟨r0, r1, r2, r3, r4⟩ := P3.out
        go_wp2
        exact post_iv Try.results9 rfl rfl (P3.out.set _ _) ⟨ret_mk (HM.out.trans HO.out.symm), below_set2 B1.out (by omega) _ _⟩
      · have K1 := Lib.hid k1
        rw [decide_eq_false he] at K1
        have HM : Hid (mkI (Rl : Int) ((Rh : Int) + 1) = rtO al ah Rl Rh) := by show _ = _; unfold rtO rtHi; rw [if_neg hz, if_neg he]
        clear k1 he
        generalize rtO al ah Rl Rh = o at *
        have ⟨a0, a1, _, _, _⟩ := P1.out
        go_wp2_with fail
        clear a0 a1
        refine (K0.out _).mono ?_
        rintro e w2 ⟨rfl, hb⟩
        replace P1 := Lib.hid (P1.out.via hb)
        replace P3 := Lib.hid (P3.out.via hb)
        replace B1 := Lib.hid (sbtr B1.out hb)
        clear hb K0
        have ⟨a0, a1, _, _, _⟩ := P1.out
        go_wp2_with fail
        clear a0 a1
        refine (K1.out _).mono ?_
        rintro e w3 ⟨rfl, hb⟩
        replace P3 := Lib.hid (P3.out.via hb)
        replace B1 := Lib.hid (sbtr B1.out hb)
        clear hb K1 P1
        go_wp2_with fail
        refine (rmade_any _ (Rl : Int) ((Rh : Int) + 1)).mono ?_
        rintro e w4 ⟨rfl, hb⟩
        replace P3 := Lib.hid (P3.out.via hb)
        replace B1 := Lib.hid (sbtr B1.out hb)
        clear hb
        have ⟨r0, r1, r2, r3, r4⟩ := P3.out
        go_wp2
        exact post_iv Try.results9 rfl rfl (P3.out.set _ _) ⟨ret_mk (HM.out.trans HO.out.symm), below_set2 B1.out (by omega) _ _⟩
  · rw [h]
    have HH := Lib.hid h
    clear h
    have ⟨a0, a1, a2, a3, a4⟩ := P1.out
    go_wp2_with fail
    refine (rscheck_any _ al ah).mono ?_
    rintro e w2 ⟨rfl, hb⟩
    have B2 := Lib.hid (sbtr B1.out hb)
    have P4 := Lib.hid (P3.out.via hb)
    clear hb a0 a1 a2 a3 a4
    rw [HH.out]
    have ⟨r0, r1, r2, r3, r4⟩ := P4.out
    go_wp2
    exact post_iv Try.results9 rfl rfl (P4.out.set _ _) ⟨by rw [j1_bad HH.out]; rfl, below_set2 B2.out (by omega) _ _⟩
end Go.Proofs.Ytegpckhfncblhaa

/- Intervals: Div of the reference. -/
namespace Go.Proofs.Ytegpckhfncblhaa
open Go.RowKit

theorem dv_ref {p q X Y D1 D2 : Int} {c d : Nat} (hpq : p ≤ q) (hc : 0 < c) (hcd : c ≤ d) (h1 : D1 = if p < 0 then (c : Int) else (d : Int)) (h2 : D2 = if 0 < q then (c : Int) else (d : Int))
    (hX : cl X = cl (p * 1099511627776 / D1)) (hY : cl Y = cl (cdiv (q * 1099511627776) D2)) :
    mkI X Y = mkI (dvLo (p * 1099511627776) (q * 1099511627776) c d) (dvHi (p * 1099511627776) (q * 1099511627776) c d) := by
  have hpq' : p * 1099511627776 ≤ q * 1099511627776 := by omega
  refine mkI_cl2 ?_ ?_ (dv_le (by omega) (by omega))
  · rw [hX, h1]; unfold dvLo; rw [least_quo hpq' (by omega) (by omega)]
    by_cases hp : p < 0
    · rw [if_pos hp, if_pos (by omega)]
    · rw [if_neg hp, if_neg (by omega)]
  · rw [hY, h2]; unfold dvHi; rw [most_quo hpq' (by omega) (by omega)]
    by_cases hq : 0 < q
    · rw [if_pos hq, if_pos (by omega)]
    · rw [if_neg hq, if_neg (by omega)]
theorem divO_zero {al ah bl bh : Int} (h1 : bl ≤ 0) (h2 : 0 ≤ bh) : divO al ah bl bh = ⟨0, 0, 18⟩ := by unfold divO; rw [if_pos ⟨h1, h2⟩]
theorem divO_pos {al ah bl bh : Int} (h1 : 0 < bl) : divO al ah bl bh = mkI (dvLo (al * 1099511627776) (ah * 1099511627776) bl bh) (dvHi (al * 1099511627776) (ah * 1099511627776) bl bh) := by
  unfold divO; rw [if_neg (by omega), if_pos h1]
theorem divO_neg {p q c d : Int} (h1 : 0 < c) (h2 : c ≤ d) : divO (-q) (-p) (-d) (-c) = mkI (dvLo (p * 1099511627776) (q * 1099511627776) c d) (dvHi (p * 1099511627776) (q * 1099511627776) c d) := by
  unfold divO; rw [if_neg (by omega), if_neg (by omega)]
  simp only [Int.neg_mul, Int.neg_neg]
end Go.Proofs.Ytegpckhfncblhaa

/- Intervals: Scale of the reference. -/
namespace Go.Proofs.Ytegpckhfncblhaa
open Go.RowKit

theorem scale_ref {al ah num den X Y : Int} (hz : den ≠ 0) (hX : cl X = cl (min (sN al num den) (sN ah num den) / (den.natAbs : Int))) (hY : cl Y = cl (cdiv (max (sN al num den) (sN ah num den)) (den.natAbs : Int))) :
    mkI X Y = scO al ah num den := by
  have hD : 0 < (den.natAbs : Int) := by omega
  unfold scO
  rw [if_neg hz]
  have f0 := fdiv_le_cdiv (p := sN al num den) hD
  rw [fdiv_min hD] at hX
  rw [cdiv_max hD] at hY
  exact mkI_cl2 hX hY (by omega)
set_option maxRecDepth 100000 in
set_option maxHeartbeats 2000000 in
theorem turned_w (w : World) (s : Bool) (H L : Nat) : Calls Try.prog 34 #[lv s H L] w (RL w (!s && (decide (0 < H) || decide (0 < L))) H L) := by
  rcases Nat.eq_zero_or_pos H with rfl | hH <;> rcases Nat.eq_zero_or_pos L with rfl | hL <;> cases s
  all_goals
    (try have hHi : (0 : Int) < (H : Int) := by omega)
    (try have hLi : (0 : Int) < (L : Int) := by omega)
    go_enter Try.func34, Try.ntmps34
    go_wp2
    refine bodyPost_ret (v := lv (!_ && (decide (0 < _) || decide (0 < _))) _ _) ?_ rfl ⟨rfl, by go_grown⟩
    (try rw [show decide (0 < H) = true from decide_eq_true hH])
    (try rw [show decide (0 < L) = true from decide_eq_true hL])
    refine res_l3 Try.results34 rfl ?_
    exact C3.new (w.alloc _) _ (by simp) _ _ _ _
theorem turned_lg {s : Bool} {H L : Nat} (g : Lg s H L) : ∃ s', Lg s' H L ∧ sv s' H L = -(sv s H L) ∧ ∀ w, Calls Try.prog 34 #[lv s H L] w (RL w s' H L) := by
  refine ⟨(!s && (decide (0 < H) || decide (0 < L))), ⟨fun h => ?_, g.low⟩, ?_, fun w => turned_w w s H L⟩
  · simp at h; omega
  · have hp := g.pos
    cases s
    · by_cases h : H * 18446744073709551616 + L = 0
      · obtain rfl : H = 0 := by omega
        obtain rfl : L = 0 := by omega
        rfl
      · have e : (decide (0 < H) || decide (0 < L)) = true := by simp; omega
        rw [e]; unfold sv sgn; simp
    · unfold sv sgn; simp
/-- Two slots point to boxes of two products. -/
def TwoAt (W : World) (s : Bool) (H L : Nat) (s' : Bool) (H' L' : Nat) (s8 s9 : Value) (wx : World) : Prop :=
  ∃ p q, s8 = .pointer (some ⟨p, 0, none⟩) ∧ s9 = .pointer (some ⟨q, 0, none⟩) ∧ C3 wx p (.bool s) (.int .u64 (H : Int)) (.int .u64 (L : Int)) ∧ C3 wx q (.bool s') (.int .u64 (H' : Int)) (.int .u64 (L' : Int)) ∧ p ≠ q ∧ W.heap.size ≤ p ∧ W.heap.size ≤ q ∧ Below W.heap.size W wx
section
variable {W w : World} {s s' : Bool} {H L H' L' : Nat} {t : TypeId}
theorem two1 (hB : Below W.heap.size W w) : TwoAt W s H L s' H' L' (.pointer (some ⟨w.heap.size, 0, none⟩)) (.pointer (some ⟨w.heap.size + 1, 0, none⟩)) ((w.alloc (.cells #[.bool s, .int .u64 (H : Int), .int .u64 (L : Int)] t)).alloc (.cells #[.bool s', .int .u64 (H' : Int), .int .u64 (L' : Int)] t)) :=
  ⟨_, _, rfl, rfl, (C3.new w _ rfl _ _ _ t).alloc _, C3.new (w.alloc _) _ (by simp) _ _ _ t, by omega, hB.size, by have := hB.size; omega, sbal (sbal hB _) _⟩
theorem two2 (hB : Below W.heap.size W w) : TwoAt W s H L s' H' L' (.pointer (some ⟨w.heap.size + 1, 0, none⟩)) (.pointer (some ⟨w.heap.size, 0, none⟩)) ((w.alloc (.cells #[.bool s', .int .u64 (H' : Int), .int .u64 (L' : Int)] t)).alloc (.cells #[.bool s, .int .u64 (H : Int), .int .u64 (L : Int)] t)) :=
  ⟨_, _, rfl, rfl, C3.new (w.alloc _) _ (by simp) _ _ _ t, (C3.new w _ rfl _ _ _ t).alloc _, by omega, by have := hB.size; omega, hB.size, sbal (sbal hB _) _⟩
theorem two3 {g : Nat} {x y z : Value} (hB : Below W.heap.size W w) (P : C3 w g x y z) (hg : W.heap.size ≤ g) : TwoAt W s H L s' H' L' (.pointer (some ⟨g, 0, none⟩)) (.pointer (some ⟨w.heap.size, 0, none⟩)) ((w.setCells g 0 [.bool s, .int .u64 (H : Int), .int .u64 (L : Int)]).alloc (.cells #[.bool s', .int .u64 (H' : Int), .int .u64 (L' : Int)] t)) :=
  ⟨_, _, rfl, rfl, (P.setC _ _ _).alloc _, C3.new _ _ (size_setCells _ _ _ _) _ _ _ t, Nat.ne_of_lt P.lt, hg, hB.size, sbal (below_setCells hg _ _ _ _ hB) _⟩
theorem two4 {g : Nat} {x y z : Value} (hB : Below W.heap.size W w) (P : C3 w g x y z) (hg : W.heap.size ≤ g) : TwoAt W s H L s' H' L' (.pointer (some ⟨w.heap.size, 0, none⟩)) (.pointer (some ⟨g, 0, none⟩)) ((w.setCells g 0 [.bool s', .int .u64 (H' : Int), .int .u64 (L' : Int)]).alloc (.cells #[.bool s, .int .u64 (H : Int), .int .u64 (L : Int)] t)) :=
  ⟨_, _, rfl, rfl, C3.new _ _ (size_setCells _ _ _ _) _ _ _ t, (P.setC _ _ _).alloc _, (Nat.ne_of_lt P.lt).symm, hB.size, hg, sbal (below_setCells hg _ _ _ _ hB) _⟩
theorem two5 {g h : Nat} {x y z x' y' z' : Value} (hB : Below W.heap.size W w) (P : C3 w g x y z) (Q : C3 w h x' y' z') (hg : W.heap.size ≤ g) (hh : W.heap.size ≤ h) (hne : g ≠ h) : TwoAt W s H L s' H' L' (.pointer (some ⟨g, 0, none⟩)) (.pointer (some ⟨h, 0, none⟩)) ((w.setCells g 0 [.bool s, .int .u64 (H : Int), .int .u64 (L : Int)]).setCells h 0 [.bool s', .int .u64 (H' : Int), .int .u64 (L' : Int)]) :=
  ⟨_, _, rfl, rfl, (P.setC _ _ _).farC hne _, (Q.farC (fun e => hne e.symm) _).setC _ _ _, hne, hg, hh, below_setCells hh _ _ _ _ (below_setCells hg _ _ _ _ hB)⟩
end
theorem Pr.farS {w : World} {g : Nat} {x y : Value} (p : Pr w g x y) (h : Nat) (hne : g ≠ h) (vs : List Value) : Pr (w.setCells h 0 vs) g x y :=
  ⟨(far_cell hne vs 0).trans p.c0, (far_cell hne vs 1).trans p.c1, by rw [World.frozen?_setCells]; exact p.f0, by rw [World.frozen?_setCells]; exact p.f1, by rw [size_setCells]; exact p.lt⟩
set_option maxRecDepth 100000 in
set_option maxHeartbeats 8000000 in
theorem rscale_in (w : World) (al ah num den : Int) (hin : IvIn al ah) (hn1 : -9223372036854775808 ≤ num) (hn2 : num ≤ 9223372036854775807) (hz : den ≠ 0) (hd1 : -9223372036854775808 ≤ den) (hd2 : den ≤ 9223372036854775807) :
    Calls Try.prog 13 #[iv al ah, .int .i64 num, .int .i64 den] w (RO w (scO al ah num den)) := by
  obtain ⟨x1, x2, x3⟩ := hin
  obtain ⟨s, H, L, la, ea, ta⟩ := times_lg al num (by omega) (by omega) (by omega) (by omega)
  obtain ⟨s', H', L', lb, eb, tb⟩ := times_lg ah num (by omega) (by omega) (by omega) (by omega)
  have hok : ivC al ah = 0 := ivC_ok (by omega) (by omega) (by omega)
  have T0 := Lib.hid ta
  have T1 := Lib.hid tb
  have LA := Lib.hid la
  have LB := Lib.hid lb
  have EA := Lib.hid ea
  have EB := Lib.hid eb
  have SZ := Lib.hid (fun W => rsize_any W den hd1 hd2)
  have HZ := Lib.hid hz
  have hdD : den.natAbs < 18446744073709551616 := by omega
  have HD := Lib.hid hdD
  have PA := Lib.hid ((Pr.new w w.heap.size rfl (.int .i64 al) (.int .i64 ah) 23).alloc (ivB 0 0))
  have PR := Lib.hid (Pr.new (w.alloc (ivB al ah)) (w.heap.size + 1) (by simp) (.int .i64 0) (.int .i64 0) 23)
  have BW : Hid (Below w.heap.size w ((w.alloc (ivB al ah)).alloc (ivB 0 0))) := sbal (sbal (Below.refl _ _) _) _
  clear la lb ea eb ta tb x1 x2 x3 hn1 hn2 hd1 hd2 hdD
  go_enter Try.func13, Try.ntmps13
  go_wp2_with fail
  generalize (w.alloc (ivB al ah)).alloc (ivB 0 0) = W0 at *
  refine (rscheck_any _ al ah).mono ?_
  rintro e w1 ⟨rfl, hb⟩
  rw [hok]
  have P1 := Lib.hid (PA.out.via hb)
  have P3 := Lib.hid (PR.out.via hb)
  have B1 := Lib.hid (sbtr BW.out hb)
  clear hb PA PR BW hok
  go_wp2_with fail
  have HKS : Hid (∀ X : World, Below w1.heap.size w1 X → X.cell? ⟨w.heap.size, 0, none⟩ = some (.int .i64 al) ∧ X.cell? ⟨w.heap.size, 1, none⟩ = some (.int .i64 ah)) := fun X h => ⟨(P1.out.via h).c0, (P1.out.via h).c1⟩
  have hq1 := P1.out.lt
  have hq3 := P3.out.lt
  go_cut [8, 9] (fun s8 s9 wx => TwoAt w1 s H L s' H' L' s8 s9 wx)
  case first =>
    go_region_held3 (fun X => X.cell? ⟨w.heap.size, 0, none⟩ = some (.int .i64 al) ∧ X.cell? ⟨w.heap.size, 1, none⟩ = some (.int .i64 ah))
      (first | (refine HKS.out _ ?_; (repeat' (first | with_reducible exact B24 | with_reducible exact B3 | with_reducible exact (Below.refl _ _).drew | with_reducible exact Below.refl _ _ | with_reducible refine Below.drew ?_ | with_reducible refine Below.setCell ?_ ?_ _ | with_reducible refine Below.alloc ?_ ?_ _)); all_goals (first | omega | (simp; done) | (simp [World.size_setCell]; omega))))
      (first
       | (have _t := B3; go_at_call 32; refine (T1.out _).mono ?_; rintro e w4 ⟨rfl, hb4⟩; have B34 : Below w3.heap.size w3 w4 := (by first | exact hb4 | exact b_one hb4 | exact b_two hb4); have hs34 := B34.size; have B24 := sbtr B3 B34; (try (have PW := PZ.via B34; have ⟨v0, v1, v2, v3, v4, v5, v6⟩ := PW; have va0 := fun o => (PW.alloc o).c0; have va1 := fun o => (PW.alloc o).c1; have va2 := fun o => (PW.alloc o).c2; have vf0 := fun o => (PW.alloc o).f0; have vf1 := fun o => (PW.alloc o).f1; have vf2 := fun o => (PW.alloc o).f2; have vn1 := Nat.ne_of_lt PW.lt; have vn2 := Nat.ne_of_gt PW.lt)); (try (have PW2 := PZ2.via B34; have PW3 := PZ3.via B34; have ⟨va0, va1, va2, va3, va4, va5, va6⟩ := PW2; have ⟨vb0, vb1, vb2, vb3, vb4, vb5, vb6⟩ := PW3)); (try (have PY := (C3.new w3 w3.heap.size rfl (.bool false) (.int .u64 0) (.int .u64 0) 52).via hb4; have ⟨y0, y1, y2, y3, y4, y5, y6⟩ := PY; have ya0 := fun o => (PY.alloc o).c0; have ya1 := fun o => (PY.alloc o).c1; have ya2 := fun o => (PY.alloc o).c2; have yf0 := fun o => (PY.alloc o).f0; have yf1 := fun o => (PY.alloc o).f1; have yf2 := fun o => (PY.alloc o).f2; have yn1 := Nat.ne_of_lt PY.lt; have yn2 := Nat.ne_of_gt PY.lt)); (try (have PY2 := ((C3.new w3 w3.heap.size rfl (.bool false) (.int .u64 0) (.int .u64 0) 52).alloc (.cells #[.bool false, .int .u64 0, .int .u64 0] 52)).via hb4; have PY3 := (C3.new (w3.alloc (.cells #[.bool false, .int .u64 0, .int .u64 0] 52)) (w3.heap.size + 1) (by simp) (.bool false) (.int .u64 0) (.int .u64 0) 52).via hb4; have ⟨ya0, ya1, ya2, ya3, ya4, ya5, ya6⟩ := PY2; have ⟨yb0, yb1, yb2, yb3, yb4, yb5, yb6⟩ := PY3)))
       | (go_at_call 32; refine (T0.out _).mono ?_; rintro e w3 ⟨rfl, hb3⟩; have B3 : Below w1.heap.size w1 w3 := (by first | exact (Below.refl _ _).drew.trans hb3 | exact b_one_d hb3 | exact b_two_d hb3); have hs13 := B3.size; (try (have PZ := (C3.new w1 w1.heap.size rfl (.bool false) (.int .u64 0) (.int .u64 0) 52).drewN 1 |>.via hb3; have ⟨z0, z1, z2, z3, z4, z5, z6⟩ := PZ)); (try (have PZ2 := (((C3.new w1 w1.heap.size rfl (.bool false) (.int .u64 0) (.int .u64 0) 52).alloc (.cells #[.bool false, .int .u64 0, .int .u64 0] 52)).drewN 1).via hb3; have PZ3 := ((C3.new (w1.alloc (.cells #[.bool false, .int .u64 0, .int .u64 0] 52)) (w1.heap.size + 1) (by simp) (.bool false) (.int .u64 0) (.int .u64 0) 52).drewN 1).via hb3; have ⟨za0, za1, za2, za3, za4, za5, za6⟩ := PZ2; have ⟨zb0, zb1, zb2, zb3, zb4, zb5, zb6⟩ := PZ3)))
       | fail)
    all_goals
      go_wp2_with fail
      go_meet
      (try rw [set3_eq])
      (try rw [set3_eq])
      first
      | with_reducible exact two1 B24
      | with_reducible exact two2 B24
      | with_reducible exact two3 B24 PY hs13
      | with_reducible exact two3 B24 PW (Nat.le_refl _)
      | with_reducible exact two4 B24 PY hs13
      | with_reducible exact two4 B24 PW (Nat.le_refl _)
      | (with_reducible refine two5 B24 PY2 PY3 ?_ ?_ ?_ <;> omega)
      | (with_reducible refine two5 B24 PY3 PY2 ?_ ?_ ?_ <;> omega)
      | (with_reducible refine two5 B24 PW2 PW3 ?_ ?_ ?_ <;> omega)
      | (with_reducible refine two5 B24 PW3 PW2 ?_ ?_ ?_ <;> omega)
      | (with_reducible refine two5 B24 PW PY ?_ ?_ ?_ <;> omega)
      | (with_reducible refine two5 B24 PY PW ?_ ?_ ?_ <;> omega)
      | trace_state
  case rest =>
    obtain ⟨p, q, rfl, rfl, cp, cq, hpq, hgp, hgq, hB⟩ := hcut
    have CP := Lib.hid cp
    have CQ := Lib.hid cq
    replace P3 := Lib.hid (P3.out.via hB)
    replace B1 := Lib.hid (sbtr B1.out hB)
    have hp1 : w.heap.size + 1 < p := by omega
    have hq2 : w.heap.size + 1 < q := by omega
    clear hB cp cq P1 HKS T0 T1 hgp hgq hq1 hq3
    obtain ⟨b1, hb1⟩ : ∃ b, decide (sv s' H' L' < sv s H L) = b := ⟨_, rfl⟩
    have C1 := Lib.hid (fun W => less_lg W LB.out LA.out)
    rw [hb1] at C1
    have D1 := Lib.hid hb1
    clear hb1
    have ⟨p0, p1, p2, _, _, _, _⟩ := CP.out
    have ⟨q0, q1, q2, _, _, _, _⟩ := CQ.out
    go_wp2_with fail
    clear p0 p1 p2 q0 q1 q2
    refine (C1.out _).mono ?_
    rintro e w5 ⟨rfl, hb⟩
    replace P3 := Lib.hid (P3.out.via hb)
    replace CP := Lib.hid (CP.out.via hb)
    replace CQ := Lib.hid (CQ.out.via hb)
    replace B1 := Lib.hid (sbtr B1.out hb)
    clear hb C1
    cases b1
    · by_cases hn : den < 0
      · have hnt : decide (den < 0) = true := decide_eq_true hn
        go_wp2_with fail
        generalize w5 = W6 at *
        obtain ⟨t1, g1, u1, k1⟩ := turned_lg LA.out
        obtain ⟨t2, g2, u2, k2⟩ := turned_lg LB.out
        have K1 := Lib.hid k1
        have K2 := Lib.hid k2
        have U1 := Lib.hid u1
        have U2 := Lib.hid u2
        have G1 := Lib.hid g1
        have G2 := Lib.hid g2
        have hqp : ¬ q = p := fun e => hpq e.symm
        clear k1 k2 u1 u2 g1 g2
        have ⟨p0, p1, p2, p3, p4, p5, p6⟩ := CP.out
        have ⟨pp0, pp1, pp2, pp3, pp4, pp5, pp6⟩ := CP.out.drewN 1
        have ⟨q0, q1, q2, q3, q4, q5, q6⟩ := CQ.out
        have ⟨qq0, qq1, qq2, qq3, qq4, qq5, qq6⟩ := CQ.out.drewN 1
        (try go_wp2_with fail)
        go_cut [] from 33 to 38 (fun wx => C3 wx p (.bool t2) (.int .u64 (H' : Int)) (.int .u64 (L' : Int)) ∧ C3 wx q (.bool t1) (.int .u64 (H : Int)) (.int .u64 (L : Int)) ∧ Pr wx (w.heap.size + 1) (.int .i64 0) (.int .i64 0) ∧ Below w.heap.size w wx)
        case first =>
          go_region_with (first
           | (have _t := F0; go_at_call 34; refine (K1.out _).mono ?_; rintro e v1 ⟨rfl, h1⟩; have F1 : Below W6.heap.size W6 v1 := sbtr F0 h1; have CP7 := CP.out.via F1; have CQ7 := CQ.out.via F1; have ⟨pb0, pb1, pb2, pb3, pb4, pb5, pb6⟩ := CP7; have ⟨qb0, qb1, qb2, qb3, qb4, qb5, qb6⟩ := CQ7)
           | (go_at_call 34; refine (K2.out _).mono ?_; rintro e v0 ⟨rfl, h0⟩; have F0 : Below W6.heap.size W6 v0 := (by first | exact (bdrewN (Below.refl _ _) 1).trans h0 | exact h0); have ⟨pa0, pa1, pa2, pa3, pa4, pa5, pa6⟩ := CP.out.via F0)
           | fail)
          all_goals
            go_wp2_with fail
            go_meet
            rw [set3_eq, set3_eq]
            exact ⟨(CP7.setC _ _ _).farC hpq [_, _, _], (CQ7.farC (h := p) hqp [_, _, _]).setC _ _ _, ((P3.out.via F1).farS p (by omega) _).farS q (by omega) _, below_setCells (g := q) (by omega) _ 0 _ _ (below_setCells (g := p) (by omega) _ 0 _ _ (sbtr B1.out F1))⟩
        case rest =>
          obtain ⟨cp, cq, p3, b1⟩ := hcut
          clear CP CQ P3 B1 K1 K2
          have CP := Lib.hid cp
          have CQ := Lib.hid cq
          have P3 := Lib.hid p3
          have B1 := Lib.hid b1
          clear cp cq p3 b1
          generalize wc = W7 at *
          have hX : sv t2 H' L' = min (sN al num den) (sN ah num den) := by
            unfold sN; rw [if_pos hn, if_pos hn]; have a := EA.out; have b := EB.out; have c := of_decide_eq_false D1.out; have d := U1.out; have f := U2.out; omega
          have hY : sv t1 H L = max (sN al num den) (sN ah num den) := by
            unfold sN; rw [if_pos hn, if_pos hn]; have a := EA.out; have b := EB.out; have c := of_decide_eq_false D1.out; have d := U1.out; have f := U2.out; omega
          have hD0 : 0 < den.natAbs := by have := HZ.out; omega
          have O1 := Lib.hid (fun W => rover_lg W G2.out false den.natAbs hD0 HD.out)
          have O2 := Lib.hid (fun W => rover_lg W G1.out true den.natAbs hD0 HD.out)
          have HM : Hid (mkI (rov t2 false (H' * 18446744073709551616 + L') den.natAbs) (rov t1 true (H * 18446744073709551616 + L) den.natAbs) = scO al ah num den) := by
            refine scale_ref HZ.out ?_ ?_
            · rw [rov_lo _ _ _ hD0, ← hX]; rfl
            · rw [rov_hi _ _ _ hD0, ← hY]; rfl
          generalize rov t2 false (H' * 18446744073709551616 + L') den.natAbs = x at *
          generalize rov t1 true (H * 18446744073709551616 + L) den.natAbs = y at *
          clear hX hY hD0
          have HKS : Hid (∀ X : World, Below W7.heap.size W7 X → X.cell? ⟨p, 0, none⟩ = some (.bool t2) ∧ X.cell? ⟨p, 1, none⟩ = some (.int .u64 (H' : Int)) ∧ X.cell? ⟨p, 2, none⟩ = some (.int .u64 (L' : Int)) ∧ X.cell? ⟨q, 0, none⟩ = some (.bool t1) ∧ X.cell? ⟨q, 1, none⟩ = some (.int .u64 (H : Int)) ∧ X.cell? ⟨q, 2, none⟩ = some (.int .u64 (L : Int))) := fun X h => ⟨(CP.out.via h).c0, (CP.out.via h).c1, (CP.out.via h).c2, (CQ.out.via h).c0, (CQ.out.via h).c1, (CQ.out.via h).c2⟩
          have hqr := P3.out.lt
          have hpn : p ≠ w.heap.size + 1 := by omega
          have hqn : q ≠ w.heap.size + 1 := by omega
          (try go_wp2_with fail)
          go_region_held3 (fun X => X.cell? ⟨p, 0, none⟩ = some (.bool t2) ∧ X.cell? ⟨p, 1, none⟩ = some (.int .u64 (H' : Int)) ∧ X.cell? ⟨p, 2, none⟩ = some (.int .u64 (L' : Int)) ∧ X.cell? ⟨q, 0, none⟩ = some (.bool t1) ∧ X.cell? ⟨q, 1, none⟩ = some (.int .u64 (H : Int)) ∧ X.cell? ⟨q, 2, none⟩ = some (.int .u64 (L : Int)))
            (first | exact HKS.out _ (Below.refl _ _) | exact HKS.out _ (Below.refl _ _).drew | exact HKS.out _ (Below.refl _ _).drew.drew | exact HKS.out _ E4 | exact HKS.out _ E1 | exact HKS.out _ E0 | exact HKS.out _ E0.drew | exact HKS.out _ E1.drew | exact ⟨((CP.out.via E4).far2 hpn _ _).c0, ((CP.out.via E4).far2 hpn _ _).c1, ((CP.out.via E4).far2 hpn _ _).c2, ((CQ.out.via E4).far2 hqn _ _).c0, ((CQ.out.via E4).far2 hqn _ _).c1, ((CQ.out.via E4).far2 hqn _ _).c2⟩)
            (first
             | (have _t := E1; go_at_call 20; refine (rmade_any _ x y).mono ?_; rintro e v4 ⟨rfl, h4⟩; have E4 : Below W7.heap.size W7 v4 := (by first | exact sbtr E1 h4 | exact sbtr (bdrewN E1 1) h4); have P7 := P3.out.via E4; have ⟨r0, r1, r2, r3, rl⟩ := P7)
             | (have _t := E0; go_at_call 35; refine (O2.out _).mono ?_; rintro e v1 ⟨rfl, h1⟩; have E1 : Below W7.heap.size W7 v1 := (by first | exact sbtr E0 h1 | exact sbtr (bdrewN E0 1) h1))
             | (go_at_call 35; refine (O1.out _).mono ?_; rintro e v0 ⟨rfl, h0⟩; have E0 : Below W7.heap.size W7 v0 := (by first | exact (bdrewN (Below.refl _ _) 1).trans h0 | exact (bdrewN (bdrewN (Below.refl _ _) 1) 1).trans h0 | exact h0))
             | (go_at_call 36; refine (SZ.out _).mono ?_; rintro e v2 ⟨rfl, rfl⟩)
             | fail)
          all_goals
            go_wp2
            exact post_iv Try.results13 rfl rfl (P7.set _ _) ⟨ret_mk HM.out, below_set2 (sbtr B1.out E4) (by omega) _ _⟩
      · have hnd : decide (den < 0) = false := decide_eq_false hn
        go_wp2_with fail
        generalize w5 = W6 at *
        have hX : sv s H L = min (sN al num den) (sN ah num den) := by
          unfold sN; rw [if_neg (by omega), if_neg (by omega)]; have a := EA.out; have b := EB.out; have c := of_decide_eq_false D1.out; omega
        have hY : sv s' H' L' = max (sN al num den) (sN ah num den) := by
          unfold sN; rw [if_neg (by omega), if_neg (by omega)]; have a := EA.out; have b := EB.out; have c := of_decide_eq_false D1.out; omega
        have hD0 : 0 < den.natAbs := by have := HZ.out; omega
        have O1 := Lib.hid (fun W => rover_lg W LA.out false den.natAbs hD0 HD.out)
        have O2 := Lib.hid (fun W => rover_lg W LB.out true den.natAbs hD0 HD.out)
        have HM : Hid (mkI (rov s false (H * 18446744073709551616 + L) den.natAbs) (rov s' true (H' * 18446744073709551616 + L') den.natAbs) = scO al ah num den) := by
          refine scale_ref HZ.out ?_ ?_
          · rw [rov_lo _ _ _ hD0, ← hX]; rfl
          · rw [rov_hi _ _ _ hD0, ← hY]; rfl
        generalize rov s false (H * 18446744073709551616 + L) den.natAbs = x at *
        generalize rov s' true (H' * 18446744073709551616 + L') den.natAbs = y at *
        clear hX hY hD0
        have HKS : Hid (∀ X : World, Below W6.heap.size W6 X → X.cell? ⟨p, 0, none⟩ = some (.bool s) ∧ X.cell? ⟨p, 1, none⟩ = some (.int .u64 (H : Int)) ∧ X.cell? ⟨p, 2, none⟩ = some (.int .u64 (L : Int)) ∧ X.cell? ⟨q, 0, none⟩ = some (.bool s') ∧ X.cell? ⟨q, 1, none⟩ = some (.int .u64 (H' : Int)) ∧ X.cell? ⟨q, 2, none⟩ = some (.int .u64 (L' : Int))) := fun X h => ⟨(CP.out.via h).c0, (CP.out.via h).c1, (CP.out.via h).c2, (CQ.out.via h).c0, (CQ.out.via h).c1, (CQ.out.via h).c2⟩
        have hqr := P3.out.lt
        have hpn : p ≠ w.heap.size + 1 := by omega
        have hqn : q ≠ w.heap.size + 1 := by omega
        (try go_wp2_with fail)
        go_region_held3 (fun X => X.cell? ⟨p, 0, none⟩ = some (.bool s) ∧ X.cell? ⟨p, 1, none⟩ = some (.int .u64 (H : Int)) ∧ X.cell? ⟨p, 2, none⟩ = some (.int .u64 (L : Int)) ∧ X.cell? ⟨q, 0, none⟩ = some (.bool s') ∧ X.cell? ⟨q, 1, none⟩ = some (.int .u64 (H' : Int)) ∧ X.cell? ⟨q, 2, none⟩ = some (.int .u64 (L' : Int)))
          (first | exact HKS.out _ (Below.refl _ _) | exact HKS.out _ (Below.refl _ _).drew | exact HKS.out _ (Below.refl _ _).drew.drew | exact HKS.out _ E4 | exact HKS.out _ E1 | exact HKS.out _ E0 | exact HKS.out _ E0.drew | exact HKS.out _ E1.drew | exact ⟨((CP.out.via E4).far2 hpn _ _).c0, ((CP.out.via E4).far2 hpn _ _).c1, ((CP.out.via E4).far2 hpn _ _).c2, ((CQ.out.via E4).far2 hqn _ _).c0, ((CQ.out.via E4).far2 hqn _ _).c1, ((CQ.out.via E4).far2 hqn _ _).c2⟩)
          (first
           | (have _t := E1; go_at_call 20; refine (rmade_any _ x y).mono ?_; rintro e v4 ⟨rfl, h4⟩; have E4 : Below W6.heap.size W6 v4 := (by first | exact sbtr E1 h4 | exact sbtr (bdrewN E1 1) h4); have P7 := P3.out.via E4; have ⟨r0, r1, r2, r3, rl⟩ := P7)
           | (have _t := E0; go_at_call 35; refine (O2.out _).mono ?_; rintro e v1 ⟨rfl, h1⟩; have E1 : Below W6.heap.size W6 v1 := (by first | exact sbtr E0 h1 | exact sbtr (bdrewN E0 1) h1))
           | (go_at_call 35; refine (O1.out _).mono ?_; rintro e v0 ⟨rfl, h0⟩; have E0 : Below W6.heap.size W6 v0 := (by first | exact (bdrewN (Below.refl _ _) 1).trans h0 | exact (bdrewN (bdrewN (Below.refl _ _) 1) 1).trans h0 | exact h0))
           | (go_at_call 36; refine (SZ.out _).mono ?_; rintro e v2 ⟨rfl, rfl⟩)
           | fail)
        all_goals
          go_wp2
          exact post_iv Try.results13 rfl rfl (P7.set _ _) ⟨ret_mk HM.out, below_set2 (sbtr B1.out E4) (by omega) _ _⟩
    · by_cases hn : den < 0
      · have hnt : decide (den < 0) = true := decide_eq_true hn
        have ⟨p0, p1, p2, p3, p4, p5, _⟩ := CP.out
        have ⟨q0, q1, q2, q3, q4, q5, _⟩ := CQ.out
        go_wp2_with fail
        clear p0 p1 p2 p3 p4 p5 q0 q1 q2 q3 q4 q5
        rw [set3_eq, set3_eq]
        replace P3 := Lib.hid ((P3.out.farS p (by omega) [.bool s', .int .u64 (H' : Int), .int .u64 (L' : Int)]).farS q (by omega) [.bool s, .int .u64 (H : Int), .int .u64 (L : Int)])
        replace CP := Lib.hid ((CP.out.setC (.bool s') (.int .u64 (H' : Int)) (.int .u64 (L' : Int))).farC (h := q) hpq [.bool s, .int .u64 (H : Int), .int .u64 (L : Int)])
        replace CQ := Lib.hid ((CQ.out.farC (h := p) (Ne.symm hpq) [.bool s', .int .u64 (H' : Int), .int .u64 (L' : Int)]).setC (.bool s) (.int .u64 (H : Int)) (.int .u64 (L : Int)))
        replace B1 := Lib.hid (below_setCells (g := q) (by omega) [.bool s, .int .u64 (H : Int), .int .u64 (L : Int)] 0 _ _ (below_setCells (g := p) (by omega) [.bool s', .int .u64 (H' : Int), .int .u64 (L' : Int)] 0 _ _ B1.out))
        generalize (w5.setCells p 0 [.bool s', .int .u64 (H' : Int), .int .u64 (L' : Int)]).setCells q 0 [.bool s, .int .u64 (H : Int), .int .u64 (L : Int)] = W6 at *
        obtain ⟨t1, g1, u1, k1⟩ := turned_lg LB.out
        obtain ⟨t2, g2, u2, k2⟩ := turned_lg LA.out
        have K1 := Lib.hid k1
        have K2 := Lib.hid k2
        have U1 := Lib.hid u1
        have U2 := Lib.hid u2
        have G1 := Lib.hid g1
        have G2 := Lib.hid g2
        have hqp : ¬ q = p := fun e => hpq e.symm
        clear k1 k2 u1 u2 g1 g2
        have ⟨p0, p1, p2, p3, p4, p5, p6⟩ := CP.out
        have ⟨pp0, pp1, pp2, pp3, pp4, pp5, pp6⟩ := CP.out.drewN 1
        have ⟨q0, q1, q2, q3, q4, q5, q6⟩ := CQ.out
        have ⟨qq0, qq1, qq2, qq3, qq4, qq5, qq6⟩ := CQ.out.drewN 1
        (try go_wp2_with fail)
        go_cut [] from 33 to 38 (fun wx => C3 wx p (.bool t2) (.int .u64 (H : Int)) (.int .u64 (L : Int)) ∧ C3 wx q (.bool t1) (.int .u64 (H' : Int)) (.int .u64 (L' : Int)) ∧ Pr wx (w.heap.size + 1) (.int .i64 0) (.int .i64 0) ∧ Below w.heap.size w wx)
        case first =>
          go_region_with (first
           | (have _t := F0; go_at_call 34; refine (K1.out _).mono ?_; rintro e v1 ⟨rfl, h1⟩; have F1 : Below W6.heap.size W6 v1 := sbtr F0 h1; have CP7 := CP.out.via F1; have CQ7 := CQ.out.via F1; have ⟨pb0, pb1, pb2, pb3, pb4, pb5, pb6⟩ := CP7; have ⟨qb0, qb1, qb2, qb3, qb4, qb5, qb6⟩ := CQ7)
           | (go_at_call 34; refine (K2.out _).mono ?_; rintro e v0 ⟨rfl, h0⟩; have F0 : Below W6.heap.size W6 v0 := (by first | exact (bdrewN (Below.refl _ _) 1).trans h0 | exact h0); have ⟨pa0, pa1, pa2, pa3, pa4, pa5, pa6⟩ := CP.out.via F0)
           | fail)
          all_goals
            go_wp2_with fail
            go_meet
            rw [set3_eq, set3_eq]
            exact ⟨(CP7.setC _ _ _).farC hpq [_, _, _], (CQ7.farC (h := p) hqp [_, _, _]).setC _ _ _, ((P3.out.via F1).farS p (by omega) _).farS q (by omega) _, below_setCells (g := q) (by omega) _ 0 _ _ (below_setCells (g := p) (by omega) _ 0 _ _ (sbtr B1.out F1))⟩
        case rest =>
          obtain ⟨cp, cq, p3, b1⟩ := hcut
          clear CP CQ P3 B1 K1 K2
          have CP := Lib.hid cp
          have CQ := Lib.hid cq
          have P3 := Lib.hid p3
          have B1 := Lib.hid b1
          clear cp cq p3 b1
          generalize wc = W7 at *
          have hX : sv t2 H L = min (sN al num den) (sN ah num den) := by
            unfold sN; rw [if_pos hn, if_pos hn]; have a := EA.out; have b := EB.out; have c := of_decide_eq_true D1.out; have d := U1.out; have f := U2.out; omega
          have hY : sv t1 H' L' = max (sN al num den) (sN ah num den) := by
            unfold sN; rw [if_pos hn, if_pos hn]; have a := EA.out; have b := EB.out; have c := of_decide_eq_true D1.out; have d := U1.out; have f := U2.out; omega
          have hD0 : 0 < den.natAbs := by have := HZ.out; omega
          have O1 := Lib.hid (fun W => rover_lg W G2.out false den.natAbs hD0 HD.out)
          have O2 := Lib.hid (fun W => rover_lg W G1.out true den.natAbs hD0 HD.out)
          have HM : Hid (mkI (rov t2 false (H * 18446744073709551616 + L) den.natAbs) (rov t1 true (H' * 18446744073709551616 + L') den.natAbs) = scO al ah num den) := by
            refine scale_ref HZ.out ?_ ?_
            · rw [rov_lo _ _ _ hD0, ← hX]; rfl
            · rw [rov_hi _ _ _ hD0, ← hY]; rfl
          generalize rov t2 false (H * 18446744073709551616 + L) den.natAbs = x at *
          generalize rov t1 true (H' * 18446744073709551616 + L') den.natAbs = y at *
          clear hX hY hD0
          have HKS : Hid (∀ X : World, Below W7.heap.size W7 X → X.cell? ⟨p, 0, none⟩ = some (.bool t2) ∧ X.cell? ⟨p, 1, none⟩ = some (.int .u64 (H : Int)) ∧ X.cell? ⟨p, 2, none⟩ = some (.int .u64 (L : Int)) ∧ X.cell? ⟨q, 0, none⟩ = some (.bool t1) ∧ X.cell? ⟨q, 1, none⟩ = some (.int .u64 (H' : Int)) ∧ X.cell? ⟨q, 2, none⟩ = some (.int .u64 (L' : Int))) := fun X h => ⟨(CP.out.via h).c0, (CP.out.via h).c1, (CP.out.via h).c2, (CQ.out.via h).c0, (CQ.out.via h).c1, (CQ.out.via h).c2⟩
          have hqr := P3.out.lt
          have hpn : p ≠ w.heap.size + 1 := by omega
          have hqn : q ≠ w.heap.size + 1 := by omega
          (try go_wp2_with fail)
          go_region_held3 (fun X => X.cell? ⟨p, 0, none⟩ = some (.bool t2) ∧ X.cell? ⟨p, 1, none⟩ = some (.int .u64 (H : Int)) ∧ X.cell? ⟨p, 2, none⟩ = some (.int .u64 (L : Int)) ∧ X.cell? ⟨q, 0, none⟩ = some (.bool t1) ∧ X.cell? ⟨q, 1, none⟩ = some (.int .u64 (H' : Int)) ∧ X.cell? ⟨q, 2, none⟩ = some (.int .u64 (L' : Int)))
            (first | exact HKS.out _ (Below.refl _ _) | exact HKS.out _ (Below.refl _ _).drew | exact HKS.out _ (Below.refl _ _).drew.drew | exact HKS.out _ E4 | exact HKS.out _ E1 | exact HKS.out _ E0 | exact HKS.out _ E0.drew | exact HKS.out _ E1.drew | exact ⟨((CP.out.via E4).far2 hpn _ _).c0, ((CP.out.via E4).far2 hpn _ _).c1, ((CP.out.via E4).far2 hpn _ _).c2, ((CQ.out.via E4).far2 hqn _ _).c0, ((CQ.out.via E4).far2 hqn _ _).c1, ((CQ.out.via E4).far2 hqn _ _).c2⟩)
            (first
             | (have _t := E1; go_at_call 20; refine (rmade_any _ x y).mono ?_; rintro e v4 ⟨rfl, h4⟩; have E4 : Below W7.heap.size W7 v4 := (by first | exact sbtr E1 h4 | exact sbtr (bdrewN E1 1) h4); have P7 := P3.out.via E4; have ⟨r0, r1, r2, r3, rl⟩ := P7)
             | (have _t := E0; go_at_call 35; refine (O2.out _).mono ?_; rintro e v1 ⟨rfl, h1⟩; have E1 : Below W7.heap.size W7 v1 := (by first | exact sbtr E0 h1 | exact sbtr (bdrewN E0 1) h1))
             | (go_at_call 35; refine (O1.out _).mono ?_; rintro e v0 ⟨rfl, h0⟩; have E0 : Below W7.heap.size W7 v0 := (by first | exact (bdrewN (Below.refl _ _) 1).trans h0 | exact (bdrewN (bdrewN (Below.refl _ _) 1) 1).trans h0 | exact h0))
             | (go_at_call 36; refine (SZ.out _).mono ?_; rintro e v2 ⟨rfl, rfl⟩)
             | fail)
          all_goals
            go_wp2
            exact post_iv Try.results13 rfl rfl (P7.set _ _) ⟨ret_mk HM.out, below_set2 (sbtr B1.out E4) (by omega) _ _⟩
      · have hnd : decide (den < 0) = false := decide_eq_false hn
        have ⟨p0, p1, p2, p3, p4, p5, _⟩ := CP.out
        have ⟨q0, q1, q2, q3, q4, q5, _⟩ := CQ.out
        go_wp2_with fail
        clear p0 p1 p2 p3 p4 p5 q0 q1 q2 q3 q4 q5
        rw [set3_eq, set3_eq]
        replace P3 := Lib.hid ((P3.out.farS p (by omega) [.bool s', .int .u64 (H' : Int), .int .u64 (L' : Int)]).farS q (by omega) [.bool s, .int .u64 (H : Int), .int .u64 (L : Int)])
        replace CP := Lib.hid ((CP.out.setC (.bool s') (.int .u64 (H' : Int)) (.int .u64 (L' : Int))).farC (h := q) hpq [.bool s, .int .u64 (H : Int), .int .u64 (L : Int)])
        replace CQ := Lib.hid ((CQ.out.farC (h := p) (Ne.symm hpq) [.bool s', .int .u64 (H' : Int), .int .u64 (L' : Int)]).setC (.bool s) (.int .u64 (H : Int)) (.int .u64 (L : Int)))
        replace B1 := Lib.hid (below_setCells (g := q) (by omega) [.bool s, .int .u64 (H : Int), .int .u64 (L : Int)] 0 _ _ (below_setCells (g := p) (by omega) [.bool s', .int .u64 (H' : Int), .int .u64 (L' : Int)] 0 _ _ B1.out))
        generalize (w5.setCells p 0 [.bool s', .int .u64 (H' : Int), .int .u64 (L' : Int)]).setCells q 0 [.bool s, .int .u64 (H : Int), .int .u64 (L : Int)] = W6 at *
        have hX : sv s' H' L' = min (sN al num den) (sN ah num den) := by
          unfold sN; rw [if_neg (by omega), if_neg (by omega)]; have a := EA.out; have b := EB.out; have c := of_decide_eq_true D1.out; omega
        have hY : sv s H L = max (sN al num den) (sN ah num den) := by
          unfold sN; rw [if_neg (by omega), if_neg (by omega)]; have a := EA.out; have b := EB.out; have c := of_decide_eq_true D1.out; omega
        have hD0 : 0 < den.natAbs := by have := HZ.out; omega
        have O1 := Lib.hid (fun W => rover_lg W LB.out false den.natAbs hD0 HD.out)
        have O2 := Lib.hid (fun W => rover_lg W LA.out true den.natAbs hD0 HD.out)
        have HM : Hid (mkI (rov s' false (H' * 18446744073709551616 + L') den.natAbs) (rov s true (H * 18446744073709551616 + L) den.natAbs) = scO al ah num den) := by
          refine scale_ref HZ.out ?_ ?_
          · rw [rov_lo _ _ _ hD0, ← hX]; rfl
          · rw [rov_hi _ _ _ hD0, ← hY]; rfl
        generalize rov s' false (H' * 18446744073709551616 + L') den.natAbs = x at *
        generalize rov s true (H * 18446744073709551616 + L) den.natAbs = y at *
        clear hX hY hD0
        have HKS : Hid (∀ X : World, Below W6.heap.size W6 X → X.cell? ⟨p, 0, none⟩ = some (.bool s') ∧ X.cell? ⟨p, 1, none⟩ = some (.int .u64 (H' : Int)) ∧ X.cell? ⟨p, 2, none⟩ = some (.int .u64 (L' : Int)) ∧ X.cell? ⟨q, 0, none⟩ = some (.bool s) ∧ X.cell? ⟨q, 1, none⟩ = some (.int .u64 (H : Int)) ∧ X.cell? ⟨q, 2, none⟩ = some (.int .u64 (L : Int))) := fun X h => ⟨(CP.out.via h).c0, (CP.out.via h).c1, (CP.out.via h).c2, (CQ.out.via h).c0, (CQ.out.via h).c1, (CQ.out.via h).c2⟩
        have hqr := P3.out.lt
        have hpn : p ≠ w.heap.size + 1 := by omega
        have hqn : q ≠ w.heap.size + 1 := by omega
        (try go_wp2_with fail)
        go_region_held3 (fun X => X.cell? ⟨p, 0, none⟩ = some (.bool s') ∧ X.cell? ⟨p, 1, none⟩ = some (.int .u64 (H' : Int)) ∧ X.cell? ⟨p, 2, none⟩ = some (.int .u64 (L' : Int)) ∧ X.cell? ⟨q, 0, none⟩ = some (.bool s) ∧ X.cell? ⟨q, 1, none⟩ = some (.int .u64 (H : Int)) ∧ X.cell? ⟨q, 2, none⟩ = some (.int .u64 (L : Int)))
          (first | exact HKS.out _ (Below.refl _ _) | exact HKS.out _ (Below.refl _ _).drew | exact HKS.out _ (Below.refl _ _).drew.drew | exact HKS.out _ E4 | exact HKS.out _ E1 | exact HKS.out _ E0 | exact HKS.out _ E0.drew | exact HKS.out _ E1.drew | exact ⟨((CP.out.via E4).far2 hpn _ _).c0, ((CP.out.via E4).far2 hpn _ _).c1, ((CP.out.via E4).far2 hpn _ _).c2, ((CQ.out.via E4).far2 hqn _ _).c0, ((CQ.out.via E4).far2 hqn _ _).c1, ((CQ.out.via E4).far2 hqn _ _).c2⟩)
          (first
           | (have _t := E1; go_at_call 20; refine (rmade_any _ x y).mono ?_; rintro e v4 ⟨rfl, h4⟩; have E4 : Below W6.heap.size W6 v4 := (by first | exact sbtr E1 h4 | exact sbtr (bdrewN E1 1) h4); have P7 := P3.out.via E4; have ⟨r0, r1, r2, r3, rl⟩ := P7)
           | (have _t := E0; go_at_call 35; refine (O2.out _).mono ?_; rintro e v1 ⟨rfl, h1⟩; have E1 : Below W6.heap.size W6 v1 := (by first | exact sbtr E0 h1 | exact sbtr (bdrewN E0 1) h1))
           | (go_at_call 35; refine (O1.out _).mono ?_; rintro e v0 ⟨rfl, h0⟩; have E0 : Below W6.heap.size W6 v0 := (by first | exact (bdrewN (Below.refl _ _) 1).trans h0 | exact (bdrewN (bdrewN (Below.refl _ _) 1) 1).trans h0 | exact h0))
           | (go_at_call 36; refine (SZ.out _).mono ?_; rintro e v2 ⟨rfl, rfl⟩)
           | fail)
        all_goals
          go_wp2
          exact post_iv Try.results13 rfl rfl (P7.set _ _) ⟨ret_mk HM.out, below_set2 (sbtr B1.out E4) (by omega) _ _⟩
end Go.Proofs.Ytegpckhfncblhaa

/- Intervals: Scale of the reference, at all arguments. -/
namespace Go.Proofs.Ytegpckhfncblhaa
open Go.RowKit

set_option maxRecDepth 100000 in
set_option maxHeartbeats 1000000 in
theorem rscale_zero (w : World) (al ah num den : Int) (h : ivC al ah = 0) (hz : den = 0) : Calls Try.prog 13 #[iv al ah, .int .i64 num, .int .i64 den] w (RO w ⟨0, 0, 18⟩) := by
  have PA := Lib.hid ((Pr.new w (w.heap.size) rfl (.int .i64 al) (.int .i64 ah) 23).alloc (ivB 0 0))
  have PR := Lib.hid (Pr.new (w.alloc (ivB al ah)) (w.heap.size + 1) (by simp) (.int .i64 0) (.int .i64 0) 23)
  have BW : Hid (Below w.heap.size w ((w.alloc (ivB al ah)).alloc (ivB 0 0))) := (sbal (sbal (Below.refl _ _) _) _)
  go_enter Try.func13, Try.ntmps13
  go_wp2_with fail
  generalize (w.alloc (ivB al ah)).alloc (ivB 0 0) = W0 at *
  refine (rscheck_any _ al ah).mono ?_
  rintro e w1 ⟨rfl, hb⟩
  have P1 := Lib.hid (PA.out.via hb)
  have P3 := Lib.hid (PR.out.via hb)
  have B1 := Lib.hid (sbtr BW.out hb)
  clear hb PA PR BW
  subst hz
  rw [h]
  clear h
  have ⟨a0, a1, _, _, _⟩ := P1.out
  have ⟨r0, r1, r2, r3, r4⟩ := P3.out
  go_wp2
  exact post_iv Try.results13 rfl rfl (P3.out.set _ _) ⟨rfl, below_set2 B1.out (by omega) _ _⟩
set_option maxRecDepth 100000 in
set_option maxHeartbeats 1000000 in
theorem rscale_bad (w : World) (al ah num den : Int) (h : ivC al ah = 8) : Calls Try.prog 13 #[iv al ah, .int .i64 num, .int .i64 den] w (RO w ⟨0, 0, 8⟩) := by
  have PA := Lib.hid ((Pr.new w (w.heap.size) rfl (.int .i64 al) (.int .i64 ah) 23).alloc (ivB 0 0))
  have PR := Lib.hid (Pr.new (w.alloc (ivB al ah)) (w.heap.size + 1) (by simp) (.int .i64 0) (.int .i64 0) 23)
  have BW : Hid (Below w.heap.size w ((w.alloc (ivB al ah)).alloc (ivB 0 0))) := (sbal (sbal (Below.refl _ _) _) _)
  go_enter Try.func13, Try.ntmps13
  go_wp2_with fail
  generalize (w.alloc (ivB al ah)).alloc (ivB 0 0) = W0 at *
  refine (rscheck_any _ al ah).mono ?_
  rintro e w1 ⟨rfl, hb⟩
  have P1 := Lib.hid (PA.out.via hb)
  have P3 := Lib.hid (PR.out.via hb)
  have B1 := Lib.hid (sbtr BW.out hb)
  clear hb PA PR BW
  rw [h]
  have HH := Lib.hid h
  clear h
  have ⟨a0, a1, a2, a3, a4⟩ := P1.out
  go_wp2_with fail
  refine (rscheck_any _ al ah).mono ?_
  rintro e w2 ⟨rfl, hb⟩
  have B2 := Lib.hid (sbtr B1.out hb)
  have P4 := Lib.hid (P3.out.via hb)
  clear hb a0 a1 a2 a3 a4
  rw [HH.out]
  have ⟨r0, r1, r2, r3, r4⟩ := P4.out
  go_wp2
  exact post_iv Try.results13 rfl rfl (P4.out.set _ _) ⟨rfl, below_set2 B2.out (by omega) _ _⟩
theorem rscale_any (w : World) (al ah num den : Int) (hn1 : -9223372036854775808 ≤ num) (hn2 : num ≤ 9223372036854775807) (hd1 : -9223372036854775808 ≤ den) (hd2 : den ≤ 9223372036854775807) :
    Calls Try.prog 13 #[iv al ah, .int .i64 num, .int .i64 den] w (RO w (j1 al ah (scO al ah num den))) := by
  rcases ivC_cases al ah with ⟨h, x1, x2, x3⟩ | ⟨h, _⟩
  · rw [j1_ok h]
    by_cases hz : den = 0
    · rw [show scO al ah num den = ⟨0, 0, 18⟩ by unfold scO; rw [if_pos hz]]
      exact rscale_zero w al ah num den h hz
    · exact rscale_in w al ah num den ⟨x1, x2, x3⟩ hn1 hn2 hz hd1 hd2
  · rw [j1_bad h]
    exact rscale_bad w al ah num den h
end Go.Proofs.Ytegpckhfncblhaa

/- The walk of the law SpanAsks. -/
namespace Go.Proofs.Ytegpckhfncblhaa
open Go.RowKit

set_option maxRecDepth 100000 in
set_option maxHeartbeats 8000000 in
theorem asks_any (w : World) (al ah num den : Int) (hn1 : -9223372036854775808 ≤ num) (hn2 : num ≤ 9223372036854775807) (hd1 : -9223372036854775808 ≤ den) (hd2 : den ≤ 9223372036854775807) :
    Calls Try.prog 3 #[iv al ah, .int .i64 num, .int .i64 den] w fun e w' => e = .returned (.bool true) ∧ Below w.heap.size w w' := by
  obtain ⟨Rl, hl⟩ := isRt_ex (al.toNat * 1099511627776)
  obtain ⟨Rh, hh⟩ := isRt_ex (ah.toNat * 1099511627776)
  have cNeg := fun W => sneg_any W al ah
  have rNeg := fun W => rneg_any W al ah
  obtain ⟨oNeg, hoNeg⟩ : ∃ o : Out, o = j1 al ah (mkI (-ah) (-al)) := ⟨_, rfl⟩
  rw [← hoNeg] at cNeg rNeg
  obtain ⟨lNeg, hNeg, eNeg⟩ := oNeg
  have CNeg := Lib.hid cNeg
  have RNeg := Lib.hid rNeg
  clear cNeg rNeg hoNeg
  have cSq := fun W => ssq_any W al ah
  have rSq := fun W => rsq_any W al ah
  obtain ⟨oSq, hoSq⟩ : ∃ o : Out, o = j1 al ah (sqO al ah) := ⟨_, rfl⟩
  rw [← hoSq] at cSq rSq
  obtain ⟨lSq, hSq, eSq⟩ := oSq
  have CSq := Lib.hid cSq
  have RSq := Lib.hid rSq
  clear cSq rSq hoSq
  have cSqrt := fun W => ssqrt_any W al ah Rl Rh hl hh
  have rSqrt := fun W => rrt_any W al ah Rl Rh hl hh
  obtain ⟨oSqrt, hoSqrt⟩ : ∃ o : Out, o = j1 al ah (rtO al ah Rl Rh) := ⟨_, rfl⟩
  rw [← hoSqrt] at cSqrt rSqrt
  obtain ⟨lSqrt, hSqrt, eSqrt⟩ := oSqrt
  have CSqrt := Lib.hid cSqrt
  have RSqrt := Lib.hid rSqrt
  clear cSqrt rSqrt hoSqrt
  have cAbs := fun W => sabs_any W al ah
  have rAbs := fun W => rabsi_any W al ah
  obtain ⟨oAbs, hoAbs⟩ : ∃ o : Out, o = j1 al ah (mkI (max al (max (-ah) 0)) (max (-al) ah)) := ⟨_, rfl⟩
  rw [← hoAbs] at cAbs rAbs
  obtain ⟨lAbs, hAbs, eAbs⟩ := oAbs
  have CAbs := Lib.hid cAbs
  have RAbs := Lib.hid rAbs
  clear cAbs rAbs hoAbs
  have cScale := fun W => sscale_any W al ah num den hn1 hn2 hd1 hd2
  have rScale := fun W => rscale_any W al ah num den hn1 hn2 hd1 hd2
  obtain ⟨oScale, hoScale⟩ : ∃ o : Out, o = j1 al ah (scO al ah num den) := ⟨_, rfl⟩
  rw [← hoScale] at cScale rScale
  obtain ⟨lScale, hScale, eScale⟩ := oScale
  have CScale := Lib.hid cScale
  have RScale := Lib.hid rScale
  clear cScale rScale hoScale
  have CMid := Lib.hid (fun W => smid_any W al ah)
  have RMid := Lib.hid (fun W => rmid_any W al ah)
  have CChk := Lib.hid (fun W => scheck_any W al ah)
  have RChk := Lib.hid (fun W => rscheck_any W al ah)
  generalize midR al ah = vMid at *
  generalize ivC al ah = eB at *
  clear hn1 hn2 hd1 hd2 hl hh
  have QA := Lib.hid (Pr.new w w.heap.size rfl (.int .i64 al) (.int .i64 ah) 23)
  have BX : Hid (Below w.heap.size w (w.alloc (ivB al ah))) := sbal (Below.refl _ _) _
  go_enter Try.func3, Try.ntmps3
  go_upto_region 1 with (fail)
  generalize w.alloc (ivB al ah) = W0 at *
  have ⟨a0, a1, a2, a3, a4⟩ := QA.out
  go_wp2_with fail
  clear a0 a1 a2 a3 a4
  refine (CNeg.out _).mono ?_
  rintro e w1 ⟨rfl, hb⟩
  replace QA := Lib.hid (QA.out.via hb)
  replace BX := Lib.hid (sbtr BX.out hb)
  clear hb CNeg
  go_upto_region 2 with (fail)
  have zgCNeg := QA.out.lt
  replace QA := Lib.hid (QA.out.alloc (ivB lNeg hNeg))
  have XCNeg := Lib.hid (Pr.new w1 _ rfl (.int .i64 lNeg) (.int .i64 hNeg) 23)
  replace BX := Lib.hid (sbal BX.out (ivB lNeg hNeg))
  generalize w1.heap.size = gCNeg at *
  generalize w1.alloc (ivB lNeg hNeg) = W1 at *
  have ⟨a0, a1, a2, a3, a4⟩ := QA.out
  go_wp2_with fail
  clear a0 a1 a2 a3 a4
  refine (RNeg.out _).mono ?_
  rintro e w2 ⟨rfl, hb⟩
  replace QA := Lib.hid (QA.out.via hb)
  replace XCNeg := Lib.hid (XCNeg.out.via hb)
  replace BX := Lib.hid (sbtr BX.out hb)
  clear hb RNeg
  go_upto_region 3 with (fail)
  have zgRNeg := XCNeg.out.lt
  replace QA := Lib.hid (QA.out.alloc (ivB lNeg hNeg))
  replace XCNeg := Lib.hid (XCNeg.out.alloc (ivB lNeg hNeg))
  have XRNeg := Lib.hid (Pr.new w2 _ rfl (.int .i64 lNeg) (.int .i64 hNeg) 23)
  replace BX := Lib.hid (sbal BX.out (ivB lNeg hNeg))
  generalize w2.heap.size = gRNeg at *
  generalize w2.alloc (ivB lNeg hNeg) = W2 at *
  have ⟨a0, a1, a2, a3, a4⟩ := QA.out
  go_wp2_with fail
  clear a0 a1 a2 a3 a4
  refine (CSq.out _).mono ?_
  rintro e w3 ⟨rfl, hb⟩
  replace QA := Lib.hid (QA.out.via hb)
  replace XCNeg := Lib.hid (XCNeg.out.via hb)
  replace XRNeg := Lib.hid (XRNeg.out.via hb)
  replace BX := Lib.hid (sbtr BX.out hb)
  clear hb CSq
  go_upto_region 4 with (fail)
  have zgCSq := XRNeg.out.lt
  replace QA := Lib.hid (QA.out.alloc (ivB lSq hSq))
  replace XCNeg := Lib.hid (XCNeg.out.alloc (ivB lSq hSq))
  replace XRNeg := Lib.hid (XRNeg.out.alloc (ivB lSq hSq))
  have XCSq := Lib.hid (Pr.new w3 _ rfl (.int .i64 lSq) (.int .i64 hSq) 23)
  replace BX := Lib.hid (sbal BX.out (ivB lSq hSq))
  generalize w3.heap.size = gCSq at *
  generalize w3.alloc (ivB lSq hSq) = W3 at *
  have ⟨a0, a1, a2, a3, a4⟩ := QA.out
  go_wp2_with fail
  clear a0 a1 a2 a3 a4
  refine (RSq.out _).mono ?_
  rintro e w4 ⟨rfl, hb⟩
  replace QA := Lib.hid (QA.out.via hb)
  replace XCNeg := Lib.hid (XCNeg.out.via hb)
  replace XRNeg := Lib.hid (XRNeg.out.via hb)
  replace XCSq := Lib.hid (XCSq.out.via hb)
  replace BX := Lib.hid (sbtr BX.out hb)
  clear hb RSq
  go_upto_region 5 with (fail)
  have zgRSq := XCSq.out.lt
  replace QA := Lib.hid (QA.out.alloc (ivB lSq hSq))
  replace XCNeg := Lib.hid (XCNeg.out.alloc (ivB lSq hSq))
  replace XRNeg := Lib.hid (XRNeg.out.alloc (ivB lSq hSq))
  replace XCSq := Lib.hid (XCSq.out.alloc (ivB lSq hSq))
  have XRSq := Lib.hid (Pr.new w4 _ rfl (.int .i64 lSq) (.int .i64 hSq) 23)
  replace BX := Lib.hid (sbal BX.out (ivB lSq hSq))
  generalize w4.heap.size = gRSq at *
  generalize w4.alloc (ivB lSq hSq) = W4 at *
  have ⟨a0, a1, a2, a3, a4⟩ := QA.out
  go_wp2_with fail
  clear a0 a1 a2 a3 a4
  refine (CSqrt.out _).mono ?_
  rintro e w5 ⟨rfl, hb⟩
  replace QA := Lib.hid (QA.out.via hb)
  replace XCNeg := Lib.hid (XCNeg.out.via hb)
  replace XRNeg := Lib.hid (XRNeg.out.via hb)
  replace XCSq := Lib.hid (XCSq.out.via hb)
  replace XRSq := Lib.hid (XRSq.out.via hb)
  replace BX := Lib.hid (sbtr BX.out hb)
  clear hb CSqrt
  go_upto_region 6 with (fail)
  have zgCSqrt := XRSq.out.lt
  replace QA := Lib.hid (QA.out.alloc (ivB lSqrt hSqrt))
  replace XCNeg := Lib.hid (XCNeg.out.alloc (ivB lSqrt hSqrt))
  replace XRNeg := Lib.hid (XRNeg.out.alloc (ivB lSqrt hSqrt))
  replace XCSq := Lib.hid (XCSq.out.alloc (ivB lSqrt hSqrt))
  replace XRSq := Lib.hid (XRSq.out.alloc (ivB lSqrt hSqrt))
  have XCSqrt := Lib.hid (Pr.new w5 _ rfl (.int .i64 lSqrt) (.int .i64 hSqrt) 23)
  replace BX := Lib.hid (sbal BX.out (ivB lSqrt hSqrt))
  generalize w5.heap.size = gCSqrt at *
  generalize w5.alloc (ivB lSqrt hSqrt) = W5 at *
  have ⟨a0, a1, a2, a3, a4⟩ := QA.out
  go_wp2_with fail
  clear a0 a1 a2 a3 a4
  refine (RSqrt.out _).mono ?_
  rintro e w6 ⟨rfl, hb⟩
  replace QA := Lib.hid (QA.out.via hb)
  replace XCNeg := Lib.hid (XCNeg.out.via hb)
  replace XRNeg := Lib.hid (XRNeg.out.via hb)
  replace XCSq := Lib.hid (XCSq.out.via hb)
  replace XRSq := Lib.hid (XRSq.out.via hb)
  replace XCSqrt := Lib.hid (XCSqrt.out.via hb)
  replace BX := Lib.hid (sbtr BX.out hb)
  clear hb RSqrt
  go_upto_region 7 with (fail)
  have zgRSqrt := XCSqrt.out.lt
  replace QA := Lib.hid (QA.out.alloc (ivB lSqrt hSqrt))
  replace XCNeg := Lib.hid (XCNeg.out.alloc (ivB lSqrt hSqrt))
  replace XRNeg := Lib.hid (XRNeg.out.alloc (ivB lSqrt hSqrt))
  replace XCSq := Lib.hid (XCSq.out.alloc (ivB lSqrt hSqrt))
  replace XRSq := Lib.hid (XRSq.out.alloc (ivB lSqrt hSqrt))
  replace XCSqrt := Lib.hid (XCSqrt.out.alloc (ivB lSqrt hSqrt))
  have XRSqrt := Lib.hid (Pr.new w6 _ rfl (.int .i64 lSqrt) (.int .i64 hSqrt) 23)
  replace BX := Lib.hid (sbal BX.out (ivB lSqrt hSqrt))
  generalize w6.heap.size = gRSqrt at *
  generalize w6.alloc (ivB lSqrt hSqrt) = W6 at *
  have ⟨a0, a1, a2, a3, a4⟩ := QA.out
  go_wp2_with fail
  clear a0 a1 a2 a3 a4
  refine (CAbs.out _).mono ?_
  rintro e w7 ⟨rfl, hb⟩
  replace QA := Lib.hid (QA.out.via hb)
  replace XCNeg := Lib.hid (XCNeg.out.via hb)
  replace XRNeg := Lib.hid (XRNeg.out.via hb)
  replace XCSq := Lib.hid (XCSq.out.via hb)
  replace XRSq := Lib.hid (XRSq.out.via hb)
  replace XCSqrt := Lib.hid (XCSqrt.out.via hb)
  replace XRSqrt := Lib.hid (XRSqrt.out.via hb)
  replace BX := Lib.hid (sbtr BX.out hb)
  clear hb CAbs
  go_upto_region 8 with (fail)
  have zgCAbs := XRSqrt.out.lt
  replace QA := Lib.hid (QA.out.alloc (ivB lAbs hAbs))
  replace XCNeg := Lib.hid (XCNeg.out.alloc (ivB lAbs hAbs))
  replace XRNeg := Lib.hid (XRNeg.out.alloc (ivB lAbs hAbs))
  replace XCSq := Lib.hid (XCSq.out.alloc (ivB lAbs hAbs))
  replace XRSq := Lib.hid (XRSq.out.alloc (ivB lAbs hAbs))
  replace XCSqrt := Lib.hid (XCSqrt.out.alloc (ivB lAbs hAbs))
  replace XRSqrt := Lib.hid (XRSqrt.out.alloc (ivB lAbs hAbs))
  have XCAbs := Lib.hid (Pr.new w7 _ rfl (.int .i64 lAbs) (.int .i64 hAbs) 23)
  replace BX := Lib.hid (sbal BX.out (ivB lAbs hAbs))
  generalize w7.heap.size = gCAbs at *
  generalize w7.alloc (ivB lAbs hAbs) = W7 at *
  have ⟨a0, a1, a2, a3, a4⟩ := QA.out
  go_wp2_with fail
  clear a0 a1 a2 a3 a4
  refine (RAbs.out _).mono ?_
  rintro e w8 ⟨rfl, hb⟩
  replace QA := Lib.hid (QA.out.via hb)
  replace XCNeg := Lib.hid (XCNeg.out.via hb)
  replace XRNeg := Lib.hid (XRNeg.out.via hb)
  replace XCSq := Lib.hid (XCSq.out.via hb)
  replace XRSq := Lib.hid (XRSq.out.via hb)
  replace XCSqrt := Lib.hid (XCSqrt.out.via hb)
  replace XRSqrt := Lib.hid (XRSqrt.out.via hb)
  replace XCAbs := Lib.hid (XCAbs.out.via hb)
  replace BX := Lib.hid (sbtr BX.out hb)
  clear hb RAbs
  go_upto_region 9 with (fail)
  have zgRAbs := XCAbs.out.lt
  replace QA := Lib.hid (QA.out.alloc (ivB lAbs hAbs))
  replace XCNeg := Lib.hid (XCNeg.out.alloc (ivB lAbs hAbs))
  replace XRNeg := Lib.hid (XRNeg.out.alloc (ivB lAbs hAbs))
  replace XCSq := Lib.hid (XCSq.out.alloc (ivB lAbs hAbs))
  replace XRSq := Lib.hid (XRSq.out.alloc (ivB lAbs hAbs))
  replace XCSqrt := Lib.hid (XCSqrt.out.alloc (ivB lAbs hAbs))
  replace XRSqrt := Lib.hid (XRSqrt.out.alloc (ivB lAbs hAbs))
  replace XCAbs := Lib.hid (XCAbs.out.alloc (ivB lAbs hAbs))
  have XRAbs := Lib.hid (Pr.new w8 _ rfl (.int .i64 lAbs) (.int .i64 hAbs) 23)
  replace BX := Lib.hid (sbal BX.out (ivB lAbs hAbs))
  generalize w8.heap.size = gRAbs at *
  generalize w8.alloc (ivB lAbs hAbs) = W8 at *
  have ⟨a0, a1, a2, a3, a4⟩ := QA.out
  go_wp2_with fail
  clear a0 a1 a2 a3 a4
  refine (CScale.out _).mono ?_
  rintro e w9 ⟨rfl, hb⟩
  replace QA := Lib.hid (QA.out.via hb)
  replace XCNeg := Lib.hid (XCNeg.out.via hb)
  replace XRNeg := Lib.hid (XRNeg.out.via hb)
  replace XCSq := Lib.hid (XCSq.out.via hb)
  replace XRSq := Lib.hid (XRSq.out.via hb)
  replace XCSqrt := Lib.hid (XCSqrt.out.via hb)
  replace XRSqrt := Lib.hid (XRSqrt.out.via hb)
  replace XCAbs := Lib.hid (XCAbs.out.via hb)
  replace XRAbs := Lib.hid (XRAbs.out.via hb)
  replace BX := Lib.hid (sbtr BX.out hb)
  clear hb CScale
  go_upto_region 10 with (fail)
  have zgCScale := XRAbs.out.lt
  replace QA := Lib.hid (QA.out.alloc (ivB lScale hScale))
  replace XCNeg := Lib.hid (XCNeg.out.alloc (ivB lScale hScale))
  replace XRNeg := Lib.hid (XRNeg.out.alloc (ivB lScale hScale))
  replace XCSq := Lib.hid (XCSq.out.alloc (ivB lScale hScale))
  replace XRSq := Lib.hid (XRSq.out.alloc (ivB lScale hScale))
  replace XCSqrt := Lib.hid (XCSqrt.out.alloc (ivB lScale hScale))
  replace XRSqrt := Lib.hid (XRSqrt.out.alloc (ivB lScale hScale))
  replace XCAbs := Lib.hid (XCAbs.out.alloc (ivB lScale hScale))
  replace XRAbs := Lib.hid (XRAbs.out.alloc (ivB lScale hScale))
  have XCScale := Lib.hid (Pr.new w9 _ rfl (.int .i64 lScale) (.int .i64 hScale) 23)
  replace BX := Lib.hid (sbal BX.out (ivB lScale hScale))
  generalize w9.heap.size = gCScale at *
  generalize w9.alloc (ivB lScale hScale) = W9 at *
  have ⟨a0, a1, a2, a3, a4⟩ := QA.out
  go_wp2_with fail
  clear a0 a1 a2 a3 a4
  refine (RScale.out _).mono ?_
  rintro e w10 ⟨rfl, hb⟩
  replace QA := Lib.hid (QA.out.via hb)
  replace XCNeg := Lib.hid (XCNeg.out.via hb)
  replace XRNeg := Lib.hid (XRNeg.out.via hb)
  replace XCSq := Lib.hid (XCSq.out.via hb)
  replace XRSq := Lib.hid (XRSq.out.via hb)
  replace XCSqrt := Lib.hid (XCSqrt.out.via hb)
  replace XRSqrt := Lib.hid (XRSqrt.out.via hb)
  replace XCAbs := Lib.hid (XCAbs.out.via hb)
  replace XRAbs := Lib.hid (XRAbs.out.via hb)
  replace XCScale := Lib.hid (XCScale.out.via hb)
  replace BX := Lib.hid (sbtr BX.out hb)
  clear hb RScale
  go_upto_region 11 with (fail)
  have zgRScale := XCScale.out.lt
  replace QA := Lib.hid (QA.out.alloc (ivB lScale hScale))
  replace XCNeg := Lib.hid (XCNeg.out.alloc (ivB lScale hScale))
  replace XRNeg := Lib.hid (XRNeg.out.alloc (ivB lScale hScale))
  replace XCSq := Lib.hid (XCSq.out.alloc (ivB lScale hScale))
  replace XRSq := Lib.hid (XRSq.out.alloc (ivB lScale hScale))
  replace XCSqrt := Lib.hid (XCSqrt.out.alloc (ivB lScale hScale))
  replace XRSqrt := Lib.hid (XRSqrt.out.alloc (ivB lScale hScale))
  replace XCAbs := Lib.hid (XCAbs.out.alloc (ivB lScale hScale))
  replace XRAbs := Lib.hid (XRAbs.out.alloc (ivB lScale hScale))
  replace XCScale := Lib.hid (XCScale.out.alloc (ivB lScale hScale))
  have XRScale := Lib.hid (Pr.new w10 _ rfl (.int .i64 lScale) (.int .i64 hScale) 23)
  replace BX := Lib.hid (sbal BX.out (ivB lScale hScale))
  generalize w10.heap.size = gRScale at *
  generalize w10.alloc (ivB lScale hScale) = W10 at *
  have ⟨a0, a1, a2, a3, a4⟩ := QA.out
  go_wp2_with fail
  clear a0 a1 a2 a3 a4
  refine (CMid.out _).mono ?_
  rintro e w11 ⟨rfl, hb⟩
  replace QA := Lib.hid (QA.out.via hb)
  replace XCNeg := Lib.hid (XCNeg.out.via hb)
  replace XRNeg := Lib.hid (XRNeg.out.via hb)
  replace XCSq := Lib.hid (XCSq.out.via hb)
  replace XRSq := Lib.hid (XRSq.out.via hb)
  replace XCSqrt := Lib.hid (XCSqrt.out.via hb)
  replace XRSqrt := Lib.hid (XRSqrt.out.via hb)
  replace XCAbs := Lib.hid (XCAbs.out.via hb)
  replace XRAbs := Lib.hid (XRAbs.out.via hb)
  replace XCScale := Lib.hid (XCScale.out.via hb)
  replace XRScale := Lib.hid (XRScale.out.via hb)
  replace BX := Lib.hid (sbtr BX.out hb)
  clear hb CMid
  have ⟨a0, a1, a2, a3, a4⟩ := QA.out
  go_wp2_with fail
  clear a0 a1 a2 a3 a4
  refine (RMid.out _).mono ?_
  rintro e w12 ⟨rfl, hb⟩
  replace QA := Lib.hid (QA.out.via hb)
  replace XCNeg := Lib.hid (XCNeg.out.via hb)
  replace XRNeg := Lib.hid (XRNeg.out.via hb)
  replace XCSq := Lib.hid (XCSq.out.via hb)
  replace XRSq := Lib.hid (XRSq.out.via hb)
  replace XCSqrt := Lib.hid (XCSqrt.out.via hb)
  replace XRSqrt := Lib.hid (XRSqrt.out.via hb)
  replace XCAbs := Lib.hid (XCAbs.out.via hb)
  replace XRAbs := Lib.hid (XRAbs.out.via hb)
  replace XCScale := Lib.hid (XCScale.out.via hb)
  replace XRScale := Lib.hid (XRScale.out.via hb)
  replace BX := Lib.hid (sbtr BX.out hb)
  clear hb RMid
  go_wp2_with fail
  have HKS : Hid (∀ X : World, Below w12.heap.size w12 X → X.cell? ⟨w.heap.size, 0, none⟩ = some (.int .i64 al) ∧ X.cell? ⟨w.heap.size, 1, none⟩ = some (.int .i64 ah) ∧ X.cell? ⟨gCNeg, 0, none⟩ = some (.int .i64 lNeg) ∧ X.cell? ⟨gCNeg, 1, none⟩ = some (.int .i64 hNeg) ∧ X.cell? ⟨gRNeg, 0, none⟩ = some (.int .i64 lNeg) ∧ X.cell? ⟨gRNeg, 1, none⟩ = some (.int .i64 hNeg) ∧ X.cell? ⟨gCSq, 0, none⟩ = some (.int .i64 lSq) ∧ X.cell? ⟨gCSq, 1, none⟩ = some (.int .i64 hSq) ∧ X.cell? ⟨gRSq, 0, none⟩ = some (.int .i64 lSq) ∧ X.cell? ⟨gRSq, 1, none⟩ = some (.int .i64 hSq) ∧ X.cell? ⟨gCSqrt, 0, none⟩ = some (.int .i64 lSqrt) ∧ X.cell? ⟨gCSqrt, 1, none⟩ = some (.int .i64 hSqrt) ∧ X.cell? ⟨gRSqrt, 0, none⟩ = some (.int .i64 lSqrt) ∧ X.cell? ⟨gRSqrt, 1, none⟩ = some (.int .i64 hSqrt)) := fun X h => ⟨(QA.out.via h).c0, (QA.out.via h).c1, (XCNeg.out.via h).c0, (XCNeg.out.via h).c1, (XRNeg.out.via h).c0, (XRNeg.out.via h).c1, (XCSq.out.via h).c0, (XCSq.out.via h).c1, (XRSq.out.via h).c0, (XRSq.out.via h).c1, (XCSqrt.out.via h).c0, (XCSqrt.out.via h).c1, (XRSqrt.out.via h).c0, (XRSqrt.out.via h).c1⟩
  go_cut [31] (fun s31 wx => s31 = .bool true ∧ Below w12.heap.size w12 wx)
  case first =>
    go_region_held3 (fun X => X.cell? ⟨w.heap.size, 0, none⟩ = some (.int .i64 al) ∧ X.cell? ⟨w.heap.size, 1, none⟩ = some (.int .i64 ah) ∧ X.cell? ⟨gCNeg, 0, none⟩ = some (.int .i64 lNeg) ∧ X.cell? ⟨gCNeg, 1, none⟩ = some (.int .i64 hNeg) ∧ X.cell? ⟨gRNeg, 0, none⟩ = some (.int .i64 lNeg) ∧ X.cell? ⟨gRNeg, 1, none⟩ = some (.int .i64 hNeg) ∧ X.cell? ⟨gCSq, 0, none⟩ = some (.int .i64 lSq) ∧ X.cell? ⟨gCSq, 1, none⟩ = some (.int .i64 hSq) ∧ X.cell? ⟨gRSq, 0, none⟩ = some (.int .i64 lSq) ∧ X.cell? ⟨gRSq, 1, none⟩ = some (.int .i64 hSq) ∧ X.cell? ⟨gCSqrt, 0, none⟩ = some (.int .i64 lSqrt) ∧ X.cell? ⟨gCSqrt, 1, none⟩ = some (.int .i64 hSqrt) ∧ X.cell? ⟨gRSqrt, 0, none⟩ = some (.int .i64 lSqrt) ∧ X.cell? ⟨gRSqrt, 1, none⟩ = some (.int .i64 hSqrt))
      (first | exact HKS.out _ (Below.refl _ _) | exact HKS.out _ (Below.refl _ _).drew | exact HKS.out _ E1 | exact HKS.out _ E0)
      (first
       | (have _t := E0; go_at_call 17; refine (RChk.out _).mono ?_; rintro e y1 ⟨rfl, hh1⟩; have E1 : Below w12.heap.size w12 y1 := sbtr E0 hh1)
       | (go_at_call 16; refine (CChk.out _).mono ?_; rintro e y0 ⟨rfl, hh0⟩; have E0 : Below w12.heap.size w12 y0 := (by first | exact (bdrewN (Below.refl _ _) 1).trans hh0 | exact hh0))
       | fail)
    all_goals
      go_wp2_with fail
      go_meet
      exact ⟨rfl, E1⟩
  case rest =>
    obtain ⟨rfl, hB⟩ := hcut
    replace BX := Lib.hid (sbtr BX.out hB)
    replace XCAbs := Lib.hid (XCAbs.out.via hB)
    replace XRAbs := Lib.hid (XRAbs.out.via hB)
    replace XCScale := Lib.hid (XCScale.out.via hB)
    replace XRScale := Lib.hid (XRScale.out.via hB)
    have ⟨x0_0, x0_1, x0_2, x0_3, x0_4⟩ := XCAbs.out
    have ⟨x1_0, x1_1, x1_2, x1_3, x1_4⟩ := XRAbs.out
    have ⟨x2_0, x2_1, x2_2, x2_3, x2_4⟩ := XCScale.out
    have ⟨x3_0, x3_1, x3_2, x3_3, x3_4⟩ := XRScale.out
    clear hB HKS
    go_wp2
    go_ret
    exact ⟨rfl, BX.out⟩
end Go.Proofs.Ytegpckhfncblhaa

namespace Go.Proofs.Ytegpckhfncblhaa
open Go.ChangeShapes Go.WideShapes Go.ChangeAt Go.RowKit

theorem own : ownKnob Try.prog.godebug = none := by kernel_rfl

set_option maxRecDepth 100000 in
theorem asks_lifted (os : Os) (started : os.Started) (H : Type) (enc : TypeId × Value → H) :
    ReturnsInHanded {} Try.checked os 3 .any (Rows.spanAsksSpec.pre6 enc Try.prog Try.f3 Rows.spanAsksRow.domain false) (Rows.spanAsksSpec.post enc Try.prog Try.f3 false true false false) := by
  refine returnsInHanded_of_change (C := Try.checked) own started (by kernel_rfl) Try.func3
    (ChangeSpec.witness6 (enc := enc) (C := Try.checked) false ⟨#[], #[.agg #[.int .i64 0, .int .i64 0], .int .i64 0, .int .i64 0], []⟩ 8 (by kernel_rfl) (by kernel_rfl) (by kernel_rfl) (by kernel_rfl)) ?_
  intro W base args ds gs before hval0 hW hcnd _
  have hval : ∀ (j : Nat) t v, Try.f3.params[j]? = some t → args[j]? = some v → Value.okWide Try.prog W .any base t v := hval0
  have hW' := hW
  obtain ⟨p, q, hA0, hV, rfl, hfz, hnd⟩ := hW
  have hA : DataW.TrodAll enc Try.prog W 0 (fun _ => true) true Try.f3.params.toList args.toList ds p := hA0
  rw [Try.params3] at hA hval
  obtain ⟨v0, v1, v2, d0, d1, d2, p0, p1, p2, rfl, rfl, rfl, h0, h1, h2⟩ := trodAll_three hA
  obtain ⟨rfl, rfl⟩ := trodVars_none hV
  clear hA0 hval0
  simp only [List.append_nil] at hW'
  have hlt : ∀ x ∈ p0 ++ (p1 ++ p2), x.block < W.heap.size := fun x hx => by
    refine hW'.lt x ?_
    simpa using hx
  have hlt0 : ∀ x ∈ p0, x.block < W.heap.size := fun x hx => hlt x (List.mem_append_left _ hx)
  have hlt1 : ∀ x ∈ p1, x.block < W.heap.size := fun x hx => hlt x (List.mem_append_right _ (List.mem_append_left _ hx))
  have hlt2 : ∀ x ∈ p2, x.block < W.heap.size := fun x hx => hlt x (List.mem_append_right _ (List.mem_append_right _ hx))
  obtain ⟨al, ah, rfl, _, _, _, _⟩ := open_iv (hval 0 23 v0 rfl rfl) h0
  obtain ⟨num, rfl, rfl, rfl, w1⟩ := open_int Try.underlying2 (hval 1 2 v1 rfl rfl) h1
  obtain ⟨den, rfl, rfl, rfl, w2⟩ := open_int Try.underlying2 (hval 2 2 v2 rfl rfl) h2
  refine (asks_any W al ah num den (wf_i64 w1).1 (wf_i64 w1).2 (wf_i64 w2).1 (wf_i64 w2).2).mono fun e W' ⟨he, hb⟩ => ?_
  subst he
  exact ⟨_, rfl, _, _, _, [], p0 ++ ([] ++ []), [], hW', trodAll_mk1 (shut_bool Try.underlying4 _),
    trodAll_mk3 (Below.trod laidOutS (by kernel_rfl) (of_decide_eq_true (by kernel_rfl)) h0 hb hlt0) (Below.trod laidOutS (by kernel_rfl) (of_decide_eq_true (by kernel_rfl)) h1 hb hlt1) (Below.trod laidOutS (by kernel_rfl) (of_decide_eq_true (by kernel_rfl)) h2 hb hlt2), rfl, hb.frame _, fun h => by cases h⟩

theorem asks_holds : Rows.SpanAsksSaid :=
  OpenClaim.holds_of_wide 3 Try.f3 rfl rfl rfl rfl rfl rfl rfl ⟨rfl, rfl, rfl, rfl, rfl⟩ rfl rfl rfl rfl rfl (by kernel_rfl) Try.func3 (by kernel_rfl)
    (of_decide_eq_true (by kernel_rfl)) (by unfold Func.isWrapper; first | (rw [if_pos (by decide +kernel)]; kernel_rfl) | (rw [if_neg (by decide +kernel)]; exact ⟨rfl, rfl⟩))
    (fun os started H enc _ => asks_lifted os started H enc)

end Go.Proofs.Ytegpckhfncblhaa

