/- Lemmas, part 4. -/
import Derived.Lib.ItoaNum
import Derived.Lib.UnsafeStr
import Derived.Lib.OthersKept
import Derived.Lib.BufferKept
import Derived.Lib.OwnKind
import Derived.Deep.LoopGhost
import Derived.Shelf.Strconv.AppendUint10
import Derived.Test.YtaegadicnbmapaaDoorProg
import Derived.Lib.AppendIntMem
import Derived.Test.YtaegadicnbmapaaDoorRows
import Derived.ProofKit
import Derived.SizedLaws
import Derived.Lib.SmallJoins
import Derived.LaidMore
import Derived.OpenShut
import Derived.Stop.LaidErr
import Derived.MakeChecks
import Derived.SevenTiedAt
import Derived.Test.YtaegadicnbmapaaDoorNam3
/- wide.divisor and Gcd. -/
namespace Go.Proofs.YtaegadicnbmapaaDoor
open Go.RowKit

/-- A call returns the limbs of v. -/
def RGl (w : World) (v : Nat) (e : Ending) (w' : World) : Prop := ∃ A c, e = .returned (.slice A (digs v).length c) ∧ Lm w' w'.heap.size A (digs v).length c (digs v) ∧ Below w.heap.size w w'
theorem two_lt {b : Nat} (h : (digs b).length ≤ 2) : b < 18446744073709551616 := by
  have := digs_len.1 h
  omega
theorem clone_ow' (w : World) (A : Option Addr) (n c : Nat) (xs : List Nat) (h : Lm w w.heap.size A n c xs) (hn : n ≤ 1000000000) :
    Calls Tryd.prog 71 #[.slice A n c] w fun e w' => ∃ A' c', e = .returned (.slice A' n c') ∧ Ow w' w.heap.size (.slice A' n c') xs ∧ Below w.heap.size w w' := by
  obtain ⟨i0, hi0, hz0, hz1, hz2⟩ := info_parts u32_info
  have hr := h.max
  have hl := h.len
  have HH := Lib.hid h
  have hnil := fun (w : World) (a : Option Addr) (n c n' c' : Nat) => Lib.run_eql_slice_nil (P := Tryd.prog) w 22 46 a n c n' c' slice_u32
  rcases A with _ | ad
  · have hm : n = 0 := by
      rcases Nat.eq_zero_or_pos n with h0 | h0
      · exact h0
      · obtain ⟨b, off, e, _⟩ := h.at_ h0
        cases e
    subst hm
    obtain rfl := h.nil_ rfl
    obtain rfl : xs = [] := List.eq_nil_of_length_eq_zero hl
    go_enter Tryd.func71, Tryd.ntmps71
    go_wp2
    go_ret
    exact ⟨_, _, rfl, Ow.nil _ _, Below.refl _ _⟩
  · go_enter Tryd.func71, Tryd.ntmps71
    go_wp2_with (at_builtin; refine wpList_append_lm _ rfl _ _ _ rfl w.heap.size _ i0 slice_u32 hi0 hz0 hz1 hz2 _ 0 [] rfl (World.ownsRow_made _ _ _ (Nat.le_refl _) (by simp [maxLen]) rfl) _ _ _ _ xs rfl (HH.out.box _) (by simp only [maxLen]; omega) (by omega) (by simp) ?_; intro v1 w1 hown1 hg1)
    go_ret
    rw [Nat.zero_add, List.nil_append] at hown1
    have hO : Ow w1 w.heap.size v1 xs := by unfold Ow; rw [hl]; exact hown1
    obtain ⟨A', c', rfl, hL⟩ := hO.lm HH.out.good
    rw [hl] at hO ⊢
    refine ⟨A', c', rfl, hO, ((Below.refl _ _).alloc (Nat.le_refl _) _).grown hg1 (by simp) (fun k hk => ?_)⟩
    have e : w.heap.size = k := Option.some.inj hk
    omega
theorem Ow.via {w w' : World} {B : Nat} {v : Value} {ts : List Nat} (h : Ow w B v ts) (hb : Below w.heap.size w w') : Ow w' B v ts :=
  World.ownsRow.kept (row := none) h ⟨hb.os, hb.tape, hb.output, hb.size, fun k hk _ => hb.block k hk⟩ (by cases v.ownBlock <;> simp)
/-- Two slices do not share a block. -/
def Apt (v v' : Value) : Prop := ∀ g, v.ownBlock = some g → v'.ownBlock = some g → False
/-- The number that a slice of limbs reads as. -/
def rdV (w : World) : Value → Nat
  | .slice (some ad) n _ => val ((List.range n).map fun j => match w.cell? ⟨ad.block, ad.off + j, none⟩ with | some (.int _ z) => z.toNat | _ => 0)
  | _ => 0
theorem rdV_lm {w : World} {B n c : Nat} {A : Option Addr} {xs : List Nat} (h : Lm w B A n c xs) : rdV w (.slice A n c) = val xs := by
  rcases A with _ | ad
  · rcases Nat.eq_zero_or_pos n with h0 | h0
    · obtain rfl : xs = [] := List.eq_nil_of_length_eq_zero (by rw [h.len]; exact h0)
      rfl
    · obtain ⟨b, off, e, _⟩ := h.at_ h0
      cases e
  · show val _ = _
    congr 1
    refine List.ext_getElem? fun j => ?_
    by_cases hj : j < n
    · obtain ⟨b, off, e, _, hc⟩ := h.cell hj
      injection e with e
      subst e
      rw [List.getElem?_map, List.getElem?_range hj]
      show some (match w.cell? ⟨b, off + j, none⟩ with | some (.int _ z) => z.toNat | _ => 0) = _
      rw [hc, get_nat xs j (by rw [h.len]; exact hj)]
      rfl
    · rw [List.getElem?_eq_none (by simp; omega), List.getElem?_eq_none (by rw [h.len]; omega)]
theorem rdV_ow {w : World} {B n c v : Nat} {A : Option Addr} (h : Ow w B (.slice A n c) (digs v)) : rdV w (.slice A n c) = v := by rw [rdV_lm (h.toLm (digs_good _)), digs_val]
theorem win_0 {b : Nat} (h : b < 18446744073709551616) : win b 0 = b := by unfold win; rw [Nat.pow_zero, Nat.div_one]; exact Nat.mod_eq_of_lt h

set_option maxRecDepth 100000 in
set_option maxHeartbeats 2000000 in
theorem divisor_lt (w : World) (A B : Option Addr) (n0 m0 ca cb a0 b0 : Nat) (hA : Lm w w.heap.size A n0 ca (digs a0)) (hB : Lm w w.heap.size B m0 cb (digs b0)) (hlt : b0 < a0) (hn : n0 ≤ 4096) (hm : m0 ≤ 4096) :
    Calls Tryd.prog 36 #[.slice B m0 cb, .slice A n0 ca] w (RGl w (Nat.gcd a0 b0)) := by
  obtain ⟨z, hz, HC⟩ : ∃ z : Int, decide (z < 0) = true ∧ Hid (cmpL (digs b0) (digs a0) = z) := ⟨_, by rw [cmpL_norm (digs_good _) (digs_good _) (digs_norm _) (digs_norm _), digs_val, digs_val]; rw [cmpN_lt hlt]; decide, rfl⟩
  have hcA := hA.cap
  have hxA := hA.max
  have hcB := hB.cap
  have hxB := hB.max
  have HA := Lib.hid hA
  have HB := Lib.hid hB
  have HN0 := Lib.hid hA.len
  have HM0 := Lib.hid hB.len
  have HLE : Hid (b0 ≤ a0) := by show _ ≤ _; omega
  clear hA hB hlt
  go_enter Tryd.func36, Tryd.ntmps36
  go_wp2_with fail
  refine (compare_any _ _ _ _ _ _ (digs b0) (digs a0) _ HB.out HA.out).mono ?_
  rintro e w1 ⟨he, hb1⟩
  rw [HC.out] at he
  subst he
  have HA1 := Lib.hid (HA.out.via hb1)
  have HB1 := Lib.hid (HB.out.via hb1)
  have HBl1 := Lib.hid hb1
  clear hb1
  go_wp2_with fail
  refine (clone_ow' _ _ _ _ (digs a0) HA1.out (by omega)).mono ?_
  rintro e w2 ⟨A2, c2, rfl, hO2, hb2⟩
  have HB2 := Lib.hid (HB1.out.via hb2)
  have HO2 := Lib.hid hO2
  have HS2 : Hid (w1.heap.size ≤ w2.heap.size) := hb2.size
  have HBl2 := Lib.hid (HBl1.out.trans (hb2.mono HBl1.out.size))
  clear hb2 hO2 HA1 HB1
  go_wp2_with fail
  refine (clone_ow' _ _ _ _ (digs b0) HB2.out (by omega)).mono ?_
  rintro e w3 ⟨B3, c3, rfl, hO3, hb3⟩
  have HO3 := Lib.hid hO3
  have HO23 : Hid (Ow w3 w1.heap.size (.slice A2 n0 c2) (digs a0)) := HO2.out.via hb3
  have HBl3 := Lib.hid (HBl2.out.trans (hb3.mono HBl2.out.size))
  have HAp : Hid (Apt (.slice A2 n0 c2) (.slice B3 m0 c3)) := fun g h1 h2 => by
    have e1 := (World.ownsRow.lt HO2.out g h1).2
    have e2 := (World.ownsRow.lt HO3.out g h2).1
    omega
  have HW1 : Hid (w.heap.size ≤ w1.heap.size) := HBl1.out.size
  have HW2 : Hid (w.heap.size ≤ w2.heap.size) := HBl2.out.size
  clear hb3 hO3 HB2
  go_wp2
  go_loopw [0, 1] (fun p q wr => ∃ (a b n m c2 c3 : Nat) (A2 B3 : Option Addr), p = .slice A2 n c2 ∧ q = .slice B3 m c3 ∧ (digs a).length = n ∧ (digs b).length = m ∧ Ow wr w.heap.size (.slice A2 n c2) (digs a) ∧ Ow wr w.heap.size (.slice B3 m c3) (digs b) ∧ Apt (.slice A2 n c2) (.slice B3 m c3) ∧
      b ≤ a ∧ a ≤ a0 ∧ Nat.gcd a b = Nat.gcd a0 b0 ∧ Below w.heap.size w wr) (fun p q wr => rdV wr p + rdV wr q)
  case atStart => exact ⟨a0, b0, n0, m0, c2, c3, A2, B3, rfl, rfl, HN0.out, HM0.out, HO23.out.mono HW1.out, HO3.out.mono HW2.out, HAp.out, HLE.out, Nat.le_refl _, rfl, HBl3.out⟩
  case round =>
    clear HO2 HO3 HO23 HBl1 HBl2 HBl3 HAp HS2
    obtain ⟨a, b, n, m, c2, c3, A2, B3, rfl, rfl, hN, hM, hO2, hO3, hap, hle, haa, hg, hbl⟩ := hrel
    have hn : n ≤ 4096 := by
      have e := digs_mono haa
      rw [hN, HN0.out] at e
      omega
    have hm : m ≤ 4096 := by
      have e := digs_mono (Nat.le_trans hle haa)
      rw [hM, HN0.out] at e
      omega
    have HN := Lib.hid hN
    have HM := Lib.hid hM
    have HO2 := Lib.hid hO2
    have HO3 := Lib.hid hO3
    have HA3 := Lib.hid (hO2.toLm (digs_good _))
    have HB3 := Lib.hid (hO3.toLm (digs_good _))
    have HBl3 := Lib.hid hbl
    have HAp := Lib.hid hap
    have HGG := Lib.hid hg
    have HLE := Lib.hid hle
    have HAA := Lib.hid haa
    have hc2 := HA3.out.cap
    have hx2 := HA3.out.max
    have hc3 := HB3.out.cap
    have hx3 := HB3.out.max
    clear hN hM hO2 hO3 hbl hap hg hle haa
    by_cases hm2 : 2 < m
    · have hb0 : 0 < b := by rw [← digs_pos, HM.out]; omega
      have hs3 := HBl3.out.size
      go_wp2_with fail
      refine (foresee_any _ _ _ _ _ _ _ a b HA3.out HB3.out HLE.out (by omega) (by omega)).mono ?_
      rintro e w4 ⟨c, A0, B0, A1, B1, rfl, hc9, ⟨p, s, x, y, A2', B2', hI⟩, hb4⟩
      have HI := Lib.hid hI
      have HP2 := Lib.hid (HO2.out.via hb4)
      have HP3 := Lib.hid (HO3.out.via hb4)
      have HBl4 := Lib.hid (HBl3.out.trans (hb4.mono HBl3.out.size))
      clear hI hb4
      by_cases hc : 0 < c
      · obtain ⟨u, v, hvu, huv, hsum, hua, t1, t2, t3, t4, t5, t6⟩ := leh_take HI.out hc hb0
        have HU := Lib.hid hvu
        have HUV := Lib.hid huv
        have HSum := Lib.hid hsum
        have HUA := Lib.hid hua
        have HT5 := Lib.hid t5
        have HT6 := Lib.hid t6
        obtain ⟨ga, rfl, e1, _⟩ := HP2.out.ob (by rw [HN.out]; have := digs_mono HLE.out; rw [HN.out, HM.out] at this; omega)
        obtain ⟨gb, rfl, e2, _⟩ := HP3.out.ob (by rw [HM.out]; omega)
        have HNe : Hid (ga ≠ gb) := fun e => HAp.out ga rfl (by rw [e]; rfl)
        have HUB : Hid (u < 4294967296 ^ n) := Nat.lt_of_le_of_lt hua (digs_len.1 (Nat.le_of_eq HN.out))
        have HVB : Hid (v < 4294967296 ^ n) := Nat.lt_of_le_of_lt hvu HUB.out
        have HMN : Hid (m ≤ n) := by have := digs_mono HLE.out; rw [HN.out, HM.out] at this; exact this
        have hs4 := HBl4.out.size
        clear hvu huv hsum hua t5 t6 e1 e2
        go_wp2_with fail
        refine (take_any _ w.heap.size ga gb n m c2 c3 a b c A0 B0 A1 B1 (HP2.out.alloc _) (HP3.out.alloc _) HNe.out (by simp; omega) HN.out HM.out HMN.out (by omega) (by omega) hc9 t1 t2 t3 t4 u v HUB.out HVB.out HT5.out HT6.out).mono ?_
        rintro e w6 ⟨g1, k1, g2, k2, rfl, hU6, hV6, hne6, hb6⟩
        have HU6 := Lib.hid hU6
        have HV6 := Lib.hid hV6
        have HNe6 := Lib.hid hne6
        have HBl6 := Lib.hid ((HBl4.out.alloc hs4 _).trans hb6)
        clear hU6 hV6 hne6 hb6
        go_wp2
        go_roundw
        case rel =>
          exact ⟨u, v, _, _, k1, k2, some ⟨g1, 0, none⟩, some ⟨g2, 0, none⟩, rfl, rfl, rfl, rfl, HU6.out, HV6.out, (fun g e1 e2 => by injection e1 with e1; injection e2 with e2; exact HNe6.out (e1.trans e2.symm)), HU.out, Nat.le_trans HUA.out HAA.out, HUV.out.trans HGG.out, HBl6.out⟩
        case measure =>
          rw [rdV_ow HU6.out, rdV_ow HV6.out, rdV_ow HO2.out, rdV_ow HO3.out]
          exact HSum.out
      · have hcd : decide (0 < c) = false := by simpa using hc
        have HA4 := Lib.hid (HP2.out.toLm (digs_good _))
        have HB4 := Lib.hid (HP3.out.toLm (digs_good _))
        have hs4 := HBl4.out.size
        go_wp2_with fail
        refine (divide_ow _ A2 B3 n m c2 c3 a b (HA4.out.box _) (HB4.out.box _) HLE.out (by omega) (by omega)).mono ?_
        rintro e w6 ⟨Q, cq, R, cr, rfl, _, hR6, hb6⟩
        have HR6 := Lib.hid hR6
        have HP6 := Lib.hid ((HP3.out.alloc _).via hb6)
        have HBl6 := Lib.hid ((HBl4.out.alloc hs4 _).trans (hb6.mono (by simp; omega)))
        have HX : Hid (w.heap.size ≤ w4.heap.size + 1) := by show _ ≤ _; omega
        clear hR6 hb6
        go_wp2
        go_roundw
        case rel =>
          exact ⟨b, a % b, m, _, c3, cr, B3, R, rfl, rfl, HM.out, rfl, HP6.out, HR6.out.mono (by simp only [World.size_alloc]; exact HX.out), (fun g e1 e2 => by
            have l1 := (World.ownsRow.lt HP3.out g e1).2
            have l2 := (World.ownsRow.lt HR6.out g e2).1
            simp only [World.size_alloc] at l2
            omega), Nat.le_of_lt (Nat.mod_lt a hb0), Nat.le_trans HLE.out HAA.out, by rw [← HGG.out, Nat.gcd_comm b, ← Nat.gcd_rec, Nat.gcd_comm], HBl6.out⟩
        case measure =>
          rw [rdV_ow HP6.out, rdV_ow HR6.out, rdV_ow HO2.out, rdV_ow HO3.out]
          have := Nat.mod_lt a hb0
          have := HLE.out
          omega
    · have hb9 : b < 18446744073709551616 := two_lt (by rw [HM.out]; omega)
      have HWb := Lib.hid (win_0 hb9)
      have hm2' : m ≤ 2 := by omega
      clear hm2
      rcases Nat.eq_zero_or_pos m with h0 | h0
      · have HG : Hid (Nat.gcd a b = a) := by
          show _ = _
          obtain rfl : b = 0 := digs_nil.1 (List.eq_nil_of_length_eq_zero (by rw [HM.out]; exact h0))
          exact Nat.gcd_zero_right a
        subst h0
        go_wp2
        go_ret
        rw [← HGG.out, HG.out]
        exact ⟨A2, c2, by rw [HN.out]; rfl, by rw [HN.out]; exact HA3.out, HBl3.out⟩
      · have hb0 : 0 < b := by rw [← digs_pos, HM.out]; exact h0
        have hmz : ((m : Int) == 0) = false := by simp; omega
        go_wp2_with fail
        refine (divide_any wr A2 B3 n m c2 c3 a b HA3.out HB3.out hb0 (by omega)).mono ?_
        rintro e w4 ⟨Q, cq, R, cr, rfl, hQ, hR, hb4⟩
        have hr9 := Nat.mod_lt a hb0
        have HB4 := Lib.hid (HB3.out.via hb4)
        have HBl4 := Lib.hid (HBl3.out.trans (hb4.mono HBl3.out.size))
        have HR4 := Lib.hid hR
        have HWr : Hid (win (a % b) 0 = a % b) := win_0 (by omega)
        clear hQ hR hb4
        go_wp2_with fail
        refine (window_any w4 B3 m c3 (digs b) b 0 HB4.out (digs_val b) (by omega) (by omega)).mono ?_
        rintro e w5 ⟨rfl, d5, rfl⟩
        go_wp2_with fail
        refine (window_any _ R _ cr (digs (a % b)) (a % b) 0 (HR4.out.drewN d5) (digs_val _) (by omega) (by omega)).mono ?_
        rintro e w6 ⟨rfl, d6, rfl⟩
        rw [show (Int.toNat 0) = 0 from rfl, HWb.out, HWr.out]
        have HG : Hid (Nat.gcd b (a % b) = Nat.gcd a b) := by show _ = _; rw [Nat.gcd_comm b, ← Nat.gcd_rec, Nat.gcd_comm]
        obtain ⟨r, hr⟩ : ∃ r, a % b = r := ⟨_, rfl⟩
        rw [hr] at HG hr9 ⊢
        have HR := Lib.hid hr
        clear hr
        go_wp2
        go_loopw [10, 11] (fun x y wr => ∃ p q d : Nat, x = .int .u64 (p : Int) ∧ y = .int .u64 (q : Int) ∧ p < 18446744073709551616 ∧ q < 18446744073709551616 ∧ Nat.gcd p q = Nat.gcd a b ∧ wr = w4.drewN d) (fun _ y _ => (intOf y).toNat)
        case atStart => exact ⟨b, r, _, rfl, rfl, hb9, by omega, HG.out, rfl⟩
        case round =>
          obtain ⟨p, q, d, rfl, rfl, hp, hq, hg, rfl⟩ := hrel
          have HGp := Lib.hid hg
          clear hg
          by_cases hq0 : q = 0
          · subst hq0
            have HGq : Hid (p = Nat.gcd a b) := by show _ = _; rw [← HGp.out, Nat.gcd_zero_right]
            go_wp2_with fail
            refine (trim_any _ _ _ _ _ _ p (Lm.two _ _ _ (p % 4294967296) (p / 4294967296 % 4294967296) _ _ rfl (by omega) (by omega) (by omega) (by omega)) (val2 p hp)).mono ?_
            rintro e w7 ⟨rfl, rfl⟩
            go_wp2
            go_ret
            rw [← HGG.out, ← HGq.out]
            exact ⟨_, _, rfl, ((Lm.two _ _ _ (p % 4294967296) (p / 4294967296 % 4294967296) _ _ rfl (by omega) (by omega) (by omega) (by omega)).trim' (val2 p hp)).mono (by simp), (bdrewN HBl4.out d).alloc HBl4.out.size _⟩
          · have hq1 : 0 < q := Nat.pos_of_ne_zero hq0
            have hqi : ¬ ((q : Int) = 0) := by omega
            have hm0 : (p : Int) % (q : Int) = ((p % q : Nat) : Int) := by rw [← Int.natCast_emod]
            have hm1 : (p : Int).tmod (q : Int) = ((p % q : Nat) : Int) := by rw [Int.tmod_eq_emod_of_nonneg (by omega), ← Int.natCast_emod]
            have hl := Nat.mod_lt p hq1
            have HG2 : Hid (Nat.gcd q (p % q) = Nat.gcd a b) := by show _ = _; rw [Nat.gcd_comm q, ← Nat.gcd_rec, Nat.gcd_comm, HGp.out]
            generalize p % q = s at *
            clear hq0
            go_wp2_with fail
            go_quiet (fail)
            go_wp2
            go_roundw
            case rel => exact ⟨q, s, _, rfl, rfl, hq, by omega, HG2.out, drewN_add w4 _ _⟩
            case measure => simp [intOf]; omega

set_option maxRecDepth 100000 in
set_option maxHeartbeats 2000000 in
theorem divisor_ge (w : World) (A B : Option Addr) (n0 m0 ca cb a0 b0 : Nat) (hA : Lm w w.heap.size A n0 ca (digs a0)) (hB : Lm w w.heap.size B m0 cb (digs b0)) (hlt : b0 ≤ a0) (hn : n0 ≤ 4096) (hm : m0 ≤ 4096) :
    Calls Tryd.prog 36 #[.slice A n0 ca, .slice B m0 cb] w (RGl w (Nat.gcd a0 b0)) := by
  obtain ⟨z, hz, HC⟩ : ∃ z : Int, decide (z < 0) = false ∧ Hid (cmpL (digs a0) (digs b0) = z) := ⟨_, by rw [cmpL_norm (digs_good _) (digs_good _) (digs_norm _) (digs_norm _), digs_val, digs_val]; unfold cmpN; rw [if_neg (by omega)]; split <;> decide, rfl⟩
  have hcA := hA.cap
  have hxA := hA.max
  have hcB := hB.cap
  have hxB := hB.max
  have HA := Lib.hid hA
  have HB := Lib.hid hB
  have HN0 := Lib.hid hA.len
  have HM0 := Lib.hid hB.len
  have HLE : Hid (b0 ≤ a0) := by show _ ≤ _; omega
  clear hA hB hlt
  go_enter Tryd.func36, Tryd.ntmps36
  go_wp2_with fail
  refine (compare_any _ _ _ _ _ _ (digs a0) (digs b0) _ HA.out HB.out).mono ?_
  rintro e w1 ⟨he, hb1⟩
  rw [HC.out] at he
  subst he
  have HA1 := Lib.hid (HA.out.via hb1)
  have HB1 := Lib.hid (HB.out.via hb1)
  have HBl1 := Lib.hid hb1
  clear hb1
  go_wp2_with fail
  refine (clone_ow' _ _ _ _ (digs a0) HA1.out (by omega)).mono ?_
  rintro e w2 ⟨A2, c2, rfl, hO2, hb2⟩
  have HB2 := Lib.hid (HB1.out.via hb2)
  have HO2 := Lib.hid hO2
  have HS2 : Hid (w1.heap.size ≤ w2.heap.size) := hb2.size
  have HBl2 := Lib.hid (HBl1.out.trans (hb2.mono HBl1.out.size))
  clear hb2 hO2 HA1 HB1
  go_wp2_with fail
  refine (clone_ow' _ _ _ _ (digs b0) HB2.out (by omega)).mono ?_
  rintro e w3 ⟨B3, c3, rfl, hO3, hb3⟩
  have HO3 := Lib.hid hO3
  have HO23 : Hid (Ow w3 w1.heap.size (.slice A2 n0 c2) (digs a0)) := HO2.out.via hb3
  have HBl3 := Lib.hid (HBl2.out.trans (hb3.mono HBl2.out.size))
  have HAp : Hid (Apt (.slice A2 n0 c2) (.slice B3 m0 c3)) := fun g h1 h2 => by
    have e1 := (World.ownsRow.lt HO2.out g h1).2
    have e2 := (World.ownsRow.lt HO3.out g h2).1
    omega
  have HW1 : Hid (w.heap.size ≤ w1.heap.size) := HBl1.out.size
  have HW2 : Hid (w.heap.size ≤ w2.heap.size) := HBl2.out.size
  clear hb3 hO3 HB2
  go_wp2
  go_loopw [0, 1] (fun p q wr => ∃ (a b n m c2 c3 : Nat) (A2 B3 : Option Addr), p = .slice A2 n c2 ∧ q = .slice B3 m c3 ∧ (digs a).length = n ∧ (digs b).length = m ∧ Ow wr w.heap.size (.slice A2 n c2) (digs a) ∧ Ow wr w.heap.size (.slice B3 m c3) (digs b) ∧ Apt (.slice A2 n c2) (.slice B3 m c3) ∧
      b ≤ a ∧ a ≤ a0 ∧ Nat.gcd a b = Nat.gcd a0 b0 ∧ Below w.heap.size w wr) (fun p q wr => rdV wr p + rdV wr q)
  case atStart => exact ⟨a0, b0, n0, m0, c2, c3, A2, B3, rfl, rfl, HN0.out, HM0.out, HO23.out.mono HW1.out, HO3.out.mono HW2.out, HAp.out, HLE.out, Nat.le_refl _, rfl, HBl3.out⟩
  case round =>
    clear HO2 HO3 HO23 HBl1 HBl2 HBl3 HAp HS2
    obtain ⟨a, b, n, m, c2, c3, A2, B3, rfl, rfl, hN, hM, hO2, hO3, hap, hle, haa, hg, hbl⟩ := hrel
    have hn : n ≤ 4096 := by
      have e := digs_mono haa
      rw [hN, HN0.out] at e
      omega
    have hm : m ≤ 4096 := by
      have e := digs_mono (Nat.le_trans hle haa)
      rw [hM, HN0.out] at e
      omega
    have HN := Lib.hid hN
    have HM := Lib.hid hM
    have HO2 := Lib.hid hO2
    have HO3 := Lib.hid hO3
    have HA3 := Lib.hid (hO2.toLm (digs_good _))
    have HB3 := Lib.hid (hO3.toLm (digs_good _))
    have HBl3 := Lib.hid hbl
    have HAp := Lib.hid hap
    have HGG := Lib.hid hg
    have HLE := Lib.hid hle
    have HAA := Lib.hid haa
    have hc2 := HA3.out.cap
    have hx2 := HA3.out.max
    have hc3 := HB3.out.cap
    have hx3 := HB3.out.max
    clear hN hM hO2 hO3 hbl hap hg hle haa
    by_cases hm2 : 2 < m
    · have hb0 : 0 < b := by rw [← digs_pos, HM.out]; omega
      have hs3 := HBl3.out.size
      go_wp2_with fail
      refine (foresee_any _ _ _ _ _ _ _ a b HA3.out HB3.out HLE.out (by omega) (by omega)).mono ?_
      rintro e w4 ⟨c, A0, B0, A1, B1, rfl, hc9, ⟨p, s, x, y, A2', B2', hI⟩, hb4⟩
      have HI := Lib.hid hI
      have HP2 := Lib.hid (HO2.out.via hb4)
      have HP3 := Lib.hid (HO3.out.via hb4)
      have HBl4 := Lib.hid (HBl3.out.trans (hb4.mono HBl3.out.size))
      clear hI hb4
      by_cases hc : 0 < c
      · obtain ⟨u, v, hvu, huv, hsum, hua, t1, t2, t3, t4, t5, t6⟩ := leh_take HI.out hc hb0
        have HU := Lib.hid hvu
        have HUV := Lib.hid huv
        have HSum := Lib.hid hsum
        have HUA := Lib.hid hua
        have HT5 := Lib.hid t5
        have HT6 := Lib.hid t6
        obtain ⟨ga, rfl, e1, _⟩ := HP2.out.ob (by rw [HN.out]; have := digs_mono HLE.out; rw [HN.out, HM.out] at this; omega)
        obtain ⟨gb, rfl, e2, _⟩ := HP3.out.ob (by rw [HM.out]; omega)
        have HNe : Hid (ga ≠ gb) := fun e => HAp.out ga rfl (by rw [e]; rfl)
        have HUB : Hid (u < 4294967296 ^ n) := Nat.lt_of_le_of_lt hua (digs_len.1 (Nat.le_of_eq HN.out))
        have HVB : Hid (v < 4294967296 ^ n) := Nat.lt_of_le_of_lt hvu HUB.out
        have HMN : Hid (m ≤ n) := by have := digs_mono HLE.out; rw [HN.out, HM.out] at this; exact this
        have hs4 := HBl4.out.size
        clear hvu huv hsum hua t5 t6 e1 e2
        go_wp2_with fail
        refine (take_any _ w.heap.size ga gb n m c2 c3 a b c A0 B0 A1 B1 (HP2.out.alloc _) (HP3.out.alloc _) HNe.out (by simp; omega) HN.out HM.out HMN.out (by omega) (by omega) hc9 t1 t2 t3 t4 u v HUB.out HVB.out HT5.out HT6.out).mono ?_
        rintro e w6 ⟨g1, k1, g2, k2, rfl, hU6, hV6, hne6, hb6⟩
        have HU6 := Lib.hid hU6
        have HV6 := Lib.hid hV6
        have HNe6 := Lib.hid hne6
        have HBl6 := Lib.hid ((HBl4.out.alloc hs4 _).trans hb6)
        clear hU6 hV6 hne6 hb6
        go_wp2
        go_roundw
        case rel =>
          exact ⟨u, v, _, _, k1, k2, some ⟨g1, 0, none⟩, some ⟨g2, 0, none⟩, rfl, rfl, rfl, rfl, HU6.out, HV6.out, (fun g e1 e2 => by injection e1 with e1; injection e2 with e2; exact HNe6.out (e1.trans e2.symm)), HU.out, Nat.le_trans HUA.out HAA.out, HUV.out.trans HGG.out, HBl6.out⟩
        case measure =>
          rw [rdV_ow HU6.out, rdV_ow HV6.out, rdV_ow HO2.out, rdV_ow HO3.out]
          exact HSum.out
      · have hcd : decide (0 < c) = false := by simpa using hc
        have HA4 := Lib.hid (HP2.out.toLm (digs_good _))
        have HB4 := Lib.hid (HP3.out.toLm (digs_good _))
        have hs4 := HBl4.out.size
        go_wp2_with fail
        refine (divide_ow _ A2 B3 n m c2 c3 a b (HA4.out.box _) (HB4.out.box _) HLE.out (by omega) (by omega)).mono ?_
        rintro e w6 ⟨Q, cq, R, cr, rfl, _, hR6, hb6⟩
        have HR6 := Lib.hid hR6
        have HP6 := Lib.hid ((HP3.out.alloc _).via hb6)
        have HBl6 := Lib.hid ((HBl4.out.alloc hs4 _).trans (hb6.mono (by simp; omega)))
        have HX : Hid (w.heap.size ≤ w4.heap.size + 1) := by show _ ≤ _; omega
        clear hR6 hb6
        go_wp2
        go_roundw
        case rel =>
          exact ⟨b, a % b, m, _, c3, cr, B3, R, rfl, rfl, HM.out, rfl, HP6.out, HR6.out.mono (by simp only [World.size_alloc]; exact HX.out), (fun g e1 e2 => by
            have l1 := (World.ownsRow.lt HP3.out g e1).2
            have l2 := (World.ownsRow.lt HR6.out g e2).1
            simp only [World.size_alloc] at l2
            omega), Nat.le_of_lt (Nat.mod_lt a hb0), Nat.le_trans HLE.out HAA.out, by rw [← HGG.out, Nat.gcd_comm b, ← Nat.gcd_rec, Nat.gcd_comm], HBl6.out⟩
        case measure =>
          rw [rdV_ow HP6.out, rdV_ow HR6.out, rdV_ow HO2.out, rdV_ow HO3.out]
          have := Nat.mod_lt a hb0
          have := HLE.out
          omega
    · have hb9 : b < 18446744073709551616 := two_lt (by rw [HM.out]; omega)
      have HWb := Lib.hid (win_0 hb9)
      have hm2' : m ≤ 2 := by omega
      clear hm2
      rcases Nat.eq_zero_or_pos m with h0 | h0
      · have HG : Hid (Nat.gcd a b = a) := by
          show _ = _
          obtain rfl : b = 0 := digs_nil.1 (List.eq_nil_of_length_eq_zero (by rw [HM.out]; exact h0))
          exact Nat.gcd_zero_right a
        subst h0
        go_wp2
        go_ret
        rw [← HGG.out, HG.out]
        exact ⟨A2, c2, by rw [HN.out]; rfl, by rw [HN.out]; exact HA3.out, HBl3.out⟩
      · have hb0 : 0 < b := by rw [← digs_pos, HM.out]; exact h0
        have hmz : ((m : Int) == 0) = false := by simp; omega
        go_wp2_with fail
        refine (divide_any wr A2 B3 n m c2 c3 a b HA3.out HB3.out hb0 (by omega)).mono ?_
        rintro e w4 ⟨Q, cq, R, cr, rfl, hQ, hR, hb4⟩
        have hr9 := Nat.mod_lt a hb0
        have HB4 := Lib.hid (HB3.out.via hb4)
        have HBl4 := Lib.hid (HBl3.out.trans (hb4.mono HBl3.out.size))
        have HR4 := Lib.hid hR
        have HWr : Hid (win (a % b) 0 = a % b) := win_0 (by omega)
        clear hQ hR hb4
        go_wp2_with fail
        refine (window_any w4 B3 m c3 (digs b) b 0 HB4.out (digs_val b) (by omega) (by omega)).mono ?_
        rintro e w5 ⟨rfl, d5, rfl⟩
        go_wp2_with fail
        refine (window_any _ R _ cr (digs (a % b)) (a % b) 0 (HR4.out.drewN d5) (digs_val _) (by omega) (by omega)).mono ?_
        rintro e w6 ⟨rfl, d6, rfl⟩
        rw [show (Int.toNat 0) = 0 from rfl, HWb.out, HWr.out]
        have HG : Hid (Nat.gcd b (a % b) = Nat.gcd a b) := by show _ = _; rw [Nat.gcd_comm b, ← Nat.gcd_rec, Nat.gcd_comm]
        obtain ⟨r, hr⟩ : ∃ r, a % b = r := ⟨_, rfl⟩
        rw [hr] at HG hr9 ⊢
        have HR := Lib.hid hr
        clear hr
        go_wp2
        go_loopw [10, 11] (fun x y wr => ∃ p q d : Nat, x = .int .u64 (p : Int) ∧ y = .int .u64 (q : Int) ∧ p < 18446744073709551616 ∧ q < 18446744073709551616 ∧ Nat.gcd p q = Nat.gcd a b ∧ wr = w4.drewN d) (fun _ y _ => (intOf y).toNat)
        case atStart => exact ⟨b, r, _, rfl, rfl, hb9, by omega, HG.out, rfl⟩
        case round =>
          obtain ⟨p, q, d, rfl, rfl, hp, hq, hg, rfl⟩ := hrel
          have HGp := Lib.hid hg
          clear hg
          by_cases hq0 : q = 0
          · subst hq0
            have HGq : Hid (p = Nat.gcd a b) := by show _ = _; rw [← HGp.out, Nat.gcd_zero_right]
            go_wp2_with fail
            refine (trim_any _ _ _ _ _ _ p (Lm.two _ _ _ (p % 4294967296) (p / 4294967296 % 4294967296) _ _ rfl (by omega) (by omega) (by omega) (by omega)) (val2 p hp)).mono ?_
            rintro e w7 ⟨rfl, rfl⟩
            go_wp2
            go_ret
            rw [← HGG.out, ← HGq.out]
            exact ⟨_, _, rfl, ((Lm.two _ _ _ (p % 4294967296) (p / 4294967296 % 4294967296) _ _ rfl (by omega) (by omega) (by omega) (by omega)).trim' (val2 p hp)).mono (by simp), (bdrewN HBl4.out d).alloc HBl4.out.size _⟩
          · have hq1 : 0 < q := Nat.pos_of_ne_zero hq0
            have hqi : ¬ ((q : Int) = 0) := by omega
            have hm0 : (p : Int) % (q : Int) = ((p % q : Nat) : Int) := by rw [← Int.natCast_emod]
            have hm1 : (p : Int).tmod (q : Int) = ((p % q : Nat) : Int) := by rw [Int.tmod_eq_emod_of_nonneg (by omega), ← Int.natCast_emod]
            have hl := Nat.mod_lt p hq1
            have HG2 : Hid (Nat.gcd q (p % q) = Nat.gcd a b) := by show _ = _; rw [Nat.gcd_comm q, ← Nat.gcd_rec, Nat.gcd_comm, HGp.out]
            generalize p % q = s at *
            clear hq0
            go_wp2_with fail
            go_quiet (fail)
            go_wp2
            go_roundw
            case rel => exact ⟨q, s, _, rfl, rfl, hq, by omega, HG2.out, drewN_add w4 _ _⟩
            case measure => simp [intOf]; omega

theorem divisor_any (w : World) (A B : Option Addr) (n m ca cb a b : Nat) (hA : Lm w w.heap.size A n ca (digs a)) (hB : Lm w w.heap.size B m cb (digs b)) (hn : n ≤ 4096) (hm : m ≤ 4096) :
    Calls Tryd.prog 36 #[.slice A n ca, .slice B m cb] w (RGl w (Nat.gcd a b)) := by
  rcases Nat.lt_or_ge a b with h | h
  · rw [Nat.gcd_comm]
    exact divisor_lt w B A m n cb ca b a hB hA h hm hn
  · exact divisor_ge w A B n m ca cb a b hA hB h hn hm

set_option maxRecDepth 100000 in
set_option maxHeartbeats 1000000 in
theorem gcd_any (w : World) (na nb : Bool) (A B : Option Addr) (n m ca cb a b : Nat) (hA : Lm w w.heap.size A n ca (digs a)) (hB : Lm w w.heap.size B m cb (digs b)) (hv : chkB na (digs a) nb (digs b) = 0) (hn : n ≤ 4096) (hm : m ≤ 4096) :
    Calls Tryd.prog 8 #[.agg #[.bool na, .slice A n ca], .agg #[.bool nb, .slice B m cb]] w (RW w (mkN false (Nat.gcd a b)) (mkL (Nat.gcd a b)) (mkE (Nat.gcd a b))) := by
  have HA := Lib.hid hA
  have HB := Lib.hid hB
  have HV := Lib.hid hv
  clear hv
  go_enter Tryd.func8, Tryd.ntmps8
  go_wp2_with fail
  refine (both_any _ _ _ _ _ _ _ _ _ _ _ 0 (((HA.out.box _).box _).box _) (((HB.out.box _).box _).box _) HV.out).mono ?_
  rintro e w1 ⟨rfl, hb1⟩
  have ⟨hx0, hx1, hy0, hy1, hz0, hz1, hf0, hf1, hsz⟩ := box3 hb1
  have HA1 := Lib.hid ((((HA.out.box _).box _).box _).via hb1)
  have HB1 := Lib.hid ((((HB.out.box _).box _).box _).via hb1)
  have HBl1 := Lib.hid (bbox (bbox (bbox hb1)))
  clear hb1
  go_wp2_with fail
  refine (divisor_any w1 A B n m ca cb a b HA1.out HB1.out hn hm).mono ?_
  rintro e w2 ⟨A2, c2, rfl, hL2, hb2⟩
  have hz2 := keep2 hb2 hsz ⟨hz0, hz1⟩
  have hf2 := keepF hb2 hsz ⟨hf0, hf1⟩
  have hs2 := Nat.lt_of_lt_of_le hsz hb2.size
  have HBl2 := Lib.hid (HBl1.out.trans (hb2.mono HBl1.out.size))
  clear hb2
  go_wp2_with fail
  refine (made_any _ _ _ _ _ (Nat.gcd a b) hL2).mono ?_
  rintro e w3 ⟨A3, n3, c3, rfl, hL3, hb3⟩
  have hz3 := keep2 hb3 hs2 hz2
  have hf3 := keepF hb3 hs2 hf2
  have hs3 := Nat.lt_of_lt_of_le hs2 hb3.size
  have HBl3 := Lib.hid (HBl2.out.trans (hb3.mono HBl2.out.size))
  have HL3 := Lib.hid hL3
  clear hb3 hL3 hL2 hz2 hf2 hx0 hx1 hy0 hy1 hz0 hz1 hf0 hf1
  obtain ⟨z0, z1⟩ := hz3
  obtain ⟨f0, f1⟩ := hf3
  go_wp2
  exact post_ws Tryd.results8 rfl rfl z0 z1 ⟨A3, n3, c3, rfl, HL3.out.set2 z0 z1 _ _, below_set2 HBl3.out (by omega) _ _⟩
theorem gcd_small (w : World) (na nb : Bool) (A B : Option Addr) (n m ca cb a b : Nat) (hA : Lm w w.heap.size A n ca (digs a)) (hB : Lm w w.heap.size B m cb (digs b)) (hv : chkB na (digs a) nb (digs b) = 0) (hn : n ≤ 2) (hm : m ≤ 2) :
    Calls Tryd.prog 8 #[.agg #[.bool na, .slice A n ca], .agg #[.bool nb, .slice B m cb]] w (RW w (mkN false (Nat.gcd a b)) (mkL (Nat.gcd a b)) (mkE (Nat.gcd a b))) :=
  gcd_any w na nb A B n m ca cb a b hA hB hv (by omega) (by omega)
end Go.Proofs.YtaegadicnbmapaaDoor

/- Square roots by Newton's rule, in numbers. -/
namespace Go.Proofs.YtaegadicnbmapaaDoor
theorem sq_le {a b : Nat} : 2 * a * b ≤ a * a + b * b := by
  rcases Nat.le_total a b with h | h
  · obtain ⟨d, rfl⟩ := Nat.le.dest h
    have : (a + d) * (a + d) = a * a + 2 * a * d + d * d := by grind
    have : 2 * a * (a + d) = 2 * (a * a) + 2 * a * d := by grind
    have := Nat.zero_le (d * d)
    omega
  · obtain ⟨d, rfl⟩ := Nat.le.dest h
    have : (b + d) * (b + d) = b * b + 2 * b * d + d * d := by grind
    have : 2 * (b + d) * b = 2 * (b * b) + 2 * b * d := by grind
    have := Nat.zero_le (d * d)
    omega
theorem le_of_sq {d t : Nat} (h : t * t ≤ d * d) : t ≤ d := by
  rcases Nat.lt_or_ge d t with h1 | h1
  · have := Nat.mul_self_lt_mul_self h1
    omega
  · exact h1
/-- One step of Newton's rule: the next number is less than a unit away. -/
theorem newton_core {N Y T p q : Nat} (hY : 0 < p) (h2 : 2 * p = Y) (hTT : T * T ≤ 2 * Y) (hTY : T ≤ Y) (h3 : (Y - T) * (Y - T) < N) (h4 : N < (Y + T) * (Y + T)) (hq : 2 * Y * q ≤ N) (hq' : N < 2 * Y * (q + 1)) :
    (p + q - 1) * (p + q - 1) < N ∧ N < (p + q + 1) * (p + q + 1) := by
  subst h2
  constructor
  · obtain ⟨u, hu⟩ : ∃ u, p + q = u + 1 := ⟨p + q - 1, by omega⟩
    rw [hu, Nat.add_sub_cancel]
    refine Nat.lt_of_not_le fun hN => ?_
    have e1 : 2 * (2 * p) * (p + q) = 2 * p * (2 * p) + 2 * (2 * p) * q := by grind
    rw [hu] at e1
    have e2 : 2 * (2 * p) * (u + 1) = 2 * (2 * p) * u + 2 * (2 * p) := by grind
    have hm : 2 * (2 * p) * u + 2 * (2 * p) ≤ 2 * p * (2 * p) + N := by omega
    clear e1 e2
    rcases Nat.le_total u (2 * p) with h | h
    · obtain ⟨d, hd⟩ := Nat.le.dest h
      have e3 : d * d + 2 * (2 * p) * u = 2 * p * (2 * p) + u * u := by rw [← hd]; grind
      have hT : T ≤ d := le_of_sq (by omega)
      have h5 : u ≤ 2 * p - T := by omega
      have := Nat.mul_le_mul h5 h5
      omega
    · obtain ⟨d, hd⟩ := Nat.le.dest h
      have e3 : d * d + 2 * (2 * p) * u = 2 * p * (2 * p) + u * u := by rw [← hd]; grind
      have hT : T ≤ d := le_of_sq (by omega)
      have e4 : (2 * p + T) * (2 * p + T) = 2 * p * (2 * p) + 2 * (2 * p) * T + T * T := by grind
      have e5 : 2 * (2 * p) * u = 2 * (2 * p * (2 * p)) + 2 * (2 * p) * d := by rw [← hd]; grind
      have h6 : 2 * (2 * p) * T ≤ 2 * (2 * p) * d := Nat.mul_le_mul_left _ hT
      omega
  · refine Nat.lt_of_not_le fun hN => ?_
    have h5 := @sq_le (2 * p) (p + q + 1)
    have e1 : 2 * (2 * p) * (p + q + 1) = 2 * p * (2 * p) + 2 * (2 * p) * (q + 1) := by grind
    omega
/-- r is the root of v, rounded down. -/
def IsRt (v r : Nat) : Prop := r * r ≤ v ∧ v < (r + 1) * (r + 1)
theorem IsRt.uniq {v r s : Nat} (h : IsRt v r) (k : IsRt v s) : r = s := by
  have h1 : r < s + 1 := Nat.lt_of_not_le fun h' => by have := Nat.mul_le_mul h' h'; have := h.1; have := k.2; omega
  have h2 : s < r + 1 := Nat.lt_of_not_le fun h' => by have := Nat.mul_le_mul h' h'; have := k.1; have := h.2; omega
  omega
/-- a is nearer than a unit to the root of the number v without its lowest 2 * (c - e) digits. -/
def RtInv (v c e a : Nat) : Prop := 2 ^ e ≤ a ∧ (a - 1) * (a - 1) < v / 4 ^ (c - e) ∧ v / 4 ^ (c - e) < (a + 1) * (a + 1)
theorem rt_start {v c : Nat} (h1 : 4 ^ c ≤ v) (h2 : v < 4 ^ (c + 1)) : RtInv v c 0 1 := by
  refine ⟨by simp, ?_, ?_⟩
  · simp only [Nat.sub_self, Nat.mul_zero, Nat.sub_zero]
    exact (Nat.le_div_iff_mul_le (Nat.pow_pos (by omega))).2 (by omega)
  · rw [Nat.sub_zero]
    exact (Nat.div_lt_iff_lt_mul (Nat.pow_pos (by omega))).2 (by rw [Nat.pow_succ] at h2; omega)
theorem rt_end {v c a : Nat} (h : RtInv v c c a) : (a - 1) * (a - 1) < v ∧ v < (a + 1) * (a + 1) := by
  have := h.2
  simpa using this
theorem rt_root {v a : Nat} (h0 : 1 ≤ a) (h : (a - 1) * (a - 1) < v ∧ v < (a + 1) * (a + 1)) : IsRt v (if v < a * a then a - 1 else a) := by
  split
  · exact ⟨by omega, by rw [Nat.sub_add_cancel h0]; assumption⟩
  · exact ⟨by omega, h.2⟩
theorem rt_mid {N a k M q : Nat} (hk : 2 ^ k ≤ a) (hlo : (a - 1) * (a - 1) < M) (hhi : M < (a + 1) * (a + 1)) (hM : N / (2 ^ (k + 1) * 2 ^ (k + 1)) = M) (hq : N / (2 * (2 ^ (k + 1) * a)) = q) :
    (2 ^ k * a + q - 1) * (2 ^ k * a + q - 1) < N ∧ N < (2 ^ k * a + q + 1) * (2 ^ k * a + q + 1) := by
  have ha0 : 0 < a := Nat.lt_of_lt_of_le (Nat.pow_pos (by omega)) hk
  have hTp : 0 < 2 ^ (k + 1) * 2 ^ (k + 1) := Nat.mul_pos (Nat.pow_pos (by omega)) (Nat.pow_pos (by omega))
  have hT2 : 2 ^ (k + 1) = 2 * 2 ^ k := by rw [Nat.pow_succ]; omega
  have n1 := Nat.div_mul_le_self N (2 ^ (k + 1) * 2 ^ (k + 1))
  have n2 := Nat.lt_mul_div_succ N hTp
  have hT0 : 0 < 2 ^ (k + 1) := Nat.pow_pos (by omega)
  have hTT : 2 ^ (k + 1) * 2 ^ (k + 1) ≤ 2 * (2 ^ (k + 1) * a) := by
    have := Nat.mul_le_mul_left (2 ^ (k + 1)) hk
    rw [hT2] at this ⊢
    have e : 2 * 2 ^ k * (2 * 2 ^ k) = 2 * (2 * 2 ^ k * 2 ^ k) := by grind
    omega
  have hpY : 2 * (2 ^ k * a) = 2 ^ (k + 1) * a := by rw [hT2]; grind
  have hP : 0 < 2 ^ k * a := Nat.mul_pos (Nat.pow_pos (by omega)) ha0
  rw [hM] at n1 n2
  clear hM hT2
  generalize hT : 2 ^ (k + 1) = T at *
  clear hT
  have hY : 0 < T * a := Nat.mul_pos hT0 ha0
  have q1 := Nat.mul_div_le N (2 * (T * a))
  have q2 := Nat.lt_mul_div_succ N (show 0 < 2 * (T * a) by omega)
  rw [hq] at q1 q2
  refine @newton_core N (T * a) T (2 ^ k * a) q hP hpY hTT (Nat.le_mul_of_pos_right _ ha0) ?_ ?_ q1 q2
  · have e : (T * a - T) * (T * a - T) = (a - 1) * (a - 1) * (T * T) := by
      rw [show T * a - T = T * (a - 1) from by rw [Nat.mul_sub, Nat.mul_one]]; grind
    rw [e]
    have h5 := Nat.mul_lt_mul_of_pos_right hlo hTp
    omega
  · have e : (T * a + T) * (T * a + T) = (a + 1) * (a + 1) * (T * T) := by grind
    rw [e]
    have h5 := Nat.mul_le_mul_right (T * T) (Nat.succ_le_of_lt hhi)
    rw [Nat.mul_comm (T * T)] at n2
    exact Nat.lt_of_lt_of_le n2 h5
theorem rt_step {v c d e a : Nat} (hc : d ≤ c) (h0 : e < d) (hd : d ≤ 2 * e + 1) (h1 : 4 ^ c ≤ v) (h : RtInv v c e a) :
    RtInv v c d (a * 2 ^ (d - e - 1) + v / 2 ^ (2 * c - e - d + 1) / a) := by
  obtain ⟨ha, hlo, hhi⟩ := h
  obtain ⟨k, rfl⟩ : ∃ k, d = e + k + 1 := ⟨d - e - 1, by omega⟩
  have hk : 2 ^ k ≤ a := Nat.le_trans (Nat.pow_le_pow_right (by omega) (by omega)) ha
  rw [show e + k + 1 - e - 1 = k from by omega]
  have hM : v / 4 ^ (c - (e + k + 1)) / (2 ^ (k + 1) * 2 ^ (k + 1)) = v / 4 ^ (c - e) := by
    rw [Nat.div_div_eq_div_mul]
    congr 1
    rw [show (4 : Nat) = 2 ^ 2 from rfl, ← Nat.pow_mul, ← Nat.pow_mul, ← Nat.pow_add, ← Nat.pow_add]
    congr 1
    omega
  have hq : v / 4 ^ (c - (e + k + 1)) / (2 * (2 ^ (k + 1) * a)) = v / 2 ^ (2 * c - e - (e + k + 1) + 1) / a := by
    rw [Nat.div_div_eq_div_mul, Nat.div_div_eq_div_mul]
    congr 1
    rw [show (4 : Nat) = 2 ^ 2 from rfl, ← Nat.pow_mul, show 2 * (2 ^ (k + 1) * a) = 2 ^ (k + 2) * a from by rw [Nat.pow_succ 2 (k + 1)]; grind, ← Nat.mul_assoc, ← Nat.pow_add]
    congr 2
    omega
  have core := rt_mid hk hlo hhi hM hq
  rw [Nat.mul_comm a]
  refine ⟨?_, core⟩
  have h4 : 4 ^ (e + k + 1) ≤ v / 4 ^ (c - (e + k + 1)) := by
    refine (Nat.le_div_iff_mul_le (Nat.pow_pos (by omega))).2 ?_
    rw [← Nat.pow_add, show e + k + 1 + (c - (e + k + 1)) = c from by omega]
    exact h1
  have h5 : 2 ^ (e + k + 1) * 2 ^ (e + k + 1) < (2 ^ k * a + v / 2 ^ (2 * c - e - (e + k + 1) + 1) / a + 1) * (2 ^ k * a + v / 2 ^ (2 * c - e - (e + k + 1) + 1) / a + 1) := by
    rw [show (4 : Nat) = 2 * 2 from rfl, Nat.mul_pow] at h4
    exact Nat.lt_of_le_of_lt h4 core.2
  refine Nat.le_of_lt_succ (Nat.lt_of_not_le fun h6 => ?_)
  have := Nat.mul_le_mul h6 h6
  exact Nat.lt_irrefl _ (Nat.lt_of_lt_of_le h5 this)
end Go.Proofs.YtaegadicnbmapaaDoor

/-
  The contract of bits.Len where the number is less than 65536.
-/
namespace Go.Proofs.YtaegadicnbmapaaDoor
open Go.RowKit
set_option maxRecDepth 100000 in
set_option maxHeartbeats 400000 in
theorem len64_c (w : World) (x : Int) (h0 : 256 ≤ x) (h1 : x < 65536) :
    Calls Tryd.prog 79 #[.int .u64 x] w fun e w' => e = .returned (.int .i64 (Lib.bitLen x.toNat)) ∧ w = w' := by
  have hT : ∀ w, (Instr.index 9 (.string Lib.len8tab) (.int .u8 (x / 256))).run Tryd.prog w = .ok (.int .u8 (Lib.len8 (x / 256))) w := fun w => Lib.run_index_len8tab w 9 .u8 (x / 256) Tryd.underlying9 (by omega) (by omega)
  have hE : Hid (Lib.len8 (x / 256) = Lib.bitLen (x / 256).toNat) := Lib.len8_of (x / 256) (by omega) (by omega)
  have hL := Lib.hid (Lib.bitLen_le8' (x / 256) (by omega) (by omega))
  have hs := Lib.hid (Lib.bitLen_shift8 x.toNat (by omega) (by omega))
  have he : Hid ((x / 256).toNat = x.toNat / 256) := by show _ = _; omega
  go_enter Tryd.func79, Tryd.ntmps79
  go_wp2
  go_ret
  refine ⟨ret_int ?_, rfl⟩
  rw [hE.out]
  have l := hL.out
  have s := hs.out
  rw [he.out] at l ⊢
  unfold wrap64
  omega
set_option maxRecDepth 100000 in
set_option maxHeartbeats 400000 in
theorem len64_d (w : World) (x : Int) (h0 : 0 ≤ x) (h1 : x < 256) :
    Calls Tryd.prog 79 #[.int .u64 x] w fun e w' => e = .returned (.int .i64 (Lib.bitLen x.toNat)) ∧ w = w' := by
  have hT : ∀ w, (Instr.index 9 (.string Lib.len8tab) (.int .u8 (x))).run Tryd.prog w = .ok (.int .u8 (Lib.len8 (x))) w := fun w => Lib.run_index_len8tab w 9 .u8 (x) Tryd.underlying9 (by omega) (by omega)
  have hE : Hid (Lib.len8 (x) = Lib.bitLen (x).toNat) := Lib.len8_of (x) (by omega) (by omega)
  have hL := Lib.hid (Lib.bitLen_le8' (x) (by omega) (by omega))
  go_enter Tryd.func79, Tryd.ntmps79
  go_wp2
  go_ret
  refine ⟨ret_int ?_, rfl⟩
  rw [hE.out]
  have l := hL.out
  unfold wrap64
  omega
theorem len64_any (w : World) (x : Int) (h0 : 0 ≤ x) (h1 : x < 65536) :
    Calls Tryd.prog 79 #[.int .u64 x] w fun e w' => e = .returned (.int .i64 (Lib.bitLen x.toNat)) ∧ w = w' := by
  by_cases c : 256 ≤ x
  · exact len64_c w x c (by omega)
  exact len64_d w x h0 (by omega)
set_option maxRecDepth 100000 in
set_option maxHeartbeats 400000 in
theorem len_any (w : World) (x : Int) (h0 : 0 ≤ x) (h1 : x < 65536) :
    Calls Tryd.prog 47 #[.int .u64 x] w fun e w' => e = .returned (.int .i64 (Lib.bitLen x.toNat)) ∧ w = w' := by
  go_enter Tryd.func47, Tryd.ntmps47
  go_wp2_with (go_at_call 79; refine (len64_any _ _ (by omega) (by omega)).mono ?_; rintro e w' ⟨rfl, rfl⟩)
  go_ret
  exact ⟨rfl, rfl⟩
end Go.Proofs.YtaegadicnbmapaaDoor

/- wide.root: the square root, rounded down. -/
namespace Go.Proofs.YtaegadicnbmapaaDoor
open Go.RowKit

theorem rt_le {v c e x : Nat} (h : RtInv v c e x) : x ≤ v := by
  have h1 := h.2.1
  have h2 : v / 4 ^ (c - e) ≤ v := Nat.div_le_self _ _
  refine Nat.le_of_not_lt fun h3 => ?_
  have h4 := Nat.mul_le_mul (show v ≤ x - 1 by omega) (show v ≤ x - 1 by omega)
  rcases Nat.eq_zero_or_pos v with h5 | h5
  · subst h5; omega
  · have h6 := Nat.mul_le_mul_left v h5
    omega
theorem rt_pos {v c e x : Nat} (h : RtInv v c e x) : 1 ≤ x := Nat.le_trans (Nat.pow_pos (by omega)) h.1
/-- A call returns the root of v. -/
def RR (w : World) (v : Nat) (e : Ending) (w' : World) : Prop := ∃ r A c, IsRt v r ∧ e = .returned (.slice A (digs r).length c) ∧ Lm w' w'.heap.size A (digs r).length c (digs r) ∧ Below w.heap.size w w'

set_option maxRecDepth 100000 in
set_option maxHeartbeats 2000000 in
theorem root_any (w : World) (A : Option Addr) (n c v : Nat) (hA : Lm w w.heap.size A n c (digs v)) (hv : 0 < v) (hn : n ≤ 4096) :
    Calls Tryd.prog 50 #[.slice A n c] w (RR w v) := by
  have hl := hA.len
  obtain ⟨hL0, hL1, hL2⟩ := lenS_pos hv
  have hL9 : lenS (digs v) ≤ 32 * n := by
    refine lenS_le.2 ?_
    have := digs_len.1 (Nat.le_of_eq hl)
    rwa [Nat.pow_mul]
  obtain ⟨h, hh⟩ : ∃ h, (lenS (digs v) - 1) / 2 = h := ⟨_, rfl⟩
  have h4lo : 4 ^ h ≤ v := by
    rw [show (4 : Nat) = 2 ^ 2 from rfl, ← Nat.pow_mul]
    exact Nat.le_trans (Nat.pow_le_pow_right (by omega) (by omega)) hL1
  have h4hi : v < 4 ^ (h + 1) := by
    rw [show (4 : Nat) = 2 ^ 2 from rfl, ← Nat.pow_mul]
    exact Nat.lt_of_lt_of_le hL2 (Nat.pow_le_pow_right (by omega) (by omega))
  have hh1 : 2 * h + 1 ≤ lenS (digs v) := by omega
  have hh2 : lenS (digs v) ≤ 2 * h + 2 := by omega
  have hh9 : h < 65536 := by omega
  have HLO := Lib.hid h4lo
  have HHI := Lib.hid h4hi
  have hbl : Lib.bitLen h ≤ 16 := Lib.bitLen_le h 16 (by omega) (by omega)
  have HA := Lib.hid hA
  have HN := Lib.hid hl
  have hcA := hA.cap
  have hxA := hA.max
  obtain ⟨L, hLe⟩ : ∃ L, lenS (digs v) = L := ⟨_, rfl⟩
  have HLe := Lib.hid hLe
  rw [hLe] at hL0 hL9 hh1 hh2
  clear hA hl hL1 hL2 hh h4lo h4hi hLe
  go_enter Tryd.func50, Tryd.ntmps50
  go_wp2_with fail
  refine (length_any _ _ _ _ _ HA.out (by omega)).mono ?_
  rintro e w1 ⟨rfl, rfl⟩
  rw [HLe.out]
  go_wp2_with fail
  rw [show ((L : Int) - 1) / 2 = (h : Int) from by omega]
  refine (len_any _ _ (by omega) (by omega)).mono ?_
  rintro e w1 ⟨rfl, rfl⟩
  rw [show ((h : Int)).toNat = h from by omega]
  have HB2 : Hid (h < 2 ^ Lib.bitLen h) := by
    show _ < _
    rcases Nat.eq_zero_or_pos h with h0 | h0
    · subst h0; exact Nat.pow_pos (by omega)
    · exact (bitLen_bounds (by omega) (by omega)).2.2
  have HB1 : Hid (∀ k, k < Lib.bitLen h → 2 ^ k ≤ h) := by
    show ∀ k, _ → _
    intro k hk
    rcases Nat.eq_zero_or_pos h with h0 | h0
    · subst h0; rw [show Lib.bitLen 0 = 0 from rfl] at hk; omega
    · exact Nat.le_trans (Nat.pow_le_pow_right (by omega) (by omega)) (bitLen_bounds (by omega) (by omega)).2.1
  generalize Lib.bitLen h = bl at *
  go_wp2
  go_loopw [4, 5, 6] (fun a d i wr => ∃ (k x : Nat) (A' : Option Addr) (c' : Nat), k ≤ bl ∧ i = .int .i64 k ∧ d = .int .i64 (h / 2 ^ k : Nat) ∧ a = .slice A' (digs x).length c' ∧ Lm wr wr.heap.size A' (digs x).length c' (digs x) ∧ RtInv v h (h / 2 ^ k) x ∧ Below w.heap.size w wr)
    (fun _ _ i _ => (intOf i).toNat)
  case atStart =>
    refine ⟨bl, 1, some ⟨w.heap.size, 0, none⟩, 1, Nat.le_refl _, rfl, ?_, rfl, Lm.one w 1 1 rfl (by omega), ?_, (Below.refl _ _).alloc (Nat.le_refl _) _⟩
    · rw [Nat.div_eq_of_lt HB2.out]; rfl
    · rw [Nat.div_eq_of_lt HB2.out]; exact rt_start HLO.out HHI.out
  case round =>
    obtain ⟨k, x, A1, c1, hk, rfl, rfl, rfl, hX, hI, hb⟩ := hrel
    have HX := Lib.hid hX
    have HI := Lib.hid hI
    have HBl := Lib.hid hb
    have hxc := hX.cap
    have hxm := hX.max
    have hxp := rt_pos hI
    have hxl : (digs x).length ≤ n := by rw [← HN.out]; exact digs_mono (rt_le hI)
    have HA1 := Lib.hid ((HA.out.below hb).mono hb.size)
    clear hX hI hb
    rcases k with _ | k
    · have HF := Lib.hid (rt_root (rt_pos HI.out) (rt_end (by simpa using HI.out)))
      have HXv : Hid (val (digs x) * val (digs x) = x * x) := by show _ = _; rw [digs_val]
      go_wp2_with fail
      refine (product_any wr A1 A1 _ _ c1 c1 (digs x) (digs x) (x * x) HX.out HX.out (by omega) (by omega) HXv.out).mono ?_
      rintro e w1 ⟨A2, c2, rfl, hL2, hb2⟩
      have HX2 := Lib.hid (HX.out.via hb2)
      have HA2 := Lib.hid (HA1.out.via hb2)
      have HBl2 := Lib.hid (HBl.out.trans (hb2.mono HBl.out.size))
      have HL2 := Lib.hid hL2
      clear hL2 hb2
      go_wp2_with fail
      refine (compare_any _ _ _ _ _ _ (digs (x * x)) (digs v) _ HL2.out HA2.out).mono ?_
      rintro e w2 ⟨he, hb3⟩
      rw [cmpL_norm (digs_good _) (digs_good _) (digs_norm _) (digs_norm _), digs_val, digs_val] at he
      have HX3 := Lib.hid (HX2.out.via hb3)
      have HBl3 := Lib.hid (HBl2.out.trans (hb3.mono HBl2.out.size))
      clear hb3
      by_cases hlt : v < x * x
      · rw [cmpN_gt hlt] at he
        subst he
        have HF2 : Hid (IsRt v (x - 1)) := by have := HF.out; rwa [if_pos hlt] at this
        have hx1 : 1 ≤ (digs x).length := digs_pos.2 hxp
        clear hlt
        go_wp2_with fail
        refine (difference_any _ _ _ _ _ _ _ (digs x) [1] (x - 1) (HX3.out.box _) (Lm.one w2 1 1 rfl (by omega)) hx1 (by omega) (by rw [digs_val, val_one]; exact hxp) (by rw [digs_val, val_one])).mono ?_
        rintro e w3 ⟨A3, c3, rfl, hL3, hb4⟩
        have HBl4 := Lib.hid (HBl3.out.trans (bbox hb4 |>.mono HBl3.out.size))
        have HL3 := Lib.hid hL3
        clear hL3 hb4
        go_wp2
        go_ret
        exact ⟨_, _, _, HF2.out, rfl, HL3.out, HBl4.out⟩
      · have HF2 : Hid (IsRt v x) := by have := HF.out; rwa [if_neg hlt] at this
        obtain ⟨z, hz, HC⟩ : ∃ z : Int, z ≤ 0 ∧ Hid (cmpN (x * x) v = z) := ⟨_, by unfold cmpN; split; omega; split <;> omega, rfl⟩
        rw [HC.out] at he
        subst he
        clear hlt
        go_wp2
        go_ret
        exact ⟨_, _, _, HF2.out, rfl, HX3.out, HBl3.out⟩
    · obtain ⟨d, hd⟩ : ∃ d, h / 2 ^ k = d := ⟨_, rfl⟩
      obtain ⟨ee, he⟩ : ∃ ee, h / 2 ^ (k + 1) = ee := ⟨_, rfl⟩
      have hde : d / 2 = ee := by rw [← hd, ← he, Nat.pow_succ, Nat.div_div_eq_div_mul]
      have hdh : d ≤ h := by rw [← hd]; exact Nat.div_le_self _ _
      have hd1 : 1 ≤ d := by rw [← hd]; exact (Nat.le_div_iff_mul_le (Nat.pow_pos (by omega))).2 (by rw [Nat.one_mul]; exact HB1.out k (by omega))
      have hed : ee < d := by omega
      have hd2 : d ≤ 2 * ee + 1 := by omega
      have hee : 1 ≤ ee ∨ ee = 0 ∧ d = 1 := by omega
      have hk9 : k < 16 := by omega
      rw [he] at HI ⊢
      have HS := Lib.hid (rt_step hdh hed hd2 HLO.out HI.out)
      have HD := Lib.hid hd
      have hdq : (h : Int) / 2 ^ k = (d : Int) := by rw [cast_shr, hd]
      clear hd he
      go_wp2_with fail
      rw [show (2 * (h : Int) - (ee : Int) - (d : Int) + 1) = ((2 * h - ee - d + 1 : Nat) : Int) from by omega]
      refine (right_any wr A n c (2 * h - ee - d + 1) v _ HA1.out (by omega) (by omega) rfl).mono ?_
      rintro e w1 ⟨A2, c2, rfl, hL2, hb2⟩
      have HX2 := Lib.hid (HX.out.via hb2)
      have HBl2 := Lib.hid (HBl.out.trans (hb2.mono HBl.out.size))
      have HL2 := Lib.hid hL2
      clear hL2 hb2
      go_wp2_with fail
      refine (divide_any w1 A2 A1 _ _ c2 c1 _ x HL2.out HX2.out (by omega) (Nat.le_trans (digs_mono (Nat.div_le_self _ _)) (by rw [HN.out]; omega))).mono ?_
      rintro e w2 ⟨Q, cq, R, cr, rfl, hQ, hR, hb3⟩
      have HX3 := Lib.hid (HX2.out.via hb3)
      have HBl3 := Lib.hid (HBl2.out.trans (hb3.mono HBl2.out.size))
      have HQ := Lib.hid hQ
      have hqc := hQ.cap
      have hqm := hQ.max
      clear hQ hR hb3
      go_wp2_with fail
      rw [show ((d : Int) - (ee : Int) - 1) = ((d - ee - 1 : Nat) : Int) from by omega]
      refine (left_any w2 A1 _ c1 (d - ee - 1) (digs x) (x * 2 ^ (d - ee - 1)) HX3.out (by omega) (by omega) (by rw [digs_val])).mono ?_
      rintro e w3 ⟨A3, c3, rfl, hL3, hb4⟩
      have HQ4 := Lib.hid (HQ.out.via hb4)
      have HBl4 := Lib.hid (HBl3.out.trans (hb4.mono HBl3.out.size))
      have HL4 := Lib.hid hL3
      clear hL3 hb4
      have hyl : (digs (x * 2 ^ (d - ee - 1))).length ≤ n := by rw [← HN.out]; exact digs_mono (Nat.le_trans (Nat.le_add_right _ _) (rt_le HS.out))
      have hql : (digs (v / 2 ^ (2 * h - ee - d + 1) / x)).length ≤ n := by rw [← HN.out]; exact digs_mono (Nat.le_trans (Nat.div_le_self _ _) (Nat.div_le_self _ _))
      go_wp2_with fail
      refine (sum_any w3 A3 Q _ _ c3 cq _ _ (x * 2 ^ (d - ee - 1) + v / 2 ^ (2 * h - ee - d + 1) / x) HL4.out HQ4.out (by omega) (by omega) (by rw [digs_val, digs_val])).mono ?_
      rintro e w4 ⟨A4, c4, rfl, hL5, hb5⟩
      have HBl5 := Lib.hid (HBl4.out.trans (hb5.mono HBl4.out.size))
      have HL5 := Lib.hid hL5
      clear hL5 hb5
      go_wp2
      go_roundw
      case rel => exact ⟨k, _, A4, c4, by omega, by first | rfl | go_num, by rw [HD.out], rfl, HL5.out, by rw [HD.out]; exact HS.out, HBl5.out⟩
      case measure => simp [intOf]
end Go.Proofs.YtaegadicnbmapaaDoor

/- wide.Sqrt. -/
namespace Go.Proofs.YtaegadicnbmapaaDoor
open Go.RowKit

set_option maxRecDepth 100000 in
set_option maxHeartbeats 400000 in
theorem sqrt_bad (w : World) (neg : Bool) (A : Option Addr) (n c : Nat) (xs : List Nat) (h : Lm w w.heap.size A n c xs) (hc : chk neg xs = 8) :
    Calls Tryd.prog 14 #[.agg #[.bool neg, .slice A n c]] w (RW w false [] 8) := by
  have HH := Lib.hid h
  have HC := Lib.hid hc
  clear hc
  go_enter Tryd.func14, Tryd.ntmps14
  go_wp2_with (go_at_call 21; refine (check_bad _ _ _ _ _ _ ((HH.out.box _).box _) HC.out).mono ?_; rintro e w1 ⟨rfl, hb1⟩; have ⟨hx0, hx1, hy0, hy1, hf0, hf1, hsz⟩ := box2 hb1)
  exact post_ws Tryd.results14 rfl rfl hy0 hy1 ⟨none, 0, 0, rfl, Lm.nil _ _, below_set2 (bbox (bbox hb1)) (by omega) _ _⟩
set_option maxRecDepth 100000 in
set_option maxHeartbeats 400000 in
theorem sqrt_neg (w : World) (A : Option Addr) (n c : Nat) (xs : List Nat) (h : Lm w w.heap.size A n c xs) (hc : chk true xs = 0) :
    Calls Tryd.prog 14 #[.agg #[.bool true, .slice A n c]] w (RW w false [] 2) := by
  have HH := Lib.hid h
  have HC := Lib.hid hc
  clear hc
  go_enter Tryd.func14, Tryd.ntmps14
  go_wp2_with (go_at_call 21; refine (check_ok _ _ _ _ _ _ ((HH.out.box _).box _) HC.out).mono ?_; rintro e w1 ⟨rfl, hb1⟩; have ⟨hx0, hx1, hy0, hy1, hf0, hf1, hsz⟩ := box2 hb1)
  exact post_ws Tryd.results14 rfl rfl hy0 hy1 ⟨none, 0, 0, rfl, Lm.nil _ _, below_set2 (bbox (bbox hb1)) (by omega) _ _⟩
set_option maxRecDepth 100000 in
set_option maxHeartbeats 400000 in
theorem sqrt_zero (w : World) (A : Option Addr) (c : Nat) (h : Lm w w.heap.size A 0 c []) :
    Calls Tryd.prog 14 #[.agg #[.bool false, .slice A 0 c]] w (RW w false [] 0) := by
  have HH := Lib.hid h
  have HC : Hid (chk false [] = 0) := by show _ = _; decide
  go_enter Tryd.func14, Tryd.ntmps14
  go_wp2_with (go_at_call 21; refine (check_ok _ _ _ _ _ _ ((HH.out.box _).box _) HC.out).mono ?_; rintro e w1 ⟨rfl, hb1⟩; have ⟨hx0, hx1, hy0, hy1, hf0, hf1, hsz⟩ := box2 hb1)
  exact post_ws Tryd.results14 rfl rfl hy0 hy1 ⟨none, 0, 0, rfl, Lm.nil _ _, below_set2 (bbox (bbox hb1)) (by omega) _ _⟩

/-- A call returns the root of v as a number. -/
def RQ (w : World) (v : Nat) (e : Ending) (w' : World) : Prop := ∃ r, IsRt v r ∧ RW w false (digs r) 0 e w'
theorem rt_zero : IsRt 0 0 := ⟨Nat.le_refl _, by decide⟩
theorem IsRt.le {v r : Nat} (h : IsRt v r) : r ≤ v := by
  rcases Nat.eq_zero_or_pos r with h0 | h0
  · omega
  · exact Nat.le_trans (Nat.le_mul_of_pos_left r h0) h.1

set_option maxRecDepth 100000 in
set_option maxHeartbeats 1000000 in
theorem sqrt_pos (w : World) (A : Option Addr) (n c v : Nat) (h : Lm w w.heap.size A n c (digs v)) (hc : chk false (digs v) = 0) (hv : 0 < v) :
    Calls Tryd.prog 14 #[.agg #[.bool false, .slice A n c]] w (RQ w v) := by
  have hl := (chk_ok.1 hc).1
  have HL4 := Lib.hid hl
  have hln := h.len
  rw [hln] at hl
  have hn0 : 0 < n := by rw [← hln, digs_pos]; exact hv
  have HH := Lib.hid h
  have HC := Lib.hid hc
  have hcc := h.cap
  have hxx := h.max
  have hz : ((n : Int) == 0) = false := by simp; omega
  clear hc h hln
  go_enter Tryd.func14, Tryd.ntmps14
  go_wp2_with fail
  refine (check_ok _ _ _ _ _ _ ((HH.out.box _).box _) HC.out).mono ?_
  rintro e w1 ⟨rfl, hb1⟩
  have ⟨hx0, hx1, hy0, hy1, hf0, hf1, hsz⟩ := box2 hb1
  have HL := Lib.hid (((HH.out.box _).box _).via hb1)
  have HB1 := Lib.hid hb1
  clear hb1
  go_wp2_with fail
  refine (root_any w1 A n c v HL.out hv hl).mono ?_
  rintro e w2 ⟨r, A2, c2, hr, rfl, hL2, hb2⟩
  have hky2 := keep2 hb2 hsz ⟨hy0, hy1⟩
  have hkf2 := keepF hb2 hsz ⟨hf0, hf1⟩
  have hs2 := Nat.lt_of_lt_of_le hsz hb2.size
  have HR := Lib.hid hr
  clear hr
  go_wp2_with fail
  refine (made_any _ _ _ _ _ r hL2).mono ?_
  rintro e w3 ⟨A3, n3, c3, rfl, hL3, hb3⟩
  have hky3 := keep2 hb3 hs2 hky2
  have hkf3 := keepF hb3 hs2 hkf2
  have hs3 := Nat.lt_of_lt_of_le hs2 hb3.size
  have HB3 := Lib.hid ((bbox (bbox HB1.out)).trans ((hb2.trans (hb3.mono hb2.size)).mono (by have := HB1.out.size; simp only [World.size_alloc] at this; omega)))
  have HL3 := Lib.hid hL3
  have hlr : (digs r).length ≤ 4096 := Nat.le_trans (digs_mono HR.out.le) HL4.out
  have E1 : Hid (mkN false r = false) := by show _ = _; unfold mkN; simp
  have E2 : Hid (mkL r = digs r) := by show _ = _; unfold mkL; rw [if_pos hlr]
  have E3 : Hid (mkE r = 0) := by show _ = _; unfold mkE; rw [if_pos hlr]
  clear hb2 hb3 hL2 hL3 hky2 hkf2 hx0 hx1 hy0 hy1 hf0 hf1
  obtain ⟨k0, k1⟩ := hky3
  obtain ⟨f0, f1⟩ := hkf3
  rw [E1.out, E3.out]
  rw [E2.out] at HL3
  go_wp2
  exact post_ws Tryd.results14 rfl rfl k0 k1 ⟨r, HR.out, A3, n3, c3, rfl, HL3.out.set2 k0 k1 _ _, below_set2 HB3.out (by omega) _ _⟩

theorem sqrt_ok (w : World) (A : Option Addr) (n c v : Nat) (h : Lm w w.heap.size A n c (digs v)) (hc : chk false (digs v) = 0) :
    Calls Tryd.prog 14 #[.agg #[.bool false, .slice A n c]] w (RQ w v) := by
  rcases Nat.eq_zero_or_pos v with h0 | h0
  · subst h0
    obtain rfl : n = 0 := h.len.symm
    exact (sqrt_zero w A c h).mono fun _ _ hr => ⟨0, rt_zero, hr⟩
  · exact sqrt_pos w A n c v h hc h0
end Go.Proofs.YtaegadicnbmapaaDoor

/- Decimal texts of numbers, in groups of nine digits. -/
namespace Go.Proofs.YtaegadicnbmapaaDoor

/-- A number's lowest k decimal digits. -/
def padk : Nat → Nat → List UInt8
  | 0, _ => []
  | k + 1, x => padk k (x / 10) ++ [UInt8.ofNat (48 + x % 10)]
theorem padk_len (k x : Nat) : (padk k x).length = k := by
  induction k generalizing x with
  | zero => rfl
  | succ k ih => simp [padk, ih]
theorem dec_small {u : Nat} (h : u < 10) : Lib.decDigits u = [UInt8.ofNat (48 + u)] := Lib.decDigits_one h
theorem dec_big {u : Nat} (h : 10 ≤ u) : Lib.decDigits u = Lib.decDigits (u / 10) ++ [UInt8.ofNat (48 + u % 10)] := by
  rw [Lib.decDigits, dif_neg (by omega)]
theorem dec_pad (k : Nat) : ∀ (q x : Nat), 0 < q → x < 10 ^ k → Lib.decDigits (q * 10 ^ k + x) = Lib.decDigits q ++ padk k x := by
  induction k with
  | zero => intro q x hq hx; rw [Nat.pow_zero] at hx; obtain rfl : x = 0 := by omega
            simp [padk]
  | succ k ih =>
    intro q x hq hx
    have hp : 0 < 10 ^ k := Nat.pow_pos (by omega)
    rw [Nat.pow_succ] at hx ⊢
    have h1 : 10 ≤ q * (10 ^ k * 10) + x := by
      have := Nat.mul_le_mul hq (show 1 * 10 ≤ 10 ^ k * 10 by omega)
      omega
    have e1 : q * (10 ^ k * 10) = 10 * (q * 10 ^ k) := by rw [← Nat.mul_assoc, Nat.mul_comm]
    rw [dec_big h1, padk, ← List.append_assoc, ← ih q (x / 10) hq (by omega)]
    rw [e1]
    congr 2
    · congr 1; omega
    · congr 2; omega
/-- The groups of nine digits of a number, the lowest one first. -/
def gB (v : Nat) : List Nat := if h : v = 0 then [] else v % 1000000000 :: gB (v / 1000000000)
termination_by v
decreasing_by omega
theorem gB_zero : gB 0 = [] := by rw [gB]; rfl
theorem gB_pos {v : Nat} (h : 0 < v) : gB v = v % 1000000000 :: gB (v / 1000000000) := by rw [gB, dif_neg (by omega)]
theorem gB_lt : ∀ (v : Nat), ∀ x ∈ gB v, x < 1000000000 := by
  intro v
  induction v using Nat.strongRecOn with
  | _ v ih =>
    rcases Nat.eq_zero_or_pos v with h | h
    · subst h; rw [gB_zero]; intro x hx; cases hx
    · rw [gB_pos h]
      intro x hx
      rcases List.mem_cons.1 hx with rfl | hx
      · omega
      · exact ih _ (by omega) x hx
theorem gB_good (v : Nat) : Good (gB v) := fun x hx => by have := gB_lt v x hx; omega
theorem gB_drop : ∀ (v k : Nat), k ≤ (gB v).length → (gB v).drop k = gB (v / 1000000000 ^ k) := by
  intro v k
  induction k generalizing v with
  | zero => intro _; simp
  | succ k ih =>
    intro hk
    rcases Nat.eq_zero_or_pos v with h | h
    · subst h; rw [gB_zero] at hk; simp at hk
    · rw [gB_pos h] at hk ⊢
      rw [List.drop_succ_cons, ih _ (by simpa using hk), Nat.div_div_eq_div_mul, Nat.pow_succ, Nat.mul_comm]
theorem gB_get {v k : Nat} (hk : k < (gB v).length) : (gB v)[k]?.getD 0 = v / 1000000000 ^ k % 1000000000 ∧ 0 < v / 1000000000 ^ k := by
  have h1 := gB_drop v k (by omega)
  have h2 := List.drop_eq_getElem_cons hk
  have h3 : 0 < v / 1000000000 ^ k := by
    refine Nat.pos_of_ne_zero fun e => ?_
    rw [e, gB_zero, h2] at h1
    cases h1
  rw [gB_pos h3, h2] at h1
  injection h1 with h4 _
  exact ⟨by rw [List.getElem?_eq_getElem hk]; exact h4, h3⟩
theorem gB_len_pos {v : Nat} (h : 0 < v) : 0 < (gB v).length := by rw [gB_pos h]; simp
theorem gB_top {v : Nat} (h : 0 < v) : v / 1000000000 ^ ((gB v).length) = 0 ∧ v / 1000000000 ^ ((gB v).length - 1) < 1000000000 := by
  have h1 := gB_drop v _ (Nat.le_refl _)
  rw [List.drop_length] at h1
  have h2 : v / 1000000000 ^ ((gB v).length) = 0 := by
    refine Nat.eq_zero_of_not_pos fun h3 => ?_
    rw [gB_pos h3] at h1
    cases h1
  refine ⟨h2, ?_⟩
  have h4 := gB_len_pos h
  rw [show (gB v).length = ((gB v).length - 1) + 1 from by omega, Nat.pow_succ, ← Nat.div_div_eq_div_mul] at h2
  omega
/-- The text grows by a group. -/
theorem dec_step {v k : Nat} (hk : 0 < v / 1000000000 ^ (k + 1)) : Lib.decDigits (v / 1000000000 ^ k) = Lib.decDigits (v / 1000000000 ^ (k + 1)) ++ padk 9 (v / 1000000000 ^ k % 1000000000) := by
  rw [Nat.pow_succ, ← Nat.div_div_eq_div_mul] at hk ⊢
  generalize v / 1000000000 ^ k = u at *
  have h := dec_pad 9 (u / 1000000000) (u % 1000000000) hk (by omega)
  rw [← h]
  congr 1
  omega
/-- The text of a number: a sign and its digits. -/
def txt (neg : Bool) (v : Nat) : List UInt8 := (if neg = true then [45] else []) ++ Lib.decDigits v
theorem padk_pre {x j : Nat} (hj : j < 9) : padk (j + 1) (x / 10 ^ (8 - j)) = padk j (x / 10 ^ (9 - j)) ++ [UInt8.ofNat (48 + x / 10 ^ (8 - j) % 10)] := by
  rw [padk, Nat.div_div_eq_div_mul, ← Nat.pow_succ, show (8 - j).succ = 9 - j from by omega]
theorem gB_len_le {v n : Nat} (h : v < 4294967296 ^ n) : (gB v).length ≤ 2 * n + 0 := by
  refine Nat.le_of_not_lt fun hk => ?_
  have h1 := (gB_get (k := 2 * n) (by omega)).2
  have h2 : (4294967296 : Nat) ^ n ≤ 1000000000 ^ (2 * n) := by
    rw [Nat.pow_mul]
    exact Nat.pow_le_pow_left (by decide) n
  rw [Nat.div_eq_of_lt (by omega)] at h1
  omega
/-- The text that rounds over the indices ks have made. -/
def txP (gs ks : List Nat) : List UInt8 := ks.foldl (fun t k => t ++ (if k < gs.length - 1 then padk 9 (gs[k]?.getD 0) else Lib.decDigits (gs[k]?.getD 0))) []
theorem txP_snoc (gs ks : List Nat) (k : Nat) : txP gs (ks ++ [k]) = txP gs ks ++ (if k < gs.length - 1 then padk 9 (gs[k]?.getD 0) else Lib.decDigits (gs[k]?.getD 0)) := by
  unfold txP; rw [List.foldl_append]; rfl
theorem dec_len (k : Nat) : ∀ (u : Nat), u < 10 ^ (k + 1) → (Lib.decDigits u).length ≤ k + 1 := by
  induction k with
  | zero => intro u h; rw [dec_small (by simpa using h)]; simp
  | succ k ih =>
    intro u h
    rcases Nat.lt_or_ge u 10 with h1 | h1
    · rw [dec_small h1]; simp
    · rw [dec_big h1, List.length_append]
      have := ih (u / 10) (by rw [Nat.pow_succ] at h; omega)
      simp only [List.length_cons, List.length_nil]
      omega
theorem txP_len {gs : List Nat} (hg : Good gs) (ks : List Nat) : (txP gs ks).length ≤ 10 * ks.length := by
  have H : ∀ (ks : List Nat) (n : Nat), ks.length = n → (txP gs ks).length ≤ 10 * n := by
    intro ks n
    induction n generalizing ks with
    | zero => intro h; rw [List.eq_nil_of_length_eq_zero h]; exact Nat.le_refl _
    | succ n ih =>
      intro h
      have hne : ks ≠ [] := fun e => by rw [e] at h; cases h
      rw [← List.dropLast_concat_getLast hne, txP_snoc, List.length_append]
      have h1 := ih ks.dropLast (by rw [List.length_dropLast]; omega)
      split
      · rw [padk_len]; omega
      · have := dec_len 9 (gs[ks.getLast hne]?.getD 0) (by have := hg.get (ks.getLast hne); omega)
        omega
  exact H ks _ rfl
end Go.Proofs.YtaegadicnbmapaaDoor

/- Bytes of the call's own, grown by append; wide.appendPadded. -/
namespace Go.Proofs.YtaegadicnbmapaaDoor
open Go.RowKit

/-- A slice of bytes of the call's own making. -/
def Bw (w : World) (B : Nat) (v : Value) (ts : List UInt8) : Prop := w.ownsRow B 5 1 v ts.length (Lib.byteCells ts)
theorem u8_info : (Tryd.prog.info? 5).map (fun i => (i.zero, i.size, i.bytes)) = some (some (.int .u8 0), 1, 1) := by kernel_rfl
theorem slice_u8 : Tryd.prog.underlying 78 = some (.slice 5) := Tryd.underlying78
theorem Bw.eq {w : World} {B : Nat} {v : Value} {ts us : List UInt8} (h : Bw w B v ts) (e : ts = us) : Bw w B v us := e ▸ h
theorem wpList_append_u8 (w : World) {ops : Array Oper} {rest : List Oper} {o : Oper} {a : Act} {Q : Exit → Act → World → Prop} (hgd : o.guard = none) (s x : Operand)
    (ho : o.op = .call { callee := .builtin .append, args := #[s, x], argTypes := #[78, 78] })
    (B : Nat) (v : Value) (ts : List UInt8) (hs : a.eval s = v) (hown : Bw w B v ts) (E : Int) (y : UInt8) (c : Nat) (hE : E = (y.toNat : Int)) (hlen : ts.length < 4000000000) (hB : B ≤ w.heap.size)
    (hx : a.eval x = .slice (some ⟨w.heap.size, 0, none⟩) 1 c)
    (h : ∀ v' w', Bw w' B v' (ts ++ [y]) → Below B w w' → Lib.OthersKept 5 none w w' → wpList Tryd.prog ops Q rest (a.put o.dst v') w') :
    wpList Tryd.prog ops Q (o :: rest) a (w.alloc (.cells #[.int .u8 E] 5)) := by
  subst hE
  obtain ⟨i0, hi0, hz0, hz1, hz2⟩ := info_parts u8_info
  refine wpList_append_own (w.alloc (.cells #[.int .u8 (y.toNat : Int)] 5)) hgd s x 78 ho B 5 i0 (.int .u8 0) 1 1 slice_u8 hi0 hz0 hz1 hz2 rfl (by decide) v ts.length _ hs (World.ownsRow.alloc hown _) ⟨w.heap.size, 0, none⟩ 1 c [.int .u8 (y.toNat : Int)] hx rfl (cell_one_new w _ _) (by simp [Value.oneCell']) (by simp only [maxLen]; omega) (by omega) (by simp; omega) ?_
  intro v' w' ho' hg _
  refine h v' w' ?_ (((Below.refl B w).alloc hB _).grown hg (by simp; omega) (fun b e => (World.ownsRow.lt hown b e).1)) (((Lib.OthersKept.refl _ _ _).alloc _).grown hg (Lib.ownsRow_kind (World.ownsRow.alloc hown _)))
  have e : Lib.byteCells (ts ++ [y]) = Lib.byteCells ts ++ [.int .u8 (y.toNat : Int)] := by unfold Lib.byteCells; rw [List.map_append]; rfl
  unfold Bw
  rw [e, List.length_append]
  exact ho'

set_option maxRecDepth 100000 in
set_option maxHeartbeats 1000000 in
theorem pad_any (w : World) (B : Nat) (v : Value) (ts : List UInt8) (x : Nat) (hown : Bw w B v ts) (hB : B ≤ w.heap.size) (hx : x < 4294967296) (hlen : ts.length ≤ 1000000000) :
    Calls Tryd.prog 59 #[v, .int .u32 (x : Int)] w fun e w' => ∃ v', e = .returned v' ∧ Bw w' B v' (ts ++ padk 9 x) ∧ Below B w w' ∧ Lib.OthersKept 5 none w w' := by
  have HO := Lib.hid hown
  clear hown
  go_enter Tryd.func59, Tryd.ntmps59
  go_wp2
  go_loopw [0, 5] (fun u d wr => ∃ j : Nat, j ≤ 9 ∧ d = .int .u32 (100000000 / 10 ^ j : Nat) ∧ Bw wr B u (ts ++ padk j (x / 10 ^ (9 - j))) ∧ Below B w wr ∧ Lib.OthersKept 5 none w wr) (fun _ d _ => (intOf d).toNat)
  case atStart => exact ⟨0, by omega, rfl, by rw [show padk 0 (x / 10 ^ (9 - 0)) = [] from rfl, List.append_nil]; exact HO.out, Below.refl _ _, Lib.OthersKept.refl _ _ _⟩
  case round =>
    obtain ⟨j, hj, rfl, hu, hb, hk⟩ := hrel
    have HU := Lib.hid hu
    have HBl := Lib.hid hb
    have HK := Lib.hid hk
    have hs := hb.size
    clear hu hb hk
    by_cases h9 : j = 9
    · subst h9
      go_wp2
      go_ret
      exact ⟨_, rfl, by have e := HU.out; rw [show x / 10 ^ (9 - 9) = x from by simp] at e; exact e, HBl.out, HK.out⟩
    · have hpl := padk_len j (x / 10 ^ (9 - j))
      have HP := Lib.hid (padk_pre (x := x) (j := j) (by omega))
      obtain ⟨U, hU⟩ : ∃ U, 100000000 / 10 ^ j = U := ⟨_, rfl⟩
      have hUe : U = 10 ^ (8 - j) := by
        rw [← hU, show (100000000 : Nat) = 10 ^ 8 from rfl, Nat.pow_div (by omega) (by omega)]
      have hU1 : 1 ≤ U := by rw [hUe]; exact Nat.pow_pos (by omega)
      have hU9 : U ≤ 100000000 := by rw [← hU]; exact Nat.div_le_self _ _
      have HUe : Hid (x / U = x / 10 ^ (8 - j)) := by show _ = _; rw [hUe]
      have HUn : Hid (100000000 / 10 ^ (j + 1) = U / 10) := by show _ = _; rw [Nat.pow_succ, ← Nat.div_div_eq_div_mul, hU]
      rw [hU]
      clear hU hUe
      have hUi : ¬ ((U : Int) = 0) := by omega
      have hq0 : (x : Int) / (U : Int) = ((x / U : Nat) : Int) := by rw [← Int.natCast_ediv]
      have hq1 : (x : Int).tdiv (U : Int) = ((x / U : Nat) : Int) := by rw [Int.tdiv_eq_ediv_of_nonneg (by omega), ← Int.natCast_ediv]
      have hql := Nat.div_le_self x U
      obtain ⟨D, hD⟩ : ∃ D, x / U = D := ⟨_, rfl⟩
      rw [hD] at hq0 hq1 hql HUe
      clear hD
      go_wp2_with (at_builtin; refine wpList_append_u8 _ rfl _ _ rfl B _ (ts ++ padk j (x / 10 ^ (9 - j))) rfl HU.out _ (UInt8.ofNat (48 + x / 10 ^ (8 - j) % 10)) 1 ?_ (by rw [List.length_append, hpl]; omega) (by omega) rfl ?_; rotate_left; intro u' w1 hu1 hb1 hk1)
      · go_roundw
        case rel => exact ⟨j + 1, by omega, by rw [HUn.out]; go_num, hu1.eq (by rw [show 9 - (j + 1) = 8 - j from by omega, HP.out, List.append_assoc]), HBl.out.trans hb1, HK.out.trans hk1⟩
        case measure => simp [intOf]; omega
      · rw [← HUe.out, UInt8.toNat_ofNat']
        omega
end Go.Proofs.YtaegadicnbmapaaDoor

/- wide.groups: the groups of nine digits. -/
namespace Go.Proofs.YtaegadicnbmapaaDoor
open Go.RowKit

theorem Ob.take {w : World} {g : Nat} {cs : List Nat} (h : Ob w g cs) (m : Nat) : Ob w g (cs.take m) := by
  obtain ⟨cur, h1, h2, h3⟩ := h
  refine ⟨cur, h1, Nat.le_trans (by rw [List.length_take]; omega) h2, fun i hi => ?_⟩
  rw [List.length_take] at hi
  rw [h3 i (by omega), List.getElem?_take_of_lt (by omega)]
theorem Ob.eq {w : World} {g : Nat} {cs ds : List Nat} (h : Ob w g cs) (e : cs = ds) : Ob w g ds := e ▸ h
theorem take_digs {cs : List Nat} (g : Good cs) {v : Nat} (hv : val cs = v) : cs.take (digs v).length = digs v := by
  have h1 := tr_digs g rfl
  have h2 := tr_len g rfl
  rw [h2] at h1
  rw [← hv]
  exact h1
theorem Ow.kept {w w' : World} {B g : Nat} {v : Value} {ts : List Nat} (h : Ow w B v ts) (hg : w.grownBy w' (some g)) (hl : g < B) : Ow w' B v ts :=
  World.ownsRow.kept h hg (.inr fun e => by have := (World.ownsRow.lt h g e).1; omega)
theorem Ow.ne {w : World} {B g : Nat} {v : Value} {ts : List Nat} (h : Ow w B v ts) (hl : g < B) : some g ≠ v.ownBlock := fun e => by
  have := (World.ownsRow.lt h g e.symm).1
  omega

set_option maxRecDepth 100000 in
set_option maxHeartbeats 1000000 in
theorem groups_any (w : World) (A : Option Addr) (n c v : Nat) (hA : Lm w w.heap.size A n c (digs v)) (hv : 0 < v) (hn : n ≤ 4096) :
    Calls Tryd.prog 57 #[.slice A n c] w fun e w' => ∃ A' c', e = .returned (.slice A' (gB v).length c') ∧ Lm w' w'.heap.size A' (gB v).length c' (gB v) ∧ Below w.heap.size w w' := by
  have hn0 : 0 < n := by rw [← hA.len, digs_pos]; exact hv
  have hgl : (gB v).length ≤ 2 * n := gB_len_le (digs_len.1 (Nat.le_of_eq hA.len))
  have HA := Lib.hid hA
  have HN := Lib.hid hA.len
  have hcA := hA.cap
  have hxA := hA.max
  clear hA
  go_enter Tryd.func57, Tryd.ntmps57
  go_wp2_with fail
  refine (clone_own _ _ _ _ (digs v) HA.out hn0 (by omega)).mono ?_
  rintro e w1 ⟨g, c1, rfl, hc1, hx1, hg1, hO1, hb1⟩
  have HO1 := Lib.hid hO1
  have HB1 := Lib.hid hb1
  have hs1 := hb1.size
  have hgs := hO1.lt
  clear hO1 hb1
  go_wp2
  go_loopg [3, 4] (gB v).length (fun k r u wr => ∃ (q m : Nat) (ts : List Nat), (gB q).length = k ∧ r = .slice (some ⟨g, 0, none⟩) m c1 ∧ (digs q).length = m ∧ m ≤ n ∧ Ob wr g (digs q) ∧ gB v = ts ++ gB q ∧ Ow wr w1.heap.size u ts ∧ Below w.heap.size w wr ∧ w1.heap.size ≤ wr.heap.size)
  case atStart => exact ⟨v, n, [], rfl, rfl, HN.out, Nat.le_refl _, HO1.out, rfl, Ow.nil _ _, HB1.out, Nat.le_refl _⟩
  case round =>
    obtain ⟨q, m, ts, hk, rfl, hl, hm, hO, hg, hU, hb, hsz⟩ := hrel
    have HK := Lib.hid hk
    have HL := Lib.hid hl
    have HO := Lib.hid hO
    have HG := Lib.hid hg
    have HU := Lib.hid hU
    have HBl := Lib.hid hb
    have hsw := hb.size
    clear hk hl hO hg hU hb
    rcases Nat.eq_zero_or_pos q with h0 | h0
    · have hm0 : m = 0 := by rw [← HL.out, h0]; rfl
      have HE : Hid (ts = gB v) := by show _ = _; rw [HG.out, h0, gB_zero, List.append_nil]
      subst hm0
      go_wp2
      go_ret
      obtain ⟨A', c', e1, hL1⟩ := (HU.out.eq HE.out).lm (gB_good v)
      refine ⟨A', c', ?_, hL1, HBl.out⟩
      rw [← e1]
      rfl
    · have hm0 : 0 < m := by rw [← HL.out, digs_pos]; exact h0
      have HQ := Lib.hid (dvL_quot (show 0 < 1000000000 by omega) (digs q))
      have HGd := Lib.hid (dvL_good (show 0 < 1000000000 by omega) (digs_good q))
      have HDl := Lib.hid (dvL_len 1000000000 (digs q))
      have hrl := dvL_lt (show 0 < 1000000000 by omega) (digs q)
      have HE : Hid (gB v = ts ++ [(dvL 1000000000 (digs q)).2] ++ gB (q / 1000000000)) := by show _ = _; rw [HG.out, gB_pos h0, HQ.out.2, digs_val]; simp
      have hkl : Hid ((gB (q / 1000000000)).length + 1 = gk) := by show _ = _; rw [← HK.out, gB_pos h0]; rfl
      have htl : ts.length ≤ 8192 := by
        have e := congrArg List.length HG.out
        rw [List.length_append] at e
        omega
      have hqm : (digs (q / 1000000000)).length ≤ m := by rw [← HL.out]; exact digs_mono (Nat.div_le_self _ _)
      go_wp2_with fail
      refine (divideLimb_any wr g m c1 1000000000 (digs q) HO.out (digs_good q) HL.out (by omega) (by omega) (by omega) (by omega)).mono ?_
      rintro e w2 ⟨rfl, hO2, hg2⟩
      have HO2 := Lib.hid hO2
      have HU2 := Lib.hid (HU.out.kept hg2 (by omega))
      have HB2 := Lib.hid (HBl.out.grown hg2 HBl.out.size (fun k e => by injection e with e; subst e; exact hg1))
      have hs2 := hg2.size
      clear hO2 hg2
      go_wp2_with (at_builtin; refine wpList_append_u32 _ rfl _ _ rfl w1.heap.size _ _ rfl HU2.out _ ((dvL 1000000000 (digs q)).2) 1 rfl (by omega) (by omega) rfl ?_; intro u' w3 hU3 hg3)
      have HU3 := Lib.hid hU3
      have HO3 := Lib.hid (HO2.out.grown ((World.grownBy_alloc w2 _ _).trans hg3) (HU2.out.ne (by omega)))
      have HB3 := Lib.hid ((HB2.out.alloc (by omega) _).grown hg3 (by simp; omega) (fun b e => Nat.le_trans hs1 (World.ownsRow.lt HU2.out b e).1))
      have hs3 := hg3.size
      simp only [World.size_alloc] at hs3
      have hd1 := dvL_len 1000000000 (digs q)
      have HV : Hid (val (dvL 1000000000 (digs q)).1 = q / 1000000000) := by show _ = _; rw [HQ.out.1, digs_val]
      have HL3 : Hid (Lm w3 w3.heap.size (some ⟨g, 0, none⟩) m c1 (dvL 1000000000 (digs q)).1) := by
        have e := HO3.out.lm HGd.out (off := 0) (n := m) (c := c1) (by rw [HDl.out, HL.out]; omega) (by omega) (by omega)
        rwa [List.drop_zero, List.take_of_length_le (by rw [HDl.out, HL.out]; exact Nat.le_refl _)] at e
      refine (trim_any _ _ _ _ _ _ (q / 1000000000) HL3.out HV.out).mono ?_
      rintro e w4 ⟨rfl, rfl⟩
      go_wp2
      go_roundg (gB (q / 1000000000)).length
      case measure => have := hkl.out; omega
      case rel =>
        exact ⟨q / 1000000000, _, _, rfl, rfl, rfl, by omega, (HO3.out.take _).eq (take_digs HGd.out HV.out), HE.out, HU3.out, HB3.out, by omega⟩
end Go.Proofs.YtaegadicnbmapaaDoor

/- The library's contract of internal/strconv.AppendUint, laid at this translation in plain words by the kit's command. -/
namespace Go.Proofs.YtaegadicnbmapaaDoor
open Go.Shelf
def apuLays_ren : Go.Shelf.Ren := ⟨fun | 288 => 84 | 283 => 93 | 284 => 94 | 285 => 95 | 286 => 96 | 129 => 79 | 317 => 102 | 318 => 103 | 319 => 104 | 320 => 105 | 337 => 76 | 338 => 106 | n => n, fun | 37 => 78 | 53 => 84 | 3 => 3 | 4 => 4 | 9 => 9 | 171 => 114 | 0 => 0 | 173 => 116 | 212 => 123 | 51 => 46 | 5 => 5 | 20 => 20 | 213 => 124 | 46 => 68 | 232 => 110 | 233 => 125 | n => n, fun | 17 => 1 | 18 => 0 | 19 => 2 | n => n⟩
theorem apuLays : Go.Proofs.LaysM.n288 Tryd.prog apuLays_ren := {
  mixed := by kernel_rfl
  f129 := Tryd.func79.trans (congrArg some (by kernel_rfl))
  f283 := Tryd.func93.trans (congrArg some (by kernel_rfl))
  f284 := Tryd.func94.trans (congrArg some (by kernel_rfl))
  f285 := Tryd.func95.trans (congrArg some (by kernel_rfl))
  f286 := Tryd.func96.trans (congrArg some (by kernel_rfl))
  f288 := Tryd.func84.trans (congrArg some (by kernel_rfl))
  f317 := Tryd.func102.trans (congrArg some (by kernel_rfl))
  f318 := Tryd.func103.trans (congrArg some (by kernel_rfl))
  f319 := Tryd.func104.trans (congrArg some (by kernel_rfl))
  f320 := Tryd.func105.trans (congrArg some (by kernel_rfl))
  f337 := Tryd.func76.trans (congrArg some (by kernel_rfl))
  f338 := Tryd.func106.trans (congrArg some (by kernel_rfl))
  t0 := Tryd.underlying0
  a0 := Tryd.isAgg0
  z0 := Tryd.sizeOf0
  v0 := Tryd.zeroValue0
  t3 := Tryd.underlying3
  a3 := Tryd.isAgg3
  z3 := Tryd.sizeOf3
  v3 := Tryd.zeroValue3
  t4 := Tryd.underlying4
  a4 := Tryd.isAgg4
  z4 := Tryd.sizeOf4
  v4 := Tryd.zeroValue4
  t5 := Tryd.underlying5
  a5 := Tryd.isAgg5
  z5 := Tryd.sizeOf5
  v5 := Tryd.zeroValue5
  t9 := Tryd.underlying9
  a9 := Tryd.isAgg9
  z9 := Tryd.sizeOf9
  v9 := Tryd.zeroValue9
  t20 := Tryd.underlying20
  a20 := Tryd.isAgg20
  z20 := Tryd.sizeOf20
  v20 := Tryd.zeroValue20
  t37 := Tryd.underlying78
  a37 := Tryd.isAgg78
  z37 := Tryd.sizeOf78
  v37 := Tryd.zeroValue78
  t46 := Tryd.underlying68
  a46 := Tryd.isAgg68
  z46 := Tryd.sizeOf68
  v46 := Tryd.zeroValue68
  t51 := Tryd.underlying46
  a51 := Tryd.isAgg46
  z51 := Tryd.sizeOf46
  v51 := Tryd.zeroValue46
  t53 := Tryd.underlying84
  a53 := Tryd.isAgg84
  z53 := Tryd.sizeOf84
  v53 := Tryd.zeroValue84
  t171 := Tryd.underlying114
  a171 := Tryd.isAgg114
  z171 := Tryd.sizeOf114
  v171 := Tryd.zeroValue114
  t173 := Tryd.underlying116
  a173 := Tryd.isAgg116
  z173 := Tryd.sizeOf116
  v173 := Tryd.zeroValue116
  t212 := Tryd.underlying123
  a212 := Tryd.isAgg123
  z212 := Tryd.sizeOf123
  v212 := Tryd.zeroValue123
  t213 := Tryd.underlying124
  a213 := Tryd.isAgg124
  z213 := Tryd.sizeOf124
  t232 := Tryd.underlying110
  a232 := Tryd.isAgg110
  z232 := Tryd.sizeOf110
  v232 := Tryd.zeroValue110
  t233 := Tryd.underlying125
  a233 := Tryd.isAgg125
  z233 := Tryd.sizeOf125
  v233 := Tryd.zeroValue125
  g17 := by kernel_rfl
  g18 := by kernel_rfl
  g19 := by kernel_rfl
  i0 := by kernel_rfl
  i3 := by kernel_rfl
  i4 := by kernel_rfl
  i5 := by kernel_rfl
  i9 := by kernel_rfl
  i20 := by kernel_rfl
  i37 := by kernel_rfl
  i46 := by kernel_rfl
  i51 := by kernel_rfl
  i53 := by kernel_rfl
  i171 := by kernel_rfl
  i173 := by kernel_rfl
  i212 := by kernel_rfl
  i232 := by kernel_rfl
  i233 := by kernel_rfl
  m17 := by kernel_rfl
  m18 := by kernel_rfl
  m19 := by kernel_rfl }
open Go.RowKit Go.Sort Go.Lib in
theorem apu_10_small (B n u : Nat) (hu : u < 100) (sv : Value) (xs : List Value) (w : World) (hown : w.ownsRow B 5 1 sv n xs) (hBw : B ≤ w.heap.size) (hlim : n + 20 ≤ 140737488355328) :
    Calls Tryd.prog 84 #[sv, .int .u64 u, .int .i64 10] w fun e w' => ∃ v', e = .returned v' ∧ w'.ownsRow B 5 1 v' (n + (Lib.decDigits u).length) (xs ++ Lib.byteCells (Lib.decDigits u)) ∧ Below B w w' ∧ Lib.OthersKept 5 none w w' := Any.internal_strconv_AppendUint_10_small apuLays B n u hu sv xs w hown hBw hlim
open Go.RowKit Go.Sort Go.Lib in
theorem apu_10_big (B n u : Nat) (hu : 100 ≤ u) (hu64 : u < 18446744073709551616) (sv : Value) (xs : List Value) (w : World) (hown : w.ownsRow B 5 1 sv n xs) (hBw : B ≤ w.heap.size) (hlim : n + 20 ≤ 140737488355328) (htab : Lib.TabIs Tryd.prog w "internal/strconv.uint64pow10" .u64 Lib.pow10Tab) :
    Calls Tryd.prog 84 #[sv, .int .u64 u, .int .i64 10] w fun e w' => ∃ v', e = .returned v' ∧ w'.ownsRow B 5 1 v' (n + (Lib.decDigits u).length) (xs ++ Lib.byteCells (Lib.decDigits u)) ∧ Below B w w' ∧ Lib.OthersKept 5 none w w' := Any.internal_strconv_AppendUint_10_big apuLays B n u hu hu64 sv xs w hown hBw hlim htab
end Go.Proofs.YtaegadicnbmapaaDoor

/- wide.Text: the text of a number. -/
namespace Go.Proofs.YtaegadicnbmapaaDoor
open Go.RowKit Go.Shelf

/-- The table of powers of ten lies in its variable. -/
def TabU (w : World) : Prop := Lib.TabIs Tryd.prog w "internal/strconv.uint64pow10" .u64 Lib.pow10Tab
theorem TabU.via {w w' : World} (h : TabU w) (hb : Below w.heap.size w w') : TabU w' := (Lib.tabBelow_of_tabIs h) w' hb
theorem TabU.box {w : World} (h : TabU w) (o : Obj) : TabU (w.alloc o) := h.via ((Below.refl _ _).alloc (Nat.le_refl _) o)

set_option maxRecDepth 100000 in
set_option maxHeartbeats 1000000 in
theorem apu_any (w : World) (B : Nat) (v : Value) (ts : List UInt8) (u : Nat) (hown : Bw w B v ts) (hB : B ≤ w.heap.size) (hu : u < 18446744073709551616) (hlen : ts.length ≤ 1000000000) (hT : 100 ≤ u → TabU w) :
    Calls Tryd.prog 60 #[v, .int .u64 (u : Int), .int .i64 10] w fun e w' => ∃ v', e = .returned v' ∧ Bw w' B v' (ts ++ Lib.decDigits u) ∧ Below B w w' ∧ Lib.OthersKept 5 none w w' := by
  have HO := Lib.hid hown
  have HT := Lib.hid hT
  clear hown hT
  have fin : ∀ (v' : Value) (w' : World), w'.ownsRow B 5 1 v' (ts.length + (Lib.decDigits u).length) (Lib.byteCells ts ++ Lib.byteCells (Lib.decDigits u)) → Bw w' B v' (ts ++ Lib.decDigits u) := by
    intro v' w' h
    unfold Bw
    rw [List.length_append, show Lib.byteCells (ts ++ Lib.decDigits u) = Lib.byteCells ts ++ Lib.byteCells (Lib.decDigits u) from by unfold Lib.byteCells; rw [List.map_append]]
    exact h
  have FIN := Lib.hid fin
  clear fin
  by_cases h : u < 100
  · go_enter Tryd.func60, Tryd.ntmps60
    go_wp2_with fail
    refine (apu_10_small B ts.length u h v _ w HO.out hB (by omega)).mono ?_
    rintro e w1 ⟨v', rfl, h1, h2, h3⟩
    go_wp2
    go_ret
    exact ⟨v', rfl, FIN.out _ _ h1, h2, h3⟩
  · go_enter Tryd.func60, Tryd.ntmps60
    go_wp2_with fail
    refine (apu_10_big B ts.length u (by omega) hu v _ w HO.out hB (by omega) (HT.out (by omega))).mono ?_
    rintro e w1 ⟨v', rfl, h1, h2, h3⟩
    go_wp2
    go_ret
    exact ⟨v', rfl, FIN.out _ _ h1, h2, h3⟩

set_option maxRecDepth 100000 in
set_option maxHeartbeats 400000 in
theorem text_bad (w : World) (neg : Bool) (A : Option Addr) (n c : Nat) (xs : List Nat) (h : Lm w w.heap.size A n c xs) (hc : chk neg xs = 8) :
    Calls Tryd.prog 19 #[.agg #[.bool neg, .slice A n c]] w fun e w' => e = .returned (.tuple #[.string ⟨#[]⟩, .int .i64 8]) ∧ Below w.heap.size w w' := by
  have HH := Lib.hid h
  have HC := Lib.hid hc
  clear hc
  go_enter Tryd.func19, Tryd.ntmps19
  go_wp2_with fail
  refine (check_bad _ _ _ _ _ _ (HH.out.box _) HC.out).mono ?_
  rintro e w1 ⟨rfl, hb1⟩
  go_wp2
  go_ret2
  exact ⟨rfl, bbox hb1⟩
set_option maxRecDepth 100000 in
set_option maxHeartbeats 400000 in
theorem text_zero (w : World) (A : Option Addr) (c : Nat) (h : Lm w w.heap.size A 0 c []) :
    Calls Tryd.prog 19 #[.agg #[.bool false, .slice A 0 c]] w fun e w' => e = .returned (.tuple #[.string ⟨#[48]⟩, .int .i64 0]) ∧ Below w.heap.size w w' := by
  have HH := Lib.hid h
  have HC : Hid (chk false [] = 0) := by show _ = _; decide
  go_enter Tryd.func19, Tryd.ntmps19
  go_wp2_with fail
  refine (check_ok _ _ _ _ _ _ (HH.out.box _) HC.out).mono ?_
  rintro e w1 ⟨rfl, hb1⟩
  have ⟨hc1, hf1⟩ := bcell hb1
  have hs1 := hb1.size
  simp only [World.size_alloc] at hc1 hf1 hs1
  go_wp2
  go_ret2
  exact ⟨rfl, bbox hb1⟩
end Go.Proofs.YtaegadicnbmapaaDoor

/- wide.Text: the text of a number other than 0. -/
namespace Go.Proofs.YtaegadicnbmapaaDoor
open Go.RowKit Go.Shelf
attribute [local go_sem] Oper.semAt_some

theorem Bw.slice {w : World} {B : Nat} {v : Value} {ts : List UInt8} (h : Bw w B v ts) (hne : 0 < ts.length) : ∃ g cap, v = .slice (some ⟨g, 0, none⟩) ts.length cap ∧ ∀ j (hj : j < ts.length), w.cell? (Addr.add ⟨g, 0, none⟩ j) = some (.int .u8 (ts[j].toNat : Int)) := by
  rcases h.2 with ⟨_, hn⟩ | ⟨g, cap, cur, rfl, _⟩
  · omega
  · refine ⟨g, cap, rfl, fun j hj => ?_⟩
    have hc := World.ownsRow.cells h (g := g) rfl j (.int .u8 (ts[j].toNat : Int)) (by unfold Lib.byteCells; rw [List.getElem?_map, List.getElem?_eq_getElem hj]; rfl)
    exact hc
theorem dec_ne (u : Nat) : 0 < (Lib.decDigits u).length := by rw [Lib.decDigits_length]; exact Lib.nDigits_pos u
theorem keepsO {e : TypeId} {w w' : World} (h : Lib.OthersKept e none w w') (hs : w.heap.size ≤ w'.heap.size) : KeepsOthers w w' :=
  ⟨hs, fun k o hk ho => h k o hk (by simp) (fun c fz e1 => by subst e1; cases ho)⟩
theorem boxed_others {e t : TypeId} {w w' : World} {B : Nat} {v : Value} (h : Boxed w B t v) (hk : Lib.OthersKept e none w w') (hne : t ≠ e) : Boxed w' B t v :=
  hk B _ h (by simp) (fun c fz e1 => by injection e1 with _ e2 _; exact hne e2)
theorem txP_end {v N : Nat} (hN : (gB v).length = N) : ∀ (d : Nat), d < N → txP (gB v) (dsc N (N - 1 - d)) = Lib.decDigits (v / 1000000000 ^ (N - 1 - d)) := by
  intro d
  induction d with
  | zero =>
    intro hd
    rw [dsc_succ (by omega), show N - 1 - 0 + 1 = N from by omega, dsc_self, txP_snoc, if_neg (by omega)]
    have h1 := (gB_get (v := v) (k := N - 1) (by omega)).1
    have hv : 0 < v := Nat.pos_of_ne_zero fun e => by subst e; rw [gB_zero] at hN; simp at hN; omega
    have h2 := (gB_top hv).2
    rw [hN] at h2
    rw [show N - 1 - 0 = N - 1 from rfl, h1, Nat.mod_eq_of_lt h2]
    rfl
  | succ d ih =>
    intro hd
    have h1 := gB_get (v := v) (k := N - 1 - (d + 1)) (by omega)
    have h2 := (gB_get (v := v) (k := N - 1 - d) (by omega)).2
    have e : N - 1 - (d + 1) + 1 = N - 1 - d := by omega
    rw [dsc_succ (by omega), e, txP_snoc, ih (by omega), if_pos (by omega), h1.1]
    have h3 := dec_step (v := v) (k := N - 1 - (d + 1)) (by rw [e]; exact h2)
    rw [e] at h3
    exact h3.symm

/-- make([]byte, 0, n). -/
theorem made_u8 (n : Nat) : madeCells (Value.int .u8 0).cells (n * 1) = (Lib.byteCells (List.replicate n 0)).toArray := by
  apply Array.ext
  · simp [size_madeCells, Lib.byteCells]
  · intro i h1 h2
    simp [madeCells, Lib.byteCells, Value.cells, Nat.mod_one]
theorem run_make0_u8 (c : Int) (n : Nat) (hc : c = (n : Int)) (hn : n ≤ 4000000000) (w : World) :
    (Instr.makeSlice 78 (.int .i64 0) (.int .i64 c)).run Tryd.prog w = .ok (.slice (some ⟨w.heap.size, 0, none⟩) 0 n) (w.alloc (.cells (Lib.byteCells (List.replicate n 0)).toArray 5)) := by
  subst hc
  obtain ⟨i0, hi0, hz0, hz1, hz2⟩ := info_parts u8_info
  have h := run_make (P := Tryd.prog) w 78 5 i0 _ slice_u8 hi0 hz0 .i64 .i64 (0 : Int) (n : Int) (by omega) (by omega) (by rw [hz2]; omega) (by omega)
  rw [hz1, Int.toNat_natCast, made_u8] at h
  exact h

set_option maxRecDepth 100000 in
set_option maxHeartbeats 2000000 in
theorem text_pos (w : World) (neg : Bool) (A : Option Addr) (n c v : Nat) (h : Lm w w.heap.size A n c (digs v)) (hc : chk neg (digs v) = 0) (hv : 0 < v) (hT : TabU w) :
    Calls Tryd.prog 19 #[.agg #[.bool neg, .slice A n c]] w fun e w' => e = .returned (.tuple #[.string ⟨(txt neg v).toArray⟩, .int .i64 0]) ∧ Below w.heap.size w w' := by
  have hl := (chk_ok.1 hc).1
  rw [h.len] at hl
  have hn0 : 0 < n := by rw [← h.len, digs_pos]; exact hv
  have hnz : ((n : Int) == 0) = false := by simp; omega
  have hgl : (gB v).length ≤ 2 * n := gB_len_le (digs_len.1 (Nat.le_of_eq h.len))
  have hg1 := gB_len_pos hv
  have HH := Lib.hid h
  have HC := Lib.hid hc
  have HT := Lib.hid hT
  have hcA := h.cap
  have hxA := h.max
  clear hc h hT
  refine (callsIn_wide (n := 8)).1 ?_
  refine callsIn_of_wp_marks Tryd.func19 rfl trivial ?_ rfl
  simp only [Tryd.ntmps19, List.size_toArray, List.length_cons, List.length_nil, Nat.reduceAdd, Nat.reduceSub, Array.replicate_succ, Array.replicate_zero, List.push_toArray, List.append_toArray, List.nil_append, List.cons_append]
  gi_wp2_with fail
  refine ⟨trivial, (callsIn_wide.2 (check_ok _ _ _ _ _ _ (HH.out.box _) HC.out)).mono ?_⟩
  rintro e w1 ⟨rfl, hb1⟩
  have ⟨hx0, hx1, hf0, hf1, hsz⟩ := box1 hb1
  have HL1 := Lib.hid ((HH.out.box _).via hb1)
  have HB1 := Lib.hid (bbox hb1)
  have HT1 := Lib.hid ((HT.out.box _).via hb1)
  clear hb1
  gi_wp2_with fail
  refine ⟨trivial, (callsIn_wide.2 (groups_any w1 A n c v HL1.out hv hl)).mono ?_⟩
  rintro e w2 ⟨G, cg, rfl, hG, hb2⟩
  have ⟨ax0, ax1⟩ := keep2 hb2 (by omega) ⟨hx0, hx1⟩
  have HB2 := Lib.hid (HB1.out.trans (hb2.mono HB1.out.size))
  have HT2 := Lib.hid (HT1.out.via hb2)
  have HG := Lib.hid hG
  have hcG := hG.cap
  have hxG := hG.max
  have hs2 := HB2.out.size
  have hs1 := hb2.size
  have hs0 : w.heap.size < w2.heap.size := by omega
  clear hb2 hG
  obtain ⟨N, hN⟩ : ∃ N, (gB v).length = N := ⟨_, rfl⟩
  have HN := Lib.hid hN
  rw [hN] at hgl hg1 hcG HG ⊢
  have hmk := fun w => run_make0_u8 (1 + (N : Int) * 9) (1 + N * 9) (by omega) (by omega) w
  clear hN
  have hq : ∀ o1 o2 o3, (((w2.alloc o1).alloc o2).alloc o3).cell? ⟨w.heap.size, 0, none⟩ = some (.bool neg) := fun o1 o2 o3 =>
    ((World.cell?_alloc_lt _ o3 _ (by simp; omega)).trans (World.cell?_alloc_lt _ o2 _ (by simp; omega))).trans ((World.cell?_alloc_lt _ o1 _ hs0).trans ax0)
  cases neg
  · gi_wp2_with fail
    obtain ⟨X, hX⟩ : ∃ X, (((w2.alloc (Obj.cells #[Value.slice G N cg] 22)).alloc (Obj.cells (Lib.byteCells (List.replicate (1 + N * 9) 0)).toArray 5)).alloc (Obj.cells #[Value.slice (some ⟨w2.heap.size + 1, 0, none⟩) 0 (1 + N * 9)] 78)) = X := ⟨_, rfl⟩
    have hbG : Hid (Boxed X w2.heap.size 22 (.slice G N cg)) := by show Boxed _ _ _ _; rw [← hX]; exact ((Boxed.new w2 _ _).alloc _).alloc _
    have hbT : Hid (Boxed X (w2.heap.size + 1 + 1) 78 (.slice (some ⟨w2.heap.size + 1, 0, none⟩) 0 (1 + N * 9))) := by
      show Boxed _ _ _ _
      have e := Boxed.new ((w2.alloc (Obj.cells #[Value.slice G N cg] 22)).alloc (Obj.cells (Lib.byteCells (List.replicate (1 + N * 9) 0)).toArray 5)) 78 (.slice (some ⟨w2.heap.size + 1, 0, none⟩) 0 (1 + N * 9))
      simp only [World.size_alloc] at e
      rw [← hX]
      exact e
    have hrow : Hid (X.ownsRow w2.heap.size 5 1 (.slice (some ⟨w2.heap.size + 1, 0, none⟩) 0 (1 + N * 9)) ([] ++ txP (gB v) (ixs ([] : List (Idx N)))).length (Lib.byteCells ([] ++ txP (gB v) (ixs ([] : List (Idx N)))))) := by
      show World.ownsRow _ _ _ _ _ _ _
      rw [← hX]
      have e : (((w2.alloc (Obj.cells #[Value.slice G N cg] 22)).alloc (Obj.cells (Lib.byteCells (List.replicate (1 + N * 9) 0)).toArray 5))).ownsRow w2.heap.size 5 1 (.slice (some ⟨(w2.alloc (Obj.cells #[Value.slice G N cg] 22)).heap.size, 0, none⟩) 0 (1 + N * 9)) 0 [] := World.ownsRow_made _ _ _ (by simp) (by simp only [maxLen]; omega) (by simp [Lib.byteCells])
      simp only [World.size_alloc] at e
      exact e.alloc _
    have hBX : Hid (Below w2.heap.size w2 X) := by
      show Below _ _ _
      rw [← hX]
      exact (((Below.refl _ w2).alloc (Nat.le_refl _) _).alloc (by simp) _).alloc (by simp; omega) _
    rw [hX]
    clear hX hq hmk
    refine ⟨trivial, (back_in Fence.wide 7 trivial rfl _ _ _ _).mono ?_⟩
    rintro e w' ⟨rfl, rfl⟩
    gi_wp2
    have bI := Boxed.new X 22 (.slice G N cg)
    have hXs := hBX.out.size
    have hXlt := Boxed.lt hbT.out
    refine wpIn_rangeFunc_ownG rfl (by omega) (gf := 83) (lb := #[.pointer (some ⟨X.heap.size, 0, none⟩)]) rfl trivial (enters_of Tryd.func83 (by kernel_rfl) rfl)
      (back_stops Fence.wide 7 trivial rfl (by omega) X.heap.size w2.heap.size G N cg (gB v) _ (by simp) (by simp; omega) bI.cell ((HG.out.below hBX.out).below ((Below.refl _ X).alloc hXs _))) kpB_t (kpB_b (by simp; omega) (by simp)) (Below.refl _ _) (fun _ => rfl)
      (fun pre W => (((∃ u, Boxed W (w2.heap.size + 1 + 1) 78 u ∧ W.ownsRow w2.heap.size 5 1 u ([] ++ txP (gB v) (ixs pre)).length (Lib.byteCells ([] ++ txP (gB v) (ixs pre))) ∧ True) ∧ Boxed W w2.heap.size 22 (.slice G N cg)) ∧ Boxed W X.heap.size 22 (.slice G N cg)) ∧ Below w2.heap.size w2 W)
      (fun _ _ _ => False)
      (OwnFrom.and (OwnFrom.and (OwnFrom.and (Own.from (holdsRow_own w2.heap.size (w2.heap.size + 1 + 1) 78 5 1 (fun pre : List (Idx N) => ([] ++ txP (gB v) (ixs pre)).length) (fun pre => Lib.byteCells ([] ++ txP (gB v) (ixs pre))) (fun _ _ => True)) _) (Own.from (boxed_own w2.heap.size 22 (fun _ => .slice G N cg)) _)) (Own.from (boxed_own X.heap.size 22 (fun _ => .slice G N cg)) _)) (ownFrom_below (Nat.le_refl _) (by simp; omega)))
      (fun _ _ _ _ _ hs _ _ => hs)
      ⟨⟨⟨⟨_, hbT.out.alloc _, hrow.out.alloc _, trivial⟩, hbG.out.alloc _⟩, bI⟩, hBX.out.alloc hXs _⟩
      (fun x => { tmps := #[.agg #[.bool false, .slice A n c], .pointer (some ⟨w.heap.size, 0, none⟩), .string ⟨#[]⟩, .int .i64 0, .int .i64 0, .pointer (some ⟨w2.heap.size, 0, none⟩), .pointer (some ⟨w2.heap.size + 1 + 1, 0, none⟩), .int .i64 (x.1 : Int), .int .u32 ((gB v)[x.1]?.getD 0 : Nat), .agg #[.bool false, .slice A n c], .int .i64 0, .int .i64 0, .bool false, undef, .pointer (some ⟨w.heap.size, 1, none⟩), .slice A n c, .int .i64 n, .bool false, .pointer (some ⟨w.heap.size, 1, none⟩), .slice A n c, .slice G N cg, .slice G N cg, .int .i64 N, .int .i64 ((N : Int) * 9), .int .i64 (1 + (N : Int) * 9), .slice (some ⟨w2.heap.size + 1, 0, none⟩) 0 (1 + N * 9), .pointer (some ⟨w.heap.size, 0, none⟩), .bool false, undef, undef, undef, .slice G N cg, .func (.func 83) #[] #[.pointer (some ⟨X.heap.size, 0, none⟩)], .int .i64 (x.1 : Int), .int .u32 ((gB v)[x.1]?.getD 0 : Nat), undef, undef, undef, undef, undef, undef, undef, undef, undef, undef, undef, undef, undef, undef], defers := [] }) ?assign ?body ?done ?stop
    case assign =>
      intro l x W K hK
      gi_wp2
      exact hK
    case body =>
      rintro l pre ⟨k, hk⟩ W ⟨⟨⟨⟨u, hu, hr, _⟩, hbg⟩, hbi⟩, hBl⟩ hlen
      have hgx := (gB_good v).get k
      have HSn := Lib.hid (txP_snoc (gB v) (ixs pre) k)
      have hl1 := txP_len (gB_good v) (ixs pre)
      rw [ixs_len] at hl1
      have hWs := hBl.size
      have HTW := Lib.hid (HT2.out.via hBl)
      have HBl := Lib.hid hBl
      have HU := Lib.hid hu
      have HR := Lib.hid hr
      have HBG := Lib.hid hbg
      have HBI := Lib.hid hbi
      have huc := hu.cell
      have hgc := hbg.cell
      generalize (gB v)[k]?.getD 0 = x at *
      generalize htx : [] ++ txP (gB v) (ixs pre) = T at *
      have hTl : T.length ≤ 1000000 := by rw [← htx, List.length_append]; simp; omega
      have HTX := Lib.hid htx
      clear hu hr hbg hbi hBl htx hl1 hlen
      dsimp only
      by_cases hkn : k < N - 1
      · have HST : Hid (txP (gB v) (ixs (pre ++ [⟨k, hk⟩])) = txP (gB v) (ixs pre) ++ padk 9 x) := by show _ = _; rw [ixs_snoc, HSn.out, if_pos (by rw [HN.out]; exact hkn)]
        gi_wp2_with fail
        refine ⟨trivial, (CallsIn.inRound l (callsIn_wide.2 (pad_any W w2.heap.size u T x HR.out hWs hgx (by omega)))).mono ?_⟩
        rintro e w3 ⟨v', rfl, hr3, hb3, hk3⟩
        have h3 := boxed_others HU.out hk3 (by decide)
        have hg3 := boxed_others HBG.out hk3 (by decide)
        have hi3 := boxed_others HBI.out hk3 (by decide)
        have hY0 : 0 < (T ++ padk 9 x).length := by rw [List.length_append]; first | (have := dec_ne x; omega) | (rw [padk_len]; omega)
        obtain ⟨Y, hY⟩ : ∃ Y, T ++ padk 9 x = Y := ⟨_, rfl⟩
        rw [hY] at hr3 hY0
        obtain ⟨g', cap', hv', _⟩ := hr3.slice hY0
        have HY := Lib.hid hY
        clear hY hY0
        subst hv'
        have hc3 := h3.cell
        have hf3 := h3.frozen
        have HR3 := Lib.hid hr3
        have HI3 := Lib.hid hi3
        have HG3 := Lib.hid hg3
        have HB3 := Lib.hid hb3
        have HK3 := Lib.hid hk3
        have HU3 := Lib.hid h3
        clear hr3 hi3 hg3 hb3 hk3 h3
        gi_wp2
        have hbf := HB3.out.setCell (p := ⟨w2.heap.size + 1 + 1, 0, none⟩) (by simp; omega) (.slice (some ⟨g', 0, none⟩) Y.length cap')
        refine ⟨((keepsO HK3.out HB3.out.size).trans (KeepsOthers.setCell _ _ _)).from _, ⟨hbf, (HI3.out.other (B' := w2.heap.size + 1 + 1) (by omega) _).cell.trans HBI.out.cell.symm⟩, ⟨⟨⟨_, HU3.out.set _, ?_, trivial⟩, HG3.out.other (by omega) _⟩, HI3.out.other (by omega) _⟩, HBl.out.trans hbf⟩
        rw [HST.out, ← List.append_assoc, HTX.out, HY.out]
        exact World.ownsRow.kept HR3.out (grownBy_setCell' _ _ _) (.inr (HU3.out.not_row (by decide) HR3.out).symm)
      · have hki : decide ((k : Int) < (N : Int) - 1) = false := by simp; omega
        have HST : Hid (txP (gB v) (ixs (pre ++ [⟨k, hk⟩])) = txP (gB v) (ixs pre) ++ Lib.decDigits x) := by show _ = _; rw [ixs_snoc, HSn.out, if_neg (by rw [HN.out]; exact hkn)]
        gi_wp2_with fail
        refine ⟨trivial, (CallsIn.inRound l (callsIn_wide.2 (apu_any W w2.heap.size u T x HR.out hWs (by omega) (by omega) (fun _ => HTW.out)))).mono ?_⟩
        rintro e w3 ⟨v', rfl, hr3, hb3, hk3⟩
        have h3 := boxed_others HU.out hk3 (by decide)
        have hg3 := boxed_others HBG.out hk3 (by decide)
        have hi3 := boxed_others HBI.out hk3 (by decide)
        have hY0 : 0 < (T ++ Lib.decDigits x).length := by rw [List.length_append]; first | (have := dec_ne x; omega) | (rw [padk_len]; omega)
        obtain ⟨Y, hY⟩ : ∃ Y, T ++ Lib.decDigits x = Y := ⟨_, rfl⟩
        rw [hY] at hr3 hY0
        obtain ⟨g', cap', hv', _⟩ := hr3.slice hY0
        have HY := Lib.hid hY
        clear hY hY0
        subst hv'
        have hc3 := h3.cell
        have hf3 := h3.frozen
        have HR3 := Lib.hid hr3
        have HI3 := Lib.hid hi3
        have HG3 := Lib.hid hg3
        have HB3 := Lib.hid hb3
        have HK3 := Lib.hid hk3
        have HU3 := Lib.hid h3
        clear hr3 hi3 hg3 hb3 hk3 h3
        gi_wp2
        have hbf := HB3.out.setCell (p := ⟨w2.heap.size + 1 + 1, 0, none⟩) (by simp; omega) (.slice (some ⟨g', 0, none⟩) Y.length cap')
        refine ⟨((keepsO HK3.out HB3.out.size).trans (KeepsOthers.setCell _ _ _)).from _, ⟨hbf, (HI3.out.other (B' := w2.heap.size + 1 + 1) (by omega) _).cell.trans HBI.out.cell.symm⟩, ⟨⟨⟨_, HU3.out.set _, ?_, trivial⟩, HG3.out.other (by omega) _⟩, HI3.out.other (by omega) _⟩, HBl.out.trans hbf⟩
        rw [HST.out, ← List.append_assoc, HTX.out, HY.out]
        exact World.ownsRow.kept HR3.out (grownBy_setCell' _ _ _) (.inr (HU3.out.not_row (by decide) HR3.out).symm)
    case done =>
      rintro D zs W hD hzs ⟨⟨⟨⟨u, hu, hr, _⟩, hbg⟩, hbi⟩, hBl⟩ hK
      have huc := hu.cell
      have HT9 : Hid ([] ++ txP (gB v) (ixs zs) = txt false v) := by
        show _ = _
        have h1 : ixs zs = dsc N (N - 1 - (N - 1)) := by rw [Nat.sub_self]; exact hzs
        rw [h1, txP_end HN.out (N - 1) (by omega), Nat.sub_self, Nat.pow_zero, Nat.div_one]
        rfl
      rw [HT9.out] at hr
      have hBw : Bw W w2.heap.size u (txt false v) := hr
      obtain ⟨g', cap', hv', hcs⟩ := hBw.slice (by unfold txt; rw [List.length_append]; have := dec_ne v; omega)
      have hcv := run_convert_bytes_back (P := Tryd.prog) W 78 9 5 ⟨g', 0, none⟩ cap' (txt false v) slice_u8 (Tryd.underlying5) (Tryd.underlying9) hcs
      subst hv'
      have HB9 := Lib.hid (HB2.out.trans ((hBl.trans (belowK_b (w := w2) (Nat.le_refl _) W D (.deferred (some [])) (.deferred none) (by simp at hD; omega) hK rfl rfl)).mono hs2))
      clear hbg hbi hBl hzs hr hBw hcs
      gi_wp2
      refine ⟨by simp, .inl ⟨_, _, rfl, run_takeDeferred hK, ?_⟩⟩
      exact ⟨.tuple #[.string ⟨(txt false v).toArray⟩, .int .i64 0], by simp [results, Tryd.f19, go_sem], rfl, HB9.out⟩
    case stop =>
      rintro D c pre W _ _ h _
      exact h.elim
  · obtain ⟨i0, hi0, hz0, hz1, hz2⟩ := info_parts u8_info
    have hbG0 : Hid (Boxed (((w2.alloc (Obj.cells #[Value.slice G N cg] 22)).alloc (Obj.cells (Lib.byteCells (List.replicate (1 + N * 9) 0)).toArray 5)).alloc (Obj.cells #[Value.slice (some ⟨w2.heap.size + 1, 0, none⟩) 0 (1 + N * 9)] 78)) w2.heap.size 22 (.slice G N cg)) := ((Boxed.new w2 _ _).alloc _).alloc _
    have hbT0 : Hid (Boxed (((w2.alloc (Obj.cells #[Value.slice G N cg] 22)).alloc (Obj.cells (Lib.byteCells (List.replicate (1 + N * 9) 0)).toArray 5)).alloc (Obj.cells #[Value.slice (some ⟨w2.heap.size + 1, 0, none⟩) 0 (1 + N * 9)] 78)) (w2.heap.size + 1 + 1) 78 (.slice (some ⟨w2.heap.size + 1, 0, none⟩) 0 (1 + N * 9))) := by
      show Boxed _ _ _ _
      have e := Boxed.new ((w2.alloc (Obj.cells #[Value.slice G N cg] 22)).alloc (Obj.cells (Lib.byteCells (List.replicate (1 + N * 9) 0)).toArray 5)) 78 (.slice (some ⟨w2.heap.size + 1, 0, none⟩) 0 (1 + N * 9))
      simp only [World.size_alloc] at e
      exact e
    have hrow0 : Hid ((((w2.alloc (Obj.cells #[Value.slice G N cg] 22)).alloc (Obj.cells (Lib.byteCells (List.replicate (1 + N * 9) 0)).toArray 5)).alloc (Obj.cells #[Value.slice (some ⟨w2.heap.size + 1, 0, none⟩) 0 (1 + N * 9)] 78)).ownsRow w2.heap.size 5 1 (.slice (some ⟨w2.heap.size + 1, 0, none⟩) 0 (1 + N * 9)) 0 []) := by
      show World.ownsRow _ _ _ _ _ _ _
      have e : (((w2.alloc (Obj.cells #[Value.slice G N cg] 22)).alloc (Obj.cells (Lib.byteCells (List.replicate (1 + N * 9) 0)).toArray 5))).ownsRow w2.heap.size 5 1 (.slice (some ⟨(w2.alloc (Obj.cells #[Value.slice G N cg] 22)).heap.size, 0, none⟩) 0 (1 + N * 9)) 0 [] := World.ownsRow_made _ _ _ (by simp) (by simp only [maxLen]; omega) (by simp [Lib.byteCells])
      simp only [World.size_alloc] at e
      exact e.alloc _
    have hBX0 : Hid (Below w2.heap.size w2 (((w2.alloc (Obj.cells #[Value.slice G N cg] 22)).alloc (Obj.cells (Lib.byteCells (List.replicate (1 + N * 9) 0)).toArray 5)).alloc (Obj.cells #[Value.slice (some ⟨w2.heap.size + 1, 0, none⟩) 0 (1 + N * 9)] 78))) := (((Below.refl _ w2).alloc (Nat.le_refl _) _).alloc (by simp) _).alloc (by simp; omega) _
    have hnew : Hid (∀ (j : Nat) (u : Value), [Value.int .u8 45][j]? = some u → ((((w2.alloc (Obj.cells #[Value.slice G N cg] 22)).alloc (Obj.cells (Lib.byteCells (List.replicate (1 + N * 9) 0)).toArray 5)).alloc (Obj.cells #[Value.slice (some ⟨w2.heap.size + 1, 0, none⟩) 0 (1 + N * 9)] 78)).alloc (Obj.cells #[Value.int .u8 45] 5)).cell? (Addr.add ⟨w2.heap.size + 1 + 1 + 1, 0, none⟩ j) = some u) := by
      have e := cell_one_new (((w2.alloc (Obj.cells #[Value.slice G N cg] 22)).alloc (Obj.cells (Lib.byteCells (List.replicate (1 + N * 9) 0)).toArray 5)).alloc (Obj.cells #[Value.slice (some ⟨w2.heap.size + 1, 0, none⟩) 0 (1 + N * 9)] 78)) (.int .u8 45) 5
      simp only [World.size_alloc] at e
      exact e
    gi_wp2_with (gi_at_builtin; refine wpListIn_append_own _ rfl _ _ 78 rfl w2.heap.size 5 i0 (.int .u8 0) 1 1 slice_u8 hi0 hz0 hz1 hz2 rfl (by decide) _ _ _ rfl (hrow0.out.alloc _) ⟨w2.heap.size + 1 + 1 + 1, 0, none⟩ 1 1 [.int .u8 45] rfl rfl hnew.out (by simp [Value.oneCell']) (by simp only [maxLen]; omega) (by omega) (by simp; omega) ?_; intro v' w5 hown' hgrow _; obtain ⟨g', cap', rfl⟩ := ownsRow_succ hown'; obtain ⟨hv1, hv2, hr2, hk2, hb2⟩ := hbT0.out.appended (by decide) hrow0.out (by simp; omega) (by omega) hown' hgrow; have hc1' := hv1.cell; have hf1' := hv1.frozen; have hbG5 := Lib.hid ((hbG0.out.alloc _).kept hgrow (hbG0.out.not_row (by decide) hrow0.out)); have hgc5 := hbG5.out.cell)
    have hbG6 := Lib.hid (hbG5.out.other (B' := w2.heap.size + 1 + 1) (by omega) (.slice (some ⟨g', 0, none⟩) 1 cap'))
    have hHV := Lib.hid hv2
    have hHR := Lib.hid hr2
    have hHB := Lib.hid (hBX0.out.trans hb2)
    clear hv1 hv2 hr2 hk2 hb2 hown' hgrow hc1' hf1' hgc5
    obtain ⟨X, hX⟩ : ∃ X, w5.setCell ⟨w2.heap.size + 1 + 1, 0, none⟩ (.slice (some ⟨g', 0, none⟩) 1 cap') = X := ⟨_, rfl⟩
    have hbG : Hid (Boxed X w2.heap.size 22 (.slice G N cg)) := by show Boxed _ _ _ _; rw [← hX]; exact hbG6.out
    have hbT : Hid (Boxed X (w2.heap.size + 1 + 1) 78 (.slice (some ⟨g', 0, none⟩) 1 cap')) := by show Boxed _ _ _ _; rw [← hX]; exact hHV.out
    have hrow : Hid (X.ownsRow w2.heap.size 5 1 (.slice (some ⟨g', 0, none⟩) 1 cap') ([45] ++ txP (gB v) (ixs ([] : List (Idx N)))).length (Lib.byteCells ([45] ++ txP (gB v) (ixs ([] : List (Idx N)))))) := by show World.ownsRow _ _ _ _ _ _ _; rw [← hX]; exact hHR.out
    have hBX : Hid (Below w2.heap.size w2 X) := by show Below _ _ _; rw [← hX]; exact hHB.out
    rw [hX]
    clear hX hq hmk
    refine ⟨trivial, (back_in Fence.wide 7 trivial rfl _ _ _ _).mono ?_⟩
    rintro e w' ⟨rfl, rfl⟩
    gi_wp2
    have bI := Boxed.new X 22 (.slice G N cg)
    have hXs := hBX.out.size
    have hXlt := Boxed.lt hbT.out
    refine wpIn_rangeFunc_ownG rfl (by omega) (gf := 83) (lb := #[.pointer (some ⟨X.heap.size, 0, none⟩)]) rfl trivial (enters_of Tryd.func83 (by kernel_rfl) rfl)
      (back_stops Fence.wide 7 trivial rfl (by omega) X.heap.size w2.heap.size G N cg (gB v) _ (by simp) (by simp; omega) bI.cell ((HG.out.below hBX.out).below ((Below.refl _ X).alloc hXs _))) kpB_t (kpB_b (by simp; omega) (by simp)) (Below.refl _ _) (fun _ => rfl)
      (fun pre W => (((∃ u, Boxed W (w2.heap.size + 1 + 1) 78 u ∧ W.ownsRow w2.heap.size 5 1 u ([45] ++ txP (gB v) (ixs pre)).length (Lib.byteCells ([45] ++ txP (gB v) (ixs pre))) ∧ True) ∧ Boxed W w2.heap.size 22 (.slice G N cg)) ∧ Boxed W X.heap.size 22 (.slice G N cg)) ∧ Below w2.heap.size w2 W)
      (fun _ _ _ => False)
      (OwnFrom.and (OwnFrom.and (OwnFrom.and (Own.from (holdsRow_own w2.heap.size (w2.heap.size + 1 + 1) 78 5 1 (fun pre : List (Idx N) => ([45] ++ txP (gB v) (ixs pre)).length) (fun pre => Lib.byteCells ([45] ++ txP (gB v) (ixs pre))) (fun _ _ => True)) _) (Own.from (boxed_own w2.heap.size 22 (fun _ => .slice G N cg)) _)) (Own.from (boxed_own X.heap.size 22 (fun _ => .slice G N cg)) _)) (ownFrom_below (Nat.le_refl _) (by simp; omega)))
      (fun _ _ _ _ _ hs _ _ => hs)
      ⟨⟨⟨⟨_, hbT.out.alloc _, hrow.out.alloc _, trivial⟩, hbG.out.alloc _⟩, bI⟩, hBX.out.alloc hXs _⟩
      (fun x => { tmps := #[.agg #[.bool true, .slice A n c], .pointer (some ⟨w.heap.size, 0, none⟩), .string ⟨#[]⟩, .int .i64 0, .int .i64 0, .pointer (some ⟨w2.heap.size, 0, none⟩), .pointer (some ⟨w2.heap.size + 1 + 1, 0, none⟩), .int .i64 (x.1 : Int), .int .u32 ((gB v)[x.1]?.getD 0 : Nat), .agg #[.bool true, .slice A n c], .int .i64 0, .int .i64 0, .bool false, undef, .pointer (some ⟨w.heap.size, 1, none⟩), .slice A n c, .int .i64 n, .bool false, .pointer (some ⟨w.heap.size, 1, none⟩), .slice A n c, .slice G N cg, .slice G N cg, .int .i64 N, .int .i64 ((N : Int) * 9), .int .i64 (1 + (N : Int) * 9), .slice (some ⟨w2.heap.size + 1, 0, none⟩) 0 (1 + N * 9), .pointer (some ⟨w.heap.size, 0, none⟩), .bool true, .slice (some ⟨w2.heap.size + 1, 0, none⟩) 0 (1 + N * 9), .slice (some ⟨w2.heap.size + 1 + 1 + 1, 0, none⟩) 1 1, .slice (some ⟨g', 0, none⟩) 1 cap', .slice G N cg, .func (.func 83) #[] #[.pointer (some ⟨X.heap.size, 0, none⟩)], .int .i64 (x.1 : Int), .int .u32 ((gB v)[x.1]?.getD 0 : Nat), undef, undef, undef, undef, undef, undef, undef, undef, undef, undef, undef, undef, undef, undef], defers := [] }) ?assign ?body ?done ?stop
    case assign =>
      intro l x W K hK
      gi_wp2
      exact hK
    case body =>
      rintro l pre ⟨k, hk⟩ W ⟨⟨⟨⟨u, hu, hr, _⟩, hbg⟩, hbi⟩, hBl⟩ hlen
      have hgx := (gB_good v).get k
      have HSn := Lib.hid (txP_snoc (gB v) (ixs pre) k)
      have hl1 := txP_len (gB_good v) (ixs pre)
      rw [ixs_len] at hl1
      have hWs := hBl.size
      have HTW := Lib.hid (HT2.out.via hBl)
      have HBl := Lib.hid hBl
      have HU := Lib.hid hu
      have HR := Lib.hid hr
      have HBG := Lib.hid hbg
      have HBI := Lib.hid hbi
      have huc := hu.cell
      have hgc := hbg.cell
      generalize (gB v)[k]?.getD 0 = x at *
      generalize htx : [45] ++ txP (gB v) (ixs pre) = T at *
      have hTl : T.length ≤ 1000000 := by rw [← htx, List.length_append]; simp; omega
      have HTX := Lib.hid htx
      clear hu hr hbg hbi hBl htx hl1 hlen
      dsimp only
      by_cases hkn : k < N - 1
      · have HST : Hid (txP (gB v) (ixs (pre ++ [⟨k, hk⟩])) = txP (gB v) (ixs pre) ++ padk 9 x) := by show _ = _; rw [ixs_snoc, HSn.out, if_pos (by rw [HN.out]; exact hkn)]
        gi_wp2_with fail
        refine ⟨trivial, (CallsIn.inRound l (callsIn_wide.2 (pad_any W w2.heap.size u T x HR.out hWs hgx (by omega)))).mono ?_⟩
        rintro e w3 ⟨v', rfl, hr3, hb3, hk3⟩
        have h3 := boxed_others HU.out hk3 (by decide)
        have hg3 := boxed_others HBG.out hk3 (by decide)
        have hi3 := boxed_others HBI.out hk3 (by decide)
        have hY0 : 0 < (T ++ padk 9 x).length := by rw [List.length_append]; first | (have := dec_ne x; omega) | (rw [padk_len]; omega)
        obtain ⟨Y, hY⟩ : ∃ Y, T ++ padk 9 x = Y := ⟨_, rfl⟩
        rw [hY] at hr3 hY0
        obtain ⟨g', cap', hv', _⟩ := hr3.slice hY0
        have HY := Lib.hid hY
        clear hY hY0
        subst hv'
        have hc3 := h3.cell
        have hf3 := h3.frozen
        have HR3 := Lib.hid hr3
        have HI3 := Lib.hid hi3
        have HG3 := Lib.hid hg3
        have HB3 := Lib.hid hb3
        have HK3 := Lib.hid hk3
        have HU3 := Lib.hid h3
        clear hr3 hi3 hg3 hb3 hk3 h3
        gi_wp2
        have hbf := HB3.out.setCell (p := ⟨w2.heap.size + 1 + 1, 0, none⟩) (by simp; omega) (.slice (some ⟨g', 0, none⟩) Y.length cap')
        refine ⟨((keepsO HK3.out HB3.out.size).trans (KeepsOthers.setCell _ _ _)).from _, ⟨hbf, (HI3.out.other (B' := w2.heap.size + 1 + 1) (by omega) _).cell.trans HBI.out.cell.symm⟩, ⟨⟨⟨_, HU3.out.set _, ?_, trivial⟩, HG3.out.other (by omega) _⟩, HI3.out.other (by omega) _⟩, HBl.out.trans hbf⟩
        rw [HST.out, ← List.append_assoc, HTX.out, HY.out]
        exact World.ownsRow.kept HR3.out (grownBy_setCell' _ _ _) (.inr (HU3.out.not_row (by decide) HR3.out).symm)
      · have hki : decide ((k : Int) < (N : Int) - 1) = false := by simp; omega
        have HST : Hid (txP (gB v) (ixs (pre ++ [⟨k, hk⟩])) = txP (gB v) (ixs pre) ++ Lib.decDigits x) := by show _ = _; rw [ixs_snoc, HSn.out, if_neg (by rw [HN.out]; exact hkn)]
        gi_wp2_with fail
        refine ⟨trivial, (CallsIn.inRound l (callsIn_wide.2 (apu_any W w2.heap.size u T x HR.out hWs (by omega) (by omega) (fun _ => HTW.out)))).mono ?_⟩
        rintro e w3 ⟨v', rfl, hr3, hb3, hk3⟩
        have h3 := boxed_others HU.out hk3 (by decide)
        have hg3 := boxed_others HBG.out hk3 (by decide)
        have hi3 := boxed_others HBI.out hk3 (by decide)
        have hY0 : 0 < (T ++ Lib.decDigits x).length := by rw [List.length_append]; first | (have := dec_ne x; omega) | (rw [padk_len]; omega)
        obtain ⟨Y, hY⟩ : ∃ Y, T ++ Lib.decDigits x = Y := ⟨_, rfl⟩
        rw [hY] at hr3 hY0
        obtain ⟨g', cap', hv', _⟩ := hr3.slice hY0
        have HY := Lib.hid hY
        clear hY hY0
        subst hv'
        have hc3 := h3.cell
        have hf3 := h3.frozen
        have HR3 := Lib.hid hr3
        have HI3 := Lib.hid hi3
        have HG3 := Lib.hid hg3
        have HB3 := Lib.hid hb3
        have HK3 := Lib.hid hk3
        have HU3 := Lib.hid h3
        clear hr3 hi3 hg3 hb3 hk3 h3
        gi_wp2
        have hbf := HB3.out.setCell (p := ⟨w2.heap.size + 1 + 1, 0, none⟩) (by simp; omega) (.slice (some ⟨g', 0, none⟩) Y.length cap')
        refine ⟨((keepsO HK3.out HB3.out.size).trans (KeepsOthers.setCell _ _ _)).from _, ⟨hbf, (HI3.out.other (B' := w2.heap.size + 1 + 1) (by omega) _).cell.trans HBI.out.cell.symm⟩, ⟨⟨⟨_, HU3.out.set _, ?_, trivial⟩, HG3.out.other (by omega) _⟩, HI3.out.other (by omega) _⟩, HBl.out.trans hbf⟩
        rw [HST.out, ← List.append_assoc, HTX.out, HY.out]
        exact World.ownsRow.kept HR3.out (grownBy_setCell' _ _ _) (.inr (HU3.out.not_row (by decide) HR3.out).symm)
    case done =>
      rintro D zs W hD hzs ⟨⟨⟨⟨u, hu, hr, _⟩, hbg⟩, hbi⟩, hBl⟩ hK
      have huc := hu.cell
      have HT9 : Hid ([45] ++ txP (gB v) (ixs zs) = txt true v) := by
        show _ = _
        have h1 : ixs zs = dsc N (N - 1 - (N - 1)) := by rw [Nat.sub_self]; exact hzs
        rw [h1, txP_end HN.out (N - 1) (by omega), Nat.sub_self, Nat.pow_zero, Nat.div_one]
        rfl
      rw [HT9.out] at hr
      have hBw : Bw W w2.heap.size u (txt true v) := hr
      obtain ⟨g', cap', hv', hcs⟩ := hBw.slice (by unfold txt; rw [List.length_append]; have := dec_ne v; omega)
      have hcv := run_convert_bytes_back (P := Tryd.prog) W 78 9 5 ⟨g', 0, none⟩ cap' (txt true v) slice_u8 (Tryd.underlying5) (Tryd.underlying9) hcs
      subst hv'
      have HB9 := Lib.hid (HB2.out.trans ((hBl.trans (belowK_b (w := w2) (Nat.le_refl _) W D (.deferred (some [])) (.deferred none) (by simp at hD; omega) hK rfl rfl)).mono hs2))
      clear hbg hbi hBl hzs hr hBw hcs
      gi_wp2
      refine ⟨by simp, .inl ⟨_, _, rfl, run_takeDeferred hK, ?_⟩⟩
      exact ⟨.tuple #[.string ⟨(txt true v).toArray⟩, .int .i64 0], by simp [results, Tryd.f19, go_sem], rfl, HB9.out⟩
    case stop =>
      rintro D c pre W _ _ h _
      exact h.elim
end Go.Proofs.YtaegadicnbmapaaDoor

/- wide.Text at every number. -/
namespace Go.Proofs.YtaegadicnbmapaaDoor
open Go.RowKit
theorem text_ok (w : World) (neg : Bool) (A : Option Addr) (n c v : Nat) (h : Lm w w.heap.size A n c (digs v)) (hc : chk neg (digs v) = 0) (hT : TabU w) :
    Calls Tryd.prog 19 #[.agg #[.bool neg, .slice A n c]] w fun e w' => e = .returned (.tuple #[.string ⟨(txt neg v).toArray⟩, .int .i64 0]) ∧ Below w.heap.size w w' := by
  rcases Nat.eq_zero_or_pos v with h0 | h0
  · subst h0
    obtain rfl : n = 0 := h.len.symm
    obtain rfl : neg = false := by
      cases neg
      · rfl
      · exact absurd rfl ((chk_ok.1 hc).2.2 rfl)
    have e : txt false 0 = [48] := by unfold txt; rw [dec_small (by omega)]; rfl
    rw [e]
    exact text_zero w A c h
  · exact text_pos w neg A n c v h hc h0 hT
end Go.Proofs.YtaegadicnbmapaaDoor

/- The law's 'alive': the chapter's examples hold. -/
namespace Go.Proofs.YtaegadicnbmapaaDoor
open Go.RowKit

theorem ex_dm1 (w : World) (A B : Option Addr) (n m ca cb : Nat) (hA : Lm w w.heap.size A n ca (digs 7)) (hB : Lm w w.heap.size B m cb (digs 2)) :
    Calls Tryd.prog 26 #[.agg #[.bool true, .slice A n ca], .agg #[.bool false, .slice B m cb]] w (RWW w true (digs 4) false (digs 1) 0) :=
  divmod_down w true false A B n m ca cb 7 2 hA hB (by decide) (by omega) (.inl ⟨rfl, rfl⟩) (by decide)
theorem ex_dm2 (w : World) (A B : Option Addr) (n m ca cb : Nat) (hA : Lm w w.heap.size A n ca (digs 7)) (hB : Lm w w.heap.size B m cb (digs 2)) :
    Calls Tryd.prog 26 #[.agg #[.bool false, .slice A n ca], .agg #[.bool true, .slice B m cb]] w (RWW w true (digs 4) true (digs 1) 0) :=
  divmod_down w false true A B n m ca cb 7 2 hA hB (by decide) (by omega) (.inr ⟨rfl, rfl⟩) (by decide)
theorem ex_sh (w : World) (A : Option Addr) (n c : Nat) (hA : Lm w w.heap.size A n c (digs 5)) (hT : TabD w) :
    Calls Tryd.prog 10 #[.agg #[.bool true, .slice A n c], .int .i64 (-1)] w (RW w true (digs 3) 0) :=
  shift_down_lost w A n c 5 1 (-1) hA (by decide) rfl (by omega) (by omega) hT (by decide)
theorem ex_gcd (w : World) (A B : Option Addr) (n m ca cb : Nat) (hA : Lm w w.heap.size A n ca (digs 12)) (hB : Lm w w.heap.size B m cb (digs 18)) :
    Calls Tryd.prog 8 #[.agg #[.bool true, .slice A n ca], .agg #[.bool false, .slice B m cb]] w (RW w false (digs 6) 0) :=
  gcd_small w true false A B n m ca cb 12 18 hA hB (by decide) (by rw [← hA.len]; decide) (by rw [← hB.len]; decide)
theorem ex_sq (w : World) (A : Option Addr) (n c : Nat) (hA : Lm w w.heap.size A n c (digs 99)) :
    Calls Tryd.prog 14 #[.agg #[.bool false, .slice A n c]] w (RW w false (digs 9) 0) :=
  (sqrt_ok w A n c 99 hA (by decide)).mono fun e w' ⟨r, hr, h⟩ => by
    obtain rfl : r = 9 := hr.uniq ⟨by decide, by decide⟩
    exact h
theorem dec_2_64 : Lib.decDigits 18446744073709551616 = [49, 56, 52, 52, 54, 55, 52, 52, 48, 55, 51, 55, 48, 57, 53, 53, 49, 54, 49, 54] := by
  simp [dec_big, dec_small]
theorem digs_2_64 : digs 18446744073709551616 = [0, 0, 1] := (eq_digs (xs := [0, 0, 1]) (by unfold Good; decide) (by unfold Norm; decide) (by decide)).symm
theorem ex_txt (w : World) (A : Option Addr) (n c : Nat) (hA : Lm w w.heap.size A n c [0, 0, 1]) (hT : TabU w) :
    Calls Tryd.prog 19 #[.agg #[.bool false, .slice A n c]] w fun e w' => e = .returned (.tuple #[.string ⟨#[49, 56, 52, 52, 54, 55, 52, 52, 48, 55, 51, 55, 48, 57, 53, 53, 49, 54, 49, 54]⟩, .int .i64 0]) ∧ Below w.heap.size w w' := by
  rw [← digs_2_64] at hA
  have h := text_ok w false A n c 18446744073709551616 hA (by rw [digs_2_64]; decide) hT
  have e : txt false 18446744073709551616 = [49, 56, 52, 52, 54, 55, 52, 52, 48, 55, 51, 55, 48, 57, 53, 53, 49, 54, 49, 54] := by
    unfold txt
    rw [dec_2_64]
    rfl
  rw [e] at h
  exact h
theorem Lm.three (w : World) (k : Nat) (t : TypeId) (hk : w.heap.size = k) : Lm (w.alloc (.cells #[.int .u32 0, .int .u32 0, .int .u32 1] t)) (k + 1) (some ⟨k, 0, none⟩) 3 3 [0, 0, 1] := by
  subst hk
  exact ⟨rfl, by unfold Good; decide, Nat.le_refl _, by omega, fun h => (by cases h), fun _ => ⟨_, 0, rfl, by omega, fun j hj => by
    match j, hj with
    | 0, _ => go_simp
    | 1, _ => go_simp
    | 2, _ => go_simp⟩⟩

set_option maxRecDepth 100000 in
set_option maxHeartbeats 4000000 in
theorem alive_any (w : World) (hD : TabD w) (hU : TabU w) :
    Calls Tryd.prog 29 #[] w fun e w' => e = .returned (.bool true) ∧ Below w.heap.size w w' := by
  have TD := Lib.hid hD
  have TU := Lib.hid hU
  have HB : Hid (Below w.heap.size w w) := Below.refl _ _
  clear hD hU
  go_enter Tryd.func29, Tryd.ntmps29
  go_wp2_with fail
  refine (from_any _ (-7) (by omega) (by omega)).mono ?_
  rintro e w1 ⟨Aa, na, ca, rfl, ha, hb1⟩
  have QTD := Lib.hid (TD.out.via hb1)
  have QTU := Lib.hid (TU.out.via hb1)
  have QHB := Lib.hid (HB.out.trans (hb1.mono HB.out.size))
  clear TD TU HB
  have TD := QTD
  clear QTD
  have TU := QTU
  clear QTU
  have HB := QHB
  clear QHB
  have La : Hid (Lm w1 w1.heap.size Aa na ca (digs 7)) := ha
  clear ha
  clear hb1
  go_wp2_with fail
  refine (from_any _ (2) (by omega) (by omega)).mono ?_
  rintro e w2 ⟨Ab, nb, cb, rfl, hb, hb2⟩
  have QLa := Lib.hid ((La.out.via hb2))
  have QTD := Lib.hid (TD.out.via hb2)
  have QTU := Lib.hid (TU.out.via hb2)
  have QHB := Lib.hid (HB.out.trans (hb2.mono HB.out.size))
  clear La TD TU HB
  have La := QLa
  clear QLa
  have TD := QTD
  clear QTD
  have TU := QTU
  clear QTU
  have HB := QHB
  clear QHB
  have Lb : Hid (Lm w2 w2.heap.size Ab nb cb (digs 2)) := hb
  clear hb
  clear hb2
  go_wp2_with fail
  refine (ex_dm1 _ _ _ _ _ _ _ La.out Lb.out).mono ?_
  rintro e w3 ⟨Aq, nq, cq, Ar, nr, cr, rfl, hq, hr, hb3⟩
  have QLa := Lib.hid ((La.out.via hb3))
  have QLb := Lib.hid ((Lb.out.via hb3))
  have QTD := Lib.hid (TD.out.via hb3)
  have QTU := Lib.hid (TU.out.via hb3)
  have QHB := Lib.hid (HB.out.trans (hb3.mono HB.out.size))
  clear La Lb TD TU HB
  have La := QLa
  clear QLa
  have Lb := QLb
  clear QLb
  have TD := QTD
  clear QTD
  have TU := QTU
  clear QTU
  have HB := QHB
  clear QHB
  have Lq := Lib.hid hq
  have Lr := Lib.hid hr
  clear hq hr
  clear hb3
  go_wp2_with fail
  refine (from_any _ (7) (by omega) (by omega)).mono ?_
  rintro e w4 ⟨Ac, nc, cc, rfl, hc, hb4⟩
  have QLq := Lib.hid ((((Lq.out.box _).box _).via hb4))
  have QLr := Lib.hid ((((Lr.out.box _).box _).via hb4))
  have QTD := Lib.hid (((TD.out.box _).box _).via hb4)
  have QTU := Lib.hid (((TU.out.box _).box _).via hb4)
  have QHB := Lib.hid (HB.out.trans ((bbox (bbox hb4)).mono HB.out.size))
  have ⟨N1, N2⟩ := boxes2 hb4
  have Pq := Lib.hid N1
  have Pr_ := Lib.hid N2
  clear N1 N2
  clear Lq Lr TD TU HB
  have Lq := QLq
  clear QLq
  have Lr := QLr
  clear QLr
  have TD := QTD
  clear QTD
  have TU := QTU
  clear QTU
  have HB := QHB
  clear QHB
  have Lc : Hid (Lm w4 w4.heap.size Ac nc cc (digs 7)) := hc
  clear hc
  clear hb4
  go_wp2_with fail
  refine (from_any _ (-2) (by omega) (by omega)).mono ?_
  rintro e w5 ⟨Ad, nd, cd, rfl, hd, hb5⟩
  have QLq := Lib.hid ((Lq.out.via hb5))
  have QLr := Lib.hid ((Lr.out.via hb5))
  have QLc := Lib.hid ((Lc.out.via hb5))
  have QPq := Lib.hid (Pq.out.via hb5)
  have QPr_ := Lib.hid (Pr_.out.via hb5)
  have QTD := Lib.hid (TD.out.via hb5)
  have QTU := Lib.hid (TU.out.via hb5)
  have QHB := Lib.hid (HB.out.trans (hb5.mono HB.out.size))
  clear Lq Lr Lc Pq Pr_ TD TU HB
  have Lq := QLq
  clear QLq
  have Lr := QLr
  clear QLr
  have Lc := QLc
  clear QLc
  have Pq := QPq
  clear QPq
  have Pr_ := QPr_
  clear QPr_
  have TD := QTD
  clear QTD
  have TU := QTU
  clear QTU
  have HB := QHB
  clear QHB
  have Ld : Hid (Lm w5 w5.heap.size Ad nd cd (digs 2)) := hd
  clear hd
  clear hb5
  go_wp2_with fail
  refine (ex_dm2 _ _ _ _ _ _ _ Lc.out Ld.out).mono ?_
  rintro e w6 ⟨Ap, np, cp, As, ns, cs, rfl, hp, hs, hb6⟩
  have QLq := Lib.hid ((Lq.out.via hb6))
  have QLr := Lib.hid ((Lr.out.via hb6))
  have QLc := Lib.hid ((Lc.out.via hb6))
  have QLd := Lib.hid ((Ld.out.via hb6))
  have QPq := Lib.hid (Pq.out.via hb6)
  have QPr_ := Lib.hid (Pr_.out.via hb6)
  have QTD := Lib.hid (TD.out.via hb6)
  have QTU := Lib.hid (TU.out.via hb6)
  have QHB := Lib.hid (HB.out.trans (hb6.mono HB.out.size))
  clear Lq Lr Lc Ld Pq Pr_ TD TU HB
  have Lq := QLq
  clear QLq
  have Lr := QLr
  clear QLr
  have Lc := QLc
  clear QLc
  have Ld := QLd
  clear QLd
  have Pq := QPq
  clear QPq
  have Pr_ := QPr_
  clear QPr_
  have TD := QTD
  clear QTD
  have TU := QTU
  clear QTU
  have HB := QHB
  clear QHB
  have Lp := Lib.hid hp
  have Ls := Lib.hid hs
  clear hp hs
  clear hb6
  go_wp2_with fail
  refine (from_any _ (-5) (by omega) (by omega)).mono ?_
  rintro e w7 ⟨Ae, ne, ce, rfl, he, hb7⟩
  have QLq := Lib.hid ((((Lq.out.box _).box _).via hb7))
  have QLr := Lib.hid ((((Lr.out.box _).box _).via hb7))
  have QLp := Lib.hid ((((Lp.out.box _).box _).via hb7))
  have QLs := Lib.hid ((((Ls.out.box _).box _).via hb7))
  have QPq := Lib.hid (((Pq.out.alloc _).alloc _).via hb7)
  have QPr_ := Lib.hid (((Pr_.out.alloc _).alloc _).via hb7)
  have QTD := Lib.hid (((TD.out.box _).box _).via hb7)
  have QTU := Lib.hid (((TU.out.box _).box _).via hb7)
  have QHB := Lib.hid (HB.out.trans ((bbox (bbox hb7)).mono HB.out.size))
  have ⟨N1, N2⟩ := boxes2 hb7
  have Pp := Lib.hid N1
  have Ps := Lib.hid N2
  clear N1 N2
  clear Lq Lr Lp Ls Pq Pr_ TD TU HB
  have Lq := QLq
  clear QLq
  have Lr := QLr
  clear QLr
  have Lp := QLp
  clear QLp
  have Ls := QLs
  clear QLs
  have Pq := QPq
  clear QPq
  have Pr_ := QPr_
  clear QPr_
  have TD := QTD
  clear QTD
  have TU := QTU
  clear QTU
  have HB := QHB
  clear QHB
  have Le : Hid (Lm w7 w7.heap.size Ae ne ce (digs 5)) := he
  clear he
  clear hb7
  go_wp2_with fail
  refine (ex_sh _ _ _ _ Le.out TD.out).mono ?_
  rintro e w8 ⟨Ax, nx, cx, rfl, hx, hb8⟩
  have QLq := Lib.hid ((Lq.out.via hb8))
  have QLr := Lib.hid ((Lr.out.via hb8))
  have QLp := Lib.hid ((Lp.out.via hb8))
  have QLs := Lib.hid ((Ls.out.via hb8))
  have QLe := Lib.hid ((Le.out.via hb8))
  have QPq := Lib.hid (Pq.out.via hb8)
  have QPr_ := Lib.hid (Pr_.out.via hb8)
  have QPp := Lib.hid (Pp.out.via hb8)
  have QPs := Lib.hid (Ps.out.via hb8)
  have QTD := Lib.hid (TD.out.via hb8)
  have QTU := Lib.hid (TU.out.via hb8)
  have QHB := Lib.hid (HB.out.trans (hb8.mono HB.out.size))
  clear Lq Lr Lp Ls Le Pq Pr_ Pp Ps TD TU HB
  have Lq := QLq
  clear QLq
  have Lr := QLr
  clear QLr
  have Lp := QLp
  clear QLp
  have Ls := QLs
  clear QLs
  have Le := QLe
  clear QLe
  have Pq := QPq
  clear QPq
  have Pr_ := QPr_
  clear QPr_
  have Pp := QPp
  clear QPp
  have Ps := QPs
  clear QPs
  have TD := QTD
  clear QTD
  have TU := QTU
  clear QTU
  have HB := QHB
  clear QHB
  have Lx := Lib.hid hx
  clear hx
  clear hb8
  go_wp2_with fail
  refine (from_any _ (-12) (by omega) (by omega)).mono ?_
  rintro e w9 ⟨Af, nf, cf, rfl, hf, hb9⟩
  have QLq := Lib.hid (((Lq.out.box _).via hb9))
  have QLr := Lib.hid (((Lr.out.box _).via hb9))
  have QLp := Lib.hid (((Lp.out.box _).via hb9))
  have QLs := Lib.hid (((Ls.out.box _).via hb9))
  have QLx := Lib.hid (((Lx.out.box _).via hb9))
  have QPq := Lib.hid ((Pq.out.alloc _).via hb9)
  have QPr_ := Lib.hid ((Pr_.out.alloc _).via hb9)
  have QPp := Lib.hid ((Pp.out.alloc _).via hb9)
  have QPs := Lib.hid ((Ps.out.alloc _).via hb9)
  have QTD := Lib.hid ((TD.out.box _).via hb9)
  have QTU := Lib.hid ((TU.out.box _).via hb9)
  have QHB := Lib.hid (HB.out.trans ((bbox hb9).mono HB.out.size))
  have Px := Lib.hid ((Pr.new _ _ rfl _ _ _).via hb9)
  clear Lq Lr Lp Ls Lx Pq Pr_ Pp Ps TD TU HB
  have Lq := QLq
  clear QLq
  have Lr := QLr
  clear QLr
  have Lp := QLp
  clear QLp
  have Ls := QLs
  clear QLs
  have Lx := QLx
  clear QLx
  have Pq := QPq
  clear QPq
  have Pr_ := QPr_
  clear QPr_
  have Pp := QPp
  clear QPp
  have Ps := QPs
  clear QPs
  have TD := QTD
  clear QTD
  have TU := QTU
  clear QTU
  have HB := QHB
  clear QHB
  have Lf : Hid (Lm w9 w9.heap.size Af nf cf (digs 12)) := hf
  clear hf
  clear hb9
  go_wp2_with fail
  refine (from_any _ (18) (by omega) (by omega)).mono ?_
  rintro e w10 ⟨Ag, ng, cg, rfl, hg, hb10⟩
  have QLq := Lib.hid ((Lq.out.via hb10))
  have QLr := Lib.hid ((Lr.out.via hb10))
  have QLp := Lib.hid ((Lp.out.via hb10))
  have QLs := Lib.hid ((Ls.out.via hb10))
  have QLx := Lib.hid ((Lx.out.via hb10))
  have QLf := Lib.hid ((Lf.out.via hb10))
  have QPq := Lib.hid (Pq.out.via hb10)
  have QPr_ := Lib.hid (Pr_.out.via hb10)
  have QPp := Lib.hid (Pp.out.via hb10)
  have QPs := Lib.hid (Ps.out.via hb10)
  have QPx := Lib.hid (Px.out.via hb10)
  have QTD := Lib.hid (TD.out.via hb10)
  have QTU := Lib.hid (TU.out.via hb10)
  have QHB := Lib.hid (HB.out.trans (hb10.mono HB.out.size))
  clear Lq Lr Lp Ls Lx Lf Pq Pr_ Pp Ps Px TD TU HB
  have Lq := QLq
  clear QLq
  have Lr := QLr
  clear QLr
  have Lp := QLp
  clear QLp
  have Ls := QLs
  clear QLs
  have Lx := QLx
  clear QLx
  have Lf := QLf
  clear QLf
  have Pq := QPq
  clear QPq
  have Pr_ := QPr_
  clear QPr_
  have Pp := QPp
  clear QPp
  have Ps := QPs
  clear QPs
  have Px := QPx
  clear QPx
  have TD := QTD
  clear QTD
  have TU := QTU
  clear QTU
  have HB := QHB
  clear QHB
  have Lg : Hid (Lm w10 w10.heap.size Ag ng cg (digs 18)) := hg
  clear hg
  clear hb10
  go_wp2_with fail
  refine (ex_gcd _ _ _ _ _ _ _ Lf.out Lg.out).mono ?_
  rintro e w11 ⟨Ay, ny, cy, rfl, hy, hb11⟩
  have QLq := Lib.hid ((Lq.out.via hb11))
  have QLr := Lib.hid ((Lr.out.via hb11))
  have QLp := Lib.hid ((Lp.out.via hb11))
  have QLs := Lib.hid ((Ls.out.via hb11))
  have QLx := Lib.hid ((Lx.out.via hb11))
  have QLf := Lib.hid ((Lf.out.via hb11))
  have QLg := Lib.hid ((Lg.out.via hb11))
  have QPq := Lib.hid (Pq.out.via hb11)
  have QPr_ := Lib.hid (Pr_.out.via hb11)
  have QPp := Lib.hid (Pp.out.via hb11)
  have QPs := Lib.hid (Ps.out.via hb11)
  have QPx := Lib.hid (Px.out.via hb11)
  have QTD := Lib.hid (TD.out.via hb11)
  have QTU := Lib.hid (TU.out.via hb11)
  have QHB := Lib.hid (HB.out.trans (hb11.mono HB.out.size))
  clear Lq Lr Lp Ls Lx Lf Lg Pq Pr_ Pp Ps Px TD TU HB
  have Lq := QLq
  clear QLq
  have Lr := QLr
  clear QLr
  have Lp := QLp
  clear QLp
  have Ls := QLs
  clear QLs
  have Lx := QLx
  clear QLx
  have Lf := QLf
  clear QLf
  have Lg := QLg
  clear QLg
  have Pq := QPq
  clear QPq
  have Pr_ := QPr_
  clear QPr_
  have Pp := QPp
  clear QPp
  have Ps := QPs
  clear QPs
  have Px := QPx
  clear QPx
  have TD := QTD
  clear QTD
  have TU := QTU
  clear QTU
  have HB := QHB
  clear QHB
  have Ly := Lib.hid hy
  clear hy
  clear hb11
  go_wp2_with fail
  refine (from_any _ (99) (by omega) (by omega)).mono ?_
  rintro e w12 ⟨Ah, nh, ch, rfl, hh, hb12⟩
  have QLq := Lib.hid (((Lq.out.box _).via hb12))
  have QLr := Lib.hid (((Lr.out.box _).via hb12))
  have QLp := Lib.hid (((Lp.out.box _).via hb12))
  have QLs := Lib.hid (((Ls.out.box _).via hb12))
  have QLx := Lib.hid (((Lx.out.box _).via hb12))
  have QLy := Lib.hid (((Ly.out.box _).via hb12))
  have QPq := Lib.hid ((Pq.out.alloc _).via hb12)
  have QPr_ := Lib.hid ((Pr_.out.alloc _).via hb12)
  have QPp := Lib.hid ((Pp.out.alloc _).via hb12)
  have QPs := Lib.hid ((Ps.out.alloc _).via hb12)
  have QPx := Lib.hid ((Px.out.alloc _).via hb12)
  have QTD := Lib.hid ((TD.out.box _).via hb12)
  have QTU := Lib.hid ((TU.out.box _).via hb12)
  have QHB := Lib.hid (HB.out.trans ((bbox hb12).mono HB.out.size))
  have Py := Lib.hid ((Pr.new _ _ rfl _ _ _).via hb12)
  clear Lq Lr Lp Ls Lx Ly Pq Pr_ Pp Ps Px TD TU HB
  have Lq := QLq
  clear QLq
  have Lr := QLr
  clear QLr
  have Lp := QLp
  clear QLp
  have Ls := QLs
  clear QLs
  have Lx := QLx
  clear QLx
  have Ly := QLy
  clear QLy
  have Pq := QPq
  clear QPq
  have Pr_ := QPr_
  clear QPr_
  have Pp := QPp
  clear QPp
  have Ps := QPs
  clear QPs
  have Px := QPx
  clear QPx
  have TD := QTD
  clear QTD
  have TU := QTU
  clear QTU
  have HB := QHB
  clear QHB
  have Lh : Hid (Lm w12 w12.heap.size Ah nh ch (digs 99)) := hh
  clear hh
  clear hb12
  go_wp2_with fail
  refine (ex_sq _ _ _ _ Lh.out).mono ?_
  rintro e w13 ⟨Az, nz, cz, rfl, hz, hb13⟩
  have QLq := Lib.hid ((Lq.out.via hb13))
  have QLr := Lib.hid ((Lr.out.via hb13))
  have QLp := Lib.hid ((Lp.out.via hb13))
  have QLs := Lib.hid ((Ls.out.via hb13))
  have QLx := Lib.hid ((Lx.out.via hb13))
  have QLy := Lib.hid ((Ly.out.via hb13))
  have QLh := Lib.hid ((Lh.out.via hb13))
  have QPq := Lib.hid (Pq.out.via hb13)
  have QPr_ := Lib.hid (Pr_.out.via hb13)
  have QPp := Lib.hid (Pp.out.via hb13)
  have QPs := Lib.hid (Ps.out.via hb13)
  have QPx := Lib.hid (Px.out.via hb13)
  have QPy := Lib.hid (Py.out.via hb13)
  have QTD := Lib.hid (TD.out.via hb13)
  have QTU := Lib.hid (TU.out.via hb13)
  have QHB := Lib.hid (HB.out.trans (hb13.mono HB.out.size))
  clear Lq Lr Lp Ls Lx Ly Lh Pq Pr_ Pp Ps Px Py TD TU HB
  have Lq := QLq
  clear QLq
  have Lr := QLr
  clear QLr
  have Lp := QLp
  clear QLp
  have Ls := QLs
  clear QLs
  have Lx := QLx
  clear QLx
  have Ly := QLy
  clear QLy
  have Lh := QLh
  clear QLh
  have Pq := QPq
  clear QPq
  have Pr_ := QPr_
  clear QPr_
  have Pp := QPp
  clear QPp
  have Ps := QPs
  clear QPs
  have Px := QPx
  clear QPx
  have Py := QPy
  clear QPy
  have TD := QTD
  clear QTD
  have TU := QTU
  clear QTU
  have HB := QHB
  clear QHB
  have Lz := Lib.hid hz
  clear hz
  clear hb13
  go_wp2_with fail
  refine (whole_any _ _ _ _ _ [0, 0, 1] ((Lm.three _ (w13.heap.size + 1) _ (by simp)).mono (by simp))).mono ?_
  rintro e w14 ⟨rfl, hb14⟩
  have QLq := Lib.hid ((((Lq.out.box _).box _).via hb14))
  have QLr := Lib.hid ((((Lr.out.box _).box _).via hb14))
  have QLp := Lib.hid ((((Lp.out.box _).box _).via hb14))
  have QLs := Lib.hid ((((Ls.out.box _).box _).via hb14))
  have QLx := Lib.hid ((((Lx.out.box _).box _).via hb14))
  have QLy := Lib.hid ((((Ly.out.box _).box _).via hb14))
  have QLz := Lib.hid ((((Lz.out.box _).box _).via hb14))
  have QPq := Lib.hid (((Pq.out.alloc _).alloc _).via hb14)
  have QPr_ := Lib.hid (((Pr_.out.alloc _).alloc _).via hb14)
  have QPp := Lib.hid (((Pp.out.alloc _).alloc _).via hb14)
  have QPs := Lib.hid (((Ps.out.alloc _).alloc _).via hb14)
  have QPx := Lib.hid (((Px.out.alloc _).alloc _).via hb14)
  have QPy := Lib.hid (((Py.out.alloc _).alloc _).via hb14)
  have QTD := Lib.hid (((TD.out.box _).box _).via hb14)
  have QTU := Lib.hid (((TU.out.box _).box _).via hb14)
  have QHB := Lib.hid (HB.out.trans ((bbox (bbox hb14)).mono HB.out.size))
  have Pz := Lib.hid (((Pr.new _ _ rfl _ _ _).alloc _).via hb14)
  clear Lq Lr Lp Ls Lx Ly Lz Pq Pr_ Pp Ps Px Py TD TU HB
  have Lq := QLq
  clear QLq
  have Lr := QLr
  clear QLr
  have Lp := QLp
  clear QLp
  have Ls := QLs
  clear QLs
  have Lx := QLx
  clear QLx
  have Ly := QLy
  clear QLy
  have Lz := QLz
  clear QLz
  have Pq := QPq
  clear QPq
  have Pr_ := QPr_
  clear QPr_
  have Pp := QPp
  clear QPp
  have Ps := QPs
  clear QPs
  have Px := QPx
  clear QPx
  have Py := QPy
  clear QPy
  have TD := QTD
  clear QTD
  have TU := QTU
  clear QTU
  have HB := QHB
  clear QHB
  have L3 := Lib.hid (((Lm.three _ (w13.heap.size + 1) _ (by simp)).mono (by simp)).via hb14)
  clear hb14
  go_wp2_with fail
  refine (ex_txt _ _ _ _ L3.out TU.out).mono ?_
  rintro e w15 ⟨rfl, hb15⟩
  have QLq := Lib.hid ((Lq.out.via hb15))
  have QLr := Lib.hid ((Lr.out.via hb15))
  have QLp := Lib.hid ((Lp.out.via hb15))
  have QLs := Lib.hid ((Ls.out.via hb15))
  have QLx := Lib.hid ((Lx.out.via hb15))
  have QLy := Lib.hid ((Ly.out.via hb15))
  have QLz := Lib.hid ((Lz.out.via hb15))
  have QL3 := Lib.hid ((L3.out.via hb15))
  have QPq := Lib.hid (Pq.out.via hb15)
  have QPr_ := Lib.hid (Pr_.out.via hb15)
  have QPp := Lib.hid (Pp.out.via hb15)
  have QPs := Lib.hid (Ps.out.via hb15)
  have QPx := Lib.hid (Px.out.via hb15)
  have QPy := Lib.hid (Py.out.via hb15)
  have QPz := Lib.hid (Pz.out.via hb15)
  have QTD := Lib.hid (TD.out.via hb15)
  have QTU := Lib.hid (TU.out.via hb15)
  have QHB := Lib.hid (HB.out.trans (hb15.mono HB.out.size))
  clear Lq Lr Lp Ls Lx Ly Lz L3 Pq Pr_ Pp Ps Px Py Pz TD TU HB
  have Lq := QLq
  clear QLq
  have Lr := QLr
  clear QLr
  have Lp := QLp
  clear QLp
  have Ls := QLs
  clear QLs
  have Lx := QLx
  clear QLx
  have Ly := QLy
  clear QLy
  have Lz := QLz
  clear QLz
  have L3 := QL3
  clear QL3
  have Pq := QPq
  clear QPq
  have Pr_ := QPr_
  clear QPr_
  have Pp := QPp
  clear QPp
  have Ps := QPs
  clear QPs
  have Px := QPx
  clear QPx
  have Py := QPy
  clear QPy
  have Pz := QPz
  clear QPz
  have TD := QTD
  clear QTD
  have TU := QTU
  clear QTU
  have HB := QHB
  clear QHB
  clear hb15
  clear L3
  have ⟨c0, c1, _, _, _⟩ := Pq.out
  go_wp2_with fail
  refine (lsame_true _ true _ _ _ 4 (-4) Lq.out (by decide) (by decide) (by omega) (by omega)).mono ?_
  rintro e w16 ⟨rfl, hb16⟩
  have QLq := Lib.hid ((Lq.out.via hb16))
  have QLr := Lib.hid ((Lr.out.via hb16))
  have QLp := Lib.hid ((Lp.out.via hb16))
  have QLs := Lib.hid ((Ls.out.via hb16))
  have QLx := Lib.hid ((Lx.out.via hb16))
  have QLy := Lib.hid ((Ly.out.via hb16))
  have QLz := Lib.hid ((Lz.out.via hb16))
  have QPq := Lib.hid (Pq.out.via hb16)
  have QPr_ := Lib.hid (Pr_.out.via hb16)
  have QPp := Lib.hid (Pp.out.via hb16)
  have QPs := Lib.hid (Ps.out.via hb16)
  have QPx := Lib.hid (Px.out.via hb16)
  have QPy := Lib.hid (Py.out.via hb16)
  have QPz := Lib.hid (Pz.out.via hb16)
  have QTD := Lib.hid (TD.out.via hb16)
  have QTU := Lib.hid (TU.out.via hb16)
  have QHB := Lib.hid (HB.out.trans (hb16.mono HB.out.size))
  clear Lq Lr Lp Ls Lx Ly Lz Pq Pr_ Pp Ps Px Py Pz TD TU HB
  have Lq := QLq
  clear QLq
  have Lr := QLr
  clear QLr
  have Lp := QLp
  clear QLp
  have Ls := QLs
  clear QLs
  have Lx := QLx
  clear QLx
  have Ly := QLy
  clear QLy
  have Lz := QLz
  clear QLz
  have Pq := QPq
  clear QPq
  have Pr_ := QPr_
  clear QPr_
  have Pp := QPp
  clear QPp
  have Ps := QPs
  clear QPs
  have Px := QPx
  clear QPx
  have Py := QPy
  clear QPy
  have Pz := QPz
  clear QPz
  have TD := QTD
  clear QTD
  have TU := QTU
  clear QTU
  have HB := QHB
  clear QHB
  clear c0 c1
  clear hb16
  have ⟨c0, c1, _, _, _⟩ := Pr_.out
  go_wp2_with fail
  refine (lsame_true _ false _ _ _ 1 (1) Lr.out (by decide) (by decide) (by omega) (by omega)).mono ?_
  rintro e w17 ⟨rfl, hb17⟩
  have QLq := Lib.hid ((Lq.out.via hb17))
  have QLr := Lib.hid ((Lr.out.via hb17))
  have QLp := Lib.hid ((Lp.out.via hb17))
  have QLs := Lib.hid ((Ls.out.via hb17))
  have QLx := Lib.hid ((Lx.out.via hb17))
  have QLy := Lib.hid ((Ly.out.via hb17))
  have QLz := Lib.hid ((Lz.out.via hb17))
  have QPq := Lib.hid (Pq.out.via hb17)
  have QPr_ := Lib.hid (Pr_.out.via hb17)
  have QPp := Lib.hid (Pp.out.via hb17)
  have QPs := Lib.hid (Ps.out.via hb17)
  have QPx := Lib.hid (Px.out.via hb17)
  have QPy := Lib.hid (Py.out.via hb17)
  have QPz := Lib.hid (Pz.out.via hb17)
  have QTD := Lib.hid (TD.out.via hb17)
  have QTU := Lib.hid (TU.out.via hb17)
  have QHB := Lib.hid (HB.out.trans (hb17.mono HB.out.size))
  clear Lq Lr Lp Ls Lx Ly Lz Pq Pr_ Pp Ps Px Py Pz TD TU HB
  have Lq := QLq
  clear QLq
  have Lr := QLr
  clear QLr
  have Lp := QLp
  clear QLp
  have Ls := QLs
  clear QLs
  have Lx := QLx
  clear QLx
  have Ly := QLy
  clear QLy
  have Lz := QLz
  clear QLz
  have Pq := QPq
  clear QPq
  have Pr_ := QPr_
  clear QPr_
  have Pp := QPp
  clear QPp
  have Ps := QPs
  clear QPs
  have Px := QPx
  clear QPx
  have Py := QPy
  clear QPy
  have Pz := QPz
  clear QPz
  have TD := QTD
  clear QTD
  have TU := QTU
  clear QTU
  have HB := QHB
  clear QHB
  clear c0 c1
  clear hb17
  have ⟨c0, c1, _, _, _⟩ := Pp.out
  go_wp2_with fail
  refine (lsame_true _ true _ _ _ 4 (-4) Lp.out (by decide) (by decide) (by omega) (by omega)).mono ?_
  rintro e w18 ⟨rfl, hb18⟩
  have QLq := Lib.hid ((Lq.out.via hb18))
  have QLr := Lib.hid ((Lr.out.via hb18))
  have QLp := Lib.hid ((Lp.out.via hb18))
  have QLs := Lib.hid ((Ls.out.via hb18))
  have QLx := Lib.hid ((Lx.out.via hb18))
  have QLy := Lib.hid ((Ly.out.via hb18))
  have QLz := Lib.hid ((Lz.out.via hb18))
  have QPq := Lib.hid (Pq.out.via hb18)
  have QPr_ := Lib.hid (Pr_.out.via hb18)
  have QPp := Lib.hid (Pp.out.via hb18)
  have QPs := Lib.hid (Ps.out.via hb18)
  have QPx := Lib.hid (Px.out.via hb18)
  have QPy := Lib.hid (Py.out.via hb18)
  have QPz := Lib.hid (Pz.out.via hb18)
  have QTD := Lib.hid (TD.out.via hb18)
  have QTU := Lib.hid (TU.out.via hb18)
  have QHB := Lib.hid (HB.out.trans (hb18.mono HB.out.size))
  clear Lq Lr Lp Ls Lx Ly Lz Pq Pr_ Pp Ps Px Py Pz TD TU HB
  have Lq := QLq
  clear QLq
  have Lr := QLr
  clear QLr
  have Lp := QLp
  clear QLp
  have Ls := QLs
  clear QLs
  have Lx := QLx
  clear QLx
  have Ly := QLy
  clear QLy
  have Lz := QLz
  clear QLz
  have Pq := QPq
  clear QPq
  have Pr_ := QPr_
  clear QPr_
  have Pp := QPp
  clear QPp
  have Ps := QPs
  clear QPs
  have Px := QPx
  clear QPx
  have Py := QPy
  clear QPy
  have Pz := QPz
  clear QPz
  have TD := QTD
  clear QTD
  have TU := QTU
  clear QTU
  have HB := QHB
  clear QHB
  clear c0 c1
  clear hb18
  have ⟨c0, c1, _, _, _⟩ := Ps.out
  go_wp2_with fail
  refine (lsame_true _ true _ _ _ 1 (-1) Ls.out (by decide) (by decide) (by omega) (by omega)).mono ?_
  rintro e w19 ⟨rfl, hb19⟩
  have QLq := Lib.hid ((Lq.out.via hb19))
  have QLr := Lib.hid ((Lr.out.via hb19))
  have QLp := Lib.hid ((Lp.out.via hb19))
  have QLs := Lib.hid ((Ls.out.via hb19))
  have QLx := Lib.hid ((Lx.out.via hb19))
  have QLy := Lib.hid ((Ly.out.via hb19))
  have QLz := Lib.hid ((Lz.out.via hb19))
  have QPq := Lib.hid (Pq.out.via hb19)
  have QPr_ := Lib.hid (Pr_.out.via hb19)
  have QPp := Lib.hid (Pp.out.via hb19)
  have QPs := Lib.hid (Ps.out.via hb19)
  have QPx := Lib.hid (Px.out.via hb19)
  have QPy := Lib.hid (Py.out.via hb19)
  have QPz := Lib.hid (Pz.out.via hb19)
  have QTD := Lib.hid (TD.out.via hb19)
  have QTU := Lib.hid (TU.out.via hb19)
  have QHB := Lib.hid (HB.out.trans (hb19.mono HB.out.size))
  clear Lq Lr Lp Ls Lx Ly Lz Pq Pr_ Pp Ps Px Py Pz TD TU HB
  have Lq := QLq
  clear QLq
  have Lr := QLr
  clear QLr
  have Lp := QLp
  clear QLp
  have Ls := QLs
  clear QLs
  have Lx := QLx
  clear QLx
  have Ly := QLy
  clear QLy
  have Lz := QLz
  clear QLz
  have Pq := QPq
  clear QPq
  have Pr_ := QPr_
  clear QPr_
  have Pp := QPp
  clear QPp
  have Ps := QPs
  clear QPs
  have Px := QPx
  clear QPx
  have Py := QPy
  clear QPy
  have Pz := QPz
  clear QPz
  have TD := QTD
  clear QTD
  have TU := QTU
  clear QTU
  have HB := QHB
  clear QHB
  clear c0 c1
  clear hb19
  have ⟨c0, c1, _, _, _⟩ := Px.out
  go_wp2_with fail
  refine (lsame_true _ true _ _ _ 3 (-3) Lx.out (by decide) (by decide) (by omega) (by omega)).mono ?_
  rintro e w20 ⟨rfl, hb20⟩
  have QLq := Lib.hid ((Lq.out.via hb20))
  have QLr := Lib.hid ((Lr.out.via hb20))
  have QLp := Lib.hid ((Lp.out.via hb20))
  have QLs := Lib.hid ((Ls.out.via hb20))
  have QLx := Lib.hid ((Lx.out.via hb20))
  have QLy := Lib.hid ((Ly.out.via hb20))
  have QLz := Lib.hid ((Lz.out.via hb20))
  have QPq := Lib.hid (Pq.out.via hb20)
  have QPr_ := Lib.hid (Pr_.out.via hb20)
  have QPp := Lib.hid (Pp.out.via hb20)
  have QPs := Lib.hid (Ps.out.via hb20)
  have QPx := Lib.hid (Px.out.via hb20)
  have QPy := Lib.hid (Py.out.via hb20)
  have QPz := Lib.hid (Pz.out.via hb20)
  have QTD := Lib.hid (TD.out.via hb20)
  have QTU := Lib.hid (TU.out.via hb20)
  have QHB := Lib.hid (HB.out.trans (hb20.mono HB.out.size))
  clear Lq Lr Lp Ls Lx Ly Lz Pq Pr_ Pp Ps Px Py Pz TD TU HB
  have Lq := QLq
  clear QLq
  have Lr := QLr
  clear QLr
  have Lp := QLp
  clear QLp
  have Ls := QLs
  clear QLs
  have Lx := QLx
  clear QLx
  have Ly := QLy
  clear QLy
  have Lz := QLz
  clear QLz
  have Pq := QPq
  clear QPq
  have Pr_ := QPr_
  clear QPr_
  have Pp := QPp
  clear QPp
  have Ps := QPs
  clear QPs
  have Px := QPx
  clear QPx
  have Py := QPy
  clear QPy
  have Pz := QPz
  clear QPz
  have TD := QTD
  clear QTD
  have TU := QTU
  clear QTU
  have HB := QHB
  clear QHB
  clear c0 c1
  clear hb20
  have ⟨c0, c1, _, _, _⟩ := Py.out
  go_wp2_with fail
  refine (lsame_true _ false _ _ _ 6 (6) Ly.out (by decide) (by decide) (by omega) (by omega)).mono ?_
  rintro e w21 ⟨rfl, hb21⟩
  have QLq := Lib.hid ((Lq.out.via hb21))
  have QLr := Lib.hid ((Lr.out.via hb21))
  have QLp := Lib.hid ((Lp.out.via hb21))
  have QLs := Lib.hid ((Ls.out.via hb21))
  have QLx := Lib.hid ((Lx.out.via hb21))
  have QLy := Lib.hid ((Ly.out.via hb21))
  have QLz := Lib.hid ((Lz.out.via hb21))
  have QPq := Lib.hid (Pq.out.via hb21)
  have QPr_ := Lib.hid (Pr_.out.via hb21)
  have QPp := Lib.hid (Pp.out.via hb21)
  have QPs := Lib.hid (Ps.out.via hb21)
  have QPx := Lib.hid (Px.out.via hb21)
  have QPy := Lib.hid (Py.out.via hb21)
  have QPz := Lib.hid (Pz.out.via hb21)
  have QTD := Lib.hid (TD.out.via hb21)
  have QTU := Lib.hid (TU.out.via hb21)
  have QHB := Lib.hid (HB.out.trans (hb21.mono HB.out.size))
  clear Lq Lr Lp Ls Lx Ly Lz Pq Pr_ Pp Ps Px Py Pz TD TU HB
  have Lq := QLq
  clear QLq
  have Lr := QLr
  clear QLr
  have Lp := QLp
  clear QLp
  have Ls := QLs
  clear QLs
  have Lx := QLx
  clear QLx
  have Ly := QLy
  clear QLy
  have Lz := QLz
  clear QLz
  have Pq := QPq
  clear QPq
  have Pr_ := QPr_
  clear QPr_
  have Pp := QPp
  clear QPp
  have Ps := QPs
  clear QPs
  have Px := QPx
  clear QPx
  have Py := QPy
  clear QPy
  have Pz := QPz
  clear QPz
  have TD := QTD
  clear QTD
  have TU := QTU
  clear QTU
  have HB := QHB
  clear QHB
  clear c0 c1
  clear hb21
  have ⟨c0, c1, _, _, _⟩ := Pz.out
  go_wp2_with fail
  refine (lsame_true _ false _ _ _ 9 (9) Lz.out (by decide) (by decide) (by omega) (by omega)).mono ?_
  rintro e w22 ⟨rfl, hb22⟩
  have QLq := Lib.hid ((Lq.out.via hb22))
  have QLr := Lib.hid ((Lr.out.via hb22))
  have QLp := Lib.hid ((Lp.out.via hb22))
  have QLs := Lib.hid ((Ls.out.via hb22))
  have QLx := Lib.hid ((Lx.out.via hb22))
  have QLy := Lib.hid ((Ly.out.via hb22))
  have QLz := Lib.hid ((Lz.out.via hb22))
  have QPq := Lib.hid (Pq.out.via hb22)
  have QPr_ := Lib.hid (Pr_.out.via hb22)
  have QPp := Lib.hid (Pp.out.via hb22)
  have QPs := Lib.hid (Ps.out.via hb22)
  have QPx := Lib.hid (Px.out.via hb22)
  have QPy := Lib.hid (Py.out.via hb22)
  have QPz := Lib.hid (Pz.out.via hb22)
  have QTD := Lib.hid (TD.out.via hb22)
  have QTU := Lib.hid (TU.out.via hb22)
  have QHB := Lib.hid (HB.out.trans (hb22.mono HB.out.size))
  clear Lq Lr Lp Ls Lx Ly Lz Pq Pr_ Pp Ps Px Py Pz TD TU HB
  have Lq := QLq
  clear QLq
  have Lr := QLr
  clear QLr
  have Lp := QLp
  clear QLp
  have Ls := QLs
  clear QLs
  have Lx := QLx
  clear QLx
  have Ly := QLy
  clear QLy
  have Lz := QLz
  clear QLz
  have Pq := QPq
  clear QPq
  have Pr_ := QPr_
  clear QPr_
  have Pp := QPp
  clear QPp
  have Ps := QPs
  clear QPs
  have Px := QPx
  clear QPx
  have Py := QPy
  clear QPy
  have Pz := QPz
  clear QPz
  have TD := QTD
  clear QTD
  have TU := QTU
  clear QTU
  have HB := QHB
  clear QHB
  clear c0 c1
  clear hb22
  go_wp2
  go_ret
  exact ⟨rfl, HB.out⟩
end Go.Proofs.YtaegadicnbmapaaDoor

/- What a tied row's condition gives: the library's tables lie in their variables; numbers that come in; the witness. -/
namespace Go.Proofs.YtaegadicnbmapaaDoor
section
open Go.ChangeShapes Go.WideShapes Go.ChangeAt Go.RowKit Go.Joins

theorem cells_u32 : Tryd.prog.cellsOf 46 = 1 := by kernel_rfl
theorem cells_wide : Tryd.prog.cellsOf 24 = 2 := by kernel_rfl
theorem laidOut : laidOutB Tryd.prog = true := by kernel_rfl
theorem own : ownKnob Tryd.prog.godebug = none := by kernel_rfl
theorem wf_u32 {n : Int} (h : (Lit.int .u32 n).wf = true) : 0 ≤ n ∧ n < 4294967296 := by
  have h1 : IntKind.u32.min = 0 := rfl
  have h2 : IntKind.u32.max = 4294967295 := rfl
  simp only [Lit.wf, Bool.and_eq_true, decide_eq_true_eq] at h
  omega

set_option maxRecDepth 100000 in
theorem open_wide {H : Type} {enc : TypeId × Value → H} {w : World} {b0 : Nat} {v : Value} {d : DataW H} {p : List MemPlace}
    (hv : Value.okWide Tryd.prog w .any b0 24 v) (h : DataW.Trod enc Tryd.prog w 0 (fun _ => true) true 24 v d p) (hlt : ∀ x ∈ p, x.block < w.heap.size) :
    ∃ neg A n c xs, v = .agg #[.bool neg, .slice A n c] ∧ Lm w w.heap.size A n c xs := by
  obtain ⟨v0, v1, y0, y1, fuel, rfl, rfl, rfl, h0, h1⟩ := open_agg2 Tryd.underlying24 (by kernel_rfl) cells_wide hv h
  obtain ⟨neg, e0, rfl⟩ := DataW.trod_bool Tryd.underlying4 h0
  obtain rfl : v0 = .bool neg := by simpa using e0
  rcases open_ints Tryd.underlying22 Tryd.underlying46 cells_u32 h1 with ⟨e1, rfl⟩ | ⟨a, len, cap, zs, e1, _, hl, hm, hz, rfl, hcell, hwz⟩
  · obtain rfl : v1 = .slice none 0 0 := by simpa using e1
    exact ⟨neg, none, 0, 0, [], rfl, Lm.nil _ _⟩
  · obtain rfl : v1 = .slice (some a) len cap := by simpa using e1
    simp only [if_true] at hz
    have hget : ∀ j, j < len → (((zs.take len).map Int.toNat)[j]?.getD 0 : Nat) = (zs.getD j 0).toNat ∧ 0 ≤ zs.getD j 0 := by
      intro j hj
      have hjz : j < zs.length := by omega
      have e2 : (zs.take len)[j]? = some zs[j] := by rw [List.getElem?_take_of_lt hj, List.getElem?_eq_getElem hjz]
      have e3 : zs.getD j 0 = zs[j] := by simp [List.getD, List.getElem?_eq_getElem hjz]
      rw [List.getElem?_map, e2, e3]
      exact ⟨rfl, (wf_u32 (hwz _ (List.getElem_mem hjz))).1⟩
    refine ⟨neg, some a, len, cap, (zs.take len).map Int.toNat, rfl, by simp; omega, ?_, hl, by simp only [maxLen] at hm; omega, (fun e => by cases e), fun hn => ?_⟩
    · intro x hx
      obtain ⟨y, hy, rfl⟩ := List.mem_map.1 hx
      have := wf_u32 (hwz y (List.mem_of_mem_take hy))
      omega
    · obtain ⟨b, off, spot⟩ := a
      have hspot : spot = none := by simpa [Addr.add] using World.cell?_spot (hcell 0 (by omega))
      subst hspot
      have hbW : b < w.heap.size := hlt (.cell b off) (by simp only [List.mem_append]; exact .inr (MemPlace.mem_row.2 ⟨0, by omega, by simp⟩))
      refine ⟨b, off, rfl, hbW, fun j hj => ?_⟩
      have hcj := hcell j (by omega)
      rw [add_plain] at hcj
      rw [hcj, (hget j hj).1, Int.toNat_of_nonneg (hget j hj).2]
end
/-- The three tables, as the rows list them. -/
def laid3 : List (String × DataW Unit) := [("math/bits.deBruijn32tab", Rows.laid_math_bits_deBruijn32tab), ("math/bits.deBruijn64tab", Rows.laid_math_bits_deBruijn64tab), ("internal/strconv.uint64pow10", Rows.laid_internal_strconv_uint64pow10)]
theorem gD32 : Tryd.prog.globalNamed "math/bits.deBruijn32tab" = some 0 := by kernel_rfl
theorem gU64 : Tryd.prog.globalNamed "internal/strconv.uint64pow10" = some 1 := by kernel_rfl
theorem tabD_of {W : World} {rest : List (String × DataW Unit)} (h : laidMet Tryd.prog (("math/bits.deBruijn32tab", Rows.laid_math_bits_deBruijn32tab) :: rest) W) : TabD W := by
  have hT : Lib.TabIs Tryd.prog W "math/bits.deBruijn32tab" .u8 (List.map (fun (n : Nat) => (n : Int)) Lib.deBruijn32tab) := Lib.tabIs_of_head (n := 32) (t := 110) (e := 5) gD32 (by kernel_rfl) (by kernel_rfl) Tryd.underlying5 (by kernel_rfl) (by kernel_rfl) h
  intro j hj
  rw [hT.cell gD32 j (by rw [List.length_map]; exact hj)]
  have : j < Lib.deBruijn32tab.length := hj
  simp [List.getD, List.getElem?_map, List.getElem?_eq_getElem this]
theorem tabs_of {W : World} (h : laidMetH Tryd.prog laid3 W) : TabD W ∧ TabU W := by
  rw [MakeChecks.laidMetH_plain _ _ _ (by kernel_rfl)] at h
  refine ⟨tabD_of h, ?_⟩
  exact Lib.tabIs_of_head (n := 20) (t := 123) (e := 84) gU64 (by kernel_rfl) (by kernel_rfl) Tryd.underlying84 (by kernel_rfl) (by kernel_rfl) h.tail.tail
/-- The door's own heap meets the condition. -/
theorem door_met (os : Os) (args : Array Value) : laidMetH Tryd.prog laid3 ((World.doorLaid Tryd.prog 24 os).forCall (fun _ _ => 0) ⟨#[], args, []⟩).memory :=
  laidMetH_of_parts3 (fuel := 8) (laidMet_of_run' 8 (by kernel_rfl) (by kernel_rfl)) (by kernel_rfl) (by kernel_rfl)
end Go.Proofs.YtaegadicnbmapaaDoor

/- The law's 'ones': a number whose limbs are all 2^32 - 1. -/
namespace Go.Proofs.YtaegadicnbmapaaDoor
open Go.RowKit

theorem grown_setAt (w : World) (b i : Nat) (v : Value) : w.grownBy (w.setCell ⟨b, i, none⟩ v) (some b) :=
  ⟨rfl, rfl, rfl, (KeepsWalks.setCell w _ v).size, fun k _ hk => Below.heap_setCell _ _ _ k (fun e => hk (by rw [e]))⟩
theorem Ow.store {w : World} {B g : Nat} {v : Value} {ts : List Nat} (h : Ow w B v ts) (hl : g < B) (i : Nat) (x : Value) : Ow (w.setCell ⟨g, i, none⟩ x) B v ts :=
  World.ownsRow.kept h (grown_setAt w g i x) (.inr fun e => by have := (World.ownsRow.lt h g e).1; omega)
theorem Pr.snd {w : World} {g : Nat} {x y : Value} (p : Pr w g x y) (y' : Value) : Pr (w.setCell ⟨g, 1, none⟩ y') g x y' := by
  have h1 := p.c0; have h2 := p.c1; have h3 := p.f0; have h4 := p.f1; have h5 := p.lt
  exact ⟨by go_simp, by go_simp, by simpa using h3, by simpa using h4, by simpa [World.size_setCell] using h5⟩
theorem Pr.far1 {w : World} {g h : Nat} {x y : Value} (p : Pr w g x y) (hne : g ≠ h) (i : Nat) (z : Value) : Pr (w.setCell ⟨h, i, none⟩ z) g x y := by
  have h1 := p.c0; have h2 := p.c1; have h3 := p.f0; have h4 := p.f1; have h5 := p.lt
  have hne2 : ¬ h = g := fun e => hne e.symm
  exact ⟨by go_simp, by go_simp, by simpa using h3, by simpa using h4, by simpa [World.size_setCell] using h5⟩

set_option maxRecDepth 100000 in
set_option maxHeartbeats 1000000 in
theorem ones_any (w : World) (n : Nat) (hn : n ≤ 5000) :
    Calls Tryd.prog 23 #[.int .i64 (n : Int)] w fun e w' => ∃ A c, e = .returned (.agg #[.bool false, .slice A n c]) ∧ Lm w' w'.heap.size A n c (List.replicate n 4294967295) ∧ Below w.heap.size w w' := by
  have PR := Lib.hid ((Pr.new w w.heap.size rfl (.bool false) (.slice none 0 0) 24).alloc (.cells #[.bool false, .slice none 0 0] 24))
  have PB := Lib.hid (Pr.new (w.alloc (.cells #[.bool false, .slice none 0 0] 24)) (w.heap.size + 1) (by simp) (.bool false) (.slice none 0 0) 24)
  have HB0 : Hid (Below w.heap.size w ((w.alloc (.cells #[.bool false, .slice none 0 0] 24)).alloc (.cells #[.bool false, .slice none 0 0] 24))) := ((Below.refl _ _).alloc (Nat.le_refl _) _).alloc (by simp) _
  have HS0 : Hid (w.heap.size + 1 + 1 ≤ ((w.alloc (.cells #[.bool false, .slice none 0 0] 24)).alloc (.cells #[.bool false, .slice none 0 0] 24)).heap.size) := by show _ ≤ _; simp
  go_enter Tryd.func23, Tryd.ntmps23
  go_wp2
  go_loopw [4] (fun iv wr => ∃ (k : Nat) (u : Value), k ≤ n ∧ iv = .int .i64 (k : Int) ∧ Pr wr (w.heap.size + 1) (.bool false) u ∧ Ow wr (w.heap.size + 1 + 1) u (List.replicate k 4294967295) ∧ Pr wr w.heap.size (.bool false) (.slice none 0 0) ∧ w.heap.size + 1 + 1 ≤ wr.heap.size ∧ Below w.heap.size w wr) (fun iv _ => n - (intOf iv).toNat)
  case atStart => exact ⟨0, _, Nat.zero_le _, rfl, PB.out, Ow.nil _ _, PR.out, HS0.out, HB0.out⟩
  case round =>
    obtain ⟨k, u, hk, rfl, hP, hO, hR, hs, hB⟩ := hrel
    have HP := Lib.hid hP
    have HO := Lib.hid hO
    have HR := Lib.hid hR
    have HS := Lib.hid hs
    have HBl := Lib.hid hB
    clear hP hO hR hs hB PR PB HB0 HS0
    have ⟨p0, p1, pf0, pf1, _⟩ := HP.out
    by_cases hlt : k < n
    · go_wp2_with (at_builtin; refine wpList_append_u32 _ rfl _ _ rfl (w.heap.size + 1 + 1) u _ rfl HO.out _ 4294967295 1 rfl (by rw [List.length_replicate]; omega) HS.out rfl ?_; intro u' w1 hO1 hg1; have hb1 := HO.out.below (Below.refl _ _) HS.out hg1; have HP1 := Lib.hid (HP.out.below hb1 (by omega)); have HR1 := Lib.hid (HR.out.below hb1 (by omega)); have HB1 := Lib.hid (HBl.out.trans (hb1.mono (by omega))); have HS1 := Lib.hid (Nat.le_trans HS.out hb1.size); obtain ⟨A1, c1, hu1, hL1⟩ := hO1.lm (fun x hx => by have := List.mem_append.1 hx; rcases this with h | h; (have := List.eq_of_mem_replicate h; omega); (have := List.mem_singleton.1 h; omega)); subst hu1; clear hb1 p0 p1 pf0 pf1 hL1; have ⟨p0, p1, pf0, pf1, _⟩ := HP1.out)
      go_roundw
      case rel =>
        refine ⟨k + 1, _, by omega, by go_num, HP1.out.snd _, ?_, HR1.out.far1 (by omega) _ _, ?_, HB1.out.setCell (p := ⟨w.heap.size + 1, 1, none⟩) (by show w.heap.size ≤ w.heap.size + 1; omega) _⟩
        · rw [List.length_append, List.length_replicate] at hO1; rw [List.replicate_succ']; exact hO1.store (g := w.heap.size + 1) (by omega) _ _
        · rw [World.size_setCell]; exact HS1.out
      case measure => simp [intOf]; omega
    · obtain rfl : k = n := by omega
      obtain ⟨A1, c1, hu, hL1⟩ := HO.out.lm (fun x hx => by have := List.eq_of_mem_replicate hx; omega)
      rw [List.length_replicate] at hu hL1
      subst hu
      have HL1 := Lib.hid hL1
      clear hL1
      have ⟨r0, r1, rf0, rf1, _⟩ := HR.out
      go_wp2
      exact post_w1 Tryd.results23 rfl rfl (HR.out.set _ _).c0 (HR.out.set _ _).c1 ⟨A1, c1, rfl, HL1.out.setP HR.out _ _, below_set2 HBl.out (by omega) _ _⟩
end Go.Proofs.YtaegadicnbmapaaDoor

/- Arithmetic on numbers of known size, in whole numbers. -/
namespace Go.Proofs.YtaegadicnbmapaaDoor
open Go.RowKit

/-- A whole number's size in limbs. -/
def Sz (k : Nat) (z : Int) : Prop := z.natAbs < 4294967296 ^ k
theorem Sz.mono {k l : Nat} {z : Int} (h : Sz k z) (hl : k ≤ l) : Sz l z := Nat.lt_of_lt_of_le h (pow_mono_ hl)
theorem Sz.len {k : Nat} {z : Int} (h : Sz k z) : (digs z.natAbs).length ≤ k := digs_len.2 h
theorem Sz.of_len {k : Nat} {z : Int} (h : (digs z.natAbs).length ≤ k) : Sz k z := digs_len.1 h
theorem Sz.add {k : Nat} {x y : Int} (hx : Sz k x) (hy : Sz k y) : Sz (k + 1) (x + y) := by
  unfold Sz at *
  rw [pow_succ_]
  omega
theorem Sz.neg {k : Nat} {x : Int} (hx : Sz k x) : Sz k (-x) := by unfold Sz at *; omega
theorem Sz.sub {k : Nat} {x y : Int} (hx : Sz k x) (hy : Sz k y) : Sz (k + 1) (x - y) := by
  unfold Sz at *
  rw [pow_succ_]
  omega
theorem Sz.mul {k l : Nat} {x y : Int} (hx : Sz k x) (hy : Sz l y) : Sz (k + l) (x * y) := by
  unfold Sz at *
  rw [Int.natAbs_mul, pow_add_]
  exact Nat.mul_lt_mul_of_lt_of_le hx (Nat.le_of_lt hy) (pow_pos_ _)
theorem Sz.abs {k : Nat} {x : Int} (hx : Sz k x) : Sz k (x.natAbs : Int) := hx
theorem toI_self (z : Int) : toI (decide (z < 0)) z.natAbs = z := by
  unfold toI
  by_cases h : z < 0
  · rw [if_pos (by simpa using h)]; omega
  · rw [if_neg (by simpa using h)]; omega
theorem chk_z {z : Int} {k : Nat} (h : Sz k z) (hk : k ≤ 4096) : chk (decide (z < 0)) (digs z.natAbs) = 0 :=
  chk_ok.2 ⟨Nat.le_trans h.len hk, digs_norm _, fun hn e => by have h1 := digs_nil.1 e; have h2 : z < 0 := (by simpa using hn); omega⟩
theorem chkB_z {x y : Int} {k l : Nat} (hx : Sz k x) (hk : k ≤ 4096) (hy : Sz l y) (hl : l ≤ 4096) : chkB (decide (x < 0)) (digs x.natAbs) (decide (y < 0)) (digs y.natAbs) = 0 :=
  chkB_ok.2 ⟨chk_z hx hk, chk_z hy hl⟩
/-- A valid number that came in, as a whole number. -/
theorem of_chk {neg : Bool} {xs : List Nat} (hc : chk neg xs = 0) (g : Good xs) {k : Nat} (hk : xs.length ≤ k) : ∃ z : Int, neg = decide (z < 0) ∧ xs = digs z.natAbs ∧ Sz k z := by
  have h1 := chk_digs hc g
  have h2 := (chk_ok.1 hc).2.2
  refine ⟨toI neg (val xs), ?_, by rw [toI_abs]; exact h1, by unfold Sz; rw [toI_abs]; exact Nat.lt_of_lt_of_le (val_lt g) (pow_mono_ hk)⟩
  have h3 : neg = true → 0 < val xs := fun hn => val_pos (chk_ok.1 hc).2.1 (h2 hn)
  unfold toI
  cases neg
  · rw [if_neg (by simp)]; simp
  · rw [if_pos rfl]; have := h3 rfl; simp; omega
/-- A call returns the number z, without an error. -/
def RN (w : World) (z : Int) (e : Ending) (w' : World) : Prop := ∃ A n c, e = .returned (.tuple #[.agg #[.bool (decide (z < 0)), .slice A n c], .int .i64 0]) ∧ Lm w' w'.heap.size A n c (digs z.natAbs) ∧ Below w.heap.size w w'
theorem mkN_z {z : Int} {k : Nat} (h : Sz k z) (hk : k ≤ 4096) : mkN (decide (z < 0)) z.natAbs = decide (z < 0) ∧ mkL z.natAbs = digs z.natAbs ∧ mkE z.natAbs = 0 := by
  have hl := Nat.le_trans h.len hk
  refine ⟨?_, by unfold mkL; rw [if_pos hl], by unfold mkE; rw [if_pos hl]⟩
  unfold mkN
  rw [decide_eq_true hl, Bool.true_and]
  by_cases hz : z < 0
  · rw [decide_eq_true hz, decide_eq_true (show z.natAbs ≠ 0 by omega)]; rfl
  · rw [decide_eq_false hz]; rfl
theorem rz_rn {w : World} {z : Int} {k : Nat} (h : Sz k z) (hk : k ≤ 4096) {e : Ending} {w' : World} (hr : RZ w z e w') : RN w z e w' := by
  obtain ⟨h1, h2, h3⟩ := mkN_z h hk
  unfold RZ at hr
  rw [h1, h2, h3] at hr
  exact hr
section
variable (w : World) (A B : Option Addr) (n m ca cb k : Nat) (x y : Int) (hA : Lm w w.heap.size A n ca (digs x.natAbs)) (hB : Lm w w.heap.size B m cb (digs y.natAbs)) (hx : Sz k x) (hy : Sz k y) (hk : k ≤ 2000)
include hA hB hx hy hk
theorem add_z : Calls Tryd.prog 24 #[.agg #[.bool (decide (x < 0)), .slice A n ca], .agg #[.bool (decide (y < 0)), .slice B m cb]] w (RN w (x + y)) := by
  have h := add_ok w _ _ A B n m ca cb _ _ hA hB (chkB_z hx (by omega) hy (by omega))
  rw [toI_self, toI_self] at h
  exact h.mono fun e w' hr => rz_rn (hx.add hy) (by omega) hr
theorem sub_z : Calls Tryd.prog 32 #[.agg #[.bool (decide (x < 0)), .slice A n ca], .agg #[.bool (decide (y < 0)), .slice B m cb]] w (RN w (x - y)) := by
  have h := sub_ok w _ _ A B n m ca cb _ _ hA hB (chkB_z hx (by omega) hy (by omega))
  rw [toI_self, toI_self] at h
  exact h.mono fun e w' hr => rz_rn (hx.sub hy) (by omega) hr
theorem mul_z : Calls Tryd.prog 27 #[.agg #[.bool (decide (x < 0)), .slice A n ca], .agg #[.bool (decide (y < 0)), .slice B m cb]] w (RN w (x * y)) := by
  have h := mul_ok w _ _ A B n m ca cb _ _ hA hB (chkB_z hx (by omega) hy (by omega))
  have e1 := rz_of w (decide (x < 0) != decide (y < 0)) (x.natAbs * y.natAbs) (z := x * y) (by rw [← toI_mul, toI_self, toI_self])
  rw [e1] at h
  exact h.mono fun e w' hr => rz_rn (hx.mul hy) (by omega) hr
theorem add_n {na nb : Bool} (ha : decide (x < 0) = na) (hb : decide (y < 0) = nb) : Calls Tryd.prog 24 #[.agg #[.bool na, .slice A n ca], .agg #[.bool nb, .slice B m cb]] w (RN w (x + y)) := by
  subst ha hb
  exact add_z w A B n m ca cb k x y hA hB hx hy hk
theorem sub_n {na nb : Bool} (ha : decide (x < 0) = na) (hb : decide (y < 0) = nb) : Calls Tryd.prog 32 #[.agg #[.bool na, .slice A n ca], .agg #[.bool nb, .slice B m cb]] w (RN w (x - y)) := by
  subst ha hb
  exact sub_z w A B n m ca cb k x y hA hB hx hy hk
theorem mul_n {na nb : Bool} (ha : decide (x < 0) = na) (hb : decide (y < 0) = nb) : Calls Tryd.prog 27 #[.agg #[.bool na, .slice A n ca], .agg #[.bool nb, .slice B m cb]] w (RN w (x * y)) := by
  subst ha hb
  exact mul_z w A B n m ca cb k x y hA hB hx hy hk
end
end Go.Proofs.YtaegadicnbmapaaDoor

