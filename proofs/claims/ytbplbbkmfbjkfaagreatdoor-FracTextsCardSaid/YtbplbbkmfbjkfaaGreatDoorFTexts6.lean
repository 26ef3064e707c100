/- Lemmas of several claims. -/
import Derived.Defers
import Derived.Recover
import Derived.Lib.Atoi
import Derived.Test.YtbplbbkmfbjkfaaGreatDoorFTexts5
/- wide.divisor and Gcd. -/
namespace Go.Proofs.YtbplbbkmfbjkfaaGreatDoor
open Go.RowKit

/-- A call returns the limbs of v. -/
def RGl (w : World) (v : Nat) (e : Ending) (w' : World) : Prop := ∃ A c, e = .returned (.slice A (digs v).length c) ∧ Lm w' w'.heap.size A (digs v).length c (digs v) ∧ Below w.heap.size w w'
theorem two_lt {b : Nat} (h : (digs b).length ≤ 2) : b < 18446744073709551616 := by
  have := digs_len.1 h
  omega
theorem clone_ow' (w : World) (A : Option Addr) (n c : Nat) (xs : List Nat) (h : Lm w w.heap.size A n c xs) (hn : n ≤ 1000000000) :
    Calls Tryz.prog 72 #[.slice A n c] w fun e w' => ∃ A' c', e = .returned (.slice A' n c') ∧ Ow w' w.heap.size (.slice A' n c') xs ∧ Below w.heap.size w w' := by
  obtain ⟨i0, hi0, hz0, hz1, hz2⟩ := info_parts u32_info
  have hr := h.max
  have hl := h.len
  have HH := Lib.hid h
  have hnil := fun (w : World) (a : Option Addr) (n c n' c' : Nat) => Lib.run_eql_slice_nil (P := Tryz.prog) w 22 79 a n c n' c' slice_u32
  rcases A with _ | ad
  · have hm : n = 0 := by
      rcases Nat.eq_zero_or_pos n with h0 | h0
      · exact h0
      · obtain ⟨b, off, e, _⟩ := h.at_ h0
        cases e
    subst hm
    obtain rfl := h.nil_ rfl
    obtain rfl : xs = [] := List.eq_nil_of_length_eq_zero hl
    go_enter Tryz.func72, Tryz.ntmps72
    go_wp2
    go_ret
    exact ⟨_, _, rfl, Ow.nil _ _, Below.refl _ _⟩
  · go_enter Tryz.func72, Tryz.ntmps72
    go_wp2_with (at_builtin; refine wpList_append_lm _ rfl _ _ _ rfl w.heap.size _ i0 slice_u32 hi0 hz0 hz1 hz2 _ 0 [] rfl (World.ownsRow_made _ _ _ (Nat.le_refl _) (by simp [maxLen]) rfl) _ _ _ _ xs rfl (HH.out.box _) (by simp only [maxLen]; omega) (by omega) (by simp) ?_; intro v1 w1 hown1 hg1)
    go_ret
    rw [Nat.zero_add, List.nil_append] at hown1
    have hO : Ow w1 w.heap.size v1 xs := by unfold Ow; rw [hl]; exact hown1
    obtain ⟨A', c', rfl, hL⟩ := hO.lm HH.out.good
    rw [hl] at hO ⊢
    refine ⟨A', c', rfl, hO, ((Below.refl _ _).alloc (Nat.le_refl _) _).grown hg1 (by simp) (fun k hk => ?_)⟩
    have e : w.heap.size = k := Option.some.inj hk
    omega
theorem Ow.via {w w' : World} {B : Nat} {v : Value} {ts : List Nat} (h : Ow w B v ts) (hb : Below w.heap.size w w') : Ow w' B v ts :=
  World.ownsRow.kept (row := none) h ⟨hb.os, hb.tape, hb.output, hb.size, fun k hk _ => hb.block k hk⟩ (by cases v.ownBlock <;> simp)
/-- Two slices do not share a block. -/
def Apt (v v' : Value) : Prop := ∀ g, v.ownBlock = some g → v'.ownBlock = some g → False
/-- The number that a slice of limbs reads as. -/
def rdV (w : World) : Value → Nat
  | .slice (some ad) n _ => val ((List.range n).map fun j => match w.cell? ⟨ad.block, ad.off + j, none⟩ with | some (.int _ z) => z.toNat | _ => 0)
  | _ => 0
theorem rdV_lm {w : World} {B n c : Nat} {A : Option Addr} {xs : List Nat} (h : Lm w B A n c xs) : rdV w (.slice A n c) = val xs := by
  rcases A with _ | ad
  · rcases Nat.eq_zero_or_pos n with h0 | h0
    · obtain rfl : xs = [] := List.eq_nil_of_length_eq_zero (by rw [h.len]; exact h0)
      rfl
    · obtain ⟨b, off, e, _⟩ := h.at_ h0
      cases e
  · show val _ = _
    congr 1
    refine List.ext_getElem? fun j => ?_
    by_cases hj : j < n
    · obtain ⟨b, off, e, _, hc⟩ := h.cell hj
      injection e with e
      subst e
      rw [List.getElem?_map, List.getElem?_range hj]
      show some (match w.cell? ⟨b, off + j, none⟩ with | some (.int _ z) => z.toNat | _ => 0) = _
      rw [hc, get_nat xs j (by rw [h.len]; exact hj)]
      rfl
    · rw [List.getElem?_eq_none (by simp; omega), List.getElem?_eq_none (by rw [h.len]; omega)]
theorem rdV_ow {w : World} {B n c v : Nat} {A : Option Addr} (h : Ow w B (.slice A n c) (digs v)) : rdV w (.slice A n c) = v := by rw [rdV_lm (h.toLm (digs_good _)), digs_val]
theorem win_0 {b : Nat} (h : b < 18446744073709551616) : win b 0 = b := by unfold win; rw [Nat.pow_zero, Nat.div_one]; exact Nat.mod_eq_of_lt h

set_option maxRecDepth 100000 in
set_option maxHeartbeats 2000000 in
theorem divisor_lt (w : World) (A B : Option Addr) (n0 m0 ca cb a0 b0 : Nat) (hA : Lm w w.heap.size A n0 ca (digs a0)) (hB : Lm w w.heap.size B m0 cb (digs b0)) (hlt : b0 < a0) (hn : n0 ≤ 4096) (hm : m0 ≤ 4096) :
    Calls Tryz.prog 74 #[.slice B m0 cb, .slice A n0 ca] w (RGl w (Nat.gcd a0 b0)) := by
  obtain ⟨z, hz, HC⟩ : ∃ z : Int, decide (z < 0) = true ∧ Hid (cmpL (digs b0) (digs a0) = z) := ⟨_, by rw [cmpL_norm (digs_good _) (digs_good _) (digs_norm _) (digs_norm _), digs_val, digs_val]; rw [cmpN_lt hlt]; decide, rfl⟩
  have hcA := hA.cap
  have hxA := hA.max
  have hcB := hB.cap
  have hxB := hB.max
  have HA := Lib.hid hA
  have HB := Lib.hid hB
  have HN0 := Lib.hid hA.len
  have HM0 := Lib.hid hB.len
  have HLE : Hid (b0 ≤ a0) := by show _ ≤ _; omega
  clear hA hB hlt
  go_enter Tryz.func74, Tryz.ntmps74
  go_wp2_with fail
  refine (compare_any _ _ _ _ _ _ (digs b0) (digs a0) _ HB.out HA.out).mono ?_
  rintro e w1 ⟨he, hb1⟩
  rw [HC.out] at he
  subst he
  have HA1 := Lib.hid (HA.out.via hb1)
  have HB1 := Lib.hid (HB.out.via hb1)
  have HBl1 := Lib.hid hb1
  clear hb1
  go_wp2_with fail
  refine (clone_ow' _ _ _ _ (digs a0) HA1.out (by omega)).mono ?_
  rintro e w2 ⟨A2, c2, rfl, hO2, hb2⟩
  have HB2 := Lib.hid (HB1.out.via hb2)
  have HO2 := Lib.hid hO2
  have HS2 : Hid (w1.heap.size ≤ w2.heap.size) := hb2.size
  have HBl2 := Lib.hid (HBl1.out.trans (hb2.mono HBl1.out.size))
  clear hb2 hO2 HA1 HB1
  go_wp2_with fail
  refine (clone_ow' _ _ _ _ (digs b0) HB2.out (by omega)).mono ?_
  rintro e w3 ⟨B3, c3, rfl, hO3, hb3⟩
  have HO3 := Lib.hid hO3
  have HO23 : Hid (Ow w3 w1.heap.size (.slice A2 n0 c2) (digs a0)) := HO2.out.via hb3
  have HBl3 := Lib.hid (HBl2.out.trans (hb3.mono HBl2.out.size))
  have HAp : Hid (Apt (.slice A2 n0 c2) (.slice B3 m0 c3)) := fun g h1 h2 => by
    have e1 := (World.ownsRow.lt HO2.out g h1).2
    have e2 := (World.ownsRow.lt HO3.out g h2).1
    omega
  have HW1 : Hid (w.heap.size ≤ w1.heap.size) := HBl1.out.size
  have HW2 : Hid (w.heap.size ≤ w2.heap.size) := HBl2.out.size
  clear hb3 hO3 HB2
  go_wp2
  go_loopw [0, 1] (fun p q wr => ∃ (a b n m c2 c3 : Nat) (A2 B3 : Option Addr), p = .slice A2 n c2 ∧ q = .slice B3 m c3 ∧ (digs a).length = n ∧ (digs b).length = m ∧ Ow wr w.heap.size (.slice A2 n c2) (digs a) ∧ Ow wr w.heap.size (.slice B3 m c3) (digs b) ∧ Apt (.slice A2 n c2) (.slice B3 m c3) ∧
      b ≤ a ∧ a ≤ a0 ∧ Nat.gcd a b = Nat.gcd a0 b0 ∧ Below w.heap.size w wr) (fun p q wr => rdV wr p + rdV wr q)
  case atStart => exact ⟨a0, b0, n0, m0, c2, c3, A2, B3, rfl, rfl, HN0.out, HM0.out, HO23.out.mono HW1.out, HO3.out.mono HW2.out, HAp.out, HLE.out, Nat.le_refl _, rfl, HBl3.out⟩
  case round =>
    clear HO2 HO3 HO23 HBl1 HBl2 HBl3 HAp HS2
    obtain ⟨a, b, n, m, c2, c3, A2, B3, rfl, rfl, hN, hM, hO2, hO3, hap, hle, haa, hg, hbl⟩ := hrel
    have hn : n ≤ 4096 := by
      have e := digs_mono haa
      rw [hN, HN0.out] at e
      omega
    have hm : m ≤ 4096 := by
      have e := digs_mono (Nat.le_trans hle haa)
      rw [hM, HN0.out] at e
      omega
    have HN := Lib.hid hN
    have HM := Lib.hid hM
    have HO2 := Lib.hid hO2
    have HO3 := Lib.hid hO3
    have HA3 := Lib.hid (hO2.toLm (digs_good _))
    have HB3 := Lib.hid (hO3.toLm (digs_good _))
    have HBl3 := Lib.hid hbl
    have HAp := Lib.hid hap
    have HGG := Lib.hid hg
    have HLE := Lib.hid hle
    have HAA := Lib.hid haa
    have hc2 := HA3.out.cap
    have hx2 := HA3.out.max
    have hc3 := HB3.out.cap
    have hx3 := HB3.out.max
    clear hN hM hO2 hO3 hbl hap hg hle haa
    by_cases hm2 : 2 < m
    · have hb0 : 0 < b := by rw [← digs_pos, HM.out]; omega
      have hs3 := HBl3.out.size
      go_wp2_with fail
      refine (foresee_any _ _ _ _ _ _ _ a b HA3.out HB3.out HLE.out (by omega) (by omega)).mono ?_
      rintro e w4 ⟨c, A0, B0, A1, B1, rfl, hc9, ⟨p, s, x, y, A2', B2', hI⟩, hb4⟩
      have HI := Lib.hid hI
      have HP2 := Lib.hid (HO2.out.via hb4)
      have HP3 := Lib.hid (HO3.out.via hb4)
      have HBl4 := Lib.hid (HBl3.out.trans (hb4.mono HBl3.out.size))
      clear hI hb4
      by_cases hc : 0 < c
      · obtain ⟨u, v, hvu, huv, hsum, hua, t1, t2, t3, t4, t5, t6⟩ := leh_take HI.out hc hb0
        have HU := Lib.hid hvu
        have HUV := Lib.hid huv
        have HSum := Lib.hid hsum
        have HUA := Lib.hid hua
        have HT5 := Lib.hid t5
        have HT6 := Lib.hid t6
        obtain ⟨ga, rfl, e1, _⟩ := HP2.out.ob (by rw [HN.out]; have := digs_mono HLE.out; rw [HN.out, HM.out] at this; omega)
        obtain ⟨gb, rfl, e2, _⟩ := HP3.out.ob (by rw [HM.out]; omega)
        have HNe : Hid (ga ≠ gb) := fun e => HAp.out ga rfl (by rw [e]; rfl)
        have HUB : Hid (u < 4294967296 ^ n) := Nat.lt_of_le_of_lt hua (digs_len.1 (Nat.le_of_eq HN.out))
        have HVB : Hid (v < 4294967296 ^ n) := Nat.lt_of_le_of_lt hvu HUB.out
        have HMN : Hid (m ≤ n) := by have := digs_mono HLE.out; rw [HN.out, HM.out] at this; exact this
        have hs4 := HBl4.out.size
        clear hvu huv hsum hua t5 t6 e1 e2
        go_wp2_with fail
        refine (take_any _ w.heap.size ga gb n m c2 c3 a b c A0 B0 A1 B1 (HP2.out.alloc _) (HP3.out.alloc _) HNe.out (by simp; omega) HN.out HM.out HMN.out (by omega) (by omega) hc9 t1 t2 t3 t4 u v HUB.out HVB.out HT5.out HT6.out).mono ?_
        rintro e w6 ⟨g1, k1, g2, k2, rfl, hU6, hV6, hne6, hb6⟩
        have HU6 := Lib.hid hU6
        have HV6 := Lib.hid hV6
        have HNe6 := Lib.hid hne6
        have HBl6 := Lib.hid ((HBl4.out.alloc hs4 _).trans hb6)
        clear hU6 hV6 hne6 hb6
        go_wp2
        go_roundw
        case rel =>
          exact ⟨u, v, _, _, k1, k2, some ⟨g1, 0, none⟩, some ⟨g2, 0, none⟩, rfl, rfl, rfl, rfl, HU6.out, HV6.out, (fun g e1 e2 => by injection e1 with e1; injection e2 with e2; exact HNe6.out (e1.trans e2.symm)), HU.out, Nat.le_trans HUA.out HAA.out, HUV.out.trans HGG.out, HBl6.out⟩
        case measure =>
          rw [rdV_ow HU6.out, rdV_ow HV6.out, rdV_ow HO2.out, rdV_ow HO3.out]
          exact HSum.out
      · have hcd : decide (0 < c) = false := by simpa using hc
        have HA4 := Lib.hid (HP2.out.toLm (digs_good _))
        have HB4 := Lib.hid (HP3.out.toLm (digs_good _))
        have hs4 := HBl4.out.size
        go_wp2_with fail
        refine (divide_ow _ A2 B3 n m c2 c3 a b (HA4.out.box _) (HB4.out.box _) HLE.out (by omega) (by omega)).mono ?_
        rintro e w6 ⟨Q, cq, R, cr, rfl, _, hR6, hb6⟩
        have HR6 := Lib.hid hR6
        have HP6 := Lib.hid ((HP3.out.alloc _).via hb6)
        have HBl6 := Lib.hid ((HBl4.out.alloc hs4 _).trans (hb6.mono (by simp; omega)))
        have HX : Hid (w.heap.size ≤ w4.heap.size + 1) := by show _ ≤ _; omega
        clear hR6 hb6
        go_wp2
        go_roundw
        case rel =>
          exact ⟨b, a % b, m, _, c3, cr, B3, R, rfl, rfl, HM.out, rfl, HP6.out, HR6.out.mono (by simp only [World.size_alloc]; exact HX.out), (fun g e1 e2 => by
            have l1 := (World.ownsRow.lt HP3.out g e1).2
            have l2 := (World.ownsRow.lt HR6.out g e2).1
            simp only [World.size_alloc] at l2
            omega), Nat.le_of_lt (Nat.mod_lt a hb0), Nat.le_trans HLE.out HAA.out, by rw [← HGG.out, Nat.gcd_comm b, ← Nat.gcd_rec, Nat.gcd_comm], HBl6.out⟩
        case measure =>
          rw [rdV_ow HP6.out, rdV_ow HR6.out, rdV_ow HO2.out, rdV_ow HO3.out]
          have := Nat.mod_lt a hb0
          have := HLE.out
          omega
    · have hb9 : b < 18446744073709551616 := two_lt (by rw [HM.out]; omega)
      have HWb := Lib.hid (win_0 hb9)
      have hm2' : m ≤ 2 := by omega
      clear hm2
      rcases Nat.eq_zero_or_pos m with h0 | h0
      · have HG : Hid (Nat.gcd a b = a) := by
          show _ = _
          obtain rfl : b = 0 := digs_nil.1 (List.eq_nil_of_length_eq_zero (by rw [HM.out]; exact h0))
          exact Nat.gcd_zero_right a
        subst h0
        go_wp2
        go_ret
        rw [← HGG.out, HG.out]
        exact ⟨A2, c2, by rw [HN.out]; rfl, by rw [HN.out]; exact HA3.out, HBl3.out⟩
      · have hb0 : 0 < b := by rw [← digs_pos, HM.out]; exact h0
        have hmz : ((m : Int) == 0) = false := by simp; omega
        go_wp2_with fail
        refine (divide_any wr A2 B3 n m c2 c3 a b HA3.out HB3.out hb0 (by omega)).mono ?_
        rintro e w4 ⟨Q, cq, R, cr, rfl, hQ, hR, hb4⟩
        have hr9 := Nat.mod_lt a hb0
        have HB4 := Lib.hid (HB3.out.via hb4)
        have HBl4 := Lib.hid (HBl3.out.trans (hb4.mono HBl3.out.size))
        have HR4 := Lib.hid hR
        have HWr : Hid (win (a % b) 0 = a % b) := win_0 (by omega)
        clear hQ hR hb4
        go_wp2_with fail
        refine (window_any w4 B3 m c3 (digs b) b 0 HB4.out (digs_val b) (by omega) (by omega)).mono ?_
        rintro e w5 ⟨rfl, d5, rfl⟩
        go_wp2_with fail
        refine (window_any _ R _ cr (digs (a % b)) (a % b) 0 (HR4.out.drewN d5) (digs_val _) (by omega) (by omega)).mono ?_
        rintro e w6 ⟨rfl, d6, rfl⟩
        rw [show (Int.toNat 0) = 0 from rfl, HWb.out, HWr.out]
        have HG : Hid (Nat.gcd b (a % b) = Nat.gcd a b) := by show _ = _; rw [Nat.gcd_comm b, ← Nat.gcd_rec, Nat.gcd_comm]
        obtain ⟨r, hr⟩ : ∃ r, a % b = r := ⟨_, rfl⟩
        rw [hr] at HG hr9 ⊢
        have HR := Lib.hid hr
        clear hr
        go_wp2
        go_loopw [10, 11] (fun x y wr => ∃ p q d : Nat, x = .int .u64 (p : Int) ∧ y = .int .u64 (q : Int) ∧ p < 18446744073709551616 ∧ q < 18446744073709551616 ∧ Nat.gcd p q = Nat.gcd a b ∧ wr = w4.drewN d) (fun _ y _ => (intOf y).toNat)
        case atStart => exact ⟨b, r, _, rfl, rfl, hb9, by omega, HG.out, rfl⟩
        case round =>
          obtain ⟨p, q, d, rfl, rfl, hp, hq, hg, rfl⟩ := hrel
          have HGp := Lib.hid hg
          clear hg
          by_cases hq0 : q = 0
          · subst hq0
            have HGq : Hid (p = Nat.gcd a b) := by show _ = _; rw [← HGp.out, Nat.gcd_zero_right]
            go_wp2_with fail
            refine (trim_any _ _ _ _ _ _ p (Lm.two _ _ _ (p % 4294967296) (p / 4294967296 % 4294967296) _ _ rfl (by omega) (by omega) (by omega) (by omega)) (val2 p hp)).mono ?_
            rintro e w7 ⟨rfl, rfl⟩
            go_wp2
            go_ret
            rw [← HGG.out, ← HGq.out]
            exact ⟨_, _, rfl, ((Lm.two _ _ _ (p % 4294967296) (p / 4294967296 % 4294967296) _ _ rfl (by omega) (by omega) (by omega) (by omega)).trim' (val2 p hp)).mono (by simp), (bdrewN HBl4.out d).alloc HBl4.out.size _⟩
          · have hq1 : 0 < q := Nat.pos_of_ne_zero hq0
            have hqi : ¬ ((q : Int) = 0) := by omega
            have hm0 : (p : Int) % (q : Int) = ((p % q : Nat) : Int) := by rw [← Int.natCast_emod]
            have hm1 : (p : Int).tmod (q : Int) = ((p % q : Nat) : Int) := by rw [Int.tmod_eq_emod_of_nonneg (by omega), ← Int.natCast_emod]
            have hl := Nat.mod_lt p hq1
            have HG2 : Hid (Nat.gcd q (p % q) = Nat.gcd a b) := by show _ = _; rw [Nat.gcd_comm q, ← Nat.gcd_rec, Nat.gcd_comm, HGp.out]
            generalize p % q = s at *
            clear hq0
            go_wp2_with fail
            go_quiet (fail)
            go_wp2
            go_roundw
            case rel => exact ⟨q, s, _, rfl, rfl, hq, by omega, HG2.out, drewN_add w4 _ _⟩
            case measure => simp [intOf]; omega

set_option maxRecDepth 100000 in
set_option maxHeartbeats 2000000 in
theorem divisor_ge (w : World) (A B : Option Addr) (n0 m0 ca cb a0 b0 : Nat) (hA : Lm w w.heap.size A n0 ca (digs a0)) (hB : Lm w w.heap.size B m0 cb (digs b0)) (hlt : b0 ≤ a0) (hn : n0 ≤ 4096) (hm : m0 ≤ 4096) :
    Calls Tryz.prog 74 #[.slice A n0 ca, .slice B m0 cb] w (RGl w (Nat.gcd a0 b0)) := by
  obtain ⟨z, hz, HC⟩ : ∃ z : Int, decide (z < 0) = false ∧ Hid (cmpL (digs a0) (digs b0) = z) := ⟨_, by rw [cmpL_norm (digs_good _) (digs_good _) (digs_norm _) (digs_norm _), digs_val, digs_val]; unfold cmpN; rw [if_neg (by omega)]; split <;> decide, rfl⟩
  have hcA := hA.cap
  have hxA := hA.max
  have hcB := hB.cap
  have hxB := hB.max
  have HA := Lib.hid hA
  have HB := Lib.hid hB
  have HN0 := Lib.hid hA.len
  have HM0 := Lib.hid hB.len
  have HLE : Hid (b0 ≤ a0) := by show _ ≤ _; omega
  clear hA hB hlt
  go_enter Tryz.func74, Tryz.ntmps74
  go_wp2_with fail
  refine (compare_any _ _ _ _ _ _ (digs a0) (digs b0) _ HA.out HB.out).mono ?_
  rintro e w1 ⟨he, hb1⟩
  rw [HC.out] at he
  subst he
  have HA1 := Lib.hid (HA.out.via hb1)
  have HB1 := Lib.hid (HB.out.via hb1)
  have HBl1 := Lib.hid hb1
  clear hb1
  go_wp2_with fail
  refine (clone_ow' _ _ _ _ (digs a0) HA1.out (by omega)).mono ?_
  rintro e w2 ⟨A2, c2, rfl, hO2, hb2⟩
  have HB2 := Lib.hid (HB1.out.via hb2)
  have HO2 := Lib.hid hO2
  have HS2 : Hid (w1.heap.size ≤ w2.heap.size) := hb2.size
  have HBl2 := Lib.hid (HBl1.out.trans (hb2.mono HBl1.out.size))
  clear hb2 hO2 HA1 HB1
  go_wp2_with fail
  refine (clone_ow' _ _ _ _ (digs b0) HB2.out (by omega)).mono ?_
  rintro e w3 ⟨B3, c3, rfl, hO3, hb3⟩
  have HO3 := Lib.hid hO3
  have HO23 : Hid (Ow w3 w1.heap.size (.slice A2 n0 c2) (digs a0)) := HO2.out.via hb3
  have HBl3 := Lib.hid (HBl2.out.trans (hb3.mono HBl2.out.size))
  have HAp : Hid (Apt (.slice A2 n0 c2) (.slice B3 m0 c3)) := fun g h1 h2 => by
    have e1 := (World.ownsRow.lt HO2.out g h1).2
    have e2 := (World.ownsRow.lt HO3.out g h2).1
    omega
  have HW1 : Hid (w.heap.size ≤ w1.heap.size) := HBl1.out.size
  have HW2 : Hid (w.heap.size ≤ w2.heap.size) := HBl2.out.size
  clear hb3 hO3 HB2
  go_wp2
  go_loopw [0, 1] (fun p q wr => ∃ (a b n m c2 c3 : Nat) (A2 B3 : Option Addr), p = .slice A2 n c2 ∧ q = .slice B3 m c3 ∧ (digs a).length = n ∧ (digs b).length = m ∧ Ow wr w.heap.size (.slice A2 n c2) (digs a) ∧ Ow wr w.heap.size (.slice B3 m c3) (digs b) ∧ Apt (.slice A2 n c2) (.slice B3 m c3) ∧
      b ≤ a ∧ a ≤ a0 ∧ Nat.gcd a b = Nat.gcd a0 b0 ∧ Below w.heap.size w wr) (fun p q wr => rdV wr p + rdV wr q)
  case atStart => exact ⟨a0, b0, n0, m0, c2, c3, A2, B3, rfl, rfl, HN0.out, HM0.out, HO23.out.mono HW1.out, HO3.out.mono HW2.out, HAp.out, HLE.out, Nat.le_refl _, rfl, HBl3.out⟩
  case round =>
    clear HO2 HO3 HO23 HBl1 HBl2 HBl3 HAp HS2
    obtain ⟨a, b, n, m, c2, c3, A2, B3, rfl, rfl, hN, hM, hO2, hO3, hap, hle, haa, hg, hbl⟩ := hrel
    have hn : n ≤ 4096 := by
      have e := digs_mono haa
      rw [hN, HN0.out] at e
      omega
    have hm : m ≤ 4096 := by
      have e := digs_mono (Nat.le_trans hle haa)
      rw [hM, HN0.out] at e
      omega
    have HN := Lib.hid hN
    have HM := Lib.hid hM
    have HO2 := Lib.hid hO2
    have HO3 := Lib.hid hO3
    have HA3 := Lib.hid (hO2.toLm (digs_good _))
    have HB3 := Lib.hid (hO3.toLm (digs_good _))
    have HBl3 := Lib.hid hbl
    have HAp := Lib.hid hap
    have HGG := Lib.hid hg
    have HLE := Lib.hid hle
    have HAA := Lib.hid haa
    have hc2 := HA3.out.cap
    have hx2 := HA3.out.max
    have hc3 := HB3.out.cap
    have hx3 := HB3.out.max
    clear hN hM hO2 hO3 hbl hap hg hle haa
    by_cases hm2 : 2 < m
    · have hb0 : 0 < b := by rw [← digs_pos, HM.out]; omega
      have hs3 := HBl3.out.size
      go_wp2_with fail
      refine (foresee_any _ _ _ _ _ _ _ a b HA3.out HB3.out HLE.out (by omega) (by omega)).mono ?_
      rintro e w4 ⟨c, A0, B0, A1, B1, rfl, hc9, ⟨p, s, x, y, A2', B2', hI⟩, hb4⟩
      have HI := Lib.hid hI
      have HP2 := Lib.hid (HO2.out.via hb4)
      have HP3 := Lib.hid (HO3.out.via hb4)
      have HBl4 := Lib.hid (HBl3.out.trans (hb4.mono HBl3.out.size))
      clear hI hb4
      by_cases hc : 0 < c
      · obtain ⟨u, v, hvu, huv, hsum, hua, t1, t2, t3, t4, t5, t6⟩ := leh_take HI.out hc hb0
        have HU := Lib.hid hvu
        have HUV := Lib.hid huv
        have HSum := Lib.hid hsum
        have HUA := Lib.hid hua
        have HT5 := Lib.hid t5
        have HT6 := Lib.hid t6
        obtain ⟨ga, rfl, e1, _⟩ := HP2.out.ob (by rw [HN.out]; have := digs_mono HLE.out; rw [HN.out, HM.out] at this; omega)
        obtain ⟨gb, rfl, e2, _⟩ := HP3.out.ob (by rw [HM.out]; omega)
        have HNe : Hid (ga ≠ gb) := fun e => HAp.out ga rfl (by rw [e]; rfl)
        have HUB : Hid (u < 4294967296 ^ n) := Nat.lt_of_le_of_lt hua (digs_len.1 (Nat.le_of_eq HN.out))
        have HVB : Hid (v < 4294967296 ^ n) := Nat.lt_of_le_of_lt hvu HUB.out
        have HMN : Hid (m ≤ n) := by have := digs_mono HLE.out; rw [HN.out, HM.out] at this; exact this
        have hs4 := HBl4.out.size
        clear hvu huv hsum hua t5 t6 e1 e2
        go_wp2_with fail
        refine (take_any _ w.heap.size ga gb n m c2 c3 a b c A0 B0 A1 B1 (HP2.out.alloc _) (HP3.out.alloc _) HNe.out (by simp; omega) HN.out HM.out HMN.out (by omega) (by omega) hc9 t1 t2 t3 t4 u v HUB.out HVB.out HT5.out HT6.out).mono ?_
        rintro e w6 ⟨g1, k1, g2, k2, rfl, hU6, hV6, hne6, hb6⟩
        have HU6 := Lib.hid hU6
        have HV6 := Lib.hid hV6
        have HNe6 := Lib.hid hne6
        have HBl6 := Lib.hid ((HBl4.out.alloc hs4 _).trans hb6)
        clear hU6 hV6 hne6 hb6
        go_wp2
        go_roundw
        case rel =>
          exact ⟨u, v, _, _, k1, k2, some ⟨g1, 0, none⟩, some ⟨g2, 0, none⟩, rfl, rfl, rfl, rfl, HU6.out, HV6.out, (fun g e1 e2 => by injection e1 with e1; injection e2 with e2; exact HNe6.out (e1.trans e2.symm)), HU.out, Nat.le_trans HUA.out HAA.out, HUV.out.trans HGG.out, HBl6.out⟩
        case measure =>
          rw [rdV_ow HU6.out, rdV_ow HV6.out, rdV_ow HO2.out, rdV_ow HO3.out]
          exact HSum.out
      · have hcd : decide (0 < c) = false := by simpa using hc
        have HA4 := Lib.hid (HP2.out.toLm (digs_good _))
        have HB4 := Lib.hid (HP3.out.toLm (digs_good _))
        have hs4 := HBl4.out.size
        go_wp2_with fail
        refine (divide_ow _ A2 B3 n m c2 c3 a b (HA4.out.box _) (HB4.out.box _) HLE.out (by omega) (by omega)).mono ?_
        rintro e w6 ⟨Q, cq, R, cr, rfl, _, hR6, hb6⟩
        have HR6 := Lib.hid hR6
        have HP6 := Lib.hid ((HP3.out.alloc _).via hb6)
        have HBl6 := Lib.hid ((HBl4.out.alloc hs4 _).trans (hb6.mono (by simp; omega)))
        have HX : Hid (w.heap.size ≤ w4.heap.size + 1) := by show _ ≤ _; omega
        clear hR6 hb6
        go_wp2
        go_roundw
        case rel =>
          exact ⟨b, a % b, m, _, c3, cr, B3, R, rfl, rfl, HM.out, rfl, HP6.out, HR6.out.mono (by simp only [World.size_alloc]; exact HX.out), (fun g e1 e2 => by
            have l1 := (World.ownsRow.lt HP3.out g e1).2
            have l2 := (World.ownsRow.lt HR6.out g e2).1
            simp only [World.size_alloc] at l2
            omega), Nat.le_of_lt (Nat.mod_lt a hb0), Nat.le_trans HLE.out HAA.out, by rw [← HGG.out, Nat.gcd_comm b, ← Nat.gcd_rec, Nat.gcd_comm], HBl6.out⟩
        case measure =>
          rw [rdV_ow HP6.out, rdV_ow HR6.out, rdV_ow HO2.out, rdV_ow HO3.out]
          have := Nat.mod_lt a hb0
          have := HLE.out
          omega
    · have hb9 : b < 18446744073709551616 := two_lt (by rw [HM.out]; omega)
      have HWb := Lib.hid (win_0 hb9)
      have hm2' : m ≤ 2 := by omega
      clear hm2
      rcases Nat.eq_zero_or_pos m with h0 | h0
      · have HG : Hid (Nat.gcd a b = a) := by
          show _ = _
          obtain rfl : b = 0 := digs_nil.1 (List.eq_nil_of_length_eq_zero (by rw [HM.out]; exact h0))
          exact Nat.gcd_zero_right a
        subst h0
        go_wp2
        go_ret
        rw [← HGG.out, HG.out]
        exact ⟨A2, c2, by rw [HN.out]; rfl, by rw [HN.out]; exact HA3.out, HBl3.out⟩
      · have hb0 : 0 < b := by rw [← digs_pos, HM.out]; exact h0
        have hmz : ((m : Int) == 0) = false := by simp; omega
        go_wp2_with fail
        refine (divide_any wr A2 B3 n m c2 c3 a b HA3.out HB3.out hb0 (by omega)).mono ?_
        rintro e w4 ⟨Q, cq, R, cr, rfl, hQ, hR, hb4⟩
        have hr9 := Nat.mod_lt a hb0
        have HB4 := Lib.hid (HB3.out.via hb4)
        have HBl4 := Lib.hid (HBl3.out.trans (hb4.mono HBl3.out.size))
        have HR4 := Lib.hid hR
        have HWr : Hid (win (a % b) 0 = a % b) := win_0 (by omega)
        clear hQ hR hb4
        go_wp2_with fail
        refine (window_any w4 B3 m c3 (digs b) b 0 HB4.out (digs_val b) (by omega) (by omega)).mono ?_
        rintro e w5 ⟨rfl, d5, rfl⟩
        go_wp2_with fail
        refine (window_any _ R _ cr (digs (a % b)) (a % b) 0 (HR4.out.drewN d5) (digs_val _) (by omega) (by omega)).mono ?_
        rintro e w6 ⟨rfl, d6, rfl⟩
        rw [show (Int.toNat 0) = 0 from rfl, HWb.out, HWr.out]
        have HG : Hid (Nat.gcd b (a % b) = Nat.gcd a b) := by show _ = _; rw [Nat.gcd_comm b, ← Nat.gcd_rec, Nat.gcd_comm]
        obtain ⟨r, hr⟩ : ∃ r, a % b = r := ⟨_, rfl⟩
        rw [hr] at HG hr9 ⊢
        have HR := Lib.hid hr
        clear hr
        go_wp2
        go_loopw [10, 11] (fun x y wr => ∃ p q d : Nat, x = .int .u64 (p : Int) ∧ y = .int .u64 (q : Int) ∧ p < 18446744073709551616 ∧ q < 18446744073709551616 ∧ Nat.gcd p q = Nat.gcd a b ∧ wr = w4.drewN d) (fun _ y _ => (intOf y).toNat)
        case atStart => exact ⟨b, r, _, rfl, rfl, hb9, by omega, HG.out, rfl⟩
        case round =>
          obtain ⟨p, q, d, rfl, rfl, hp, hq, hg, rfl⟩ := hrel
          have HGp := Lib.hid hg
          clear hg
          by_cases hq0 : q = 0
          · subst hq0
            have HGq : Hid (p = Nat.gcd a b) := by show _ = _; rw [← HGp.out, Nat.gcd_zero_right]
            go_wp2_with fail
            refine (trim_any _ _ _ _ _ _ p (Lm.two _ _ _ (p % 4294967296) (p / 4294967296 % 4294967296) _ _ rfl (by omega) (by omega) (by omega) (by omega)) (val2 p hp)).mono ?_
            rintro e w7 ⟨rfl, rfl⟩
            go_wp2
            go_ret
            rw [← HGG.out, ← HGq.out]
            exact ⟨_, _, rfl, ((Lm.two _ _ _ (p % 4294967296) (p / 4294967296 % 4294967296) _ _ rfl (by omega) (by omega) (by omega) (by omega)).trim' (val2 p hp)).mono (by simp), (bdrewN HBl4.out d).alloc HBl4.out.size _⟩
          · have hq1 : 0 < q := Nat.pos_of_ne_zero hq0
            have hqi : ¬ ((q : Int) = 0) := by omega
            have hm0 : (p : Int) % (q : Int) = ((p % q : Nat) : Int) := by rw [← Int.natCast_emod]
            have hm1 : (p : Int).tmod (q : Int) = ((p % q : Nat) : Int) := by rw [Int.tmod_eq_emod_of_nonneg (by omega), ← Int.natCast_emod]
            have hl := Nat.mod_lt p hq1
            have HG2 : Hid (Nat.gcd q (p % q) = Nat.gcd a b) := by show _ = _; rw [Nat.gcd_comm q, ← Nat.gcd_rec, Nat.gcd_comm, HGp.out]
            generalize p % q = s at *
            clear hq0
            go_wp2_with fail
            go_quiet (fail)
            go_wp2
            go_roundw
            case rel => exact ⟨q, s, _, rfl, rfl, hq, by omega, HG2.out, drewN_add w4 _ _⟩
            case measure => simp [intOf]; omega

theorem divisor_any (w : World) (A B : Option Addr) (n m ca cb a b : Nat) (hA : Lm w w.heap.size A n ca (digs a)) (hB : Lm w w.heap.size B m cb (digs b)) (hn : n ≤ 4096) (hm : m ≤ 4096) :
    Calls Tryz.prog 74 #[.slice A n ca, .slice B m cb] w (RGl w (Nat.gcd a b)) := by
  rcases Nat.lt_or_ge a b with h | h
  · rw [Nat.gcd_comm]
    exact divisor_lt w B A m n cb ca b a hB hA h hm hn
  · exact divisor_ge w A B n m ca cb a b hA hB h hn hm

set_option maxRecDepth 100000 in
set_option maxHeartbeats 1000000 in
theorem gcd_any (w : World) (na nb : Bool) (A B : Option Addr) (n m ca cb a b : Nat) (hA : Lm w w.heap.size A n ca (digs a)) (hB : Lm w w.heap.size B m cb (digs b)) (hv : chkB na (digs a) nb (digs b) = 0) (hn : n ≤ 4096) (hm : m ≤ 4096) :
    Calls Tryz.prog 38 #[.agg #[.bool na, .slice A n ca], .agg #[.bool nb, .slice B m cb]] w (RW w (mkN false (Nat.gcd a b)) (mkL (Nat.gcd a b)) (mkE (Nat.gcd a b))) := by
  have HA := Lib.hid hA
  have HB := Lib.hid hB
  have HV := Lib.hid hv
  clear hv
  go_enter Tryz.func38, Tryz.ntmps38
  go_wp2_with fail
  refine (both_any _ _ _ _ _ _ _ _ _ _ _ 0 (((HA.out.box _).box _).box _) (((HB.out.box _).box _).box _) HV.out).mono ?_
  rintro e w1 ⟨rfl, hb1⟩
  have ⟨hx0, hx1, hy0, hy1, hz0, hz1, hf0, hf1, hsz⟩ := box3 hb1
  have HA1 := Lib.hid ((((HA.out.box _).box _).box _).via hb1)
  have HB1 := Lib.hid ((((HB.out.box _).box _).box _).via hb1)
  have HBl1 := Lib.hid (bbox (bbox (bbox hb1)))
  clear hb1
  go_wp2_with fail
  refine (divisor_any w1 A B n m ca cb a b HA1.out HB1.out hn hm).mono ?_
  rintro e w2 ⟨A2, c2, rfl, hL2, hb2⟩
  have hz2 := keep2 hb2 hsz ⟨hz0, hz1⟩
  have hf2 := keepF hb2 hsz ⟨hf0, hf1⟩
  have hs2 := Nat.lt_of_lt_of_le hsz hb2.size
  have HBl2 := Lib.hid (HBl1.out.trans (hb2.mono HBl1.out.size))
  clear hb2
  go_wp2_with fail
  refine (made_any _ _ _ _ _ (Nat.gcd a b) hL2).mono ?_
  rintro e w3 ⟨A3, n3, c3, rfl, hL3, hb3⟩
  have hz3 := keep2 hb3 hs2 hz2
  have hf3 := keepF hb3 hs2 hf2
  have hs3 := Nat.lt_of_lt_of_le hs2 hb3.size
  have HBl3 := Lib.hid (HBl2.out.trans (hb3.mono HBl2.out.size))
  have HL3 := Lib.hid hL3
  clear hb3 hL3 hL2 hz2 hf2 hx0 hx1 hy0 hy1 hz0 hz1 hf0 hf1
  obtain ⟨z0, z1⟩ := hz3
  obtain ⟨f0, f1⟩ := hf3
  go_wp2
  exact post_ws Tryz.results38 rfl rfl z0 z1 ⟨A3, n3, c3, rfl, HL3.out.set2 z0 z1 _ _, below_set2 HBl3.out (by omega) _ _⟩
end Go.Proofs.YtbplbbkmfbjkfaaGreatDoor

/- Gcd of any two numbers, valid or not, on both sides. -/
namespace Go.Proofs.YtbplbbkmfbjkfaaGreatDoor
open Go.RowKit

set_option maxRecDepth 100000 in
set_option maxHeartbeats 400000 in
theorem gcd_bad (w : World) (na nb : Bool) (A B : Option Addr) (n m ca cb : Nat) (xs ys : List Nat) (hA : Lm w w.heap.size A n ca xs) (hB : Lm w w.heap.size B m cb ys) (hv : chkB na xs nb ys = 8) :
    Calls Tryz.prog 38 #[.agg #[.bool na, .slice A n ca], .agg #[.bool nb, .slice B m cb]] w (RW w false [] 8) := by
  have HA := Lib.hid hA
  have HB := Lib.hid hB
  have HV := Lib.hid hv
  clear hv
  go_enter Tryz.func38, Tryz.ntmps38
  go_wp2_with (go_at_call 73; refine (both_any _ _ _ _ _ _ _ _ _ _ _ 8 (((HA.out.box _).box _).box _) (((HB.out.box _).box _).box _) HV.out).mono ?_; rintro e w1 ⟨rfl, hb1⟩; have ⟨hx0, hx1, hy0, hy1, hz0, hz1, hf0, hf1, hsz⟩ := box3 hb1)
  exact post_ws Tryz.results38 rfl rfl hz0 hz1 ⟨none, 0, 0, rfl, Lm.nil _ _, below_set2 (bbox (bbox (bbox hb1))) (by omega) _ _⟩
end Go.Proofs.YtbplbbkmfbjkfaaGreatDoor

/- Package frac: ratio.reduced. -/
namespace Go.Proofs.YtbplbbkmfbjkfaaGreatDoor
open Go.RowKit

/-- The divisor by which a ratio is reduced: it has the sign of the second number. -/
def dvr (x y : Int) : Int := if y < 0 then -(Nat.gcd x.natAbs y.natAbs : Int) else (Nat.gcd x.natAbs y.natAbs : Int)
theorem dvr_ne {x y : Int} (hy : y ≠ 0) : dvr x y ≠ 0 := by
  have h : 0 < Nat.gcd x.natAbs y.natAbs := Nat.gcd_pos_of_pos_right _ (by omega)
  unfold dvr
  split <;> omega
theorem dvr_dvd_left (x y : Int) : dvr x y ∣ x := by
  have h : ((Nat.gcd x.natAbs y.natAbs : Nat) : Int) ∣ x := Int.ofNat_dvd_left.2 (Nat.gcd_dvd_left _ _)
  unfold dvr
  split
  · exact Int.neg_dvd.2 h
  · exact h
theorem dvr_dvd_right (x y : Int) : dvr x y ∣ y := by
  have h : ((Nat.gcd x.natAbs y.natAbs : Nat) : Int) ∣ y := Int.ofNat_dvd_left.2 (Nat.gcd_dvd_right _ _)
  unfold dvr
  split
  · exact Int.neg_dvd.2 h
  · exact h
theorem dvr_left (x y : Int) : x = x / dvr x y * dvr x y := (Int.ediv_mul_cancel (dvr_dvd_left x y)).symm
theorem dvr_right (x y : Int) : y = y / dvr x y * dvr x y := (Int.ediv_mul_cancel (dvr_dvd_right x y)).symm
theorem sz_gcd2 {x y : Int} {k : Nat} (hy : Sz k y) (hy0 : y ≠ 0) : Sz k (Nat.gcd x.natAbs y.natAbs : Int) := by
  unfold Sz at *
  rw [Int.natAbs_natCast]
  exact Nat.lt_of_le_of_lt (Nat.gcd_le_right _ (by omega)) hy
theorem sz_dvr {x y : Int} {k : Nat} (hy : Sz k y) (hy0 : y ≠ 0) : Sz k (dvr x y) := by
  have h := sz_gcd2 (x := x) hy hy0
  unfold dvr
  split
  · exact h.neg
  · exact h
/-- A call returns the fraction p / q. -/
def RFr (w : World) (p q : Int) (e : Ending) (w' : World) : Prop := ∃ A n c B m c', e = .returned (fv (decide (p < 0)) A n c (decide (q < 0)) B m c') ∧ Lm w' w'.heap.size A n c (digs p.natAbs) ∧ Lm w' w'.heap.size B m c' (digs q.natAbs) ∧ Below w.heap.size w w'
section
variable (w : World) (A B : Option Addr) (n m ca cb k : Nat) (x y : Int) (hA : Lm w w.heap.size A n ca (digs x.natAbs)) (hB : Lm w w.heap.size B m cb (digs y.natAbs)) (hx : Sz k x) (hy : Sz k y) (hk : k ≤ 2000) {na nb : Bool} (ha : decide (x < 0) = na) (hb : decide (y < 0) = nb)
include hA hx hk ha
theorem neg_n2 : Calls Tryz.prog 37 #[.agg #[.bool na, .slice A n ca]] w (RN w (-x)) := by
  have hc := chk_z hx (show k ≤ 4096 by omega)
  rw [ha] at hc
  have h := neg_ok w na A n ca _ hA hc
  refine h.mono fun e w' hr => ?_
  have hl : (digs x.natAbs).length ≤ 4096 := Nat.le_trans hx.len (by omega)
  have hr2 := rw_rn hl hr
  have e1 : toI (!na) x.natAbs = -x := by
    subst ha
    unfold toI
    by_cases h : x < 0
    · rw [decide_eq_true h]; simp; omega
    · rw [decide_eq_false h]; simp; omega
  rw [e1] at hr2
  exact hr2
include hB hy hb
theorem gcd_n2 : Calls Tryz.prog 38 #[.agg #[.bool na, .slice A n ca], .agg #[.bool nb, .slice B m cb]] w fun e w' => ∃ A' n' c', e = .returned (.tuple #[.agg #[.bool false, .slice A' n' c'], .int .i64 0]) ∧ Lm w' w'.heap.size A' n' c' (digs (Nat.gcd x.natAbs y.natAbs)) ∧ Below w.heap.size w w' := by
  subst ha hb
  have hxl : (digs x.natAbs).length ≤ 4096 := Nat.le_trans hx.len (by omega)
  have hyl : (digs y.natAbs).length ≤ 4096 := Nat.le_trans hy.len (by omega)
  have h := gcd_any w _ _ A B n m ca cb _ _ hA hB (chkB_z hx (by omega) hy (by omega)) (by rw [← hA.len]; exact hxl) (by rw [← hB.len]; exact hyl)
  have hgl : (digs (Nat.gcd x.natAbs y.natAbs)).length ≤ 4096 := by
    rcases Nat.eq_zero_or_pos x.natAbs with h0 | h0
    · rw [h0, Nat.gcd_zero_left]; exact hyl
    · exact Nat.le_trans (digs_mono (Nat.gcd_le_left _ h0)) hxl
  refine h.mono fun e w' hr => ?_
  obtain ⟨A', n', c', he, hL, hb⟩ := rw_rn (neg := false) hgl hr
  have e1 : decide (toI false (Nat.gcd x.natAbs y.natAbs) < 0) = false := by unfold toI; simp
  rw [e1] at he
  have e2 : (toI false (Nat.gcd x.natAbs y.natAbs)).natAbs = Nat.gcd x.natAbs y.natAbs := toI_abs _ _
  rw [e2] at hL
  exact ⟨A', n', c', he, hL, hb⟩
end
theorem sign_n2 (w : World) (A : Option Addr) (n c k : Nat) (y : Int) (h : Lm w w.heap.size A n c (digs y.natAbs)) (hy : Sz k y) (hk : k ≤ 2000) {nb : Bool} (hb : decide (y < 0) = nb) (s : Int) (hs : s = if y < 0 then -1 else if y = 0 then 0 else 1) :
    Calls Tryz.prog 40 #[.agg #[.bool nb, .slice A n c]] w fun e w' => e = .returned (.tuple #[.int .i64 s, .int .i64 0]) ∧ Below w.heap.size w w' := by
  have hc := chk_z hy (show k ≤ 4096 by omega)
  rw [hb] at hc
  have h2 := sign_ok w nb A n c _ h hc
  have e1 : signZ nb y.natAbs = s := by
    subst hs hb
    unfold signZ sideZ
    by_cases h0 : y < 0
    · rw [decide_eq_true h0, if_pos h0]; simp; omega
    · rw [decide_eq_false h0, if_neg h0]
      by_cases h1 : y = 0
      · simp [h1]
      · rw [if_neg h1]; simp; try omega
  rw [e1] at h2
  exact h2

end Go.Proofs.YtbplbbkmfbjkfaaGreatDoor

/- Package frac: ratio.reduced of valid numbers. -/
namespace Go.Proofs.YtbplbbkmfbjkfaaGreatDoor
open Go.RowKit

set_option maxRecDepth 100000 in
set_option maxHeartbeats 2000000 in
theorem reduced_zero (w : World) (A B : Option Addr) (n m ca cb k : Nat) (x y : Int) (hA : Lm w w.heap.size A n ca (digs x.natAbs)) (hB : Lm w w.heap.size B m cb (digs y.natAbs)) (hx : Sz k x) (hy : Sz k y) (hk : k ≤ 2000) {na nb : Bool} (ha : decide (x < 0) = na) (hb : decide (y < 0) = nb) (hs : y = 0) :
    Calls Tryz.prog 15 #[fv na A n ca nb B m cb] w (fun e w' => e = Pan 18 ∧ Below w.heap.size w w') := by
  have HA := Lib.hid hA
  have HB := Lib.hid hB
  have HX := Lib.hid hx
  have HY := Lib.hid hy
  have HNa := Lib.hid ha
  have HNb := Lib.hid hb
  have HC := Lib.hid hs
  have HS : Hid ((0 : Int) = if y < 0 then -1 else if y = 0 then 0 else 1) := by show _ = _; subst hs; rfl
  clear hA hB hx hy ha hb hs
  go_enter Tryz.func15, Tryz.ntmps15
  go_wp2_with fail
  refine (gcd_n2 _ A B n m ca cb k x y ((HA.out.box _).box _) ((HB.out.box _).box _) HX.out HY.out hk HNa.out HNb.out).mono ?_
  rintro e w1 ⟨A1, n1, c1, rfl, hL1, hb1⟩
  have QF := Lib.hid (((Qd.new w _ rfl (.bool na) (.slice A n ca) (.bool nb) (.slice B m cb) 42).alloc (.cells #[.bool false, .slice none 0 0, .bool false, .slice none 0 0] 26)).via hb1)
  have QR := Lib.hid ((Qd.new (w.alloc (.cells #[.bool na, .slice A n ca, .bool nb, .slice B m cb] 42)) (w.heap.size + 1) (by simp) (.bool false) (.slice none 0 0) (.bool false) (.slice none 0 0) 26).via hb1)
  have LA := Lib.hid (((HA.out.box _).box _).via hb1)
  have LB := Lib.hid (((HB.out.box _).box _).via hb1)
  have L1 := Lib.hid hL1
  have B1 := Lib.hid (bbox (bbox hb1))
  clear hb1 hL1 HA HB
  go_wp2_with fail
  refine (must_ok _ _ _ _ _).mono ?_
  rintro e w2 ⟨rfl, hb2⟩
  have QF2 := Lib.hid ((QF.out.via hb2).alloc (.cells #[.bool false, .slice A1 n1 c1] 24))
  have QR2 := Lib.hid ((QR.out.via hb2).alloc (.cells #[.bool false, .slice A1 n1 c1] 24))
  have LA2 := Lib.hid ((LA.out.via hb2).box (.cells #[.bool false, .slice A1 n1 c1] 24))
  have LB2 := Lib.hid ((LB.out.via hb2).box (.cells #[.bool false, .slice A1 n1 c1] 24))
  have L12 := Lib.hid ((L1.out.via hb2).box (.cells #[.bool false, .slice A1 n1 c1] 24))
  have PG := Lib.hid (Pr.new w2 _ rfl (.bool false) (.slice A1 n1 c1) 24)
  have B2 := Lib.hid ((B1.out.trans (hb2.mono B1.out.size)).alloc (B1.out.trans (hb2.mono B1.out.size)).size (.cells #[.bool false, .slice A1 n1 c1] 24))
  have hg := (QR.out.via hb2).lt
  have ⟨f0, f1, f2, f3, _, _, _, _, fl⟩ := QF.out.via hb2
  clear hb2 QF QR LA LB L1 B1
  go_wp2_with fail
  generalize w2.alloc (.cells #[.bool false, .slice A1 n1 c1] 24) = W2 at *
  refine (sign_n2 _ B m cb k y LB2.out HY.out hk HNb.out 0 HS.out).mono ?_
  rintro e w3 ⟨rfl, hb3⟩
  have QF := Lib.hid (QF2.out.via hb3)
  have QR := Lib.hid (QR2.out.via hb3)
  have LA := Lib.hid (LA2.out.via hb3)
  have LB := Lib.hid (LB2.out.via hb3)
  have L1 := Lib.hid (L12.out.via hb3)
  have P3 := Lib.hid (PG.out.via hb3)
  have B3 := Lib.hid (B2.out.trans (hb3.mono B2.out.size))
  clear hb3 QF2 QR2 LA2 LB2 L12 PG B2 f0 f1 f2 f3 fl
  generalize w2.heap.size = g at *
  go_wp2_with fail
  refine (musti_ok _ _).mono ?_
  rintro e w4 ⟨rfl, rfl⟩
  go_wp2
  exact ⟨rfl, rfl, B3.out⟩
set_option maxRecDepth 100000 in
set_option maxHeartbeats 2000000 in
theorem reduced_pos (w : World) (A B : Option Addr) (n m ca cb k : Nat) (x y : Int) (hA : Lm w w.heap.size A n ca (digs x.natAbs)) (hB : Lm w w.heap.size B m cb (digs y.natAbs)) (hx : Sz k x) (hy : Sz k y) (hk : k ≤ 2000) {na nb : Bool} (ha : decide (x < 0) = na) (hb : decide (y < 0) = nb) (hs : 0 < y) :
    Calls Tryz.prog 15 #[fv na A n ca nb B m cb] w (RFr w (x / dvr x y) (y / dvr x y)) := by
  have HA := Lib.hid hA
  have HB := Lib.hid hB
  have HX := Lib.hid hx
  have HY := Lib.hid hy
  have HNa := Lib.hid ha
  have HNb := Lib.hid hb
  have HC := Lib.hid hs
  have HS : Hid ((1 : Int) = if y < 0 then -1 else if y = 0 then 0 else 1) := by show _ = _; rw [if_neg (by omega), if_neg (by omega)]
  clear hA hB hx hy ha hb hs
  go_enter Tryz.func15, Tryz.ntmps15
  go_wp2_with fail
  refine (gcd_n2 _ A B n m ca cb k x y ((HA.out.box _).box _) ((HB.out.box _).box _) HX.out HY.out hk HNa.out HNb.out).mono ?_
  rintro e w1 ⟨A1, n1, c1, rfl, hL1, hb1⟩
  have QF := Lib.hid (((Qd.new w _ rfl (.bool na) (.slice A n ca) (.bool nb) (.slice B m cb) 42).alloc (.cells #[.bool false, .slice none 0 0, .bool false, .slice none 0 0] 26)).via hb1)
  have QR := Lib.hid ((Qd.new (w.alloc (.cells #[.bool na, .slice A n ca, .bool nb, .slice B m cb] 42)) (w.heap.size + 1) (by simp) (.bool false) (.slice none 0 0) (.bool false) (.slice none 0 0) 26).via hb1)
  have LA := Lib.hid (((HA.out.box _).box _).via hb1)
  have LB := Lib.hid (((HB.out.box _).box _).via hb1)
  have L1 := Lib.hid hL1
  have B1 := Lib.hid (bbox (bbox hb1))
  clear hb1 hL1 HA HB
  go_wp2_with fail
  refine (must_ok _ _ _ _ _).mono ?_
  rintro e w2 ⟨rfl, hb2⟩
  have QF2 := Lib.hid ((QF.out.via hb2).alloc (.cells #[.bool false, .slice A1 n1 c1] 24))
  have QR2 := Lib.hid ((QR.out.via hb2).alloc (.cells #[.bool false, .slice A1 n1 c1] 24))
  have LA2 := Lib.hid ((LA.out.via hb2).box (.cells #[.bool false, .slice A1 n1 c1] 24))
  have LB2 := Lib.hid ((LB.out.via hb2).box (.cells #[.bool false, .slice A1 n1 c1] 24))
  have L12 := Lib.hid ((L1.out.via hb2).box (.cells #[.bool false, .slice A1 n1 c1] 24))
  have PG := Lib.hid (Pr.new w2 _ rfl (.bool false) (.slice A1 n1 c1) 24)
  have B2 := Lib.hid ((B1.out.trans (hb2.mono B1.out.size)).alloc (B1.out.trans (hb2.mono B1.out.size)).size (.cells #[.bool false, .slice A1 n1 c1] 24))
  have hg := (QR.out.via hb2).lt
  have ⟨f0, f1, f2, f3, _, _, _, _, fl⟩ := QF.out.via hb2
  clear hb2 QF QR LA LB L1 B1
  go_wp2_with fail
  generalize w2.alloc (.cells #[.bool false, .slice A1 n1 c1] 24) = W2 at *
  refine (sign_n2 _ B m cb k y LB2.out HY.out hk HNb.out 1 HS.out).mono ?_
  rintro e w3 ⟨rfl, hb3⟩
  have QF := Lib.hid (QF2.out.via hb3)
  have QR := Lib.hid (QR2.out.via hb3)
  have LA := Lib.hid (LA2.out.via hb3)
  have LB := Lib.hid (LB2.out.via hb3)
  have L1 := Lib.hid (L12.out.via hb3)
  have P3 := Lib.hid (PG.out.via hb3)
  have B3 := Lib.hid (B2.out.trans (hb3.mono B2.out.size))
  clear hb3 QF2 QR2 LA2 LB2 L12 PG B2 f0 f1 f2 f3 fl
  generalize w2.heap.size = g at *
  go_wp2_with fail
  refine (musti_ok _ _).mono ?_
  rintro e w4 ⟨rfl, rfl⟩
  have HD : Hid (decide (dvr x y < 0) = false) := by
    show _ = _
    have := HC.out
    unfold dvr
    rw [if_neg (by omega)]
    simp
  have LC : Hid (Lm w3 w3.heap.size A1 n1 c1 (digs (dvr x y).natAbs)) := by
    have := HC.out
    have e : (dvr x y).natAbs = Nat.gcd x.natAbs y.natAbs := by unfold dvr; rw [if_neg (by omega)]; rfl
    rw [e]
    exact L1.out
  have BL := Lib.hid B3.out
  have ⟨f0, f1, f2, f3, _, _, _, _, fl⟩ := QF.out
  have ⟨p0, p1, _, _, pl⟩ := P3.out
  go_wp2_with fail
  clear f0 f1 f2 f3 fl p0 p1 pl
  refine (divided_x _ A B A1 n m n1 ca cb c1 k x y (dvr x y) (x / dvr x y) (y / dvr x y) LA.out LB.out LC.out HX.out HY.out (sz_dvr HY.out (by have := HC.out; omega)) hk (dvr_ne (by have := HC.out; omega)) (dvr_left x y) (dvr_right x y) HNa.out HNb.out HD.out).mono ?_
  rintro e w5 ⟨A5, n5, c5, B5, m5, d5, rfl, hL5, hM5, hb5⟩
  have QR5 := QR.out.via hb5
  obtain ⟨np, hnp⟩ : ∃ b, decide (x / dvr x y < 0) = b := ⟨_, rfl⟩
  obtain ⟨nq, hnq⟩ : ∃ b, decide (y / dvr x y < 0) = b := ⟨_, rfl⟩
  rw [hnp, hnq]
  have HNp := Lib.hid hnp
  have HNq := Lib.hid hnq
  have L5 := Lib.hid hL5
  have M5 := Lib.hid hM5
  have BB := Lib.hid (BL.out.trans (hb5.mono BL.out.size))
  clear hnp hnq hL5 hM5 hb5
  have ⟨r0, r1, r2, r3, rf0, rf1, rf2, rf3, rl⟩ := QR5
  go_wp2
  exact post_f1 Tryz.results15 rfl rfl (QR5.set (.bool np) (.slice A5 n5 c5) (.bool nq) (.slice B5 m5 d5)) ⟨A5, n5, c5, B5, m5, d5, by rw [HNp.out, HNq.out], L5.out.put4 QR5 _ _ _ _, M5.out.put4 QR5 _ _ _ _, below_put4 BB.out (by omega) _ _ _ _⟩
end Go.Proofs.YtbplbbkmfbjkfaaGreatDoor

/- Package frac: attempt, which makes a panic a result. -/
namespace Go.Proofs.YtbplbbkmfbjkfaaGreatDoor
open Go.RowKit

/-- A store into a cell that holds an int touches no limb. -/
theorem Lm.err {w : World} {n c : Nat} {A : Option Addr} {xs : List Nat} (h : Lm w w.heap.size A n c xs) {g i : Nat} {z : Int} (hc : w.cell? ⟨g, i, none⟩ = some (.int .i64 z)) (v : Value) : Lm (w.setCell ⟨g, i, none⟩ v) (w.setCell ⟨g, i, none⟩ v).heap.size A n c xs := by
  rw [World.size_setCell]
  refine ⟨h.len, h.good, h.cap, h.max, h.nil_, fun hn => ?_⟩
  obtain ⟨b, off, e, hb, hcs⟩ := h.at_ hn
  refine ⟨b, off, e, hb, fun j hj => ?_⟩
  have hcj := hcs j hj
  rw [World.cell?_setCell_other]
  · exact hcj
  · intro e2
    rw [← e2, hc] at hcj
    have := Option.some.inj hcj
    injection this with h1 h2
    cases h1
theorem Qd.far1 {w : World} {g h : Nat} {x0 x1 x2 x3 : Value} (p : Qd w g x0 x1 x2 x3) (hne : g ≠ h) (i : Nat) (v : Value) : Qd (w.setCell ⟨h, i, none⟩ v) g x0 x1 x2 x3 := by
  have e : ∀ j, (⟨h, i, none⟩ : Addr) ≠ ⟨g, j, none⟩ := fun j e => hne (congrArg Addr.block e).symm
  exact ⟨(World.cell?_setCell_other _ _ _ _ (e 0)).trans p.c0, (World.cell?_setCell_other _ _ _ _ (e 1)).trans p.c1, (World.cell?_setCell_other _ _ _ _ (e 2)).trans p.c2, (World.cell?_setCell_other _ _ _ _ (e 3)).trans p.c3,
    by have := p.f0; simpa using this, by have := p.f1; simpa using this, by have := p.f2; simpa using this, by have := p.f3; simpa using this, by rw [World.size_setCell]; exact p.lt⟩

theorem catch_panicking (p : Addr) (x0 x : Int) (older : List PanicEntry) (w : World) (hc : w.cell? p = some (.int .i64 x0)) (hz : w.frozen? p = false) :
    CallsD Tryz.prog 33 #[.pointer (some p)] (.panicking ({ v := .iface 28 (.int .i64 x), recovered := false } :: older)) w fun e u' w' =>
      e = .returned (.tuple #[]) ∧ u' = .panicking ({ v := .iface 28 (.int .i64 x), recovered := true } :: older) ∧ w' = w.setCell p (.int .i64 x) := by
  have hta : ∀ w : World, (Instr.typeAssert (.iface 28 (.int .i64 x)) 20 28 false).run Tryz.prog w = .ok (.int .i64 x) w := fun _ => by kernel_rfl
  refine callsD_of_wpS Tryz.func33 rfl fun c₀ cs hu => ?_
  apply wpS_seq
  apply wpS_region
  simp [wpOpsS, go_sem, recoverD, hu, Tryz.ntmps33, Exit.thenS]
  apply wpS_seq
  apply wpS_region
  simp [wpOpsS, go_sem, Exit.thenS]
  refine wpS_cond (t := true) (by simp [Act.eval, Array.replicate]) ?_
  simp only [if_true]
  apply wpS_region
  simp [wpOpsS, go_sem, hta, hc, hz, bodyPostS, results, Tryz.results33]

theorem catch_idle (p : Addr) (w : World) :
    CallsD Tryz.prog 33 #[.pointer (some p)] .returning w fun e u' w' => e = .returned (.tuple #[]) ∧ u' = .returning ∧ w' = w := by
  refine callsD_of_wpS Tryz.func33 rfl fun c₀ cs hu => ?_
  apply wpS_seq
  apply wpS_region
  simp [wpOpsS, go_sem, recoverD, hu, Tryz.ntmps33, Exit.thenS]
  apply wpS_seq
  apply wpS_region
  simp [wpOpsS, go_sem, Exit.thenS]
  refine wpS_cond (t := false) (by simp [Act.eval, Array.replicate]) ?_
  simp only [Bool.false_eq_true, if_false]
  refine wpS_of_wp (wp_skip ?_)
  cases c₀
  simp_all [bodyPostS, results, Tryz.results33]

/-- A call returns a fraction and no error. -/
def RFE (w : World) (p q : Int) (e : Ending) (w' : World) : Prop := ∃ A n c B m c', e = .returned (.tuple #[fv (decide (p < 0)) A n c (decide (q < 0)) B m c', .int .i64 0]) ∧ Lm w' w'.heap.size A n c (digs p.natAbs) ∧ Lm w' w'.heap.size B m c' (digs q.natAbs) ∧ Below w.heap.size w w'
/-- A call returns an error. -/
def RFX (w : World) (x : Int) (e : Ending) (w' : World) : Prop := e = .returned (.tuple #[fv false none 0 0 false none 0 0, .int .i64 x]) ∧ Below w.heap.size w w'
/-- The world in which attempt calls: with the boxes of its two results. -/
def Wat (w : World) : World := (w.alloc (.cells #[.bool false, .slice none 0 0, .bool false, .slice none 0 0] 26)).alloc (.cells #[.int .i64 0] 28)
theorem wat_below (w : World) : Below w.heap.size w (Wat w) := ((Below.refl _ _).alloc (Nat.le_refl _) _).alloc (by simp) _
theorem wat_qd (w : World) : Qd (Wat w) w.heap.size (.bool false) (.slice none 0 0) (.bool false) (.slice none 0 0) := (Qd.new w _ rfl _ _ _ _ _).alloc _
theorem wat_c (w : World) : (Wat w).cell? ⟨w.heap.size + 1, 0, none⟩ = some (.int .i64 0) ∧ (Wat w).frozen? ⟨w.heap.size + 1, 0, none⟩ = false := by unfold Wat; constructor <;> go_simp
theorem wat_size (w : World) : (Wat w).heap.size = w.heap.size + 1 + 1 := by unfold Wat; simp

set_option maxRecDepth 100000 in
set_option maxHeartbeats 1000000 in
theorem attempt_ok (w : World) (f : FuncId) (first cap : Array Value) (p q : Int) (hcf : ∀ W, (callFunc f (first ++ cap)).run Tryz.prog W = .ok (.enter f (first ++ cap)) W)
    (H : Calls Tryz.prog f (first ++ cap) (Wat w) (RFr (Wat w) p q)) :
    Calls Tryz.prog 12 #[.func (.func f) first cap] w (RFE w p q) := by
  have hmf : ∀ (fn : Fn) (first cap : Array Value) (w : World), (Instr.makeFunc fn first cap).run Tryz.prog w = .ok (.func fn first cap) w := fun _ _ _ _ => rfl
  have HH := Lib.hid H
  clear H
  go_enter_defers Tryz.func12, Tryz.ntmps12
  go_wp2_with fail
  refine HH.out.mono ?_
  rintro e w1 ⟨A, n, c, B, m, c', rfl, hL, hM, hb⟩
  have QD := (wat_qd w).via hb
  have hz := hb.size
  rw [wat_size] at hz
  have hc : w1.cell? ⟨w.heap.size + 1, 0, none⟩ = some (.int .i64 0) := (hb.cell (p := ⟨w.heap.size + 1, 0, none⟩) (by rw [wat_size]; simp)).trans (wat_c w).1
  have hf : w1.frozen? ⟨w.heap.size + 1, 0, none⟩ = false := (hb.frozen (p := ⟨w.heap.size + 1, 0, none⟩) (by rw [wat_size]; simp)).trans (wat_c w).2
  obtain ⟨np, hnp⟩ : ∃ b, decide (p < 0) = b := ⟨_, rfl⟩
  obtain ⟨nq, hnq⟩ : ∃ b, decide (q < 0) = b := ⟨_, rfl⟩
  rw [hnp, hnq]
  have HNp := Lib.hid hnp
  have HNq := Lib.hid hnq
  have HQ := Lib.hid QD
  have HL := Lib.hid hL
  have HM := Lib.hid hM
  have HB := Lib.hid ((wat_below w).trans (hb.mono (wat_below w).size))
  clear hnp hnq hL hM hb hz
  have ⟨d0, d1, d2, d3, g0, g1, g2, g3, dl⟩ := QD
  clear QD
  go_wp2
  clear d0 d1 d2 d3 g0 g1 g2 g3 dl
  refine leaves_cons (f := 33) (args := #[.pointer (some ⟨w.heap.size + 1, 0, none⟩)]) (by simp) (by simp [go_sem]) ?_
  refine (catch_idle _ _).mono ?_
  rintro e u' w'' ⟨rfl, rfl, rfl⟩
  have hc2 : (Proofs.YtbplbbkmfbjkfaaGreatDoor.put4 w1 w.heap.size (.bool np) (.slice A n c) (.bool nq) (.slice B m c')).cell? ⟨w.heap.size + 1, 0, none⟩ = some (.int .i64 0) := (put4_cell _ _ _ _ (by omega)).trans hc
  exact ⟨_, res_fe Tryz.results12 rfl rfl ((HQ.out.set (.bool np) (.slice A n c) (.bool nq) (.slice B m c')).far1 (h := w.heap.size + 1) (by omega) 0 (.int .i64 0)) (World.cell?_setCell_same _ _ _ hc2),
    A, n, c, B, m, c', by rw [HNp.out, HNq.out], (HL.out.put4 HQ.out _ _ _ _).err hc2 _, (HM.out.put4 HQ.out _ _ _ _).err hc2 _, (below_put4 HB.out (Nat.le_refl _) _ _ _ _).setCell (p := ⟨w.heap.size + 1, 0, none⟩) (by show w.heap.size ≤ w.heap.size + 1; omega) _⟩

set_option maxRecDepth 100000 in
set_option maxHeartbeats 1000000 in
theorem attempt_no (w : World) (f : FuncId) (first cap : Array Value) (x : Int) (hcf : ∀ W, (callFunc f (first ++ cap)).run Tryz.prog W = .ok (.enter f (first ++ cap)) W)
    (H : Calls Tryz.prog f (first ++ cap) (Wat w) (fun e w' => e = Pan x ∧ Below (Wat w).heap.size (Wat w) w')) :
    Calls Tryz.prog 12 #[.func (.func f) first cap] w (RFX w x) := by
  have hmf : ∀ (fn : Fn) (first cap : Array Value) (w : World), (Instr.makeFunc fn first cap).run Tryz.prog w = .ok (.func fn first cap) w := fun _ _ _ _ => rfl
  have HH := Lib.hid H
  clear H
  go_enter_defers Tryz.func12, Tryz.ntmps12
  go_wp2_with fail
  refine HH.out.mono ?_
  rintro e w1 ⟨rfl, hb⟩
  unfold Pan
  have QD := (wat_qd w).via hb
  have hc : w1.cell? ⟨w.heap.size + 1, 0, none⟩ = some (.int .i64 0) := (hb.cell (p := ⟨w.heap.size + 1, 0, none⟩) (by rw [wat_size]; simp)).trans (wat_c w).1
  have hf : w1.frozen? ⟨w.heap.size + 1, 0, none⟩ = false := (hb.frozen (p := ⟨w.heap.size + 1, 0, none⟩) (by rw [wat_size]; simp)).trans (wat_c w).2
  have HB := Lib.hid ((wat_below w).trans (hb.mono (wat_below w).size))
  have HQ := Lib.hid QD
  clear hb QD
  refine leaves_cons (f := 33) (args := #[.pointer (some ⟨w.heap.size + 1, 0, none⟩)]) (by simp) (by simp [go_sem]) ?_
  refine (catch_panicking _ 0 x _ _ hc hf).mono ?_
  rintro e u' w'' ⟨rfl, rfl, rfl⟩
  exact ⟨_, res_fe Tryz.results12 rfl rfl (HQ.out.far1 (h := w.heap.size + 1) (by omega) 0 (.int .i64 x)) (World.cell?_setCell_same _ _ _ hc),
    rfl, HB.out.setCell (p := ⟨w.heap.size + 1, 0, none⟩) (by show w.heap.size ≤ w.heap.size + 1; omega) _⟩
end Go.Proofs.YtbplbbkmfbjkfaaGreatDoor

/- Memory that is as it was but for one block. -/
namespace Go.Proofs.YtbplbbkmfbjkfaaGreatDoor
open Go.RowKit

theorem pt4_eq (w : World) (g : Nat) (a b c d : Value) : (((w.setCell ⟨g, 0, none⟩ a).setCell ⟨g, 1, none⟩ b).setCell ⟨g, 2, none⟩ c).setCell ⟨g, 3, none⟩ d = put4 w g a b c d := rfl
/-- Below B all blocks but g are as they were. -/
structure Bex (B g : Nat) (w w' : World) : Prop where
  os : w'.os = w.os
  tape : w'.tape = w.tape
  output : w'.output = w.output
  size : w.heap.size ≤ w'.heap.size
  block : ∀ k, k < B → k ≠ g → w'.heap[k]? = w.heap[k]?
section
variable {B g : Nat} {a b w w' : World}
theorem Bex.of (h : Below B w w') : Bex B g w w' := ⟨h.os, h.tape, h.output, h.size, fun k hk _ => h.block k hk⟩
theorem Bex.trans {c : World} (h : Bex B g a b) (k : Bex B g b c) : Bex B g a c := ⟨k.os.trans h.os, k.tape.trans h.tape, k.output.trans h.output, Nat.le_trans h.size k.size, fun i hi hg => (k.block i hi hg).trans (h.block i hi hg)⟩
theorem Bex.mono {B' : Nat} (h : Bex B g w w') (hB : B' ≤ B) : Bex B' g w w' := ⟨h.os, h.tape, h.output, h.size, fun k hk hg => h.block k (Nat.lt_of_lt_of_le hk hB) hg⟩
theorem Bex.below (h : Bex B g w w') {B' : Nat} (hB : B' ≤ B) (hg : B' ≤ g) : Below B' w w' := ⟨h.os, h.tape, h.output, h.size, fun k hk => h.block k (Nat.lt_of_lt_of_le hk hB) (by omega)⟩
theorem Bex.set (h : Bex B g a w) (i : Nat) (v : Value) : Bex B g a (w.setCell ⟨g, i, none⟩ v) :=
  ⟨h.os, h.tape, h.output, by rw [World.size_setCell]; exact h.size, fun k hk hg => (Below.heap_setCell w ⟨g, i, none⟩ v k hg).trans (h.block k hk hg)⟩
theorem Bex.drew (h : Bex B g a w) : Bex B g a w.drew := ⟨h.os, h.tape, h.output, h.size, h.block⟩
theorem Bex.next {c : World} (h : Bex a.heap.size g a b) (k : Bex b.heap.size g b c) : Bex a.heap.size g a c := h.trans (k.mono h.size)
theorem Bex.nextB {c : World} (h : Bex a.heap.size g a b) (k : Below b.heap.size b c) : Bex a.heap.size g a c := h.trans (Bex.of (k.mono h.size))
theorem Bex.alloc (h : Bex a.heap.size g a w) (o : Obj) : Bex a.heap.size g a (w.alloc o) := h.nextB ((Below.refl _ _).alloc (Nat.le_refl _) o)
theorem Bex.cell (h : Bex B g w w') {p : Addr} (hp : p.block < B) (hg : p.block ≠ g) : w'.cell? p = w.cell? p := World.cell?_of_block (w := w) (h.block p.block hp hg)
theorem Bex.frozen (h : Bex B g w w') {p : Addr} (hp : p.block < B) (hg : p.block ≠ g) : w'.frozen? p = w.frozen? p := World.frozen?_of_block (w := w) (h.block p.block hp hg)
theorem Pr.bex {h : Nat} {x y : Value} (p : Pr w h x y) (hb : Bex w.heap.size g w w') (hne : h ≠ g) : Pr w' h x y :=
  ⟨(hb.cell (p := ⟨h, 0, none⟩) p.lt hne).trans p.c0, (hb.cell (p := ⟨h, 1, none⟩) p.lt hne).trans p.c1, (hb.frozen (p := ⟨h, 0, none⟩) p.lt hne).trans p.f0, (hb.frozen (p := ⟨h, 1, none⟩) p.lt hne).trans p.f1, Nat.lt_of_lt_of_le p.lt hb.size⟩
theorem Qd.bex {h : Nat} {x0 x1 x2 x3 : Value} (p : Qd w h x0 x1 x2 x3) (hb : Bex w.heap.size g w w') (hne : h ≠ g) : Qd w' h x0 x1 x2 x3 :=
  ⟨(hb.cell (p := ⟨h, 0, none⟩) p.lt hne).trans p.c0, (hb.cell (p := ⟨h, 1, none⟩) p.lt hne).trans p.c1, (hb.cell (p := ⟨h, 2, none⟩) p.lt hne).trans p.c2, (hb.cell (p := ⟨h, 3, none⟩) p.lt hne).trans p.c3,
    (hb.frozen (p := ⟨h, 0, none⟩) p.lt hne).trans p.f0, (hb.frozen (p := ⟨h, 1, none⟩) p.lt hne).trans p.f1, (hb.frozen (p := ⟨h, 2, none⟩) p.lt hne).trans p.f2, (hb.frozen (p := ⟨h, 3, none⟩) p.lt hne).trans p.f3, Nat.lt_of_lt_of_le p.lt hb.size⟩
end
/-- A box of a string. -/
structure Sb (w : World) (g : Nat) (l : List UInt8) : Prop where
  o : ∃ t, w.heap[g]? = some (.cells #[.string ⟨l.toArray⟩] t (0, 0))
section
variable {g : Nat} {w w' : World} {l : List UInt8}
theorem Sb.c0 (s : Sb w g l) : w.cell? ⟨g, 0, none⟩ = some (.string ⟨l.toArray⟩) := by
  obtain ⟨t, h⟩ := s.o
  unfold World.cell?
  simp [h]
theorem Sb.f0 (s : Sb w g l) : w.frozen? ⟨g, 0, none⟩ = false := by
  obtain ⟨t, h⟩ := s.o
  unfold World.frozen?
  simp [h]
theorem Sb.lt (s : Sb w g l) : g < w.heap.size := by
  obtain ⟨t, h⟩ := s.o
  rcases Nat.lt_or_ge g w.heap.size with h1 | h1
  · exact h1
  · rw [Array.getElem?_eq_none h1] at h
    cases h
theorem Sb.new (w : World) (k : Nat) (hk : w.heap.size = k) (l : List UInt8) (t : TypeId) : Sb (w.alloc (.cells #[.string ⟨l.toArray⟩] t)) k l := by
  subst hk
  exact ⟨t, by show (w.heap.push _)[w.heap.size]? = _; simp⟩
theorem Sb.via (s : Sb w g l) (hb : Below w.heap.size w w') : Sb w' g l := by
  obtain ⟨t, h⟩ := s.o
  exact ⟨t, (hb.block g s.lt).trans h⟩
theorem Sb.drew (s : Sb w g l) : Sb w.drew g l := ⟨s.o⟩
theorem Sb.set (s : Sb w g l) (t : List UInt8) : Sb (w.setCell ⟨g, 0, none⟩ (.string ⟨t.toArray⟩)) g t := by
  obtain ⟨T, h⟩ := s.o
  exact ⟨T, by simp [World.setCell, Array.getElem?_modify, h]⟩
theorem Sb.ne (s : Sb w g l) {h : Nat} {x0 x1 x2 x3 : Value} (p : Qd w h x0 x1 x2 x3) (hx : ∀ t, x0 ≠ .string t) : h ≠ g := fun e => by
  subst e
  have h1 := p.c0
  rw [s.c0] at h1
  exact hx _ (Option.some.inj h1).symm
theorem Lm.bex {n c : Nat} {A : Option Addr} {xs : List Nat} (h : Lm w w.heap.size A n c xs) (s : Sb w g l) (hb : Bex w.heap.size g w w') : Lm w' w'.heap.size A n c xs := by
  refine ⟨h.len, h.good, h.cap, h.max, h.nil_, fun hn => ?_⟩
  obtain ⟨b, off, e, hlt, hcs⟩ := h.at_ hn
  have hbs : b ≠ g := fun e3 => by
    subst e3
    obtain ⟨t, h1⟩ := s.o
    have h2 := hcs 0 hn
    unfold World.cell? at h2
    rw [h1] at h2
    cases off with
    | zero =>
      have h3 := Option.some.inj h2
      cases h3
    | succ k => cases h2
  exact ⟨b, off, e, Nat.lt_of_lt_of_le hlt hb.size, fun j hj => (hb.cell (p := ⟨b, off + j, none⟩) hlt hbs).trans (hcs j hj)⟩
theorem Sb.farS (s : Sb w g l) {h : Nat} (hne : g ≠ h) (i : Nat) (v : Value) : Sb (w.setCell ⟨h, i, none⟩ v) g l := by
  obtain ⟨t, h1⟩ := s.o
  exact ⟨t, (Below.heap_setCell w ⟨h, i, none⟩ v g hne).trans h1⟩
theorem Sb.put4 (s : Sb w g l) {h : Nat} (hne : g ≠ h) (a b c d : Value) : Sb (Proofs.YtbplbbkmfbjkfaaGreatDoor.put4 w h a b c d) g l := (((s.farS hne 0 a).farS hne 1 b).farS hne 2 c).farS hne 3 d
theorem Bex.setN {a : World} {B : Nat} (h : Bex B g a w) {k : Nat} (hk : B ≤ k) (i : Nat) (v : Value) : Bex B g a (w.setCell ⟨k, i, none⟩ v) :=
  ⟨h.os, h.tape, h.output, by rw [World.size_setCell]; exact h.size, fun j hj hg => (Below.heap_setCell w ⟨k, i, none⟩ v j (by show j ≠ k; omega)).trans (h.block j hj hg)⟩
theorem Bex.put4 {a : World} {B : Nat} (h : Bex B g a w) {k : Nat} (hk : B ≤ k) (x y z t : Value) : Bex B g a (Proofs.YtbplbbkmfbjkfaaGreatDoor.put4 w k x y z t) := (((h.setN hk 0 x).setN hk 1 y).setN hk 2 z).setN hk 3 t
end
section
variable {w w' : World} {g : Nat} {x0 x1 x2 x3 : Value}
/-- One half of a fraction's box written anew. -/
theorem Qd.lo (p : Qd w g x0 x1 x2 x3) (y0 y1 : Value) : Qd ((w.setCell ⟨g, 0, none⟩ y0).setCell ⟨g, 1, none⟩ y1) g y0 y1 x2 x3 := by
  have h0 := p.c0; have h1 := p.c1; have h2 := p.c2; have h3 := p.c3; have f0 := p.f0; have f1 := p.f1; have f2 := p.f2; have f3 := p.f3; have hl := p.lt
  exact ⟨by go_simp, by go_simp, by go_simp, by go_simp, by simpa using f0, by simpa using f1, by simpa using f2, by simpa using f3, by simpa [World.size_setCell] using hl⟩
theorem Qd.hi (p : Qd w g x0 x1 x2 x3) (y2 y3 : Value) : Qd ((w.setCell ⟨g, 2, none⟩ y2).setCell ⟨g, 3, none⟩ y3) g x0 x1 y2 y3 := by
  have h0 := p.c0; have h1 := p.c1; have h2 := p.c2; have h3 := p.c3; have f0 := p.f0; have f1 := p.f1; have f2 := p.f2; have f3 := p.f3; have hl := p.lt
  exact ⟨by go_simp, by go_simp, by go_simp, by go_simp, by simpa using f0, by simpa using f1, by simpa using f2, by simpa using f3, by simpa [World.size_setCell] using hl⟩
theorem Lm.setv {n c : Nat} {A : Option Addr} {xs : List Nat} (h : Lm w w.heap.size A n c xs) {i : Nat} {v0 : Value} (hc : w.cell? ⟨g, i, none⟩ = some v0) (hv : ∀ z, v0 ≠ .int .u32 z) (v : Value) : Lm (w.setCell ⟨g, i, none⟩ v) (w.setCell ⟨g, i, none⟩ v).heap.size A n c xs := by
  rw [World.size_setCell]
  refine ⟨h.len, h.good, h.cap, h.max, h.nil_, fun hn => ?_⟩
  obtain ⟨b, off, e, hb, hcs⟩ := h.at_ hn
  refine ⟨b, off, e, hb, fun j hj => ?_⟩
  have hcj := hcs j hj
  rw [World.cell?_setCell_other]
  · exact hcj
  · intro e2
    rw [← e2, hc] at hcj
    exact hv _ (Option.some.inj hcj)
theorem Lm.lo {n c : Nat} {A : Option Addr} {xs : List Nat} (h : Lm w w.heap.size A n c xs) {p q : Bool} {A0 A1 : Option Addr} {n0 c0 n1 c1 : Nat} (d : Qd w g (.bool p) (.slice A0 n0 c0) (.bool q) (.slice A1 n1 c1)) (y0 y1 : Value) : Lm ((w.setCell ⟨g, 0, none⟩ y0).setCell ⟨g, 1, none⟩ y1) ((w.setCell ⟨g, 0, none⟩ y0).setCell ⟨g, 1, none⟩ y1).heap.size A n c xs :=
  (h.setv d.c0 (fun _ e => by cases e) y0).setv (i := 1) ((World.cell?_setCell_other _ _ _ _ (by simp)).trans d.c1) (fun _ e => by cases e) y1
theorem Lm.hi {n c : Nat} {A : Option Addr} {xs : List Nat} (h : Lm w w.heap.size A n c xs) {p q : Bool} {A0 A1 : Option Addr} {n0 c0 n1 c1 : Nat} (d : Qd w g (.bool p) (.slice A0 n0 c0) (.bool q) (.slice A1 n1 c1)) (y0 y1 : Value) : Lm ((w.setCell ⟨g, 2, none⟩ y0).setCell ⟨g, 3, none⟩ y1) ((w.setCell ⟨g, 2, none⟩ y0).setCell ⟨g, 3, none⟩ y1).heap.size A n c xs :=
  (h.setv d.c2 (fun _ e => by cases e) y0).setv (i := 3) ((World.cell?_setCell_other _ _ _ _ (by simp)).trans d.c3) (fun _ e => by cases e) y1
end
end Go.Proofs.YtbplbbkmfbjkfaaGreatDoor

/- Texts of numerals: what a reader of fractions makes of them (mathematics). -/
namespace Go.Proofs.YtbplbbkmfbjkfaaGreatDoor
open Go.RowKit

/-- Whether a mark comes next, and what is left. -/
def sk (c : UInt8) : List UInt8 → Bool × List UInt8
  | [] => (false, [])
  | a :: t => if a = c then (true, t) else (false, a :: t)
theorem sk_cons (c a : UInt8) (t : List UInt8) : sk c (a :: t) = if a = c then (true, t) else (false, a :: t) := rfl
theorem sk_pfx (c : UInt8) (l : List UInt8) : Lib.hasPrefix l [c] = (sk c l).1 ∧ Lib.trimPrefix l [c] = (sk c l).2 := by
  cases l with
  | nil => exact ⟨rfl, rfl⟩
  | cons a t =>
    by_cases h : a = c
    · subst h
      have h2 : sk a (a :: t) = (true, t) := by rw [sk_cons, if_pos rfl]
      have h1 : Lib.hasPrefix (a :: t) [a] = true := by unfold Lib.hasPrefix; simp [List.isPrefixOf]
      rw [h2]
      refine ⟨h1, ?_⟩
      unfold Lib.trimPrefix
      rw [h1]
      rfl
    · have h0 : (c == a) = false := by simpa using fun e => h e.symm
      have h1 : Lib.hasPrefix (a :: t) [c] = false := by
        unfold Lib.hasPrefix
        simp [List.isPrefixOf, h0]
      have h2 : sk c (a :: t) = (false, a :: t) := by rw [sk_cons, if_neg h]
      rw [h1, h2]
      exact ⟨rfl, by unfold Lib.trimPrefix; rw [h1]; rfl⟩
theorem sk_len (c : UInt8) (l : List UInt8) : (sk c l).2.length ≤ l.length := by
  unfold sk
  split
  · exact Nat.le_refl _
  · split
    · exact Nat.le_succ _
    · exact Nat.le_refl _
theorem sk_no {c : UInt8} {l : List UInt8} (h : (sk c l).1 = false) : (sk c l).2 = l := by
  cases l with
  | nil => rfl
  | cons a t =>
    rw [sk_cons] at h ⊢
    by_cases e : a = c
    · rw [if_pos e] at h
      cases h
    · rw [if_neg e]

/-- The digits that come next, and what is behind them. -/
def dg (l : List UInt8) : List UInt8 := l.takeWhile isDig
def dr (l : List UInt8) : List UInt8 := l.dropWhile isDig
theorem dg_cut : ∀ (l : List UInt8) (i : Nat), (l.take i).all isDig = true → (∀ h : i < l.length, isDig (l[i]'h) = false) → dg l = l.take i ∧ dr l = l.drop i
  | [], i, _, _ => by
    unfold dg dr
    simp
  | a :: t, 0, _, h => by
    have h1 : isDig a = false := h (Nat.zero_lt_succ _)
    unfold dg dr
    rw [List.takeWhile_cons, List.dropWhile_cons, h1]
    exact ⟨rfl, rfl⟩
  | a :: t, i + 1, ha, h => by
    rw [List.take_succ_cons, List.all_cons, Bool.and_eq_true] at ha
    have h2 := dg_cut t i ha.2 fun hi => h (Nat.succ_lt_succ hi)
    unfold dg dr at h2 ⊢
    rw [List.takeWhile_cons, List.dropWhile_cons, ha.1]
    exact ⟨by rw [if_pos rfl, h2.1]; rfl, by rw [if_pos rfl, h2.2]; rfl⟩
theorem dg_all (l : List UInt8) : (dg l).all isDig = true := by
  rw [List.all_eq_true]
  intro x hx
  induction l with
  | nil => cases hx
  | cons a t ih =>
    unfold dg at hx ih
    rw [List.takeWhile_cons] at hx
    cases ha : isDig a with
    | false =>
      rw [ha] at hx
      cases hx
    | true =>
      rw [ha, if_pos rfl] at hx
      rcases List.mem_cons.1 hx with e | e
      · rw [e]; exact ha
      · exact ih e
theorem dgr_len (l : List UInt8) : (dg l).length + (dr l).length = l.length := by
  unfold dg dr
  rw [← List.length_append, List.takeWhile_append_dropWhile]
theorem decV_zeros : ∀ l : List UInt8, decV (l.dropWhile (· == 48)) = decV l
  | [] => rfl
  | a :: t => by
    rw [List.dropWhile_cons]
    by_cases h : a = 48
    · subst h
      rw [if_pos (by simp), decV_zeros t]
      rfl
    · rw [if_neg (by simpa using h)]
theorem zeros_ok {l : List UInt8} (h : l.all isDig = true) (hne : l.dropWhile (· == 48) ≠ []) : txtOk (l.dropWhile (· == 48)) = true := by
  have h1 : (l.dropWhile (· == 48)).all isDig = true := by
    rw [List.all_eq_true] at h ⊢
    exact fun c hc => h c (List.dropWhile_sublist _ |>.subset hc)
  have h2 : (l.dropWhile (· == 48))[0]?.getD 0 ≠ 48 := by
    clear h1 h
    induction l with
    | nil => exact absurd rfl hne
    | cons a t ih =>
      rw [List.dropWhile_cons] at hne ⊢
      by_cases ha : a = 48
      · rw [if_pos (by simpa using ha)] at hne ⊢
        exact ih hne
      · rw [if_neg (by simpa using ha)]
        exact ha
  unfold txtOk
  rw [h1, decide_eq_true hne, decide_eq_true h2]
  simp
theorem zeros_pz {l : List UInt8} (h : l.all isDig = true) (hne : l.dropWhile (· == 48) ≠ []) : pOk (l.dropWhile (· == 48)) = true ∧ pZ (l.dropWhile (· == 48)) = (decV l : Int) := by
  have h1 := zeros_ok h hne
  have h2 := minus_dig (txtOk_all h1)
  unfold pOk pZ
  rw [h2]
  refine ⟨?_, ?_⟩
  · rw [show ((false, l.dropWhile (· == 48)) : Bool × List UInt8).2 = l.dropWhile (· == 48) from rfl, h1]
    rfl
  · rw [← decV_zeros l]
    rfl
theorem zeros_nil {l : List UInt8} (h : l.dropWhile (· == 48) = []) : decV l = 0 := by
  rw [← decV_zeros, h]
  rfl

/-- A fraction times a power of ten, whose exponent is read. -/
def scl (p q : Int) (l : List UInt8) : Option (Int × Int × List UInt8) :=
  if dg (sk 45 l).2 = [] ∨ 3 < (dg (sk 45 l).2).length then none
  else if (sk 45 l).1 = true then some (p, q * 10 ^ decV (dg (sk 45 l).2), dr (sk 45 l).2) else some (p * 10 ^ decV (dg (sk 45 l).2), q, dr (sk 45 l).2)
def tl (p q : Int) (l : List UInt8) : Option (Int × Int × List UInt8) := if (sk 101 l).1 = true then scl p q (sk 101 l).2 else some (p, q, (sk 101 l).2)
/-- A numeral without a sign: its two numbers and what is left. -/
def uns (l : List UInt8) : Option (Int × Int × List UInt8) :=
  if dg l = [] then none
  else if (sk 47 (dr l)).1 = true then (if dg (sk 47 (dr l)).2 = [] then none else some ((decV (dg l) : Int), (decV (dg (sk 47 (dr l)).2) : Int), dr (sk 47 (dr l)).2))
  else if (sk 46 (dr l)).1 = true then (if dg (sk 46 (dr l)).2 = [] then none else tl (decV (dg l ++ dg (sk 46 (dr l)).2) : Int) (10 ^ (dg (sk 46 (dr l)).2).length) (dr (sk 46 (dr l)).2))
  else tl (decV (dg l ++ []) : Int) (10 ^ ([] : List UInt8).length) (sk 46 (dr l)).2
/-- A numeral: its two numbers. -/
def nml (l : List UInt8) : Option (Int × Int) :=
  if 200 < l.length then none
  else match uns (sk 45 l).2 with
    | some (p, q, []) => some (if (sk 45 l).1 = true then -p else p, q)
    | _ => none
theorem sz_dec {l : List UInt8} (h : l.all isDig = true) (hl : l.length ≤ 200) : Sz 200 (decV l : Int) := by
  have h1 := decV_lt h
  show decV l < _
  exact Nat.lt_of_lt_of_le h1 (Nat.le_trans (Nat.pow_le_pow_right (by omega) hl) (Nat.pow_le_pow_left (by omega) 200))
theorem dec3 {l : List UInt8} (h : l.all isDig = true) (hl : l.length ≤ 3) : decV l ≤ 999 := by
  have h1 := decV_lt h
  have h2 : 10 ^ l.length ≤ 10 ^ 3 := Nat.pow_le_pow_right (by omega) hl
  omega
theorem decFrom_dec : ∀ (l : List UInt8) (acc : Nat), l.all isDig = true → Lib.decFrom acc l = some (l.foldl (fun a c => a * 10 + (c.toNat - 48)) acc)
  | [], _, _ => rfl
  | b :: r, acc, h => by
    rw [List.all_cons, Bool.and_eq_true] at h
    have h1 : 48 ≤ b.toNat ∧ b.toNat ≤ 57 := by
      have := h.1
      unfold isDig at this
      simpa using this
    have h2 : Lib.digitVal b = some (b.toNat - 48) := by unfold Lib.digitVal; rw [if_pos h1]
    unfold Lib.decFrom
    rw [h2]
    exact decFrom_dec r _ h.2
theorem atoi_dec {l : List UInt8} (h : l.all isDig = true) (hne : l ≠ []) : Lib.atoi l = some (decV l : Int) := by
  cases l with
  | nil => exact absurd rfl hne
  | cons b r =>
    have h1 : 48 ≤ b.toNat ∧ b.toNat ≤ 57 := by
      have h2 := h
      rw [List.all_cons, Bool.and_eq_true] at h2
      have := h2.1
      unfold isDig at this
      simpa using this
    have e1 : (b == 45) = false := by
      cases hb : b == 45
      · rfl
      · have e : b = 45 := by simpa using hb
        subst e
        exact absurd h1.1 (by decide)
    have e2 : (b == 43) = false := by
      cases hb : b == 43
      · rfl
      · have e : b = 43 := by simpa using hb
        subst e
        exact absurd h1.1 (by decide)
    unfold Lib.atoi
    simp only [e1, e2]
    unfold Lib.decNat
    have e3 := decFrom_dec (b :: r) 0 h
    simp only [List.isEmpty_cons]
    rw [if_neg (by simp), if_neg (by simp), if_neg (by simp), e3]
    rfl
end Go.Proofs.YtbplbbkmfbjkfaaGreatDoor

/-
  The contracts of both sides for any number, valid or not: what the functions of the chapter return, as functions of the number's reading.
-/
namespace Go.Proofs.YtbplbbkmfbjkfaaGreatDoor
open Go.RowKit

def intVT (neg : Bool) (xs : List Nat) : Int := if chk neg xs = 0 then intV neg (val xs) else 0
def intET (neg : Bool) (xs : List Nat) : Int := if chk neg xs = 0 then intE neg (val xs) else 8
def unN (neg' neg : Bool) (xs : List Nat) : Bool := if chk neg xs = 0 then mkN neg' (val xs) else false
def unL (neg : Bool) (xs : List Nat) : List Nat := if chk neg xs = 0 then mkL (val xs) else []
def unE (neg : Bool) (xs : List Nat) : Int := if chk neg xs = 0 then mkE (val xs) else 8
def cmpVT (na : Bool) (xs : List Nat) (nb : Bool) (ys : List Nat) : Int := if chkB na xs nb ys = 0 then cmpZ (toI na (val xs)) (toI nb (val ys)) else 0
def cmpET (na : Bool) (xs : List Nat) (nb : Bool) (ys : List Nat) : Int := if chkB na xs nb ys = 0 then 0 else 8
def signVT (neg : Bool) (xs : List Nat) : Int := if chk neg xs = 0 then signZ neg (val xs) else 0
def errT (neg : Bool) (xs : List Nat) : Int := if chk neg xs = 0 then 0 else 8
def bitsVT (neg : Bool) (xs : List Nat) : Int := if chk neg xs = 0 then (lenS xs : Int) else 0
theorem rsame_self (w : World) (na : Bool) (A B : Option Addr) (n m ca cb : Nat) (xs : List Nat) (hA : Lm w w.heap.size A n ca xs) (hB : Lm w w.heap.size B m cb xs) :
    Calls Tryz.prog 27 #[.agg #[.bool na, .slice A n ca], .agg #[.bool na, .slice B m cb]] w fun e w' => e = .returned (.bool true) ∧ Below w.heap.size w w' :=
  (rsame_any w na na A B n m ca cb xs xs hA hB).mono fun _ _ ⟨he, hb⟩ => ⟨by rw [he, sameB_self], hb⟩

end Go.Proofs.YtbplbbkmfbjkfaaGreatDoor

/- Package frac: Check, Make, Of. -/
namespace Go.Proofs.YtbplbbkmfbjkfaaGreatDoor
open Go.RowKit

theorem btr {a b c : World} (h : Below a.heap.size a b) (h' : Below b.heap.size b c) : Below a.heap.size a c := h.trans (h'.mono h.size)
/-- The error of a fraction: whether it is valid. -/
def fchk (nn : Bool) (xs : List Nat) (dn : Bool) (ys : List Nat) : Int := if chk nn xs = 0 ∧ chk dn ys = 0 ∧ dn = false ∧ ys ≠ [] ∧ Nat.gcd (val xs) (val ys) = 1 then 0 else 8
theorem digs1 : digs 1 = [1] := by decide
set_option maxRecDepth 100000 in
set_option maxHeartbeats 1000000 in
theorem fcheck_one (w : World) (nn dn : Bool) (A B : Option Addr) (n m ca cb : Nat) (xs ys : List Nat) (hA : Lm w w.heap.size A n ca xs) (hB : Lm w w.heap.size B m cb ys) (hd : dn = false) (hy : ys = digs 1) :
    Calls Tryz.prog 82 #[fv nn A n ca dn B m cb] w fun e w' => e = .returned (.int .i64 (chk nn xs)) ∧ Below w.heap.size w w' := by
  have HA := Lib.hid hA
  have HB := Lib.hid hB
  clear hA hB
  subst hd hy
  go_enter Tryz.func82, Tryz.ntmps82
  go_wp2_with fail
  refine (isOne_yes _ B m cb (HB.out.box _)).mono ?_
  rintro e w1 ⟨rfl, hb1⟩
  have Q1 := (Qd.new w _ rfl (.bool nn) (.slice A n ca) (.bool false) (.slice B m cb) 26).via hb1
  have LA := Lib.hid ((HA.out.box _).via hb1)
  have LB := Lib.hid ((HB.out.box _).via hb1)
  have B1 := Lib.hid (bbox hb1)
  have HQ := Lib.hid Q1
  have ⟨q0, q1, q2, q3, _, _, _, _, ql⟩ := Q1
  clear hb1 Q1 HA HB
  go_wp2_with fail
  refine (check_any _ nn A n ca xs LA.out).mono ?_
  rintro e w2 ⟨rfl, hb2⟩
  go_wp2
  go_ret
  exact ⟨rfl, btr B1.out hb2⟩
set_option maxRecDepth 100000 in
set_option maxHeartbeats 1000000 in
theorem fcheck_sign (w : World) (nn dn : Bool) (A B : Option Addr) (n m ca cb : Nat) (xs ys : List Nat) (hA : Lm w w.heap.size A n ca xs) (hB : Lm w w.heap.size B m cb ys) (hno : dn = true ∨ ys ≠ [1]) (s t : Int) (hst : t ≠ 0 ∨ t = 0 ∧ s ≤ 0) (hS : ∀ W, Lm W W.heap.size B m cb ys → Calls Tryz.prog 40 #[.agg #[.bool dn, .slice B m cb]] W fun e w' => e = .returned (.tuple #[.int .i64 s, .int .i64 t]) ∧ Below W.heap.size W w') :
    Calls Tryz.prog 82 #[fv nn A n ca dn B m cb] w fun e w' => e = .returned (.int .i64 8) ∧ Below w.heap.size w w' := by
  have HA := Lib.hid hA
  have HB := Lib.hid hB
  clear hA hB
  have HNO := Lib.hid hno
  clear hno
  have HS := Lib.hid hS
  clear hS
  have hst2 : (t != 0) = true ∨ t = 0 ∧ s ≤ 0 := by
    rcases hst with h | h
    · exact .inl (by simpa using h)
    · exact .inr h
  clear hst
  go_enter Tryz.func82, Tryz.ntmps82
  go_wp2_with fail
  refine (isOne_no _ dn B m cb ys (HB.out.box _) HNO.out).mono ?_
  rintro e w1 ⟨rfl, hb1⟩
  have Q1 := (Qd.new w _ rfl (.bool nn) (.slice A n ca) (.bool dn) (.slice B m cb) 26).via hb1
  have LA := Lib.hid ((HA.out.box _).via hb1)
  have LB := Lib.hid ((HB.out.box _).via hb1)
  have B1 := Lib.hid (bbox hb1)
  have HQ := Lib.hid Q1
  have ⟨q0, q1, q2, q3, _, _, _, _, ql⟩ := Q1
  clear hb1 Q1 HA HB
  go_wp2_with fail
  refine (HS.out _ LB.out).mono ?_
  rintro e w2 ⟨rfl, hb2⟩
  have B2 := Lib.hid (btr B1.out hb2)
  clear hb2 q0 q1 q2 q3 ql
  rcases hst2 with h | ⟨rfl, h⟩
  · go_wp2
    go_ret
    exact ⟨rfl, B2.out⟩
  · go_wp2
    go_ret
    exact ⟨rfl, B2.out⟩
set_option maxRecDepth 100000 in
set_option maxHeartbeats 1000000 in
theorem fcheck_gbad (w : World) (nn dn : Bool) (A B : Option Addr) (n m ca cb : Nat) (xs ys : List Nat) (hA : Lm w w.heap.size A n ca xs) (hB : Lm w w.heap.size B m cb ys) (hno : dn = true ∨ ys ≠ [1]) (hS : ∀ W, Lm W W.heap.size B m cb ys → Calls Tryz.prog 40 #[.agg #[.bool dn, .slice B m cb]] W fun e w' => e = .returned (.tuple #[.int .i64 1, .int .i64 0]) ∧ Below W.heap.size W w') (hv : chkB nn xs dn ys = 8) :
    Calls Tryz.prog 82 #[fv nn A n ca dn B m cb] w fun e w' => e = .returned (.int .i64 8) ∧ Below w.heap.size w w' := by
  have HA := Lib.hid hA
  have HB := Lib.hid hB
  clear hA hB
  have HNO := Lib.hid hno
  clear hno
  have HS := Lib.hid hS
  have HV := Lib.hid hv
  clear hS hv
  go_enter Tryz.func82, Tryz.ntmps82
  go_wp2_with fail
  refine (isOne_no _ dn B m cb ys (HB.out.box _) HNO.out).mono ?_
  rintro e w1 ⟨rfl, hb1⟩
  have Q1 := (Qd.new w _ rfl (.bool nn) (.slice A n ca) (.bool dn) (.slice B m cb) 26).via hb1
  have LA := Lib.hid ((HA.out.box _).via hb1)
  have LB := Lib.hid ((HB.out.box _).via hb1)
  have B1 := Lib.hid (bbox hb1)
  have HQ := Lib.hid Q1
  have ⟨q0, q1, q2, q3, _, _, _, _, ql⟩ := Q1
  clear hb1 Q1 HA HB
  go_wp2_with fail
  refine (HS.out _ LB.out).mono ?_
  rintro e w2 ⟨rfl, hb2⟩
  have Q2 := HQ.out.via hb2
  have LA2 := Lib.hid (LA.out.via hb2)
  have LB2 := Lib.hid (LB.out.via hb2)
  have B2 := Lib.hid (btr B1.out hb2)
  clear hb2 q0 q1 q2 q3 ql LA LB B1 HQ
  have ⟨q0, q1, q2, q3, _, _, _, _, ql⟩ := Q2
  go_wp2_with fail
  refine (gcd_bad _ nn dn A B n m ca cb xs ys LA2.out LB2.out HV.out).mono ?_
  rintro e w3 ⟨A3, n3, c3, rfl, _, hb3⟩
  have B3 := Lib.hid (btr B2.out hb3)
  clear hb3 q0 q1 q2 q3 ql Q2
  go_wp2
  go_ret
  exact ⟨rfl, B3.out.alloc B3.out.size _⟩
set_option maxRecDepth 100000 in
set_option maxHeartbeats 1000000 in
theorem fcheck_gno (w : World) (nn dn : Bool) (A B : Option Addr) (n m ca cb : Nat) (xs ys : List Nat) (hA : Lm w w.heap.size A n ca xs) (hB : Lm w w.heap.size B m cb ys) (hno : dn = true ∨ ys ≠ [1]) (hS : ∀ W, Lm W W.heap.size B m cb ys → Calls Tryz.prog 40 #[.agg #[.bool dn, .slice B m cb]] W fun e w' => e = .returned (.tuple #[.int .i64 1, .int .i64 0]) ∧ Below W.heap.size W w') (g : Nat) (hg : g ≠ 1) (HGG : ∀ W, Lm W W.heap.size A n ca xs → Lm W W.heap.size B m cb ys → Calls Tryz.prog 38 #[.agg #[.bool nn, .slice A n ca], .agg #[.bool dn, .slice B m cb]] W (RW W false (digs g) 0)) :
    Calls Tryz.prog 82 #[fv nn A n ca dn B m cb] w fun e w' => e = .returned (.int .i64 8) ∧ Below w.heap.size w w' := by
  have HA := Lib.hid hA
  have HB := Lib.hid hB
  clear hA hB
  have HNO := Lib.hid hno
  clear hno
  have HS := Lib.hid hS
  have HG := Lib.hid HGG
  have HN : Hid (false = true ∨ digs g ≠ [1]) := .inr fun e => hg (by rw [← digs_val g, e]; rfl)
  clear hS HGG hg
  go_enter Tryz.func82, Tryz.ntmps82
  go_wp2_with fail
  refine (isOne_no _ dn B m cb ys (HB.out.box _) HNO.out).mono ?_
  rintro e w1 ⟨rfl, hb1⟩
  have Q1 := (Qd.new w _ rfl (.bool nn) (.slice A n ca) (.bool dn) (.slice B m cb) 26).via hb1
  have LA := Lib.hid ((HA.out.box _).via hb1)
  have LB := Lib.hid ((HB.out.box _).via hb1)
  have B1 := Lib.hid (bbox hb1)
  have HQ := Lib.hid Q1
  have ⟨q0, q1, q2, q3, _, _, _, _, ql⟩ := Q1
  clear hb1 Q1 HA HB
  go_wp2_with fail
  refine (HS.out _ LB.out).mono ?_
  rintro e w2 ⟨rfl, hb2⟩
  have Q2 := HQ.out.via hb2
  have LA2 := Lib.hid (LA.out.via hb2)
  have LB2 := Lib.hid (LB.out.via hb2)
  have B2 := Lib.hid (btr B1.out hb2)
  clear hb2 q0 q1 q2 q3 ql LA LB B1 HQ
  have ⟨q0, q1, q2, q3, _, _, _, _, ql⟩ := Q2
  go_wp2_with fail
  refine (HG.out _ LA2.out LB2.out).mono ?_
  rintro e w3 ⟨A3, n3, c3, rfl, hL3, hb3⟩
  have B3 := Lib.hid (btr B2.out hb3)
  have L3 := Lib.hid hL3
  clear hb3 hL3 q0 q1 q2 q3 ql Q2
  go_wp2_with fail
  refine (isOne_no _ false A3 n3 c3 (digs g) (L3.out.box _) HN.out).mono ?_
  rintro e w4 ⟨rfl, hb4⟩
  go_wp2
  go_ret
  exact ⟨rfl, btr B3.out (bbox hb4)⟩
set_option maxRecDepth 100000 in
set_option maxHeartbeats 1000000 in
theorem fcheck_gyes (w : World) (nn dn : Bool) (A B : Option Addr) (n m ca cb : Nat) (xs ys : List Nat) (hA : Lm w w.heap.size A n ca xs) (hB : Lm w w.heap.size B m cb ys) (hno : dn = true ∨ ys ≠ [1]) (hS : ∀ W, Lm W W.heap.size B m cb ys → Calls Tryz.prog 40 #[.agg #[.bool dn, .slice B m cb]] W fun e w' => e = .returned (.tuple #[.int .i64 1, .int .i64 0]) ∧ Below W.heap.size W w') (g : Nat) (hg : g = 1) (HGG : ∀ W, Lm W W.heap.size A n ca xs → Lm W W.heap.size B m cb ys → Calls Tryz.prog 38 #[.agg #[.bool nn, .slice A n ca], .agg #[.bool dn, .slice B m cb]] W (RW W false (digs g) 0)) :
    Calls Tryz.prog 82 #[fv nn A n ca dn B m cb] w fun e w' => e = .returned (.int .i64 0) ∧ Below w.heap.size w w' := by
  have HA := Lib.hid hA
  have HB := Lib.hid hB
  clear hA hB
  subst hg
  have HNO := Lib.hid hno
  clear hno
  have HS := Lib.hid hS
  have HG := Lib.hid HGG
  clear hS HGG
  go_enter Tryz.func82, Tryz.ntmps82
  go_wp2_with fail
  refine (isOne_no _ dn B m cb ys (HB.out.box _) HNO.out).mono ?_
  rintro e w1 ⟨rfl, hb1⟩
  have Q1 := (Qd.new w _ rfl (.bool nn) (.slice A n ca) (.bool dn) (.slice B m cb) 26).via hb1
  have LA := Lib.hid ((HA.out.box _).via hb1)
  have LB := Lib.hid ((HB.out.box _).via hb1)
  have B1 := Lib.hid (bbox hb1)
  have HQ := Lib.hid Q1
  have ⟨q0, q1, q2, q3, _, _, _, _, ql⟩ := Q1
  clear hb1 Q1 HA HB
  go_wp2_with fail
  refine (HS.out _ LB.out).mono ?_
  rintro e w2 ⟨rfl, hb2⟩
  have Q2 := HQ.out.via hb2
  have LA2 := Lib.hid (LA.out.via hb2)
  have LB2 := Lib.hid (LB.out.via hb2)
  have B2 := Lib.hid (btr B1.out hb2)
  clear hb2 q0 q1 q2 q3 ql LA LB B1 HQ
  have ⟨q0, q1, q2, q3, _, _, _, _, ql⟩ := Q2
  go_wp2_with fail
  refine (HG.out _ LA2.out LB2.out).mono ?_
  rintro e w3 ⟨A3, n3, c3, rfl, hL3, hb3⟩
  have B3 := Lib.hid (btr B2.out hb3)
  have L3 := Lib.hid hL3
  clear hb3 hL3 q0 q1 q2 q3 ql Q2
  go_wp2_with fail
  refine (isOne_yes _ A3 n3 c3 (L3.out.box _)).mono ?_
  rintro e w4 ⟨rfl, hb4⟩
  go_wp2
  go_ret
  exact ⟨rfl, btr B3.out (bbox hb4)⟩
theorem fcheck_any (w : World) (nn dn : Bool) (A B : Option Addr) (n m ca cb : Nat) (xs ys : List Nat) (hA : Lm w w.heap.size A n ca xs) (hB : Lm w w.heap.size B m cb ys) :
    Calls Tryz.prog 82 #[fv nn A n ca dn B m cb] w fun e w' => e = .returned (.int .i64 (fchk nn xs dn ys)) ∧ Below w.heap.size w w' := by
  by_cases h1 : dn = false ∧ ys = [1]
  · obtain ⟨rfl, rfl⟩ := h1
    have e : fchk nn xs false [1] = chk nn xs := by
      unfold fchk
      rcases chk_cases nn xs with hc | hc
      · rw [if_pos ⟨hc, by decide, rfl, by simp, by simp [val_cons, val_nil]⟩, hc]
      · rw [if_neg (fun h => by have := h.1; omega), hc]
    rw [e]
    exact fcheck_one w nn false A B n m ca cb xs [1] hA hB rfl digs1.symm
  · have hno : dn = true ∨ ys ≠ [1] := by
      cases dn
      · exact .inr fun h => h1 ⟨rfl, h⟩
      · exact .inl rfl
    rcases chk_cases dn ys with hc | hc
    · by_cases h2 : dn = false ∧ ys ≠ []
      · obtain ⟨rfl, h2⟩ := h2
        have hd := chk_digs hc hB.good
        have hvp : 0 < val ys := val_pos (chk_ok.1 hc).2.1 h2
        have hS : ∀ W, Lm W W.heap.size B m cb ys → Calls Tryz.prog 40 #[.agg #[.bool false, .slice B m cb]] W fun e w' => e = .returned (.tuple #[.int .i64 1, .int .i64 0]) ∧ Below W.heap.size W w' := by
          intro W hW
          have hc2 := hc
          rw [hd] at hW hc2
          have h := sign_ok W false B m cb _ hW hc2
          have e1 : signZ false (val ys) = 1 := by unfold signZ sideZ; rw [if_neg (by omega)]; rfl
          rw [e1] at h
          exact h
        rcases chk_cases nn xs with hn | hn
        · have hd2 := chk_digs hn hA.good
          have hB2 : chkB nn xs false ys = 0 := chkB_ok.2 ⟨hn, hc⟩
          have hG : ∀ W, Lm W W.heap.size A n ca xs → Lm W W.heap.size B m cb ys → Calls Tryz.prog 38 #[.agg #[.bool nn, .slice A n ca], .agg #[.bool false, .slice B m cb]] W (RW W false (digs (Nat.gcd (val xs) (val ys))) 0) := by
            intro W h3 h4
            have l1 := (chk_ok.1 hn).1
            have l2 := (chk_ok.1 hc).1
            have hB3 := hB2
            rw [hd2] at h3 l1 hB3
            rw [hd] at h4 l2 hB3
            have h := gcd_any W nn false A B n m ca cb _ _ h3 h4 hB3 (by rw [← h3.len]; exact l1) (by rw [← h4.len]; exact l2)
            have hgl : (digs (Nat.gcd (val xs) (val ys))).length ≤ 4096 := Nat.le_trans (digs_mono (Nat.gcd_le_right _ hvp)) l2
            have e1 : mkN false (Nat.gcd (val xs) (val ys)) = false := by unfold mkN; simp
            have e2 : mkL (Nat.gcd (val xs) (val ys)) = digs (Nat.gcd (val xs) (val ys)) := by unfold mkL; rw [if_pos hgl]
            have e3 : mkE (Nat.gcd (val xs) (val ys)) = 0 := by unfold mkE; rw [if_pos hgl]
            rw [e1, e2, e3] at h
            exact h
          by_cases hg : Nat.gcd (val xs) (val ys) = 1
          · have e : fchk nn xs false ys = 0 := by unfold fchk; rw [if_pos ⟨hn, hc, rfl, h2, hg⟩]
            rw [e]
            exact fcheck_gyes w nn false A B n m ca cb xs ys hA hB hno hS _ hg hG
          · have e : fchk nn xs false ys = 8 := by unfold fchk; rw [if_neg (fun h => hg h.2.2.2.2)]
            rw [e]
            exact fcheck_gno w nn false A B n m ca cb xs ys hA hB hno hS _ hg hG
        · have e : fchk nn xs false ys = 8 := by unfold fchk; rw [if_neg (fun h => by have := h.1; omega)]
          rw [e]
          exact fcheck_gbad w nn false A B n m ca cb xs ys hA hB hno hS (by rcases chkB_cases nn xs false ys with h | h; (have := (chkB_ok.1 h).1; omega); exact h)
      · have e : fchk nn xs dn ys = 8 := by unfold fchk; rw [if_neg (fun h => h2 ⟨h.2.2.1, h.2.2.2.1⟩)]
        rw [e]
        have hd := chk_digs hc hB.good
        refine fcheck_sign w nn dn A B n m ca cb xs ys hA hB hno (signZ dn (val ys)) 0 (.inr ⟨rfl, ?_⟩) fun W hW => ?_
        · unfold signZ sideZ
          cases dn
          · have : ys = [] := Classical.byContradiction fun h => h2 ⟨rfl, h⟩
            subst this
            simp [val_nil]
          · split <;> simp
        · have hc2 := hc
          rw [hd] at hW hc2
          exact sign_ok W dn B m cb _ hW hc2
    · have e : fchk nn xs dn ys = 8 := by unfold fchk; rw [if_neg (fun h => by have := h.2.1; omega)]
      rw [e]
      exact fcheck_sign w nn dn A B n m ca cb xs ys hA hB hno 0 8 (.inl (by decide)) fun W hW => sign_bad W dn B m cb ys hW hc
end Go.Proofs.YtbplbbkmfbjkfaaGreatDoor

/- The reference's DivMod. -/
namespace Go.Proofs.YtbplbbkmfbjkfaaGreatDoor
open Go.RowKit

set_option maxRecDepth 100000 in
set_option maxHeartbeats 2000000 in
theorem rdivmod_same (w : World) (na nb : Bool) (A B : Option Addr) (n m ca cb a b : Nat) (hA : Lm w w.heap.size A n ca (digs a)) (hB : Lm w w.heap.size B m cb (digs b)) (hv : chkB na (digs a) nb (digs b) = 0) (hb : 0 < b) (hs : na = nb) (z : Bool) (hz : decide (0 < a % b) = z) :
    Calls Tryz.prog 49 #[.agg #[.bool na, .slice A n ca], .agg #[.bool nb, .slice B m cb]] w (RWW w (mkN false (a / b)) (digs (a / b)) (mkN nb (a % b)) (digs (a % b)) 0) := by
  have h41 := (chk_ok.1 (chkB_ok.1 hv).1).1
  have h42 := (chk_ok.1 (chkB_ok.1 hv).2).1
  have hml := Nat.mod_lt a hb
  have hq0 : (digs (a / b)).length ≤ 4096 := Nat.le_trans (digs_mono (Nat.div_le_self a b)) h41
  have hr0 : (digs (a % b)).length ≤ 4096 := Nat.le_trans (digs_mono (Nat.le_of_lt hml)) h42
  have HLq : Hid (mkL (a / b) = digs (a / b)) := by show _ = _; unfold mkL; rw [if_pos hq0]
  have HLr : Hid (mkL (a % b) = digs (a % b)) := by show _ = _; unfold mkL; rw [if_pos hr0]
  have HEq : Hid (mkE (a / b) = 0) := by show _ = _; unfold mkE; rw [if_pos hq0]
  have HEr : Hid (mkE (a % b) = 0) := by show _ = _; unfold mkE; rw [if_pos hr0]
  rw [hA.len] at h41
  rw [hB.len] at h42
  have hm0 : 0 < m := by rw [← hB.len, digs_pos]; exact hb
  have hm1 : ((m : Int) == 0) = false := by simp; omega
  have hcB := hB.cap
  have hxB := hB.max
  have HA := Lib.hid hA
  have HB := Lib.hid hB
  have HV := Lib.hid hv
  have HVq : Hid (val (digs (a / b)) = a / b) := digs_val _
  have HVr : Hid (val (digs (a % b)) = a % b) := digs_val _
  have hrl : decide (0 < (digs (a % b)).length) = decide (0 < a % b) := decide_eq_decide.2 digs_pos
  rw [hz] at hrl
  clear hz
  clear hv hA hB hml
  subst hs
  cases na <;> cases z
  · go_enter Tryz.func49, Tryz.ntmps49
    go_wp2_with fail
    refine (rboth_any _ _ _ _ _ _ _ _ _ _ _ ((((HA.out.box _).box _).box _).box _) ((((HB.out.box _).box _).box _).box _) 0 HV.out).mono ?_
    rintro e w1 ⟨rfl, hb1⟩
    have ⟨PA, PB, PQ, PR⟩ := boxes4 hb1
    have LA1 := Lib.hid (((((HA.out.box _).box _).box _).box _).via hb1)
    have LB1 := Lib.hid (((((HB.out.box _).box _).box _).box _).via hb1)
    have HB1 := Lib.hid (bbox (bbox (bbox (bbox hb1))))
    have ⟨a0, a1, _, _, _⟩ := PA
    have ⟨b0, b1, _, _, _⟩ := PB
    clear hb1
    go_wp2_with fail
    refine (rover_any w1 A B n m ca cb a b LA1.out LB1.out hb (by omega)).mono ?_
    rintro e w2 ⟨Q, cq, R, cr, rfl, hQ, hR, hb2⟩
    have PA2 := PA.via hb2
    have PB2 := PB.via hb2
    have PQ2 := PQ.via hb2
    have PR2 := PR.via hb2
    have HB2 := Lib.hid (HB1.out.trans (hb2.mono HB1.out.size))
    have HQ := Lib.hid hQ
    have HR := Lib.hid hR
    have LB2 := Lib.hid (LB1.out.via hb2)
    clear PA PB PQ PR LA1 LB1 HB1 a0 a1 b0 b1 hb2 hQ hR
    have ⟨a0, a1, _, _, _⟩ := PA2
    have ⟨b0, b1, _, _, _⟩ := PB2
    go_wp2_with fail
    refine (rmade_any w2 _ _ _ _ _ (a / b) HQ.out HVq.out (by omega)).mono ?_
    rintro e w3 ⟨A3, n3, c3, rfl, hL3, hb3⟩
    rw [HLq.out] at hL3
    rw [HEq.out]
    have PA4 := (PA2.via hb3).alloc (.cells #[.bool (mkN false (a / b)), .slice A3 n3 c3] 24)
    have PB4 := (PB2.via hb3).alloc (.cells #[.bool (mkN false (a / b)), .slice A3 n3 c3] 24)
    have PQ4 := (PQ2.via hb3).alloc (.cells #[.bool (mkN false (a / b)), .slice A3 n3 c3] 24)
    have PR4 := (PR2.via hb3).alloc (.cells #[.bool (mkN false (a / b)), .slice A3 n3 c3] 24)
    have HB4 := Lib.hid ((HB2.out.trans (hb3.mono HB2.out.size)).alloc (HB2.out.trans (hb3.mono HB2.out.size)).size (.cells #[.bool (mkN false (a / b)), .slice A3 n3 c3] 24))
    have HR4 := Lib.hid ((HR.out.via hb3).box (.cells #[.bool (mkN false (a / b)), .slice A3 n3 c3] 24))
    have LB4 := Lib.hid ((LB2.out.via hb3).box (.cells #[.bool (mkN false (a / b)), .slice A3 n3 c3] 24))
    have HL4 := Lib.hid (hL3.box (.cells #[.bool (mkN false (a / b)), .slice A3 n3 c3] 24))
    have PX4 := Pr.new w3 w3.heap.size rfl (.bool (mkN false (a / b))) (.slice A3 n3 c3) 24
    have hlt3 : w.heap.size + 1 + 1 + 1 < w3.heap.size := (PR2.via hb3).lt
    clear PA2 PB2 PQ2 PR2 HQ HR HB2 LB2 hb3 hL3 a0 a1 b0 b1
    have ⟨a0, a1, _, _, _⟩ := PA4
    have ⟨b0, b1, _, _, _⟩ := PB4
    go_wp2_with fail
    generalize w3.alloc (.cells #[.bool (mkN false (a / b)), .slice A3 n3 c3] 24) = w4 at *
    generalize w3.heap.size = g3 at *
    refine (rmade_any w4 _ _ _ _ _ (a % b) HR4.out HVr.out (by omega)).mono ?_
    rintro e w5 ⟨A5, n5, c5, rfl, hL5, hb5⟩
    rw [HLr.out] at hL5
    rw [HEr.out]
    have PA6 := (PA4.via hb5).alloc (.cells #[.bool (mkN false (a % b)), .slice A5 n5 c5] 24)
    have PB6 := (PB4.via hb5).alloc (.cells #[.bool (mkN false (a % b)), .slice A5 n5 c5] 24)
    have PQ6 := (PQ4.via hb5).alloc (.cells #[.bool (mkN false (a % b)), .slice A5 n5 c5] 24)
    have PR6 := (PR4.via hb5).alloc (.cells #[.bool (mkN false (a % b)), .slice A5 n5 c5] 24)
    have PX6 := (PX4.via hb5).alloc (.cells #[.bool (mkN false (a % b)), .slice A5 n5 c5] 24)
    have HB6 := Lib.hid ((HB4.out.trans (hb5.mono HB4.out.size)).alloc (HB4.out.trans (hb5.mono HB4.out.size)).size (.cells #[.bool (mkN false (a % b)), .slice A5 n5 c5] 24))
    have LB6 := Lib.hid ((LB4.out.via hb5).box (.cells #[.bool (mkN false (a % b)), .slice A5 n5 c5] 24))
    have HL6 := Lib.hid ((HL4.out.via hb5).box (.cells #[.bool (mkN false (a % b)), .slice A5 n5 c5] 24))
    have HM6 := Lib.hid (hL5.box (.cells #[.bool (mkN false (a % b)), .slice A5 n5 c5] 24))
    have PY6 := Pr.new w5 w5.heap.size rfl (.bool (mkN false (a % b))) (.slice A5 n5 c5) 24
    have hlt5 : g3 < w5.heap.size := (PX4.via hb5).lt
    clear PA4 PB4 PQ4 PR4 PX4 HB4 HR4 LB4 HL4 hb5 hL5 a0 a1 b0 b1
    have ⟨a0, a1, _, _, _⟩ := PA6
    have ⟨b0, b1, _, _, _⟩ := PB6
    go_wp2_with fail
    generalize w5.alloc (.cells #[.bool (mkN false (a % b)), .slice A5 n5 c5] 24) = w6 at *
    generalize w5.heap.size = g5 at *
    have ⟨q0, q1, qf0, qf1, ql⟩ := PQ6
    have ⟨r0, r1, rf0, rf1, rl⟩ := PR6
    have ⟨x0, x1, xf0, xf1, xl⟩ := PX6
    have ⟨y0, y1, yf0, yf1, yl⟩ := PY6
    go_region
    all_goals
      go_wp2
      refine post_ww Tryz.results49 rfl rfl rfl ((PQ6.set _ _).far (by omega) _ _).drew ((PR6.far (by omega) _ _).set _ _).drew ⟨A3, n3, c3, A5, n5, c5, rfl, ?_, ?_, ?_⟩
      · exact ((HL6.out.setP PQ6 _ _).setP (PR6.far (by omega) _ _) _ _).drew
      · exact ((HM6.out.setP PQ6 _ _).setP (PR6.far (by omega) _ _) _ _).drew
      · exact (below_set2 (below_set2 HB6.out (by omega) _ _) (by omega) _ _).drew
  · go_enter Tryz.func49, Tryz.ntmps49
    go_wp2_with fail
    refine (rboth_any _ _ _ _ _ _ _ _ _ _ _ ((((HA.out.box _).box _).box _).box _) ((((HB.out.box _).box _).box _).box _) 0 HV.out).mono ?_
    rintro e w1 ⟨rfl, hb1⟩
    have ⟨PA, PB, PQ, PR⟩ := boxes4 hb1
    have LA1 := Lib.hid (((((HA.out.box _).box _).box _).box _).via hb1)
    have LB1 := Lib.hid (((((HB.out.box _).box _).box _).box _).via hb1)
    have HB1 := Lib.hid (bbox (bbox (bbox (bbox hb1))))
    have ⟨a0, a1, _, _, _⟩ := PA
    have ⟨b0, b1, _, _, _⟩ := PB
    clear hb1
    go_wp2_with fail
    refine (rover_any w1 A B n m ca cb a b LA1.out LB1.out hb (by omega)).mono ?_
    rintro e w2 ⟨Q, cq, R, cr, rfl, hQ, hR, hb2⟩
    have PA2 := PA.via hb2
    have PB2 := PB.via hb2
    have PQ2 := PQ.via hb2
    have PR2 := PR.via hb2
    have HB2 := Lib.hid (HB1.out.trans (hb2.mono HB1.out.size))
    have HQ := Lib.hid hQ
    have HR := Lib.hid hR
    have LB2 := Lib.hid (LB1.out.via hb2)
    clear PA PB PQ PR LA1 LB1 HB1 a0 a1 b0 b1 hb2 hQ hR
    have ⟨a0, a1, _, _, _⟩ := PA2
    have ⟨b0, b1, _, _, _⟩ := PB2
    go_wp2_with fail
    refine (rmade_any w2 _ _ _ _ _ (a / b) HQ.out HVq.out (by omega)).mono ?_
    rintro e w3 ⟨A3, n3, c3, rfl, hL3, hb3⟩
    rw [HLq.out] at hL3
    rw [HEq.out]
    have PA4 := (PA2.via hb3).alloc (.cells #[.bool (mkN false (a / b)), .slice A3 n3 c3] 24)
    have PB4 := (PB2.via hb3).alloc (.cells #[.bool (mkN false (a / b)), .slice A3 n3 c3] 24)
    have PQ4 := (PQ2.via hb3).alloc (.cells #[.bool (mkN false (a / b)), .slice A3 n3 c3] 24)
    have PR4 := (PR2.via hb3).alloc (.cells #[.bool (mkN false (a / b)), .slice A3 n3 c3] 24)
    have HB4 := Lib.hid ((HB2.out.trans (hb3.mono HB2.out.size)).alloc (HB2.out.trans (hb3.mono HB2.out.size)).size (.cells #[.bool (mkN false (a / b)), .slice A3 n3 c3] 24))
    have HR4 := Lib.hid ((HR.out.via hb3).box (.cells #[.bool (mkN false (a / b)), .slice A3 n3 c3] 24))
    have LB4 := Lib.hid ((LB2.out.via hb3).box (.cells #[.bool (mkN false (a / b)), .slice A3 n3 c3] 24))
    have HL4 := Lib.hid (hL3.box (.cells #[.bool (mkN false (a / b)), .slice A3 n3 c3] 24))
    have PX4 := Pr.new w3 w3.heap.size rfl (.bool (mkN false (a / b))) (.slice A3 n3 c3) 24
    have hlt3 : w.heap.size + 1 + 1 + 1 < w3.heap.size := (PR2.via hb3).lt
    clear PA2 PB2 PQ2 PR2 HQ HR HB2 LB2 hb3 hL3 a0 a1 b0 b1
    have ⟨a0, a1, _, _, _⟩ := PA4
    have ⟨b0, b1, _, _, _⟩ := PB4
    go_wp2_with fail
    generalize w3.alloc (.cells #[.bool (mkN false (a / b)), .slice A3 n3 c3] 24) = w4 at *
    generalize w3.heap.size = g3 at *
    refine (rmade_any w4 _ _ _ _ _ (a % b) HR4.out HVr.out (by omega)).mono ?_
    rintro e w5 ⟨A5, n5, c5, rfl, hL5, hb5⟩
    rw [HLr.out] at hL5
    rw [HEr.out]
    have PA6 := (PA4.via hb5).alloc (.cells #[.bool (mkN false (a % b)), .slice A5 n5 c5] 24)
    have PB6 := (PB4.via hb5).alloc (.cells #[.bool (mkN false (a % b)), .slice A5 n5 c5] 24)
    have PQ6 := (PQ4.via hb5).alloc (.cells #[.bool (mkN false (a % b)), .slice A5 n5 c5] 24)
    have PR6 := (PR4.via hb5).alloc (.cells #[.bool (mkN false (a % b)), .slice A5 n5 c5] 24)
    have PX6 := (PX4.via hb5).alloc (.cells #[.bool (mkN false (a % b)), .slice A5 n5 c5] 24)
    have HB6 := Lib.hid ((HB4.out.trans (hb5.mono HB4.out.size)).alloc (HB4.out.trans (hb5.mono HB4.out.size)).size (.cells #[.bool (mkN false (a % b)), .slice A5 n5 c5] 24))
    have LB6 := Lib.hid ((LB4.out.via hb5).box (.cells #[.bool (mkN false (a % b)), .slice A5 n5 c5] 24))
    have HL6 := Lib.hid ((HL4.out.via hb5).box (.cells #[.bool (mkN false (a % b)), .slice A5 n5 c5] 24))
    have HM6 := Lib.hid (hL5.box (.cells #[.bool (mkN false (a % b)), .slice A5 n5 c5] 24))
    have PY6 := Pr.new w5 w5.heap.size rfl (.bool (mkN false (a % b))) (.slice A5 n5 c5) 24
    have hlt5 : g3 < w5.heap.size := (PX4.via hb5).lt
    clear PA4 PB4 PQ4 PR4 PX4 HB4 HR4 LB4 HL4 hb5 hL5 a0 a1 b0 b1
    have ⟨a0, a1, _, _, _⟩ := PA6
    have ⟨b0, b1, _, _, _⟩ := PB6
    go_wp2_with fail
    generalize w5.alloc (.cells #[.bool (mkN false (a % b)), .slice A5 n5 c5] 24) = w6 at *
    generalize w5.heap.size = g5 at *
    have ⟨q0, q1, qf0, qf1, ql⟩ := PQ6
    have ⟨r0, r1, rf0, rf1, rl⟩ := PR6
    have ⟨x0, x1, xf0, xf1, xl⟩ := PX6
    have ⟨y0, y1, yf0, yf1, yl⟩ := PY6
    go_region
    all_goals
      go_wp2
      refine post_ww Tryz.results49 rfl rfl rfl ((PQ6.set _ _).far (by omega) _ _).drew ((PR6.far (by omega) _ _).set _ _).drew ⟨A3, n3, c3, A5, n5, c5, rfl, ?_, ?_, ?_⟩
      · exact ((HL6.out.setP PQ6 _ _).setP (PR6.far (by omega) _ _) _ _).drew
      · exact ((HM6.out.setP PQ6 _ _).setP (PR6.far (by omega) _ _) _ _).drew
      · exact (below_set2 (below_set2 HB6.out (by omega) _ _) (by omega) _ _).drew
  · go_enter Tryz.func49, Tryz.ntmps49
    go_wp2_with fail
    refine (rboth_any _ _ _ _ _ _ _ _ _ _ _ ((((HA.out.box _).box _).box _).box _) ((((HB.out.box _).box _).box _).box _) 0 HV.out).mono ?_
    rintro e w1 ⟨rfl, hb1⟩
    have ⟨PA, PB, PQ, PR⟩ := boxes4 hb1
    have LA1 := Lib.hid (((((HA.out.box _).box _).box _).box _).via hb1)
    have LB1 := Lib.hid (((((HB.out.box _).box _).box _).box _).via hb1)
    have HB1 := Lib.hid (bbox (bbox (bbox (bbox hb1))))
    have ⟨a0, a1, _, _, _⟩ := PA
    have ⟨b0, b1, _, _, _⟩ := PB
    clear hb1
    go_wp2_with fail
    refine (rover_any w1 A B n m ca cb a b LA1.out LB1.out hb (by omega)).mono ?_
    rintro e w2 ⟨Q, cq, R, cr, rfl, hQ, hR, hb2⟩
    have PA2 := PA.via hb2
    have PB2 := PB.via hb2
    have PQ2 := PQ.via hb2
    have PR2 := PR.via hb2
    have HB2 := Lib.hid (HB1.out.trans (hb2.mono HB1.out.size))
    have HQ := Lib.hid hQ
    have HR := Lib.hid hR
    have LB2 := Lib.hid (LB1.out.via hb2)
    clear PA PB PQ PR LA1 LB1 HB1 a0 a1 b0 b1 hb2 hQ hR
    have ⟨a0, a1, _, _, _⟩ := PA2
    have ⟨b0, b1, _, _, _⟩ := PB2
    go_wp2_with fail
    refine (rmade_any w2 _ _ _ _ _ (a / b) HQ.out HVq.out (by omega)).mono ?_
    rintro e w3 ⟨A3, n3, c3, rfl, hL3, hb3⟩
    rw [HLq.out] at hL3
    rw [HEq.out]
    have PA4 := (PA2.via hb3).alloc (.cells #[.bool (mkN false (a / b)), .slice A3 n3 c3] 24)
    have PB4 := (PB2.via hb3).alloc (.cells #[.bool (mkN false (a / b)), .slice A3 n3 c3] 24)
    have PQ4 := (PQ2.via hb3).alloc (.cells #[.bool (mkN false (a / b)), .slice A3 n3 c3] 24)
    have PR4 := (PR2.via hb3).alloc (.cells #[.bool (mkN false (a / b)), .slice A3 n3 c3] 24)
    have HB4 := Lib.hid ((HB2.out.trans (hb3.mono HB2.out.size)).alloc (HB2.out.trans (hb3.mono HB2.out.size)).size (.cells #[.bool (mkN false (a / b)), .slice A3 n3 c3] 24))
    have HR4 := Lib.hid ((HR.out.via hb3).box (.cells #[.bool (mkN false (a / b)), .slice A3 n3 c3] 24))
    have LB4 := Lib.hid ((LB2.out.via hb3).box (.cells #[.bool (mkN false (a / b)), .slice A3 n3 c3] 24))
    have HL4 := Lib.hid (hL3.box (.cells #[.bool (mkN false (a / b)), .slice A3 n3 c3] 24))
    have PX4 := Pr.new w3 w3.heap.size rfl (.bool (mkN false (a / b))) (.slice A3 n3 c3) 24
    have hlt3 : w.heap.size + 1 + 1 + 1 < w3.heap.size := (PR2.via hb3).lt
    clear PA2 PB2 PQ2 PR2 HQ HR HB2 LB2 hb3 hL3 a0 a1 b0 b1
    have ⟨a0, a1, _, _, _⟩ := PA4
    have ⟨b0, b1, _, _, _⟩ := PB4
    go_wp2_with fail
    generalize w3.alloc (.cells #[.bool (mkN false (a / b)), .slice A3 n3 c3] 24) = w4 at *
    generalize w3.heap.size = g3 at *
    refine (rmade_any w4 _ _ _ _ _ (a % b) HR4.out HVr.out (by omega)).mono ?_
    rintro e w5 ⟨A5, n5, c5, rfl, hL5, hb5⟩
    rw [HLr.out] at hL5
    rw [HEr.out]
    have PA6 := (PA4.via hb5).alloc (.cells #[.bool (mkN true (a % b)), .slice A5 n5 c5] 24)
    have PB6 := (PB4.via hb5).alloc (.cells #[.bool (mkN true (a % b)), .slice A5 n5 c5] 24)
    have PQ6 := (PQ4.via hb5).alloc (.cells #[.bool (mkN true (a % b)), .slice A5 n5 c5] 24)
    have PR6 := (PR4.via hb5).alloc (.cells #[.bool (mkN true (a % b)), .slice A5 n5 c5] 24)
    have PX6 := (PX4.via hb5).alloc (.cells #[.bool (mkN true (a % b)), .slice A5 n5 c5] 24)
    have HB6 := Lib.hid ((HB4.out.trans (hb5.mono HB4.out.size)).alloc (HB4.out.trans (hb5.mono HB4.out.size)).size (.cells #[.bool (mkN true (a % b)), .slice A5 n5 c5] 24))
    have LB6 := Lib.hid ((LB4.out.via hb5).box (.cells #[.bool (mkN true (a % b)), .slice A5 n5 c5] 24))
    have HL6 := Lib.hid ((HL4.out.via hb5).box (.cells #[.bool (mkN true (a % b)), .slice A5 n5 c5] 24))
    have HM6 := Lib.hid (hL5.box (.cells #[.bool (mkN true (a % b)), .slice A5 n5 c5] 24))
    have PY6 := Pr.new w5 w5.heap.size rfl (.bool (mkN true (a % b))) (.slice A5 n5 c5) 24
    have hlt5 : g3 < w5.heap.size := (PX4.via hb5).lt
    clear PA4 PB4 PQ4 PR4 PX4 HB4 HR4 LB4 HL4 hb5 hL5 a0 a1 b0 b1
    have ⟨a0, a1, _, _, _⟩ := PA6
    have ⟨b0, b1, _, _, _⟩ := PB6
    go_wp2_with fail
    generalize w5.alloc (.cells #[.bool (mkN true (a % b)), .slice A5 n5 c5] 24) = w6 at *
    generalize w5.heap.size = g5 at *
    have ⟨q0, q1, qf0, qf1, ql⟩ := PQ6
    have ⟨r0, r1, rf0, rf1, rl⟩ := PR6
    have ⟨x0, x1, xf0, xf1, xl⟩ := PX6
    have ⟨y0, y1, yf0, yf1, yl⟩ := PY6
    go_region
    all_goals
      go_wp2
      refine post_ww Tryz.results49 rfl rfl rfl ((PQ6.set _ _).far (by omega) _ _).drew ((PR6.far (by omega) _ _).set _ _).drew ⟨A3, n3, c3, A5, n5, c5, rfl, ?_, ?_, ?_⟩
      · exact ((HL6.out.setP PQ6 _ _).setP (PR6.far (by omega) _ _) _ _).drew
      · exact ((HM6.out.setP PQ6 _ _).setP (PR6.far (by omega) _ _) _ _).drew
      · exact (below_set2 (below_set2 HB6.out (by omega) _ _) (by omega) _ _).drew
  · go_enter Tryz.func49, Tryz.ntmps49
    go_wp2_with fail
    refine (rboth_any _ _ _ _ _ _ _ _ _ _ _ ((((HA.out.box _).box _).box _).box _) ((((HB.out.box _).box _).box _).box _) 0 HV.out).mono ?_
    rintro e w1 ⟨rfl, hb1⟩
    have ⟨PA, PB, PQ, PR⟩ := boxes4 hb1
    have LA1 := Lib.hid (((((HA.out.box _).box _).box _).box _).via hb1)
    have LB1 := Lib.hid (((((HB.out.box _).box _).box _).box _).via hb1)
    have HB1 := Lib.hid (bbox (bbox (bbox (bbox hb1))))
    have ⟨a0, a1, _, _, _⟩ := PA
    have ⟨b0, b1, _, _, _⟩ := PB
    clear hb1
    go_wp2_with fail
    refine (rover_any w1 A B n m ca cb a b LA1.out LB1.out hb (by omega)).mono ?_
    rintro e w2 ⟨Q, cq, R, cr, rfl, hQ, hR, hb2⟩
    have PA2 := PA.via hb2
    have PB2 := PB.via hb2
    have PQ2 := PQ.via hb2
    have PR2 := PR.via hb2
    have HB2 := Lib.hid (HB1.out.trans (hb2.mono HB1.out.size))
    have HQ := Lib.hid hQ
    have HR := Lib.hid hR
    have LB2 := Lib.hid (LB1.out.via hb2)
    clear PA PB PQ PR LA1 LB1 HB1 a0 a1 b0 b1 hb2 hQ hR
    have ⟨a0, a1, _, _, _⟩ := PA2
    have ⟨b0, b1, _, _, _⟩ := PB2
    go_wp2_with fail
    refine (rmade_any w2 _ _ _ _ _ (a / b) HQ.out HVq.out (by omega)).mono ?_
    rintro e w3 ⟨A3, n3, c3, rfl, hL3, hb3⟩
    rw [HLq.out] at hL3
    rw [HEq.out]
    have PA4 := (PA2.via hb3).alloc (.cells #[.bool (mkN false (a / b)), .slice A3 n3 c3] 24)
    have PB4 := (PB2.via hb3).alloc (.cells #[.bool (mkN false (a / b)), .slice A3 n3 c3] 24)
    have PQ4 := (PQ2.via hb3).alloc (.cells #[.bool (mkN false (a / b)), .slice A3 n3 c3] 24)
    have PR4 := (PR2.via hb3).alloc (.cells #[.bool (mkN false (a / b)), .slice A3 n3 c3] 24)
    have HB4 := Lib.hid ((HB2.out.trans (hb3.mono HB2.out.size)).alloc (HB2.out.trans (hb3.mono HB2.out.size)).size (.cells #[.bool (mkN false (a / b)), .slice A3 n3 c3] 24))
    have HR4 := Lib.hid ((HR.out.via hb3).box (.cells #[.bool (mkN false (a / b)), .slice A3 n3 c3] 24))
    have LB4 := Lib.hid ((LB2.out.via hb3).box (.cells #[.bool (mkN false (a / b)), .slice A3 n3 c3] 24))
    have HL4 := Lib.hid (hL3.box (.cells #[.bool (mkN false (a / b)), .slice A3 n3 c3] 24))
    have PX4 := Pr.new w3 w3.heap.size rfl (.bool (mkN false (a / b))) (.slice A3 n3 c3) 24
    have hlt3 : w.heap.size + 1 + 1 + 1 < w3.heap.size := (PR2.via hb3).lt
    clear PA2 PB2 PQ2 PR2 HQ HR HB2 LB2 hb3 hL3 a0 a1 b0 b1
    have ⟨a0, a1, _, _, _⟩ := PA4
    have ⟨b0, b1, _, _, _⟩ := PB4
    go_wp2_with fail
    generalize w3.alloc (.cells #[.bool (mkN false (a / b)), .slice A3 n3 c3] 24) = w4 at *
    generalize w3.heap.size = g3 at *
    refine (rmade_any w4 _ _ _ _ _ (a % b) HR4.out HVr.out (by omega)).mono ?_
    rintro e w5 ⟨A5, n5, c5, rfl, hL5, hb5⟩
    rw [HLr.out] at hL5
    rw [HEr.out]
    have PA6 := (PA4.via hb5).alloc (.cells #[.bool (mkN true (a % b)), .slice A5 n5 c5] 24)
    have PB6 := (PB4.via hb5).alloc (.cells #[.bool (mkN true (a % b)), .slice A5 n5 c5] 24)
    have PQ6 := (PQ4.via hb5).alloc (.cells #[.bool (mkN true (a % b)), .slice A5 n5 c5] 24)
    have PR6 := (PR4.via hb5).alloc (.cells #[.bool (mkN true (a % b)), .slice A5 n5 c5] 24)
    have PX6 := (PX4.via hb5).alloc (.cells #[.bool (mkN true (a % b)), .slice A5 n5 c5] 24)
    have HB6 := Lib.hid ((HB4.out.trans (hb5.mono HB4.out.size)).alloc (HB4.out.trans (hb5.mono HB4.out.size)).size (.cells #[.bool (mkN true (a % b)), .slice A5 n5 c5] 24))
    have LB6 := Lib.hid ((LB4.out.via hb5).box (.cells #[.bool (mkN true (a % b)), .slice A5 n5 c5] 24))
    have HL6 := Lib.hid ((HL4.out.via hb5).box (.cells #[.bool (mkN true (a % b)), .slice A5 n5 c5] 24))
    have HM6 := Lib.hid (hL5.box (.cells #[.bool (mkN true (a % b)), .slice A5 n5 c5] 24))
    have PY6 := Pr.new w5 w5.heap.size rfl (.bool (mkN true (a % b))) (.slice A5 n5 c5) 24
    have hlt5 : g3 < w5.heap.size := (PX4.via hb5).lt
    clear PA4 PB4 PQ4 PR4 PX4 HB4 HR4 LB4 HL4 hb5 hL5 a0 a1 b0 b1
    have ⟨a0, a1, _, _, _⟩ := PA6
    have ⟨b0, b1, _, _, _⟩ := PB6
    go_wp2_with fail
    generalize w5.alloc (.cells #[.bool (mkN true (a % b)), .slice A5 n5 c5] 24) = w6 at *
    generalize w5.heap.size = g5 at *
    have ⟨q0, q1, qf0, qf1, ql⟩ := PQ6
    have ⟨r0, r1, rf0, rf1, rl⟩ := PR6
    have ⟨x0, x1, xf0, xf1, xl⟩ := PX6
    have ⟨y0, y1, yf0, yf1, yl⟩ := PY6
    go_region
    all_goals
      go_wp2
      refine post_ww Tryz.results49 rfl rfl rfl ((PQ6.set _ _).far (by omega) _ _).drew ((PR6.far (by omega) _ _).set _ _).drew ⟨A3, n3, c3, A5, n5, c5, rfl, ?_, ?_, ?_⟩
      · exact ((HL6.out.setP PQ6 _ _).setP (PR6.far (by omega) _ _) _ _).drew
      · exact ((HM6.out.setP PQ6 _ _).setP (PR6.far (by omega) _ _) _ _).drew
      · exact (below_set2 (below_set2 HB6.out (by omega) _ _) (by omega) _ _).drew
set_option maxRecDepth 100000 in
set_option maxHeartbeats 2000000 in
theorem rdivmod_exact (w : World) (na nb : Bool) (A B : Option Addr) (n m ca cb a b : Nat) (hA : Lm w w.heap.size A n ca (digs a)) (hB : Lm w w.heap.size B m cb (digs b)) (hv : chkB na (digs a) nb (digs b) = 0) (hb : 0 < b) (hs : na = true ∧ nb = false ∨ na = false ∧ nb = true) (h0 : a % b = 0) :
    Calls Tryz.prog 49 #[.agg #[.bool na, .slice A n ca], .agg #[.bool nb, .slice B m cb]] w (RWW w (mkN true (a / b)) (digs (a / b)) (mkN na (a % b)) (digs (a % b)) 0) := by
  have h41 := (chk_ok.1 (chkB_ok.1 hv).1).1
  have h42 := (chk_ok.1 (chkB_ok.1 hv).2).1
  have hml := Nat.mod_lt a hb
  have hq0 : (digs (a / b)).length ≤ 4096 := Nat.le_trans (digs_mono (Nat.div_le_self a b)) h41
  have hr0 : (digs (a % b)).length ≤ 4096 := Nat.le_trans (digs_mono (Nat.le_of_lt hml)) h42
  have HLq : Hid (mkL (a / b) = digs (a / b)) := by show _ = _; unfold mkL; rw [if_pos hq0]
  have HLr : Hid (mkL (a % b) = digs (a % b)) := by show _ = _; unfold mkL; rw [if_pos hr0]
  have HEq : Hid (mkE (a / b) = 0) := by show _ = _; unfold mkE; rw [if_pos hq0]
  have HEr : Hid (mkE (a % b) = 0) := by show _ = _; unfold mkE; rw [if_pos hr0]
  rw [hA.len] at h41
  rw [hB.len] at h42
  have hm0 : 0 < m := by rw [← hB.len, digs_pos]; exact hb
  have hm1 : ((m : Int) == 0) = false := by simp; omega
  have hcB := hB.cap
  have hxB := hB.max
  have HA := Lib.hid hA
  have HB := Lib.hid hB
  have HV := Lib.hid hv
  have HVq : Hid (val (digs (a / b)) = a / b) := digs_val _
  have HVr : Hid (val (digs (a % b)) = a % b) := digs_val _
  have hrl : decide (0 < (digs (a % b)).length) = decide (0 < a % b) := decide_eq_decide.2 digs_pos
  have hrz : decide (0 < (digs (a % b)).length) = false := by rw [hrl]; simp; omega
  have H0 := Lib.hid h0
  clear hrl h0
  clear hv hA hB hml
  rcases hs with ⟨rfl, rfl⟩ | ⟨rfl, rfl⟩
  · go_enter Tryz.func49, Tryz.ntmps49
    go_wp2_with fail
    refine (rboth_any _ _ _ _ _ _ _ _ _ _ _ ((((HA.out.box _).box _).box _).box _) ((((HB.out.box _).box _).box _).box _) 0 HV.out).mono ?_
    rintro e w1 ⟨rfl, hb1⟩
    have ⟨PA, PB, PQ, PR⟩ := boxes4 hb1
    have LA1 := Lib.hid (((((HA.out.box _).box _).box _).box _).via hb1)
    have LB1 := Lib.hid (((((HB.out.box _).box _).box _).box _).via hb1)
    have HB1 := Lib.hid (bbox (bbox (bbox (bbox hb1))))
    have ⟨a0, a1, _, _, _⟩ := PA
    have ⟨b0, b1, _, _, _⟩ := PB
    clear hb1
    go_wp2_with fail
    refine (rover_any w1 A B n m ca cb a b LA1.out LB1.out hb (by omega)).mono ?_
    rintro e w2 ⟨Q, cq, R, cr, rfl, hQ, hR, hb2⟩
    have PA2 := PA.via hb2
    have PB2 := PB.via hb2
    have PQ2 := PQ.via hb2
    have PR2 := PR.via hb2
    have HB2 := Lib.hid (HB1.out.trans (hb2.mono HB1.out.size))
    have HQ := Lib.hid hQ
    have HR := Lib.hid hR
    have LB2 := Lib.hid (LB1.out.via hb2)
    clear PA PB PQ PR LA1 LB1 HB1 a0 a1 b0 b1 hb2 hQ hR
    have ⟨a0, a1, _, _, _⟩ := PA2
    have ⟨b0, b1, _, _, _⟩ := PB2
    go_wp2_with fail
    refine (rmade_any w2 _ _ _ _ _ (a / b) HQ.out HVq.out (by omega)).mono ?_
    rintro e w3 ⟨A3, n3, c3, rfl, hL3, hb3⟩
    rw [HLq.out] at hL3
    rw [HEq.out]
    have PA4 := (PA2.via hb3).alloc (.cells #[.bool (mkN true (a / b)), .slice A3 n3 c3] 24)
    have PB4 := (PB2.via hb3).alloc (.cells #[.bool (mkN true (a / b)), .slice A3 n3 c3] 24)
    have PQ4 := (PQ2.via hb3).alloc (.cells #[.bool (mkN true (a / b)), .slice A3 n3 c3] 24)
    have PR4 := (PR2.via hb3).alloc (.cells #[.bool (mkN true (a / b)), .slice A3 n3 c3] 24)
    have HB4 := Lib.hid ((HB2.out.trans (hb3.mono HB2.out.size)).alloc (HB2.out.trans (hb3.mono HB2.out.size)).size (.cells #[.bool (mkN true (a / b)), .slice A3 n3 c3] 24))
    have HR4 := Lib.hid ((HR.out.via hb3).box (.cells #[.bool (mkN true (a / b)), .slice A3 n3 c3] 24))
    have LB4 := Lib.hid ((LB2.out.via hb3).box (.cells #[.bool (mkN true (a / b)), .slice A3 n3 c3] 24))
    have HL4 := Lib.hid (hL3.box (.cells #[.bool (mkN true (a / b)), .slice A3 n3 c3] 24))
    have PX4 := Pr.new w3 w3.heap.size rfl (.bool (mkN true (a / b))) (.slice A3 n3 c3) 24
    have hlt3 : w.heap.size + 1 + 1 + 1 < w3.heap.size := (PR2.via hb3).lt
    clear PA2 PB2 PQ2 PR2 HQ HR HB2 LB2 hb3 hL3 a0 a1 b0 b1
    have ⟨a0, a1, _, _, _⟩ := PA4
    have ⟨b0, b1, _, _, _⟩ := PB4
    go_wp2_with fail
    generalize w3.alloc (.cells #[.bool (mkN true (a / b)), .slice A3 n3 c3] 24) = w4 at *
    generalize w3.heap.size = g3 at *
    refine (rmade_any w4 _ _ _ _ _ (a % b) HR4.out HVr.out (by omega)).mono ?_
    rintro e w5 ⟨A5, n5, c5, rfl, hL5, hb5⟩
    rw [HLr.out] at hL5
    rw [HEr.out]
    have PA6 := (PA4.via hb5).alloc (.cells #[.bool (mkN true (a % b)), .slice A5 n5 c5] 24)
    have PB6 := (PB4.via hb5).alloc (.cells #[.bool (mkN true (a % b)), .slice A5 n5 c5] 24)
    have PQ6 := (PQ4.via hb5).alloc (.cells #[.bool (mkN true (a % b)), .slice A5 n5 c5] 24)
    have PR6 := (PR4.via hb5).alloc (.cells #[.bool (mkN true (a % b)), .slice A5 n5 c5] 24)
    have PX6 := (PX4.via hb5).alloc (.cells #[.bool (mkN true (a % b)), .slice A5 n5 c5] 24)
    have HB6 := Lib.hid ((HB4.out.trans (hb5.mono HB4.out.size)).alloc (HB4.out.trans (hb5.mono HB4.out.size)).size (.cells #[.bool (mkN true (a % b)), .slice A5 n5 c5] 24))
    have LB6 := Lib.hid ((LB4.out.via hb5).box (.cells #[.bool (mkN true (a % b)), .slice A5 n5 c5] 24))
    have HL6 := Lib.hid ((HL4.out.via hb5).box (.cells #[.bool (mkN true (a % b)), .slice A5 n5 c5] 24))
    have HM6 := Lib.hid (hL5.box (.cells #[.bool (mkN true (a % b)), .slice A5 n5 c5] 24))
    have PY6 := Pr.new w5 w5.heap.size rfl (.bool (mkN true (a % b))) (.slice A5 n5 c5) 24
    have hlt5 : g3 < w5.heap.size := (PX4.via hb5).lt
    clear PA4 PB4 PQ4 PR4 PX4 HB4 HR4 LB4 HL4 hb5 hL5 a0 a1 b0 b1
    have ⟨a0, a1, _, _, _⟩ := PA6
    have ⟨b0, b1, _, _, _⟩ := PB6
    go_wp2_with fail
    generalize w5.alloc (.cells #[.bool (mkN true (a % b)), .slice A5 n5 c5] 24) = w6 at *
    generalize w5.heap.size = g5 at *
    have ⟨q0, q1, qf0, qf1, ql⟩ := PQ6
    have ⟨r0, r1, rf0, rf1, rl⟩ := PR6
    have ⟨x0, x1, xf0, xf1, xl⟩ := PX6
    have ⟨y0, y1, yf0, yf1, yl⟩ := PY6
    go_region
    all_goals
      go_wp2
      refine post_ww Tryz.results49 rfl rfl rfl ((PQ6.set _ _).far (by omega) _ _).drew ((PR6.far (by omega) _ _).set _ _).drew ⟨A3, n3, c3, A5, n5, c5, rfl, ?_, ?_, ?_⟩
      · exact ((HL6.out.setP PQ6 _ _).setP (PR6.far (by omega) _ _) _ _).drew
      · exact ((HM6.out.setP PQ6 _ _).setP (PR6.far (by omega) _ _) _ _).drew
      · exact (below_set2 (below_set2 HB6.out (by omega) _ _) (by omega) _ _).drew
  · go_enter Tryz.func49, Tryz.ntmps49
    go_wp2_with fail
    refine (rboth_any _ _ _ _ _ _ _ _ _ _ _ ((((HA.out.box _).box _).box _).box _) ((((HB.out.box _).box _).box _).box _) 0 HV.out).mono ?_
    rintro e w1 ⟨rfl, hb1⟩
    have ⟨PA, PB, PQ, PR⟩ := boxes4 hb1
    have LA1 := Lib.hid (((((HA.out.box _).box _).box _).box _).via hb1)
    have LB1 := Lib.hid (((((HB.out.box _).box _).box _).box _).via hb1)
    have HB1 := Lib.hid (bbox (bbox (bbox (bbox hb1))))
    have ⟨a0, a1, _, _, _⟩ := PA
    have ⟨b0, b1, _, _, _⟩ := PB
    clear hb1
    go_wp2_with fail
    refine (rover_any w1 A B n m ca cb a b LA1.out LB1.out hb (by omega)).mono ?_
    rintro e w2 ⟨Q, cq, R, cr, rfl, hQ, hR, hb2⟩
    have PA2 := PA.via hb2
    have PB2 := PB.via hb2
    have PQ2 := PQ.via hb2
    have PR2 := PR.via hb2
    have HB2 := Lib.hid (HB1.out.trans (hb2.mono HB1.out.size))
    have HQ := Lib.hid hQ
    have HR := Lib.hid hR
    have LB2 := Lib.hid (LB1.out.via hb2)
    clear PA PB PQ PR LA1 LB1 HB1 a0 a1 b0 b1 hb2 hQ hR
    have ⟨a0, a1, _, _, _⟩ := PA2
    have ⟨b0, b1, _, _, _⟩ := PB2
    go_wp2_with fail
    refine (rmade_any w2 _ _ _ _ _ (a / b) HQ.out HVq.out (by omega)).mono ?_
    rintro e w3 ⟨A3, n3, c3, rfl, hL3, hb3⟩
    rw [HLq.out] at hL3
    rw [HEq.out]
    have PA4 := (PA2.via hb3).alloc (.cells #[.bool (mkN true (a / b)), .slice A3 n3 c3] 24)
    have PB4 := (PB2.via hb3).alloc (.cells #[.bool (mkN true (a / b)), .slice A3 n3 c3] 24)
    have PQ4 := (PQ2.via hb3).alloc (.cells #[.bool (mkN true (a / b)), .slice A3 n3 c3] 24)
    have PR4 := (PR2.via hb3).alloc (.cells #[.bool (mkN true (a / b)), .slice A3 n3 c3] 24)
    have HB4 := Lib.hid ((HB2.out.trans (hb3.mono HB2.out.size)).alloc (HB2.out.trans (hb3.mono HB2.out.size)).size (.cells #[.bool (mkN true (a / b)), .slice A3 n3 c3] 24))
    have HR4 := Lib.hid ((HR.out.via hb3).box (.cells #[.bool (mkN true (a / b)), .slice A3 n3 c3] 24))
    have LB4 := Lib.hid ((LB2.out.via hb3).box (.cells #[.bool (mkN true (a / b)), .slice A3 n3 c3] 24))
    have HL4 := Lib.hid (hL3.box (.cells #[.bool (mkN true (a / b)), .slice A3 n3 c3] 24))
    have PX4 := Pr.new w3 w3.heap.size rfl (.bool (mkN true (a / b))) (.slice A3 n3 c3) 24
    have hlt3 : w.heap.size + 1 + 1 + 1 < w3.heap.size := (PR2.via hb3).lt
    clear PA2 PB2 PQ2 PR2 HQ HR HB2 LB2 hb3 hL3 a0 a1 b0 b1
    have ⟨a0, a1, _, _, _⟩ := PA4
    have ⟨b0, b1, _, _, _⟩ := PB4
    go_wp2_with fail
    generalize w3.alloc (.cells #[.bool (mkN true (a / b)), .slice A3 n3 c3] 24) = w4 at *
    generalize w3.heap.size = g3 at *
    refine (rmade_any w4 _ _ _ _ _ (a % b) HR4.out HVr.out (by omega)).mono ?_
    rintro e w5 ⟨A5, n5, c5, rfl, hL5, hb5⟩
    rw [HLr.out] at hL5
    rw [HEr.out]
    have PA6 := (PA4.via hb5).alloc (.cells #[.bool (mkN false (a % b)), .slice A5 n5 c5] 24)
    have PB6 := (PB4.via hb5).alloc (.cells #[.bool (mkN false (a % b)), .slice A5 n5 c5] 24)
    have PQ6 := (PQ4.via hb5).alloc (.cells #[.bool (mkN false (a % b)), .slice A5 n5 c5] 24)
    have PR6 := (PR4.via hb5).alloc (.cells #[.bool (mkN false (a % b)), .slice A5 n5 c5] 24)
    have PX6 := (PX4.via hb5).alloc (.cells #[.bool (mkN false (a % b)), .slice A5 n5 c5] 24)
    have HB6 := Lib.hid ((HB4.out.trans (hb5.mono HB4.out.size)).alloc (HB4.out.trans (hb5.mono HB4.out.size)).size (.cells #[.bool (mkN false (a % b)), .slice A5 n5 c5] 24))
    have LB6 := Lib.hid ((LB4.out.via hb5).box (.cells #[.bool (mkN false (a % b)), .slice A5 n5 c5] 24))
    have HL6 := Lib.hid ((HL4.out.via hb5).box (.cells #[.bool (mkN false (a % b)), .slice A5 n5 c5] 24))
    have HM6 := Lib.hid (hL5.box (.cells #[.bool (mkN false (a % b)), .slice A5 n5 c5] 24))
    have PY6 := Pr.new w5 w5.heap.size rfl (.bool (mkN false (a % b))) (.slice A5 n5 c5) 24
    have hlt5 : g3 < w5.heap.size := (PX4.via hb5).lt
    clear PA4 PB4 PQ4 PR4 PX4 HB4 HR4 LB4 HL4 hb5 hL5 a0 a1 b0 b1
    have ⟨a0, a1, _, _, _⟩ := PA6
    have ⟨b0, b1, _, _, _⟩ := PB6
    go_wp2_with fail
    generalize w5.alloc (.cells #[.bool (mkN false (a % b)), .slice A5 n5 c5] 24) = w6 at *
    generalize w5.heap.size = g5 at *
    have ⟨q0, q1, qf0, qf1, ql⟩ := PQ6
    have ⟨r0, r1, rf0, rf1, rl⟩ := PR6
    have ⟨x0, x1, xf0, xf1, xl⟩ := PX6
    have ⟨y0, y1, yf0, yf1, yl⟩ := PY6
    go_region
    all_goals
      go_wp2
      refine post_ww Tryz.results49 rfl rfl rfl ((PQ6.set _ _).far (by omega) _ _).drew ((PR6.far (by omega) _ _).set _ _).drew ⟨A3, n3, c3, A5, n5, c5, rfl, ?_, ?_, ?_⟩
      · exact ((HL6.out.setP PQ6 _ _).setP (PR6.far (by omega) _ _) _ _).drew
      · exact ((HM6.out.setP PQ6 _ _).setP (PR6.far (by omega) _ _) _ _).drew
      · exact (below_set2 (below_set2 HB6.out (by omega) _ _) (by omega) _ _).drew
end Go.Proofs.YtbplbbkmfbjkfaaGreatDoor

/- The reference's DivMod, rounded down. -/
namespace Go.Proofs.YtbplbbkmfbjkfaaGreatDoor
open Go.RowKit

theorem rfrom_m1 (w : World) : Calls Tryz.prog 18 #[.int .i64 (-1)] w fun e w' => ∃ A n c, e = .returned (.agg #[.bool true, .slice A n c]) ∧ Lm w' w'.heap.size A n c (digs 1) ∧ Below w.heap.size w w' :=
  (rfrom_any w (-1) (by omega) (by omega)).mono fun _ _ ⟨A, n, c, he, hL, hb⟩ => ⟨A, n, c, he, hL, hb⟩
theorem toI_mkN {v : Nat} (h : (digs v).length ≤ 4096) (neg : Bool) : toI (mkN neg v) v = toI neg v := by
  unfold mkN toI
  rw [decide_eq_true h, Bool.true_and]
  by_cases h0 : v = 0
  · subst h0; cases neg <;> rfl
  · rw [decide_eq_true h0, Bool.and_true]
theorem mkL_digs {v : Nat} (h : (digs v).length ≤ 4096) : mkL v = digs v := by unfold mkL; rw [if_pos h]
theorem mkE_zero {v : Nat} (h : (digs v).length ≤ 4096) : mkE v = 0 := by unfold mkE; rw [if_pos h]
theorem down_le {a b : Nat} (hb : 0 < b) (h0 : 0 < a % b) : a / b + 1 ≤ a := by
  have h := Nat.div_add_mod a b
  have hb2 : 2 ≤ b := by have := Nat.mod_lt a hb; omega
  have h2 : 2 * (a / b) ≤ b * (a / b) := Nat.mul_le_mul_right _ hb2
  generalize a / b = z at *
  omega

set_option maxRecDepth 100000 in
set_option maxHeartbeats 2000000 in
theorem rdivmod_down (w : World) (na nb : Bool) (A B : Option Addr) (n m ca cb a b : Nat) (hA : Lm w w.heap.size A n ca (digs a)) (hB : Lm w w.heap.size B m cb (digs b)) (hv : chkB na (digs a) nb (digs b) = 0) (hb : 0 < b) (hs : na = true ∧ nb = false ∨ na = false ∧ nb = true) (h0 : 0 < a % b) :
    Calls Tryz.prog 49 #[.agg #[.bool na, .slice A n ca], .agg #[.bool nb, .slice B m cb]] w (RWW w (mkN true (a / b + 1)) (digs (a / b + 1)) (mkN nb (b - a % b)) (digs (b - a % b)) 0) := by
  have h41 := (chk_ok.1 (chkB_ok.1 hv).1).1
  have h42 := (chk_ok.1 (chkB_ok.1 hv).2).1
  have hml := Nat.mod_lt a hb
  have hq0 : (digs (a / b)).length ≤ 4096 := Nat.le_trans (digs_mono (Nat.div_le_self a b)) h41
  have hr0 : (digs (a % b)).length ≤ 4096 := Nat.le_trans (digs_mono (Nat.le_of_lt hml)) h42
  have HLq : Hid (mkL (a / b) = digs (a / b)) := by show _ = _; unfold mkL; rw [if_pos hq0]
  have HLr : Hid (mkL (a % b) = digs (a % b)) := by show _ = _; unfold mkL; rw [if_pos hr0]
  have HEq : Hid (mkE (a / b) = 0) := by show _ = _; unfold mkE; rw [if_pos hq0]
  have HEr : Hid (mkE (a % b) = 0) := by show _ = _; unfold mkE; rw [if_pos hr0]
  have hq1 : (digs (a / b + 1)).length ≤ 4096 := Nat.le_trans (digs_mono (down_le hb h0)) h41
  have hr1 : (digs (b - a % b)).length ≤ 4096 := Nat.le_trans (digs_mono (Nat.sub_le _ _)) h42
  have HS1 : Hid (∀ (W : World) (A' A'' : Option Addr) (n' c' n'' c'' : Nat), Lm W W.heap.size A' n' c' (digs (a / b)) → Lm W W.heap.size A'' n'' c'' (digs 1) → Calls Tryz.prog 80 #[.agg #[.bool (mkN true (a / b)), .slice A' n' c'], .agg #[.bool true, .slice A'' n'' c'']] W (RW W (mkN true (a / b + 1)) (digs (a / b + 1)) 0)) := by
    intro W A' A'' n' c' n'' c'' h1 h2
    have h3 := rsum_any W (mkN true (a / b)) true A' A'' n' n'' c' c'' (a / b) 1 h1 h2 (by rw [← h1.len]; omega) (by rw [← h2.len]; have : (digs 1).length ≤ 1 := digs_len.2 (by omega); omega)
    rw [← rz_of W true (a / b + 1) (by rw [toI_mkN hq0]; unfold toI; simp; omega), mkL_digs hq1, mkE_zero hq1] at h3
    exact h3
  have HS2 : Hid (∀ (W : World) (A' : Option Addr) (n' c' : Nat), Lm W W.heap.size A' n' c' (digs (a % b)) → Lm W W.heap.size B m cb (digs b) → Calls Tryz.prog 80 #[.agg #[.bool (mkN na (a % b)), .slice A' n' c'], .agg #[.bool nb, .slice B m cb]] W (RW W (mkN nb (b - a % b)) (digs (b - a % b)) 0)) := by
    intro W A' n' c' h1 h2
    have h3 := rsum_any W (mkN na (a % b)) nb A' B n' m c' cb (a % b) b h1 h2 (by rw [← h1.len]; omega) (by rw [← h2.len]; omega)
    rw [← rz_of W nb (b - a % b) (by rw [toI_mkN hr0]; rcases hs with ⟨e1, e2⟩ | ⟨e1, e2⟩ <;> subst e1 <;> subst e2 <;> simp only [toI, Bool.false_eq_true, if_true, if_false] <;> omega), mkL_digs hr1, mkE_zero hr1] at h3
    exact h3
  rw [hA.len] at h41
  rw [hB.len] at h42
  have hm0 : 0 < m := by rw [← hB.len, digs_pos]; exact hb
  have hm1 : ((m : Int) == 0) = false := by simp; omega
  have hcB := hB.cap
  have hxB := hB.max
  have HA := Lib.hid hA
  have HB := Lib.hid hB
  have HV := Lib.hid hv
  have HVq : Hid (val (digs (a / b)) = a / b) := digs_val _
  have HVr : Hid (val (digs (a % b)) = a % b) := digs_val _
  have hrl : decide (0 < (digs (a % b)).length) = decide (0 < a % b) := decide_eq_decide.2 digs_pos
  have hrz : decide (0 < (digs (a % b)).length) = true := by rw [hrl]; simpa using h0
  clear hrl
  clear hv hA hB hml
  rcases hs with ⟨rfl, rfl⟩ | ⟨rfl, rfl⟩
  · go_enter Tryz.func49, Tryz.ntmps49
    go_wp2_with fail
    refine (rboth_any _ _ _ _ _ _ _ _ _ _ _ ((((HA.out.box _).box _).box _).box _) ((((HB.out.box _).box _).box _).box _) 0 HV.out).mono ?_
    rintro e w1 ⟨rfl, hb1⟩
    have ⟨PA, PB, PQ, PR⟩ := boxes4 hb1
    have LA1 := Lib.hid (((((HA.out.box _).box _).box _).box _).via hb1)
    have LB1 := Lib.hid (((((HB.out.box _).box _).box _).box _).via hb1)
    have HB1 := Lib.hid (bbox (bbox (bbox (bbox hb1))))
    have ⟨a0, a1, _, _, _⟩ := PA
    have ⟨b0, b1, _, _, _⟩ := PB
    clear hb1
    go_wp2_with fail
    refine (rover_any w1 A B n m ca cb a b LA1.out LB1.out hb (by omega)).mono ?_
    rintro e w2 ⟨Q, cq, R, cr, rfl, hQ, hR, hb2⟩
    have PA2 := PA.via hb2
    have PB2 := PB.via hb2
    have PQ2 := PQ.via hb2
    have PR2 := PR.via hb2
    have HB2 := Lib.hid (HB1.out.trans (hb2.mono HB1.out.size))
    have HQ := Lib.hid hQ
    have HR := Lib.hid hR
    have LB2 := Lib.hid (LB1.out.via hb2)
    clear PA PB PQ PR LA1 LB1 HB1 a0 a1 b0 b1 hb2 hQ hR
    have ⟨a0, a1, _, _, _⟩ := PA2
    have ⟨b0, b1, _, _, _⟩ := PB2
    go_wp2_with fail
    refine (rmade_any w2 _ _ _ _ _ (a / b) HQ.out HVq.out (by omega)).mono ?_
    rintro e w3 ⟨A3, n3, c3, rfl, hL3, hb3⟩
    rw [HLq.out] at hL3
    rw [HEq.out]
    have PA4 := (PA2.via hb3).alloc (.cells #[.bool (mkN true (a / b)), .slice A3 n3 c3] 24)
    have PB4 := (PB2.via hb3).alloc (.cells #[.bool (mkN true (a / b)), .slice A3 n3 c3] 24)
    have PQ4 := (PQ2.via hb3).alloc (.cells #[.bool (mkN true (a / b)), .slice A3 n3 c3] 24)
    have PR4 := (PR2.via hb3).alloc (.cells #[.bool (mkN true (a / b)), .slice A3 n3 c3] 24)
    have HB4 := Lib.hid ((HB2.out.trans (hb3.mono HB2.out.size)).alloc (HB2.out.trans (hb3.mono HB2.out.size)).size (.cells #[.bool (mkN true (a / b)), .slice A3 n3 c3] 24))
    have HR4 := Lib.hid ((HR.out.via hb3).box (.cells #[.bool (mkN true (a / b)), .slice A3 n3 c3] 24))
    have LB4 := Lib.hid ((LB2.out.via hb3).box (.cells #[.bool (mkN true (a / b)), .slice A3 n3 c3] 24))
    have HL4 := Lib.hid (hL3.box (.cells #[.bool (mkN true (a / b)), .slice A3 n3 c3] 24))
    have PX4 := Pr.new w3 w3.heap.size rfl (.bool (mkN true (a / b))) (.slice A3 n3 c3) 24
    have hlt3 : w.heap.size + 1 + 1 + 1 < w3.heap.size := (PR2.via hb3).lt
    clear PA2 PB2 PQ2 PR2 HQ HR HB2 LB2 hb3 hL3 a0 a1 b0 b1
    have ⟨a0, a1, _, _, _⟩ := PA4
    have ⟨b0, b1, _, _, _⟩ := PB4
    go_wp2_with fail
    generalize w3.alloc (.cells #[.bool (mkN true (a / b)), .slice A3 n3 c3] 24) = w4 at *
    generalize w3.heap.size = g3 at *
    refine (rmade_any w4 _ _ _ _ _ (a % b) HR4.out HVr.out (by omega)).mono ?_
    rintro e w5 ⟨A5, n5, c5, rfl, hL5, hb5⟩
    rw [HLr.out] at hL5
    rw [HEr.out]
    have PA6 := (PA4.via hb5).alloc (.cells #[.bool (mkN true (a % b)), .slice A5 n5 c5] 24)
    have PB6 := (PB4.via hb5).alloc (.cells #[.bool (mkN true (a % b)), .slice A5 n5 c5] 24)
    have PQ6 := (PQ4.via hb5).alloc (.cells #[.bool (mkN true (a % b)), .slice A5 n5 c5] 24)
    have PR6 := (PR4.via hb5).alloc (.cells #[.bool (mkN true (a % b)), .slice A5 n5 c5] 24)
    have PX6 := (PX4.via hb5).alloc (.cells #[.bool (mkN true (a % b)), .slice A5 n5 c5] 24)
    have HB6 := Lib.hid ((HB4.out.trans (hb5.mono HB4.out.size)).alloc (HB4.out.trans (hb5.mono HB4.out.size)).size (.cells #[.bool (mkN true (a % b)), .slice A5 n5 c5] 24))
    have LB6 := Lib.hid ((LB4.out.via hb5).box (.cells #[.bool (mkN true (a % b)), .slice A5 n5 c5] 24))
    have HL6 := Lib.hid ((HL4.out.via hb5).box (.cells #[.bool (mkN true (a % b)), .slice A5 n5 c5] 24))
    have HM6 := Lib.hid (hL5.box (.cells #[.bool (mkN true (a % b)), .slice A5 n5 c5] 24))
    have PY6 := Pr.new w5 w5.heap.size rfl (.bool (mkN true (a % b))) (.slice A5 n5 c5) 24
    have hlt5 : g3 < w5.heap.size := (PX4.via hb5).lt
    clear PA4 PB4 PQ4 PR4 PX4 HB4 HR4 LB4 HL4 hb5 hL5 a0 a1 b0 b1
    have ⟨a0, a1, _, _, _⟩ := PA6
    have ⟨b0, b1, _, _, _⟩ := PB6
    go_wp2_with fail
    generalize w5.alloc (.cells #[.bool (mkN true (a % b)), .slice A5 n5 c5] 24) = w6 at *
    generalize w5.heap.size = g5 at *
    have ⟨q0, q1, qf0, qf1, ql⟩ := PQ6
    have ⟨r0, r1, rf0, rf1, rl⟩ := PR6
    have ⟨x0, x1, xf0, xf1, xl⟩ := PX6
    have ⟨y0, y1, yf0, yf1, yl⟩ := PY6
    go_region_with
      (first
       | (go_at_call 18; refine (rfrom_m1 _).mono ?_; rintro e ws ⟨As, ns, cs, rfl, hLs, hbs⟩; have Bs := (Below.refl w6.heap.size w6).drew.trans hbs; have PXs := PX6.via Bs; have ⟨xs0, xs1, xsf0, xsf1, xsl⟩ := PXs)
       | (go_at_call 80; refine (HS1.out ws A3 As n3 c3 ns cs (HL6.out.via Bs) hLs).mono ?_; rintro e wt ⟨At, nt, ct, rfl, hLt, hbt⟩; have PXt := PXs.via hbt; have ⟨xt0, xt1, xtf0, xtf1, xtl⟩ := PXt))
    all_goals
      have Bt := Bs.trans (hbt.mono Bs.size)
      have PA7 := (PA6.via Bt).far (h := g3) (by omega) (.bool (mkN true (a / b + 1))) (.slice At nt ct)
      have PB7 := (PB6.via Bt).far (h := g3) (by omega) (.bool (mkN true (a / b + 1))) (.slice At nt ct)
      have PQ7 := (PQ6.via Bt).far (h := g3) (by omega) (.bool (mkN true (a / b + 1))) (.slice At nt ct)
      have PR7 := (PR6.via Bt).far (h := g3) (by omega) (.bool (mkN true (a / b + 1))) (.slice At nt ct)
      have PY7 := (PY6.via Bt).far (h := g3) (by omega) (.bool (mkN true (a / b + 1))) (.slice At nt ct)
      have PX7 := PXt.set (.bool (mkN true (a / b + 1))) (.slice At nt ct)
      have HL7 := Lib.hid (hLt.setP PXt (.bool (mkN true (a / b + 1))) (.slice At nt ct))
      have HM7 := Lib.hid ((HM6.out.via Bt).setP PXt (.bool (mkN true (a / b + 1))) (.slice At nt ct))
      have LB7 := Lib.hid ((LB6.out.via Bt).setP PXt (.bool (mkN true (a / b + 1))) (.slice At nt ct))
      have HB7 := Lib.hid (below_set2 (HB6.out.trans (Bt.mono HB6.out.size)) (g := g3) (by omega) (.bool (mkN true (a / b + 1))) (.slice At nt ct))
      have ⟨y70, y71, _, _, _⟩ := PY7
      have ⟨b70, b71, _, _, _⟩ := PB7
      go_wp2_with fail
      generalize (wt.setCell ⟨g3, 0, none⟩ (.bool (mkN true (a / b + 1)))).setCell ⟨g3, 1, none⟩ (.slice At nt ct) = w7 at *
      refine (HS2.out w7 A5 n5 c5 HM7.out LB7.out).mono ?_
      rintro e w8 ⟨A8, n8, c8, rfl, hL8, hb8⟩
      have PY8 := PY7.via hb8
      have ⟨y80, y81, yf80, yf81, _⟩ := PY8
      have PQ9 := (PQ7.via hb8).far (h := g5) (by omega) (.bool (mkN false (b - a % b))) (.slice A8 n8 c8)
      have PR9 := (PR7.via hb8).far (h := g5) (by omega) (.bool (mkN false (b - a % b))) (.slice A8 n8 c8)
      have PX9 := (PX7.via hb8).far (h := g5) (by omega) (.bool (mkN false (b - a % b))) (.slice A8 n8 c8)
      have PY9 := PY8.set (.bool (mkN false (b - a % b))) (.slice A8 n8 c8)
      have HM9 := Lib.hid (hL8.setP PY8 (.bool (mkN false (b - a % b))) (.slice A8 n8 c8))
      have HL9 := Lib.hid ((HL7.out.via hb8).setP PY8 (.bool (mkN false (b - a % b))) (.slice A8 n8 c8))
      have HB9 := Lib.hid (below_set2 (HB7.out.trans (hb8.mono HB7.out.size)) (g := g5) (by omega) (.bool (mkN false (b - a % b))) (.slice A8 n8 c8))
      go_wp2_with fail
      generalize (w8.setCell ⟨g5, 0, none⟩ (.bool (mkN false (b - a % b)))).setCell ⟨g5, 1, none⟩ (.slice A8 n8 c8) = w9 at *
      have ⟨q90, q91, qf90, qf91, ql9⟩ := PQ9
      have ⟨r90, r91, rf90, rf91, rl9⟩ := PR9
      have ⟨x90, x91, xf90, xf91, xl9⟩ := PX9
      have ⟨y90, y91, yf90, yf91, yl9⟩ := PY9
      go_region
      all_goals
        go_wp2
        refine post_ww Tryz.results49 rfl rfl rfl ((PQ9.set _ _).far (by omega) _ _).drew ((PR9.far (by omega) _ _).set _ _).drew ⟨At, nt, ct, A8, n8, c8, rfl, ?_, ?_, ?_⟩
        · exact ((HL9.out.setP PQ9 _ _).setP (PR9.far (by omega) _ _) _ _).drew
        · exact ((HM9.out.setP PQ9 _ _).setP (PR9.far (by omega) _ _) _ _).drew
        · exact (below_set2 (below_set2 HB9.out (by omega) _ _) (by omega) _ _).drew
  · go_enter Tryz.func49, Tryz.ntmps49
    go_wp2_with fail
    refine (rboth_any _ _ _ _ _ _ _ _ _ _ _ ((((HA.out.box _).box _).box _).box _) ((((HB.out.box _).box _).box _).box _) 0 HV.out).mono ?_
    rintro e w1 ⟨rfl, hb1⟩
    have ⟨PA, PB, PQ, PR⟩ := boxes4 hb1
    have LA1 := Lib.hid (((((HA.out.box _).box _).box _).box _).via hb1)
    have LB1 := Lib.hid (((((HB.out.box _).box _).box _).box _).via hb1)
    have HB1 := Lib.hid (bbox (bbox (bbox (bbox hb1))))
    have ⟨a0, a1, _, _, _⟩ := PA
    have ⟨b0, b1, _, _, _⟩ := PB
    clear hb1
    go_wp2_with fail
    refine (rover_any w1 A B n m ca cb a b LA1.out LB1.out hb (by omega)).mono ?_
    rintro e w2 ⟨Q, cq, R, cr, rfl, hQ, hR, hb2⟩
    have PA2 := PA.via hb2
    have PB2 := PB.via hb2
    have PQ2 := PQ.via hb2
    have PR2 := PR.via hb2
    have HB2 := Lib.hid (HB1.out.trans (hb2.mono HB1.out.size))
    have HQ := Lib.hid hQ
    have HR := Lib.hid hR
    have LB2 := Lib.hid (LB1.out.via hb2)
    clear PA PB PQ PR LA1 LB1 HB1 a0 a1 b0 b1 hb2 hQ hR
    have ⟨a0, a1, _, _, _⟩ := PA2
    have ⟨b0, b1, _, _, _⟩ := PB2
    go_wp2_with fail
    refine (rmade_any w2 _ _ _ _ _ (a / b) HQ.out HVq.out (by omega)).mono ?_
    rintro e w3 ⟨A3, n3, c3, rfl, hL3, hb3⟩
    rw [HLq.out] at hL3
    rw [HEq.out]
    have PA4 := (PA2.via hb3).alloc (.cells #[.bool (mkN true (a / b)), .slice A3 n3 c3] 24)
    have PB4 := (PB2.via hb3).alloc (.cells #[.bool (mkN true (a / b)), .slice A3 n3 c3] 24)
    have PQ4 := (PQ2.via hb3).alloc (.cells #[.bool (mkN true (a / b)), .slice A3 n3 c3] 24)
    have PR4 := (PR2.via hb3).alloc (.cells #[.bool (mkN true (a / b)), .slice A3 n3 c3] 24)
    have HB4 := Lib.hid ((HB2.out.trans (hb3.mono HB2.out.size)).alloc (HB2.out.trans (hb3.mono HB2.out.size)).size (.cells #[.bool (mkN true (a / b)), .slice A3 n3 c3] 24))
    have HR4 := Lib.hid ((HR.out.via hb3).box (.cells #[.bool (mkN true (a / b)), .slice A3 n3 c3] 24))
    have LB4 := Lib.hid ((LB2.out.via hb3).box (.cells #[.bool (mkN true (a / b)), .slice A3 n3 c3] 24))
    have HL4 := Lib.hid (hL3.box (.cells #[.bool (mkN true (a / b)), .slice A3 n3 c3] 24))
    have PX4 := Pr.new w3 w3.heap.size rfl (.bool (mkN true (a / b))) (.slice A3 n3 c3) 24
    have hlt3 : w.heap.size + 1 + 1 + 1 < w3.heap.size := (PR2.via hb3).lt
    clear PA2 PB2 PQ2 PR2 HQ HR HB2 LB2 hb3 hL3 a0 a1 b0 b1
    have ⟨a0, a1, _, _, _⟩ := PA4
    have ⟨b0, b1, _, _, _⟩ := PB4
    go_wp2_with fail
    generalize w3.alloc (.cells #[.bool (mkN true (a / b)), .slice A3 n3 c3] 24) = w4 at *
    generalize w3.heap.size = g3 at *
    refine (rmade_any w4 _ _ _ _ _ (a % b) HR4.out HVr.out (by omega)).mono ?_
    rintro e w5 ⟨A5, n5, c5, rfl, hL5, hb5⟩
    rw [HLr.out] at hL5
    rw [HEr.out]
    have PA6 := (PA4.via hb5).alloc (.cells #[.bool (mkN false (a % b)), .slice A5 n5 c5] 24)
    have PB6 := (PB4.via hb5).alloc (.cells #[.bool (mkN false (a % b)), .slice A5 n5 c5] 24)
    have PQ6 := (PQ4.via hb5).alloc (.cells #[.bool (mkN false (a % b)), .slice A5 n5 c5] 24)
    have PR6 := (PR4.via hb5).alloc (.cells #[.bool (mkN false (a % b)), .slice A5 n5 c5] 24)
    have PX6 := (PX4.via hb5).alloc (.cells #[.bool (mkN false (a % b)), .slice A5 n5 c5] 24)
    have HB6 := Lib.hid ((HB4.out.trans (hb5.mono HB4.out.size)).alloc (HB4.out.trans (hb5.mono HB4.out.size)).size (.cells #[.bool (mkN false (a % b)), .slice A5 n5 c5] 24))
    have LB6 := Lib.hid ((LB4.out.via hb5).box (.cells #[.bool (mkN false (a % b)), .slice A5 n5 c5] 24))
    have HL6 := Lib.hid ((HL4.out.via hb5).box (.cells #[.bool (mkN false (a % b)), .slice A5 n5 c5] 24))
    have HM6 := Lib.hid (hL5.box (.cells #[.bool (mkN false (a % b)), .slice A5 n5 c5] 24))
    have PY6 := Pr.new w5 w5.heap.size rfl (.bool (mkN false (a % b))) (.slice A5 n5 c5) 24
    have hlt5 : g3 < w5.heap.size := (PX4.via hb5).lt
    clear PA4 PB4 PQ4 PR4 PX4 HB4 HR4 LB4 HL4 hb5 hL5 a0 a1 b0 b1
    have ⟨a0, a1, _, _, _⟩ := PA6
    have ⟨b0, b1, _, _, _⟩ := PB6
    go_wp2_with fail
    generalize w5.alloc (.cells #[.bool (mkN false (a % b)), .slice A5 n5 c5] 24) = w6 at *
    generalize w5.heap.size = g5 at *
    have ⟨q0, q1, qf0, qf1, ql⟩ := PQ6
    have ⟨r0, r1, rf0, rf1, rl⟩ := PR6
    have ⟨x0, x1, xf0, xf1, xl⟩ := PX6
    have ⟨y0, y1, yf0, yf1, yl⟩ := PY6
    go_region_with
      (first
       | (go_at_call 18; refine (rfrom_m1 _).mono ?_; rintro e ws ⟨As, ns, cs, rfl, hLs, hbs⟩; have Bs := (Below.refl w6.heap.size w6).drew.trans hbs; have PXs := PX6.via Bs; have ⟨xs0, xs1, xsf0, xsf1, xsl⟩ := PXs)
       | (go_at_call 80; refine (HS1.out ws A3 As n3 c3 ns cs (HL6.out.via Bs) hLs).mono ?_; rintro e wt ⟨At, nt, ct, rfl, hLt, hbt⟩; have PXt := PXs.via hbt; have ⟨xt0, xt1, xtf0, xtf1, xtl⟩ := PXt))
    all_goals
      have Bt := Bs.trans (hbt.mono Bs.size)
      have PA7 := (PA6.via Bt).far (h := g3) (by omega) (.bool (mkN true (a / b + 1))) (.slice At nt ct)
      have PB7 := (PB6.via Bt).far (h := g3) (by omega) (.bool (mkN true (a / b + 1))) (.slice At nt ct)
      have PQ7 := (PQ6.via Bt).far (h := g3) (by omega) (.bool (mkN true (a / b + 1))) (.slice At nt ct)
      have PR7 := (PR6.via Bt).far (h := g3) (by omega) (.bool (mkN true (a / b + 1))) (.slice At nt ct)
      have PY7 := (PY6.via Bt).far (h := g3) (by omega) (.bool (mkN true (a / b + 1))) (.slice At nt ct)
      have PX7 := PXt.set (.bool (mkN true (a / b + 1))) (.slice At nt ct)
      have HL7 := Lib.hid (hLt.setP PXt (.bool (mkN true (a / b + 1))) (.slice At nt ct))
      have HM7 := Lib.hid ((HM6.out.via Bt).setP PXt (.bool (mkN true (a / b + 1))) (.slice At nt ct))
      have LB7 := Lib.hid ((LB6.out.via Bt).setP PXt (.bool (mkN true (a / b + 1))) (.slice At nt ct))
      have HB7 := Lib.hid (below_set2 (HB6.out.trans (Bt.mono HB6.out.size)) (g := g3) (by omega) (.bool (mkN true (a / b + 1))) (.slice At nt ct))
      have ⟨y70, y71, _, _, _⟩ := PY7
      have ⟨b70, b71, _, _, _⟩ := PB7
      go_wp2_with fail
      generalize (wt.setCell ⟨g3, 0, none⟩ (.bool (mkN true (a / b + 1)))).setCell ⟨g3, 1, none⟩ (.slice At nt ct) = w7 at *
      refine (HS2.out w7 A5 n5 c5 HM7.out LB7.out).mono ?_
      rintro e w8 ⟨A8, n8, c8, rfl, hL8, hb8⟩
      have PY8 := PY7.via hb8
      have ⟨y80, y81, yf80, yf81, _⟩ := PY8
      have PQ9 := (PQ7.via hb8).far (h := g5) (by omega) (.bool (mkN true (b - a % b))) (.slice A8 n8 c8)
      have PR9 := (PR7.via hb8).far (h := g5) (by omega) (.bool (mkN true (b - a % b))) (.slice A8 n8 c8)
      have PX9 := (PX7.via hb8).far (h := g5) (by omega) (.bool (mkN true (b - a % b))) (.slice A8 n8 c8)
      have PY9 := PY8.set (.bool (mkN true (b - a % b))) (.slice A8 n8 c8)
      have HM9 := Lib.hid (hL8.setP PY8 (.bool (mkN true (b - a % b))) (.slice A8 n8 c8))
      have HL9 := Lib.hid ((HL7.out.via hb8).setP PY8 (.bool (mkN true (b - a % b))) (.slice A8 n8 c8))
      have HB9 := Lib.hid (below_set2 (HB7.out.trans (hb8.mono HB7.out.size)) (g := g5) (by omega) (.bool (mkN true (b - a % b))) (.slice A8 n8 c8))
      go_wp2_with fail
      generalize (w8.setCell ⟨g5, 0, none⟩ (.bool (mkN true (b - a % b)))).setCell ⟨g5, 1, none⟩ (.slice A8 n8 c8) = w9 at *
      have ⟨q90, q91, qf90, qf91, ql9⟩ := PQ9
      have ⟨r90, r91, rf90, rf91, rl9⟩ := PR9
      have ⟨x90, x91, xf90, xf91, xl9⟩ := PX9
      have ⟨y90, y91, yf90, yf91, yl9⟩ := PY9
      go_region
      all_goals
        go_wp2
        refine post_ww Tryz.results49 rfl rfl rfl ((PQ9.set _ _).far (by omega) _ _).drew ((PR9.far (by omega) _ _).set _ _).drew ⟨At, nt, ct, A8, n8, c8, rfl, ?_, ?_, ?_⟩
        · exact ((HL9.out.setP PQ9 _ _).setP (PR9.far (by omega) _ _) _ _).drew
        · exact ((HM9.out.setP PQ9 _ _).setP (PR9.far (by omega) _ _) _ _).drew
        · exact (below_set2 (below_set2 HB9.out (by omega) _ _) (by omega) _ _).drew
end Go.Proofs.YtbplbbkmfbjkfaaGreatDoor

