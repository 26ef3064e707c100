/- Lemmas of several claims. -/
import Derived.Deep.DeepCutAuto
import Derived.Test.YtoigmcggkanncaaGreatDoorFC9
/- Package frac: numeral, Parse. -/
namespace Go.Proofs.YtoigmcggkanncaaGreatDoor
open Go.RowKit

/-- The numbers of a numeral, or none. -/
def RNu (w : World) (o : Option (Int × Int)) (e : Ending) (w' : World) : Prop := match o with
  | none => e = Pan 12 ∧ Below w.heap.size w w'
  | some (p, q) => RFr w p q e w'
set_option maxRecDepth 100000 in
set_option maxHeartbeats 4000000 in
theorem numeral_long (w : World) (l : List UInt8) (hl : 200 < l.length) : Calls Tryz.prog 47 #[.string ⟨l.toArray⟩] w (RNu w none) := by
  have hz := str_size l
  have hi : (200 : Int) < (l.length : Int) := by omega
  clear hl
  have BW : Hid (Below w.heap.size w (w.alloc (.cells #[.bool false, .slice none 0 0, .bool false, .slice none 0 0] 69))) := below_alloc (Below.refl _ _) _
  go_enter Tryz.func47, Tryz.ntmps47
  go_wp2
  refine ⟨rfl, ?_⟩
  unfold RNu
  exact ⟨rfl, BW.out⟩
set_option maxRecDepth 100000 in
set_option maxHeartbeats 4000000 in
theorem numeral_short (w : World) (l : List UInt8) (hl : l.length ≤ 200) : Calls Tryz.prog 47 #[.string ⟨l.toArray⟩] w (RNu w (nml l)) := by
  have hz := str_size l
  have hi : decide ((200 : Int) < (l.length : Int)) = false := decide_eq_false (by omega)
  have hlk := sk_len 45 l
  obtain ⟨o, ho⟩ : ∃ o, nml l = o := ⟨_, rfl⟩
  rw [ho]
  have HO : Hid ((match uns (sk 45 l).2 with
    | some (p, q, []) => some (if (sk 45 l).1 = true then -p else p, q)
    | _ => none) = o) := by
    show _ = _
    rw [← ho]
    unfold nml
    rw [if_neg (by omega)]
    rfl
  clear ho
  have BW : Hid (Below w.heap.size w ((w.alloc (.cells #[.bool false, .slice none 0 0, .bool false, .slice none 0 0] 69)).alloc (.cells #[.string ⟨l.toArray⟩] 97))) := below_alloc (below_alloc (Below.refl _ _) _) _
  have QR := Lib.hid ((Qd.new w w.heap.size rfl (.bool false) (.slice none 0 0) (.bool false) (.slice none 0 0) 69).alloc (.cells #[.string ⟨l.toArray⟩] 97))
  have SB := Lib.hid (Sb.new (w.alloc (.cells #[.bool false, .slice none 0 0, .bool false, .slice none 0 0] 69)) (w.heap.size + 1) (by simp) l 97)
  have hW0 : ((w.alloc (.cells #[.bool false, .slice none 0 0, .bool false, .slice none 0 0] 69)).alloc (.cells #[.string ⟨l.toArray⟩] 97)).heap.size = w.heap.size + 1 + 1 := by simp
  go_enter Tryz.func47, Tryz.ntmps47
  go_upto_region 4 with (fail)
  generalize (w.alloc (.cells #[.bool false, .slice none 0 0, .bool false, .slice none 0 0] 69)).alloc (.cells #[.string ⟨l.toArray⟩] 97) = W0 at *
  have BX : Hid (Bex W0.heap.size (w.heap.size + 1) W0 W0) := Bex.of (Below.refl _ _)
  go_wp2_with fail
  refine (skip_any _ _ 45 l SB.out).mono ?_
  rintro e w1 ⟨rfl, hs, hb⟩
  replace QR := Lib.hid (QR.out.bex hb (by omega))
  replace SB := Lib.hid hs
  replace BX := Lib.hid (BX.out.next hb)
  clear hs hb
  go_wp2_with fail
  refine (unsigned_any _ _ _ SB.out (by omega)).mono ?_
  intro e w2 hr
  cases hu : uns (sk 45 l).2 with
  | none =>
    rw [hu] at hr HO
    obtain ⟨rfl, hb⟩ := hr
    have e : o = none := HO.out.symm
    rw [e]
    have hB : Below w.heap.size w w2 := BW.out.trans ((BX.out.next hb).below (by omega) (by omega))
    unfold Pan RNu
    exact ⟨rfl, rfl, hB⟩
  | some t =>
    obtain ⟨p, q, r⟩ := t
    have HSZ := Lib.hid (uns_sz (Nat.le_trans (sk_len 45 l) hl) hu)
    rw [hu] at hr HO
    clear hu
    obtain ⟨A1, n1, c1, A2, n2, c2, rfl, hL, hM, hs, hb⟩ := hr
    replace QR := Lib.hid (QR.out.bex hb (by omega))
    replace SB := Lib.hid hs
    replace BX := Lib.hid (BX.out.next hb)
    have L1 := Lib.hid hL
    have L2 := Lib.hid hM
    clear hs hb hL hM
    obtain ⟨np, hnp⟩ : ∃ b, decide (p < 0) = b := ⟨_, rfl⟩
    obtain ⟨nq, hnq⟩ : ∃ b, decide (q < 0) = b := ⟨_, rfl⟩
    rw [hnp, hnq]
    have HNp := Lib.hid hnp
    have HNq := Lib.hid hnq
    clear hnp hnq
    go_upto_region 6 with (fail)
    have QF := Lib.hid (Qd.new w2 _ rfl (.bool np) (.slice A1 n1 c1) (.bool nq) (.slice A2 n2 c2) 69)
    replace QR := Lib.hid (QR.out.alloc (.cells #[.bool np, .slice A1 n1 c1, .bool nq, .slice A2 n2 c2] 69))
    replace L1 := Lib.hid (L1.out.box (.cells #[.bool np, .slice A1 n1 c1, .bool nq, .slice A2 n2 c2] 69))
    replace L2 := Lib.hid (L2.out.box (.cells #[.bool np, .slice A1 n1 c1, .bool nq, .slice A2 n2 c2] 69))
    replace SB := Lib.hid (SB.out.via ((Below.refl _ _).alloc (Nat.le_refl _) (.cells #[.bool np, .slice A1 n1 c1, .bool nq, .slice A2 n2 c2] 69)))
    have hgF : W0.heap.size ≤ w2.heap.size := BX.out.size
    replace BX := Lib.hid (BX.out.alloc (.cells #[.bool np, .slice A1 n1 c1, .bool nq, .slice A2 n2 c2] 69))
    generalize w2.heap.size = gF at *
    generalize w2.alloc (.cells #[.bool np, .slice A1 n1 c1, .bool nq, .slice A2 n2 c2] 69) = V0 at *
    have c0 := SB.out.c0
    by_cases hr0 : r = []
    · have e0 : r.isEmpty = true := by simpa using hr0
      have HO1 : Hid (some (if (sk 45 l).1 = true then -p else p, q) = o) := by
        show _ = _
        rw [← HO.out, hr0]
      clear HO hr0
      cases hsg : (sk 45 l).1 with
      | true =>
        have HU : Hid (o = some (-p, q)) := by
          show _ = _
          rw [← HO1.out, if_pos hsg]
        clear HO1
        have HSP := Lib.hid HSZ.out.2.2.1
        have ⟨f0, f1, f2, f3, f4, f5, f6, f7, f8⟩ := QF.out
        go_wp2_with fail
        refine (neg_n2 _ A1 n1 c1 426 p L1.out HSP.out (by omega) HNp.out).mono ?_
        rintro e w3 ⟨A3, n3, c3, rfl, hL, hb⟩
        replace QR := Lib.hid (QR.out.via hb)
        replace L1 := Lib.hid (L1.out.via hb)
        replace L2 := Lib.hid (L2.out.via hb)
        replace QF := Lib.hid (QF.out.via hb)
        replace SB := Lib.hid (SB.out.via hb)
        replace BX := Lib.hid (BX.out.nextB hb)
        have L3 := Lib.hid hL
        clear hb hL
        clear f0 f1 f2 f3 f4 f5 f6 f7 f8
        clear L1
        obtain ⟨mp, hmp⟩ : ∃ b, decide (-p < 0) = b := ⟨_, rfl⟩
        rw [hmp]
        have HMp := Lib.hid hmp
        clear hmp
        have ⟨f0, f1, f2, f3, f4, f5, f6, f7, f8⟩ := QF.out
        go_wp2_with fail
        refine (must_ok _ _ _ _ _).mono ?_
        rintro e w4 ⟨rfl, hb⟩
        replace QR := Lib.hid (QR.out.via hb)
        replace L2 := Lib.hid (L2.out.via hb)
        replace QF := Lib.hid (QF.out.via hb)
        replace L3 := Lib.hid (L3.out.via hb)
        replace SB := Lib.hid (SB.out.via hb)
        replace BX := Lib.hid (BX.out.nextB hb)
        clear hb
        clear f0 f1 f2 f3 f4 f5 f6 f7 f8
        have ⟨f0, f1, f2, f3, f4, f5, f6, f7, f8⟩ := QF.out
        go_upto_region 10 with (fail)
        clear f0 f1 f2 f3 f4 f5 f6 f7 f8 c0
        have QF2 := Lib.hid (QF.out.lo (.bool mp) (.slice A3 n3 c3))
        have QR2 := Lib.hid ((QR.out.far1 (h := gF) (by omega) 0 (.bool mp)).far1 (h := gF) (by omega) 1 (.slice A3 n3 c3))
        have M1 := Lib.hid (L3.out.lo QF.out (.bool mp) (.slice A3 n3 c3))
        have M2 := Lib.hid (L2.out.lo QF.out (.bool mp) (.slice A3 n3 c3))
        have X2 := Lib.hid ((BX.out.setN (k := gF) (by omega) 0 (.bool mp)).setN (k := gF) (by omega) 1 (.slice A3 n3 c3))
        clear QF QR L2 L3 BX SB
        generalize (w4.setCell ⟨gF, 0, none⟩ (.bool mp)).setCell ⟨gF, 1, none⟩ (.slice A3 n3 c3) = V2 at *
        have ⟨f0, f1, f2, f3, f4, f5, f6, f7, f8⟩ := QF2.out
        have ⟨r0, r1, r2, r3, r4, r5, r6, r7, r8⟩ := QR2.out
        go_wp2
        exact post_r1 Tryz.results47 rfl rfl (QR2.out.set (.bool mp) (.slice A3 n3 c3) (.bool nq) (.slice A2 n2 c2)) (by rw [HU.out]; exact ⟨A3, n3, c3, A2, n2, c2, by rw [HMp.out, HNq.out], M1.out.put4 QR2.out _ _ _ _, M2.out.put4 QR2.out _ _ _ _, below_put4 (BW.out.trans (X2.out.below (by omega) (by omega))) (Nat.le_refl _) _ _ _ _⟩)
      | false =>
        have HU : Hid (o = some (p, q)) := by
          show _ = _
          rw [← HO1.out, if_neg (by rw [hsg]; simp)]
        clear HO1
        have ⟨f0, f1, f2, f3, f4, f5, f6, f7, f8⟩ := QF.out
        have ⟨r0, r1, r2, r3, r4, r5, r6, r7, r8⟩ := QR.out
        go_wp2
        exact post_r1 Tryz.results47 rfl rfl (QR.out.set (.bool np) (.slice A1 n1 c1) (.bool nq) (.slice A2 n2 c2)) (by rw [HU.out]; exact ⟨A1, n1, c1, A2, n2, c2, by rw [HNp.out, HNq.out], L1.out.put4 QR.out _ _ _ _, L2.out.put4 QR.out _ _ _ _, below_put4 (BW.out.trans (BX.out.below (by omega) (by omega))) (Nat.le_refl _) _ _ _ _⟩)
    · have e0 : r.isEmpty = false := by simpa using hr0
      have e : o = none := by
        rw [← HO.out]
        cases r with
        | nil => exact absurd rfl hr0
        | cons a t => rfl
      clear HO
      go_wp2
      refine ⟨rfl, ?_⟩
      try rw [e]
      unfold RNu
      exact ⟨rfl, BW.out.trans ((BX.out).below (by omega) (by omega))⟩
end Go.Proofs.YtoigmcggkanncaaGreatDoor

/- Package frac: Parse. -/
namespace Go.Proofs.YtoigmcggkanncaaGreatDoor
open Go.RowKit

/-- What Parse of a text answers. -/
def prE (l : List UInt8) : Int := match nml l with | none => 12 | some (_, q) => if q = 0 then 18 else 0
def prP (l : List UInt8) : Int := match nml l with | none => 0 | some (p, q) => if q = 0 then 0 else p / dvr p q
def prQ (l : List UInt8) : Int := match nml l with | none => 0 | some (p, q) => if q = 0 then 0 else q / dvr p q
theorem numeral_any (w : World) (l : List UInt8) (_ : l.length ≤ 9223372036854775807) : Calls Tryz.prog 47 #[.string ⟨l.toArray⟩] w (RNu w (nml l)) := by
  rcases Nat.lt_or_ge 200 l.length with h | h
  · rw [show nml l = none by unfold nml; rw [if_pos h]]
    exact numeral_long w l h
  · exact numeral_short w l h

set_option maxRecDepth 100000 in
set_option maxHeartbeats 2000000 in
theorem parse1_bad (w : World) (g0 : Nat) (l : List UInt8) (hl : l.length ≤ 9223372036854775807) (hs : Sb w g0 l) (hn : nml l = none) :
    Calls Tryz.prog 46 #[.pointer (some ⟨g0, 0, none⟩)] w (fun e w' => e = Pan 12 ∧ Below w.heap.size w w') := by
  have BW : Hid (Below w.heap.size w (w.alloc (.cells #[.bool false, .slice none 0 0, .bool false, .slice none 0 0] 29))) := below_alloc (Below.refl _ _) _
  have c0 := (hs.via BW.out).c0
  have HN := Lib.hid hn
  clear hs hn
  go_enter Tryz.func46, Tryz.ntmps46
  go_wp2_with fail
  generalize w.alloc (.cells #[.bool false, .slice none 0 0, .bool false, .slice none 0 0] 29) = W0 at *
  have hh := numeral_any W0 l hl
  rw [HN.out] at hh
  refine hh.mono ?_
  rintro e w1 ⟨rfl, hb⟩
  unfold Pan
  exact ⟨rfl, rfl, btr BW.out hb⟩
set_option maxRecDepth 100000 in
set_option maxHeartbeats 2000000 in
theorem parse1_zero (w : World) (g0 : Nat) (l : List UInt8) (hs : Sb w g0 l) (p : Int) (hn : nml l = some (p, 0)) :
    Calls Tryz.prog 46 #[.pointer (some ⟨g0, 0, none⟩)] w (fun e w' => e = Pan 18 ∧ Below w.heap.size w w') := by
  have BW : Hid (Below w.heap.size w (w.alloc (.cells #[.bool false, .slice none 0 0, .bool false, .slice none 0 0] 29))) := below_alloc (Below.refl _ _) _
  have c0 := (hs.via BW.out).c0
  have HN := Lib.hid hn
  have HZ := Lib.hid (nml_sz hn)
  have hl : l.length ≤ 9223372036854775807 := by have := HZ.out.1; omega
  clear hs hn
  go_enter Tryz.func46, Tryz.ntmps46
  go_wp2_with fail
  generalize w.alloc (.cells #[.bool false, .slice none 0 0, .bool false, .slice none 0 0] 29) = W0 at *
  have hh := numeral_any W0 l hl
  rw [HN.out] at hh
  refine hh.mono ?_
  rintro e w1 ⟨A1, n1, c1, A2, n2, c2, rfl, hL, hM, hb⟩
  have L1 := Lib.hid hL
  have L2 := Lib.hid hM
  have BB := Lib.hid (btr BW.out hb)
  obtain ⟨np, hnp⟩ : ∃ b, decide (p < 0) = b := ⟨_, rfl⟩
  obtain ⟨nq, hnq⟩ : ∃ b, decide ((0 : Int) < 0) = b := ⟨_, rfl⟩
  rw [hnp, hnq]
  have HNp := Lib.hid hnp
  have HNq := Lib.hid hnq
  clear hb hL hM hnp hnq
  go_wp2_with fail
  refine (reduced_zero _ A1 A2 n1 n2 c1 c2 426 p 0 L1.out L2.out HZ.out.2.2.1 HZ.out.2.2.2 (by omega) HNp.out HNq.out rfl).mono ?_
  rintro e w2 ⟨rfl, hb⟩
  unfold Pan
  exact ⟨rfl, rfl, btr BB.out hb⟩
set_option maxRecDepth 100000 in
set_option maxHeartbeats 2000000 in
theorem parse1_ok (w : World) (g0 : Nat) (l : List UInt8) (hs : Sb w g0 l) (p q : Int) (hn : nml l = some (p, q)) (hq : 0 < q) :
    Calls Tryz.prog 46 #[.pointer (some ⟨g0, 0, none⟩)] w (RFr w (p / dvr p q) (q / dvr p q)) := by
  have BW : Hid (Below w.heap.size w (w.alloc (.cells #[.bool false, .slice none 0 0, .bool false, .slice none 0 0] 29))) := below_alloc (Below.refl _ _) _
  have QR := Lib.hid (Qd.new w w.heap.size rfl (.bool false) (.slice none 0 0) (.bool false) (.slice none 0 0) 29)
  have c0 := (hs.via BW.out).c0
  have HN := Lib.hid hn
  have HZ := Lib.hid (nml_sz hn)
  have HQ := Lib.hid hq
  have hl : l.length ≤ 9223372036854775807 := by have := HZ.out.1; omega
  clear hs hn hq
  go_enter Tryz.func46, Tryz.ntmps46
  go_wp2_with fail
  generalize w.alloc (.cells #[.bool false, .slice none 0 0, .bool false, .slice none 0 0] 29) = W0 at *
  have hh := numeral_any W0 l hl
  rw [HN.out] at hh
  refine hh.mono ?_
  rintro e w1 ⟨A1, n1, c1, A2, n2, c2, rfl, hL, hM, hb⟩
  have L1 := Lib.hid hL
  have L2 := Lib.hid hM
  replace QR := Lib.hid (QR.out.via hb)
  have BB := Lib.hid (btr BW.out hb)
  obtain ⟨np, hnp⟩ : ∃ b, decide (p < 0) = b := ⟨_, rfl⟩
  obtain ⟨nq, hnq⟩ : ∃ b, decide (q < 0) = b := ⟨_, rfl⟩
  rw [hnp, hnq]
  have HNp := Lib.hid hnp
  have HNq := Lib.hid hnq
  clear hb hL hM hnp hnq hh
  go_wp2_with fail
  refine (reduced_pos _ A1 A2 n1 n2 c1 c2 426 p q L1.out L2.out HZ.out.2.2.1 HZ.out.2.2.2 (by omega) HNp.out HNq.out HQ.out).mono ?_
  rintro e w2 ⟨A5, n5, c5, B5, m5, d5, rfl, hL, hM, hb⟩
  replace QR := Lib.hid (QR.out.via hb)
  obtain ⟨mp, hmp⟩ : ∃ b, decide (p / dvr p q < 0) = b := ⟨_, rfl⟩
  obtain ⟨mq, hmq⟩ : ∃ b, decide (q / dvr p q < 0) = b := ⟨_, rfl⟩
  rw [hmp, hmq]
  have HMp := Lib.hid hmp
  have HMq := Lib.hid hmq
  have L5 := Lib.hid hL
  have M5 := Lib.hid hM
  replace BB := Lib.hid (btr BB.out hb)
  clear hb hL hM hmp hmq
  have ⟨r0, r1, r2, r3, rf0, rf1, rf2, rf3, rl⟩ := QR.out
  go_wp2
  exact post_f1 Tryz.results46 rfl rfl (QR.out.set (.bool mp) (.slice A5 n5 c5) (.bool mq) (.slice B5 m5 d5)) ⟨A5, n5, c5, B5, m5, d5, by rw [HMp.out, HMq.out], L5.out.put4 QR.out _ _ _ _, M5.out.put4 QR.out _ _ _ _, below_put4 BB.out (Nat.le_refl _) _ _ _ _⟩
set_option maxRecDepth 100000 in
set_option maxHeartbeats 2000000 in
theorem fparse_g (w : World) (l : List UInt8) (np nq : Bool) (l1 l2 : List Nat) (err : Int)
    (H : ∀ W g0, Sb W g0 l → Calls Tryz.prog 45 #[.func (.func 46) #[] #[.pointer (some ⟨g0, 0, none⟩)]] W (RG W np l1 nq l2 err)) :
    Calls Tryz.prog 12 #[.string ⟨l.toArray⟩] w (RG w np l1 nq l2 err) := by
  have hmf : ∀ (fn : Fn) (first cap : Array Value) (w : World), (Instr.makeFunc fn first cap).run Tryz.prog w = .ok (.func fn first cap) w := fun _ _ _ _ => rfl
  have HH := Lib.hid H
  clear H
  have BW : Hid (Below w.heap.size w ((w.alloc (.cells #[.string ⟨l.toArray⟩] 9)).alloc (.cells #[.bool false, .slice none 0 0, .bool false, .slice none 0 0] 29))) := below_alloc (below_alloc (Below.refl _ _) _) _
  have SB := Lib.hid ((Sb.new w w.heap.size rfl l 9).via ((Below.refl _ _).alloc (Nat.le_refl _) (.cells #[.bool false, .slice none 0 0, .bool false, .slice none 0 0] 29)))
  have QR := Lib.hid (Qd.new (w.alloc (.cells #[.string ⟨l.toArray⟩] 9)) (w.heap.size + 1) (by simp) (.bool false) (.slice none 0 0) (.bool false) (.slice none 0 0) 29)
  go_enter Tryz.func12, Tryz.ntmps12
  go_wp2_with fail
  generalize (w.alloc (.cells #[.string ⟨l.toArray⟩] 9)).alloc (.cells #[.bool false, .slice none 0 0, .bool false, .slice none 0 0] 29) = W0 at *
  refine (HH.out _ w.heap.size SB.out).mono ?_
  rintro e w1 ⟨A1, n1, c1, B1, m1, d1, rfl, hL, hM, hb⟩
  have Q := Lib.hid (QR.out.via hb)
  have L1 := Lib.hid hL
  have M1 := Lib.hid hM
  have BB := Lib.hid (btr BW.out hb)
  have ⟨q0, q1, q2, q3, f0, f1, f2, f3, ql⟩ := Q.out
  clear hL hM hb
  go_wp2
  exact post_f Tryz.results12 rfl rfl (Q.out.set (.bool np) (.slice A1 n1 c1) (.bool nq) (.slice B1 m1 d1)) ⟨A1, n1, c1, B1, m1, d1, rfl, L1.out.put4 Q.out _ _ _ _, M1.out.put4 Q.out _ _ _ _, below_put4 BB.out (by omega) _ _ _ _⟩
theorem fparse_any (w : World) (l : List UInt8) (hl : l.length ≤ 9223372036854775807) :
    Calls Tryz.prog 12 #[.string ⟨l.toArray⟩] w (RG w (decide (prP l < 0)) (digs (prP l).natAbs) (decide (prQ l < 0)) (digs (prQ l).natAbs) (prE l)) := by
  have hcf : ∀ (u : Value) (W : World), (callFunc 46 (#[] ++ #[u])).run Tryz.prog W = .ok (.enter 46 (#[] ++ #[u])) W := fun u W => by go_simp
  refine fparse_g w l _ _ _ _ _ fun W g0 hs => ?_
  unfold prP prQ prE
  cases hn : nml l with
  | none => exact (attempt_no W _ #[] #[_] 12 (hcf _) (parse1_bad _ g0 l hl (hs.via (wat_below W)) hn)).mono fun _ _ h => rfx_rg h
  | some t =>
    obtain ⟨p, q⟩ := t
    have hz := nml_sz hn
    by_cases hq : q = 0
    · subst hq
      exact (attempt_no W _ #[] #[_] 18 (hcf _) (parse1_zero _ g0 l (hs.via (wat_below W)) p hn)).mono fun _ _ h => rfx_rg h
    · simp only [if_neg hq]
      exact (attempt_ok W _ #[] #[_] _ _ (hcf _) (parse1_ok _ g0 l (hs.via (wat_below W)) p q hn (by omega))).mono fun _ _ h => rfe_rg h
end Go.Proofs.YtoigmcggkanncaaGreatDoor

/- Package frac: decimal, Decimal. -/
namespace Go.Proofs.YtoigmcggkanncaaGreatDoor
open Go.RowKit

theorem ediv_abs {x P : Int} (hP : 0 < P) : (x / P).natAbs ≤ x.natAbs ∧ (x / P + 1).natAbs ≤ x.natAbs + 1 := by
  have h1 := Int.emod_add_mul_ediv x P
  have h2 := Int.emod_nonneg x (show P ≠ 0 by omega)
  have h3 := Int.emod_lt_of_pos x hP
  have h4 : (x / P).natAbs ≤ x.natAbs := by
    rcases Int.lt_or_le x 0 with h | h
    · have h5 : x / P < 0 := Int.ediv_neg_of_neg_of_pos h hP
      have h6 : x ≤ x / P := by
        have h7 : P * (x / P) ≤ 1 * (x / P) := Int.mul_le_mul_of_nonpos_right (by omega) (by omega)
        have h8 : 1 * (x / P) = x / P := Int.one_mul _
        have h9 : x - P < P * (x / P) := by omega
        rcases Int.lt_or_le (x / P) x with hc | hc
        · have ha : P * (x / P) ≤ P * (x - 1) := Int.mul_le_mul_of_nonneg_left (by omega) (by omega)
          have hb : P * (x - 1) = P * x - P := by rw [Int.mul_sub, Int.mul_one]
          have hd : P * x ≤ 1 * x := Int.mul_le_mul_of_nonpos_right (by omega) (by omega)
          omega
        · exact hc
      omega
    · have h5 := Int.ediv_nonneg h (Int.le_of_lt hP)
      have h6 := Int.ediv_le_self P h
      omega
  exact ⟨h4, by omega⟩
theorem rnd_sz {k : Nat} {x P : Int} (hx : Sz k x) (hP : 0 < P) : Sz (k + 1) (rndZ x P) := by
  have h1 := ediv_abs (x := x) hP
  have h2 : (rndZ x P).natAbs ≤ x.natAbs + 1 := by
    unfold rndZ
    split
    · omega
    · split
      · omega
      · exact h1.2
  have h3 : x.natAbs < 4294967296 ^ k := hx
  show (rndZ x P).natAbs < 4294967296 ^ (k + 1)
  have h4 : 4294967296 ^ (k + 1) = 4294967296 ^ k * 4294967296 := Nat.pow_succ ..
  have h5 : 0 < 4294967296 ^ k := Nat.pow_pos (by omega)
  omega
/-- The decimal text of x / P with d digits behind the point. -/
def decT (x P : Int) (d : Nat) : List UInt8 := (if rndZ (x * 10 ^ d) P < 0 then [45] else []) ++ ptd (Lib.decDigits (rndZ (x * 10 ^ d) P).natAbs) d
theorem decd_len {k : Nat} {z : Int} (h : Sz k z) (hk : k ≤ 2000) : (Lib.decDigits z.natAbs).length ≤ 30000 := by
  have h1 := txt_short (v := z.natAbs) (n := k + 1) false (by have := h.len; omega) (by omega)
  unfold txt at h1
  rw [if_neg (by simp), List.nil_append] at h1
  omega
theorem ptd_len {s : List UInt8} {k : Nat} (hs : s.length ≤ 30000) (hk : k ≤ 50) : (ptd s k).length ≤ 40000 := by
  unfold ptd
  split
  · omega
  · unfold pad0
    simp
    omega
theorem str_minus (l : List UInt8) : (⟨#[45]⟩ : ByteArray) ++ ⟨l.toArray⟩ = ⟨(45 :: l).toArray⟩ := by
  apply ByteArray.ext
  simp [ByteArray.data_append]

set_option maxRecDepth 100000 in
set_option maxHeartbeats 4000000 in
theorem decimal_n (w : World) (A B : Option Addr) (n m ca cb k d : Nat) (x P : Int) (hA : Lm w w.heap.size A n ca (digs x.natAbs)) (hB : Lm w w.heap.size B m cb (digs P.natAbs)) (hx : Sz k x) (hP : Sz k P) (hk : k ≤ 1500) (hk1 : 1 ≤ k) (hd : d ≤ 50) (hP0 : 0 < P) (hU : TabU w) {na : Bool} (ha : decide (x < 0) = na) :
    Calls Tryz.prog 51 #[fv na A n ca false B m cb, .int .i64 (d : Int)] w (RSs w ⟨(decT x P d).toArray⟩) := by
  obtain ⟨t, ht⟩ : ∃ t, decT x P d = t := ⟨_, rfl⟩
  rw [ht]
  have HT : Hid ((if rndZ (x * 10 ^ d) P < 0 then [45] else []) ++ ptd (Lib.decDigits (rndZ (x * 10 ^ d) P).natAbs) d = t) := ht
  clear ht
  have k1 : decide ((d : Int) < 0) = false := decide_eq_false (by omega)
  have k2 : decide ((50 : Int) < (d : Int)) = false := decide_eq_false (by omega)
  have HX := Lib.hid hx
  have HP := Lib.hid hP
  have HP0 := Lib.hid hP0
  have HNa := Lib.hid ha
  have HNb : Hid (decide (P < 0) = false) := decide_eq_false (by omega)
  have BW : Hid (Below w.heap.size w (w.alloc (.cells #[.bool na, .slice A n ca, .bool false, .slice B m cb] 69))) := below_alloc (Below.refl _ _) _
  have LA := Lib.hid (hA.via BW.out)
  have LB := Lib.hid (hB.via BW.out)
  have HU := Lib.hid hU
  have QF := Lib.hid (Qd.new w w.heap.size rfl (.bool na) (.slice A n ca) (.bool false) (.slice B m cb) 69)
  clear hA hB hx hP ha hU hP0
  go_enter Tryz.func51, Tryz.ntmps51
  go_wp2_with fail
  generalize w.alloc (.cells #[.bool na, .slice A n ca, .bool false, .slice B m cb] 69) = W0 at *
  have ⟨f0, f1, f2, f3, f4, f5, f6, f7, f8⟩ := QF.out
  have ⟨ff0, ff1, ff2, ff3, ff4, ff5, ff6, ff7, ff8⟩ := QF.out.drewN 1
  (try go_wp2_with fail)
  go_cut [] from 15 to 20 (fun wx => ∃ A5 n5 c5, Qd wx w.heap.size (.bool (decide (x * 10 ^ d < 0))) (.slice A5 n5 c5) (.bool false) (.slice B m cb) ∧ Lm wx wx.heap.size A5 n5 c5 (digs (x * 10 ^ d).natAbs) ∧ Lm wx wx.heap.size B m cb (digs P.natAbs) ∧ TabU wx ∧ Below w.heap.size w wx)
  case first =>
    go_region_with (first
     | (have _t := F0; go_at_call 80; refine (prod_n _ A A0 n n0 ca c0 (k + 126) _ _ (LA.out.via F0) L0 (HX.out.mono (by omega)) ((sz_ten _ (by omega)).mono (by omega)) (by omega) HNa.out rfl).mono ?_; rintro e v1 ⟨A5, n5, c5, rfl, L5, h1⟩; have F1 : Below W0.heap.size W0 v1 := btr F0 h1; have ⟨e0, e1, e2, e3, e4, e5, e6, e7, e8⟩ := QF.out.via F1)
     | (go_at_call 90; refine (power_n _ _ (by omega)).mono ?_; rintro e v0 ⟨A0, n0, c0, rfl, L0, h0⟩; have F0 : Below W0.heap.size W0 v0 := (by first | exact (Below.refl _ _).drew.trans h0 | exact h0); have ⟨d0, d1, d2, d3, d4, d5, d6, d7, d8⟩ := QF.out.via F0)
     | fail)
    all_goals
      go_wp2_with fail
      go_meet
      exact ⟨A5, n5, c5, (QF.out.via F1).lo _ _, L5.lo (QF.out.via F1) _ _, (LB.out.via F1).lo (QF.out.via F1) _ _, HU.out.via (below_set2 (btr BW.out F1) (Nat.le_refl _) _ _), below_set2 (btr BW.out F1) (Nat.le_refl _) _ _⟩
  case rest =>
    obtain ⟨A5, n5, c5, q5, l5, k5, t5, b5⟩ := hcut
    clear QF LA LB BW
    generalize wc = W7 at *
    have HXD : Hid (Sz (k + 126) (x * 10 ^ d)) := HX.out.mul (sz_ten _ (by omega))
    obtain ⟨np, hnp⟩ : ∃ b, decide (x * 10 ^ d < 0) = b := ⟨_, rfl⟩
    rw [hnp] at q5
    have HNp := Lib.hid hnp
    clear hnp
    have QF := Lib.hid q5
    have L5 := Lib.hid l5
    have K5 := Lib.hid k5
    have TU := Lib.hid t5
    have BX := Lib.hid b5
    have ⟨g0, g1, g2, g3, g4, g5, g6, g7, g8⟩ := q5
    clear q5 l5 k5 t5 b5
    go_wp2_with fail
    clear g0 g1 g2 g3 g4 g5 g6 g7 g8
    refine (round_n _ A5 B n5 m c5 cb (k + 126) (x * 10 ^ d) P L5.out K5.out HXD.out (HP.out.mono (by omega)) (by omega) (by omega) HNp.out HP0.out).mono ?_
    have HZ := Lib.hid (rnd_sz HXD.out HP0.out)
    generalize rndZ (x * 10 ^ d) P = z at *
    rintro e w1 ⟨A6, n6, c6, rfl, hL, hb⟩
    have L6 := Lib.hid hL
    replace TU := Lib.hid (TU.out.via hb)
    replace BX := Lib.hid (btr BX.out hb)
    clear hL hb QF L5 K5
    go_wp2_with fail
    refine (text_n _ A6 n6 c6 (k + 127) z L6.out HZ.out (by omega) TU.out rfl).mono ?_
    rintro e w2 ⟨rfl, hb⟩
    replace BX := Lib.hid (btr BX.out hb)
    clear hb L6 TU
    go_wp2_with fail
    refine (musts_ok _ _).mono ?_
    rintro e w3 ⟨rfl, rfl⟩
    go_wp2_with fail
    refine (cut_minus (tx z) _).mono ?_
    have hmt : minus (tx z) = (decide (z < 0), Lib.decDigits z.natAbs) := minus_txt _ _
    rw [hmt]
    rintro e w4 ⟨rfl, rfl⟩
    have hdl := decd_len HZ.out (by omega)
    go_wp2_with fail
    refine (pointed_any _ (Lib.decDigits z.natAbs) d (by omega) (by omega)).mono ?_
    rintro e w5 ⟨rfl, hb⟩
    have hpl := ptd_len hdl hd
    replace BX := Lib.hid (btr BX.out hb)
    clear hb
    generalize ptd (Lib.decDigits z.natAbs) d = T at *
    have hz := str_size T
    by_cases hn : z < 0
    · have hi : decide (z < 0) = true := decide_eq_true hn
      rw [hi]
      have HS : Hid (t = 45 :: T) := by show _ = _; rw [← HT.out, if_pos hn]; rfl
      go_wp2
      go_ret
      exact ⟨by rw [HS.out, ← str_minus]; rfl, BX.out⟩
    · have hi : decide (z < 0) = false := decide_eq_false hn
      rw [hi]
      have HS : Hid (t = T) := by show _ = _; rw [← HT.out, if_neg hn]; rfl
      go_wp2
      go_ret
      exact ⟨by rw [HS.out]; rfl, BX.out⟩
end Go.Proofs.YtoigmcggkanncaaGreatDoor

/- Package frac: Decimal. -/
namespace Go.Proofs.YtoigmcggkanncaaGreatDoor
open Go.RowKit

set_option maxRecDepth 100000 in
set_option maxHeartbeats 2000000 in
theorem decimal1_n (w : World) (gp : Nat) (A B : Option Addr) (n m ca cb k d : Nat) (x P : Int) (hA : Lm w w.heap.size A n ca (digs x.natAbs)) (hB : Lm w w.heap.size B m cb (digs P.natAbs)) (hx : Sz k x) (hP : Sz k P) (hk : k ≤ 1500) (hk1 : 1 ≤ k) (hd : d ≤ 50) (hP0 : 0 < P) (hU : TabU w) {na : Bool} (ha : decide (x < 0) = na) (hc : w.cell? ⟨gp, 0, none⟩ = some (.int .i64 (d : Int))) (hg : gp < w.heap.size) :
    Calls Tryz.prog 50 #[fv na A n ca false B m cb, .pointer (some ⟨gp, 0, none⟩)] w (RSs w ⟨(decT x P d).toArray⟩) := by
  have BW : Hid (Below w.heap.size w (w.alloc (.cells #[.bool na, .slice A n ca, .bool false, .slice B m cb] 69))) := below_alloc (Below.refl _ _) _
  have H := Lib.hid (decimal_n _ A B n m ca cb k d x P (hA.via BW.out) (hB.via BW.out) hx hP hk hk1 hd hP0 (hU.via BW.out) ha)
  have QF := Lib.hid (Qd.new w w.heap.size rfl (.bool na) (.slice A n ca) (.bool false) (.slice B m cb) 69)
  have c0 := (BW.out.cell (p := ⟨gp, 0, none⟩) hg).trans hc
  clear hA hB hx hP hk hk1 hd hP0 hU ha hc hg
  go_enter Tryz.func50, Tryz.ntmps50
  go_wp2_with fail
  generalize w.alloc (.cells #[.bool na, .slice A n ca, .bool false, .slice B m cb] 69) = W0 at *
  have ⟨f0, f1, f2, f3, f4, f5, f6, f7, f8⟩ := QF.out
  go_wp2_with fail
  refine H.out.mono ?_
  rintro e w1 ⟨rfl, hb⟩
  have BB := Lib.hid (btr BW.out hb)
  clear hb
  go_wp2
  go_ret
  exact ⟨rfl, BB.out⟩
set_option maxRecDepth 100000 in
set_option maxHeartbeats 2000000 in
theorem fdecimal_g (w : World) (na da : Bool) (A B : Option Addr) (n m ca cb : Nat) (xs ys : List Nat) (d : Int) (hA : Lm w w.heap.size A n ca xs) (hB : Lm w w.heap.size B m cb ys) (t : ByteArray) (err : Int)
    (H : ∀ W gp, Below w.heap.size w W → W.cell? ⟨gp, 0, none⟩ = some (.int .i64 d) → gp < W.heap.size → Lm W W.heap.size A n ca xs → Lm W W.heap.size B m cb ys → Calls Tryz.prog 49 #[fv na A n ca da B m cb, .func (.func 50) #[] #[.pointer (some ⟨gp, 0, none⟩)]] W (RSE W t err)) :
    Calls Tryz.prog 13 #[fv na A n ca da B m cb, .int .i64 d] w (RSE w t err) := by
  have hmf : ∀ (fn : Fn) (first cap : Array Value) (w : World), (Instr.makeFunc fn first cap).run Tryz.prog w = .ok (.func fn first cap) w := fun _ _ _ _ => rfl
  have HH := Lib.hid H
  have QF := Lib.hid ((Qd.new w w.heap.size rfl (.bool na) (.slice A n ca) (.bool da) (.slice B m cb) 29).alloc (.cells #[.int .i64 d] 3))
  have BW : Hid (Below w.heap.size w ((w.alloc (.cells #[.bool na, .slice A n ca, .bool da, .slice B m cb] 29)).alloc (.cells #[.int .i64 d] 3))) := below_alloc (below_alloc (Below.refl _ _) _) _
  have hc : ((w.alloc (.cells #[.bool na, .slice A n ca, .bool da, .slice B m cb] 29)).alloc (.cells #[.int .i64 d] 3)).cell? ⟨w.heap.size + 1, 0, none⟩ = some (.int .i64 d) := by go_simp
  have hl : w.heap.size + 1 < ((w.alloc (.cells #[.bool na, .slice A n ca, .bool da, .slice B m cb] 29)).alloc (.cells #[.int .i64 d] 3)).heap.size := by simp
  have LA := Lib.hid (hA.via BW.out)
  have LB := Lib.hid (hB.via BW.out)
  clear H hA hB
  go_enter Tryz.func13, Tryz.ntmps13
  go_upto_region 1 with (fail)
  generalize (w.alloc (.cells #[.bool na, .slice A n ca, .bool da, .slice B m cb] 29)).alloc (.cells #[.int .i64 d] 3) = W0 at *
  have ⟨f0, f1, f2, f3, f4, f5, f6, f7, f8⟩ := QF.out
  go_wp2_with fail
  refine (HH.out _ _ BW.out hc hl LA.out LB.out).mono ?_
  rintro e w1 ⟨rfl, hb⟩
  have BB := Lib.hid (btr BW.out hb)
  clear hb
  go_wp2
  go_returns
  exact ⟨rfl, BB.out⟩
theorem fdecimal_n (w : World) (A B : Option Addr) (n m ca cb k d : Nat) (x P : Int) (hA : Lm w w.heap.size A n ca (digs x.natAbs)) (hB : Lm w w.heap.size B m cb (digs P.natAbs)) (hx : Sz k x) (hP : Sz k P) (hk : k ≤ 1500) (hk1 : 1 ≤ k) (hd : d ≤ 50) (hP0 : 0 < P) (hU : TabU w) {na : Bool} (ha : decide (x < 0) = na) (hv : fchk na (digs x.natAbs) false (digs P.natAbs) = 0) :
    Calls Tryz.prog 13 #[fv na A n ca false B m cb, .int .i64 (d : Int)] w (RSE w ⟨(decT x P d).toArray⟩ 0) := by
  have hcf2 : ∀ (u v : Value) (W : World), (callFunc 50 #[u, v]).run Tryz.prog W = .ok (.enter 50 #[u, v]) W := fun u v W => by go_simp
  have hcf3 : ∀ (u v : Value) (W : World), (callFunc 89 (#[] ++ #[u, v])).run Tryz.prog W = .ok (.enter 89 (#[] ++ #[u, v])) W := fun u v W => by go_simp
  exact fdecimal_g w na false A B n m ca cb _ _ _ hA hB _ 0 fun W gp bW hc hl h1 h2 => changesp_g W 50 (.pointer (some ⟨gp, 0, none⟩)) na false A B n m ca cb _ _ h1 h2 _ 0 fun W2 g0 ga b2 qf qa i1 i2 =>
    attempts_ok W2 89 #[] #[_, _] ⟨(decT x P d).toArray⟩ (hcf3 _ _) (changesp_ok (Wai W2) g0 ga 50 (.pointer (some ⟨gp, 0, none⟩)) na false A B n m ca cb _ _ (qf.via (wai_below W2)) (qa.via (wai_below W2)) (i1.via (wai_below W2)) (i2.via (wai_below W2)) hv ⟨(decT x P d).toArray⟩ (fun u W => hcf2 u _ W) fun W3 b3 j1 j2 =>
      have bb : Below W.heap.size W W3 := btr (btr b2 (wai_below W2)) b3
      decimal1_n W3 gp A B n m ca cb k d x P j1 j2 hx hP hk hk1 hd hP0 (((hU.via bW).via bb)) ha ((bb.cell (p := ⟨gp, 0, none⟩) hl).trans hc) (Nat.lt_of_lt_of_le hl bb.size))
end Go.Proofs.YtoigmcggkanncaaGreatDoor

/- Law 02: alive. -/
namespace Go.Proofs.YtoigmcggkanncaaGreatDoor
open Go.RowKit

theorem fw_closed {w : World} {k : Nat} {u v : Int} {z : Bool} {A : Option Addr} {n c : Nat} {B : Option Addr} {m cb : Nat} (X : Fw w k u v z A n c B m cb) {p q : Int} (h : FrV k p q u v) (hv : v ≠ 0) : decide (p < 0) = z ∧ Lm w w.heap.size A n c (digs p.natAbs) ∧ Lm w w.heap.size B m cb (digs q.natAbs) := by
  obtain ⟨x, y, h1, f, h3, h4⟩ := X
  obtain ⟨rfl, rfl⟩ := frv_uniq f h hv hv rfl
  exact ⟨h1, h3, h4⟩
theorem fr_m32 : FrV 2 (-3) 2 (-3) 2 := ⟨by decide, by decide, by decide +kernel, by unfold Sz; decide, by unfold Sz; decide⟩
theorem fr_52 : FrV 2 (5) 2 (5) 2 := ⟨by decide, by decide, by decide +kernel, by unfold Sz; decide, by unfold Sz; decide⟩
theorem fr_m72 : FrV 2 (-7) 2 (-7) 2 := ⟨by decide, by decide, by decide +kernel, by unfold Sz; decide, by unfold Sz; decide⟩
theorem fr_252 : FrV 2 (25) 2 (25) 2 := ⟨by decide, by decide, by decide +kernel, by unfold Sz; decide, by unfold Sz; decide⟩
theorem fr_m12 : FrV 2 (-1) 2 (-1) 2 := ⟨by decide, by decide, by decide +kernel, by unfold Sz; decide, by unfold Sz; decide⟩
theorem fr_23 : FrV 2 (2) 3 (2) 3 := ⟨by decide, by decide, by decide +kernel, by unfold Sz; decide, by unfold Sz; decide⟩
theorem fr_m1000 : FrV 2 (-1) 1000 (-1) 1000 := ⟨by decide, by decide, by decide +kernel, by unfold Sz; decide, by unfold Sz; decide⟩
theorem lpart_c (w : World) (a b : Int) (ha1 : -9223372036854775808 ≤ a) (ha2 : a ≤ 9223372036854775807) (hb1 : 0 < b) (hb2 : b ≤ 9223372036854775807) : Calls Tryz.prog 9 #[.int .i64 a, .int .i64 b] w (RFp w 2 a b) := by
  have h := lpart_w w a b ha1 ha2 (by omega) hb2 (by omega)
  rw [if_neg (by omega), show (b.natAbs : Int) = b by omega] at h
  exact h
theorem al_floor {w : World} {z : Bool} {A : Option Addr} {n c : Nat} {B : Option Addr} {m cb : Nat} (X : Fw w 2 (-3) 2 z A n c B m cb) : Calls Tryz.prog 27 #[fv z A n c false B m cb] w (RN w (-2)) := by
  obtain ⟨h1, h2, h3⟩ := fw_closed X fr_m32 (by decide)
  exact ffloor_n w A B n m c cb 2 (-3) 2 h2 h3 fr_m32.sp fr_m32.sq (by omega) (by omega) h1 (by decide) (h1 ▸ fr_m32.ok)
theorem al_round {w : World} {z : Bool} {A : Option Addr} {n c : Nat} {B : Option Addr} {m cb : Nat} (X : Fw w 2 5 2 z A n c B m cb) : Calls Tryz.prog 29 #[fv z A n c false B m cb] w (RN w 2) := by
  obtain ⟨h1, h2, h3⟩ := fw_closed X fr_52 (by decide)
  have h := fround_n w A B n m c cb 2 5 2 h2 h3 fr_52.sp fr_52.sq (by omega) (by omega) h1 (by decide) (h1 ▸ fr_52.ok)
  rw [show rndZ 5 2 = 2 by decide] at h
  exact h
theorem al_round2 {w : World} {z : Bool} {A : Option Addr} {n c : Nat} {B : Option Addr} {m cb : Nat} (X : Fw w 2 (-7) 2 z A n c B m cb) : Calls Tryz.prog 29 #[fv z A n c false B m cb] w (RN w (-4)) := by
  obtain ⟨h1, h2, h3⟩ := fw_closed X fr_m72 (by decide)
  have h := fround_n w A B n m c cb 2 (-7) 2 h2 h3 fr_m72.sp fr_m72.sq (by omega) (by omega) h1 (by decide) (h1 ▸ fr_m72.ok)
  rw [show rndZ (-7) 2 = -4 by decide] at h
  exact h
theorem al_parse1 (w : World) : Calls Tryz.prog 12 #[.string ⟨#[49, 46, 50, 53, 101, 49]⟩] w (RFw w 2 25 2) := by
  have h := fparse_any w [49, 46, 50, 53, 101, 49] (by decide)
  rw [show prP [49, 46, 50, 53, 101, 49] = 25 by decide +kernel, show prQ [49, 46, 50, 53, 101, 49] = 2 by decide +kernel, show prE [49, 46, 50, 53, 101, 49] = 0 by decide +kernel] at h
  exact h.mono fun e w' hr => rfe_rfw fr_252 hr
theorem al_parse2 (w : World) : Calls Tryz.prog 12 #[.string ⟨#[45, 50, 47, 52]⟩] w (RFw w 2 (-1) 2) := by
  have h := fparse_any w [45, 50, 47, 52] (by decide)
  rw [show prP [45, 50, 47, 52] = -1 by decide +kernel, show prQ [45, 50, 47, 52] = 2 by decide +kernel, show prE [45, 50, 47, 52] = 0 by decide +kernel] at h
  exact h.mono fun e w' hr => rfe_rfw fr_m12 hr
theorem al_dec1 {w : World} {z : Bool} {A : Option Addr} {n c : Nat} {B : Option Addr} {m cb : Nat} (X : Fw w 2 2 3 z A n c B m cb) (hU : TabU w) : Calls Tryz.prog 13 #[fv z A n c false B m cb, .int .i64 3] w (RSE w ⟨#[48, 46, 54, 54, 55]⟩ 0) := by
  obtain ⟨h1, h2, h3⟩ := fw_closed X fr_23 (by decide)
  have h := fdecimal_n w A B n m c cb 2 3 2 3 h2 h3 fr_23.sp fr_23.sq (by omega) (by omega) (by omega) (by decide) hU h1 (h1 ▸ fr_23.ok)
  rw [show decT 2 3 3 = [48, 46, 54, 54, 55] by decide +kernel] at h
  exact h
theorem al_dec2 {w : World} {z : Bool} {A : Option Addr} {n c : Nat} {B : Option Addr} {m cb : Nat} (X : Fw w 2 (-1) 1000 z A n c B m cb) (hU : TabU w) : Calls Tryz.prog 13 #[fv z A n c false B m cb, .int .i64 2] w (RSE w ⟨#[48, 46, 48, 48]⟩ 0) := by
  obtain ⟨h1, h2, h3⟩ := fw_closed X fr_m1000 (by decide)
  have h := fdecimal_n w A B n m c cb 2 2 (-1) 1000 h2 h3 fr_m1000.sp fr_m1000.sq (by omega) (by omega) (by omega) (by decide) hU h1 (h1 ▸ fr_m1000.ok)
  rw [show decT (-1) 1000 2 = [48, 46, 48, 48] by decide +kernel] at h
  exact h
set_option maxRecDepth 100000 in
set_option maxHeartbeats 8000000 in
theorem lalive_w (w : World) (hU : TabU w) : Calls Tryz.prog 16 #[] w (RBw w true) := by
  have BX : Hid (Below w.heap.size w w) := Below.refl _ _
  have TU := Lib.hid hU
  clear hU
  go_enter Tryz.func16, Tryz.ntmps16
  go_wp2_with fail
  refine (of_w _ 6 (-4) (by decide) (by decide) (by decide) (by decide) (by decide)).mono ?_
  rintro e w1 ⟨z1, A1, n1, c1, B1, m1, d1, rfl, hX, hb⟩
  replace BX := Lib.hid (btr BX.out hb)
  replace TU := Lib.hid (TU.out.via hb)
  have X1 := Lib.hid hX
  clear hb hX
  go_upto_region 2 with (fail)
  have Q1 := Lib.hid (Qd.new w1 _ rfl (.bool z1) (.slice A1 n1 c1) (.bool false) (.slice B1 m1 d1) 29)
  replace X1 := Lib.hid (X1.out.alloc (.cells #[.bool z1, .slice A1 n1 c1, .bool false, .slice B1 m1 d1] 29))
  replace BX := Lib.hid (below_alloc BX.out (.cells #[.bool z1, .slice A1 n1 c1, .bool false, .slice B1 m1 d1] 29))
  replace TU := Lib.hid (TU.out.box (.cells #[.bool z1, .slice A1 n1 c1, .bool false, .slice B1 m1 d1] 29))
  generalize w1.heap.size = gQ1 at *
  generalize w1.alloc (.cells #[.bool z1, .slice A1 n1 c1, .bool false, .slice B1 m1 d1] 29) = V1 at *
  go_wp2_with fail
  refine (lpart_c _ 1 2 (by decide) (by decide) (by decide) (by decide)).mono ?_
  rintro e w2 ⟨z2, A2, n2, c2, B2, m2, d2, rfl, hX, hb⟩
  replace X1 := Lib.hid (X1.out.via hb)
  replace Q1 := Lib.hid (Q1.out.via hb)
  replace BX := Lib.hid (btr BX.out hb)
  replace TU := Lib.hid (TU.out.via hb)
  have X2 := Lib.hid hX
  clear hb hX
  go_wp2_with fail
  refine (lpart_c _ 1 3 (by decide) (by decide) (by decide) (by decide)).mono ?_
  rintro e w3 ⟨z3, A3, n3, c3, B3, m3, d3, rfl, hX, hb⟩
  replace X1 := Lib.hid (X1.out.via hb)
  replace Q1 := Lib.hid (Q1.out.via hb)
  replace X2 := Lib.hid (X2.out.via hb)
  replace BX := Lib.hid (btr BX.out hb)
  replace TU := Lib.hid (TU.out.via hb)
  have X3 := Lib.hid hX
  clear hb hX
  go_wp2_with fail
  refine (fadd_w X2.out X3.out (by omega)).mono ?_
  rintro e w4 ⟨z4, A4, n4, c4, B4, m4, d4, rfl, hX, hb⟩
  replace X1 := Lib.hid (X1.out.via hb)
  replace Q1 := Lib.hid (Q1.out.via hb)
  replace X2 := Lib.hid (X2.out.via hb)
  replace X3 := Lib.hid (X3.out.via hb)
  replace BX := Lib.hid (btr BX.out hb)
  replace TU := Lib.hid (TU.out.via hb)
  have X4 := Lib.hid hX
  clear hb hX
  clear X2 X3
  go_upto_region 3 with (fail)
  have Q4 := Lib.hid (Qd.new w4 _ rfl (.bool z4) (.slice A4 n4 c4) (.bool false) (.slice B4 m4 d4) 29)
  replace X1 := Lib.hid (X1.out.alloc (.cells #[.bool z4, .slice A4 n4 c4, .bool false, .slice B4 m4 d4] 29))
  replace Q1 := Lib.hid (Q1.out.alloc (.cells #[.bool z4, .slice A4 n4 c4, .bool false, .slice B4 m4 d4] 29))
  replace X4 := Lib.hid (X4.out.alloc (.cells #[.bool z4, .slice A4 n4 c4, .bool false, .slice B4 m4 d4] 29))
  replace BX := Lib.hid (below_alloc BX.out (.cells #[.bool z4, .slice A4 n4 c4, .bool false, .slice B4 m4 d4] 29))
  replace TU := Lib.hid (TU.out.box (.cells #[.bool z4, .slice A4 n4 c4, .bool false, .slice B4 m4 d4] 29))
  generalize w4.heap.size = gQ4 at *
  generalize w4.alloc (.cells #[.bool z4, .slice A4 n4 c4, .bool false, .slice B4 m4 d4] 29) = V4 at *
  go_wp2_with fail
  refine (lpart_c _ (-3) 2 (by decide) (by decide) (by decide) (by decide)).mono ?_
  rintro e w5 ⟨z5, A5, n5, c5, B5, m5, d5, rfl, hX, hb⟩
  replace X1 := Lib.hid (X1.out.via hb)
  replace Q1 := Lib.hid (Q1.out.via hb)
  replace X4 := Lib.hid (X4.out.via hb)
  replace Q4 := Lib.hid (Q4.out.via hb)
  replace BX := Lib.hid (btr BX.out hb)
  replace TU := Lib.hid (TU.out.via hb)
  have X5 := Lib.hid hX
  clear hb hX
  go_wp2_with fail
  refine (al_floor X5.out).mono ?_
  rintro e w6 ⟨A6, n6, c6, rfl, hL, hb⟩
  replace X1 := Lib.hid (X1.out.via hb)
  replace Q1 := Lib.hid (Q1.out.via hb)
  replace X4 := Lib.hid (X4.out.via hb)
  replace Q4 := Lib.hid (Q4.out.via hb)
  replace X5 := Lib.hid (X5.out.via hb)
  replace BX := Lib.hid (btr BX.out hb)
  replace TU := Lib.hid (TU.out.via hb)
  have L6 := Lib.hid hL
  clear hb hL
  clear X5
  go_upto_region 4 with (fail)
  have P6 := Lib.hid (Pr.new w6 _ rfl (.bool true) (.slice A6 n6 c6) 24)
  replace X1 := Lib.hid (X1.out.alloc (.cells #[.bool true, .slice A6 n6 c6] 24))
  replace Q1 := Lib.hid (Q1.out.alloc (.cells #[.bool true, .slice A6 n6 c6] 24))
  replace X4 := Lib.hid (X4.out.alloc (.cells #[.bool true, .slice A6 n6 c6] 24))
  replace Q4 := Lib.hid (Q4.out.alloc (.cells #[.bool true, .slice A6 n6 c6] 24))
  replace L6 := Lib.hid (L6.out.box (.cells #[.bool true, .slice A6 n6 c6] 24))
  replace BX := Lib.hid (below_alloc BX.out (.cells #[.bool true, .slice A6 n6 c6] 24))
  replace TU := Lib.hid (TU.out.box (.cells #[.bool true, .slice A6 n6 c6] 24))
  generalize w6.heap.size = gP6 at *
  generalize w6.alloc (.cells #[.bool true, .slice A6 n6 c6] 24) = V6 at *
  go_wp2_with fail
  refine (lpart_c _ 5 2 (by decide) (by decide) (by decide) (by decide)).mono ?_
  rintro e w7 ⟨z7, A7, n7, c7, B7, m7, d7, rfl, hX, hb⟩
  replace X1 := Lib.hid (X1.out.via hb)
  replace Q1 := Lib.hid (Q1.out.via hb)
  replace X4 := Lib.hid (X4.out.via hb)
  replace Q4 := Lib.hid (Q4.out.via hb)
  replace L6 := Lib.hid (L6.out.via hb)
  replace P6 := Lib.hid (P6.out.via hb)
  replace BX := Lib.hid (btr BX.out hb)
  replace TU := Lib.hid (TU.out.via hb)
  have X7 := Lib.hid hX
  clear hb hX
  go_wp2_with fail
  refine (al_round X7.out).mono ?_
  rintro e w8 ⟨A8, n8, c8, rfl, hL, hb⟩
  replace X1 := Lib.hid (X1.out.via hb)
  replace Q1 := Lib.hid (Q1.out.via hb)
  replace X4 := Lib.hid (X4.out.via hb)
  replace Q4 := Lib.hid (Q4.out.via hb)
  replace L6 := Lib.hid (L6.out.via hb)
  replace P6 := Lib.hid (P6.out.via hb)
  replace X7 := Lib.hid (X7.out.via hb)
  replace BX := Lib.hid (btr BX.out hb)
  replace TU := Lib.hid (TU.out.via hb)
  have L8 := Lib.hid hL
  clear hb hL
  clear X7
  go_upto_region 5 with (fail)
  have P8 := Lib.hid (Pr.new w8 _ rfl (.bool false) (.slice A8 n8 c8) 24)
  replace X1 := Lib.hid (X1.out.alloc (.cells #[.bool false, .slice A8 n8 c8] 24))
  replace Q1 := Lib.hid (Q1.out.alloc (.cells #[.bool false, .slice A8 n8 c8] 24))
  replace X4 := Lib.hid (X4.out.alloc (.cells #[.bool false, .slice A8 n8 c8] 24))
  replace Q4 := Lib.hid (Q4.out.alloc (.cells #[.bool false, .slice A8 n8 c8] 24))
  replace L6 := Lib.hid (L6.out.box (.cells #[.bool false, .slice A8 n8 c8] 24))
  replace P6 := Lib.hid (P6.out.alloc (.cells #[.bool false, .slice A8 n8 c8] 24))
  replace L8 := Lib.hid (L8.out.box (.cells #[.bool false, .slice A8 n8 c8] 24))
  replace BX := Lib.hid (below_alloc BX.out (.cells #[.bool false, .slice A8 n8 c8] 24))
  replace TU := Lib.hid (TU.out.box (.cells #[.bool false, .slice A8 n8 c8] 24))
  generalize w8.heap.size = gP8 at *
  generalize w8.alloc (.cells #[.bool false, .slice A8 n8 c8] 24) = V8 at *
  go_wp2_with fail
  refine (lpart_c _ (-7) 2 (by decide) (by decide) (by decide) (by decide)).mono ?_
  rintro e w9 ⟨z9, A9, n9, c9, B9, m9, d9, rfl, hX, hb⟩
  replace X1 := Lib.hid (X1.out.via hb)
  replace Q1 := Lib.hid (Q1.out.via hb)
  replace X4 := Lib.hid (X4.out.via hb)
  replace Q4 := Lib.hid (Q4.out.via hb)
  replace L6 := Lib.hid (L6.out.via hb)
  replace P6 := Lib.hid (P6.out.via hb)
  replace L8 := Lib.hid (L8.out.via hb)
  replace P8 := Lib.hid (P8.out.via hb)
  replace BX := Lib.hid (btr BX.out hb)
  replace TU := Lib.hid (TU.out.via hb)
  have X9 := Lib.hid hX
  clear hb hX
  go_wp2_with fail
  refine (al_round2 X9.out).mono ?_
  rintro e w10 ⟨A10, n10, c10, rfl, hL, hb⟩
  replace X1 := Lib.hid (X1.out.via hb)
  replace Q1 := Lib.hid (Q1.out.via hb)
  replace X4 := Lib.hid (X4.out.via hb)
  replace Q4 := Lib.hid (Q4.out.via hb)
  replace L6 := Lib.hid (L6.out.via hb)
  replace P6 := Lib.hid (P6.out.via hb)
  replace L8 := Lib.hid (L8.out.via hb)
  replace P8 := Lib.hid (P8.out.via hb)
  replace X9 := Lib.hid (X9.out.via hb)
  replace BX := Lib.hid (btr BX.out hb)
  replace TU := Lib.hid (TU.out.via hb)
  have L10 := Lib.hid hL
  clear hb hL
  clear X9
  go_upto_region 6 with (fail)
  have P10 := Lib.hid (Pr.new w10 _ rfl (.bool true) (.slice A10 n10 c10) 24)
  replace X1 := Lib.hid (X1.out.alloc (.cells #[.bool true, .slice A10 n10 c10] 24))
  replace Q1 := Lib.hid (Q1.out.alloc (.cells #[.bool true, .slice A10 n10 c10] 24))
  replace X4 := Lib.hid (X4.out.alloc (.cells #[.bool true, .slice A10 n10 c10] 24))
  replace Q4 := Lib.hid (Q4.out.alloc (.cells #[.bool true, .slice A10 n10 c10] 24))
  replace L6 := Lib.hid (L6.out.box (.cells #[.bool true, .slice A10 n10 c10] 24))
  replace P6 := Lib.hid (P6.out.alloc (.cells #[.bool true, .slice A10 n10 c10] 24))
  replace L8 := Lib.hid (L8.out.box (.cells #[.bool true, .slice A10 n10 c10] 24))
  replace P8 := Lib.hid (P8.out.alloc (.cells #[.bool true, .slice A10 n10 c10] 24))
  replace L10 := Lib.hid (L10.out.box (.cells #[.bool true, .slice A10 n10 c10] 24))
  replace BX := Lib.hid (below_alloc BX.out (.cells #[.bool true, .slice A10 n10 c10] 24))
  replace TU := Lib.hid (TU.out.box (.cells #[.bool true, .slice A10 n10 c10] 24))
  generalize w10.heap.size = gP10 at *
  generalize w10.alloc (.cells #[.bool true, .slice A10 n10 c10] 24) = V10 at *
  go_wp2_with fail
  refine (al_parse1 _).mono ?_
  rintro e w11 ⟨z11, A11, n11, c11, B11, m11, d11, rfl, hX, hb⟩
  replace X1 := Lib.hid (X1.out.via hb)
  replace Q1 := Lib.hid (Q1.out.via hb)
  replace X4 := Lib.hid (X4.out.via hb)
  replace Q4 := Lib.hid (Q4.out.via hb)
  replace L6 := Lib.hid (L6.out.via hb)
  replace P6 := Lib.hid (P6.out.via hb)
  replace L8 := Lib.hid (L8.out.via hb)
  replace P8 := Lib.hid (P8.out.via hb)
  replace L10 := Lib.hid (L10.out.via hb)
  replace P10 := Lib.hid (P10.out.via hb)
  replace BX := Lib.hid (btr BX.out hb)
  replace TU := Lib.hid (TU.out.via hb)
  have X11 := Lib.hid hX
  clear hb hX
  go_upto_region 7 with (fail)
  have Q11 := Lib.hid (Qd.new w11 _ rfl (.bool z11) (.slice A11 n11 c11) (.bool false) (.slice B11 m11 d11) 29)
  replace X1 := Lib.hid (X1.out.alloc (.cells #[.bool z11, .slice A11 n11 c11, .bool false, .slice B11 m11 d11] 29))
  replace Q1 := Lib.hid (Q1.out.alloc (.cells #[.bool z11, .slice A11 n11 c11, .bool false, .slice B11 m11 d11] 29))
  replace X4 := Lib.hid (X4.out.alloc (.cells #[.bool z11, .slice A11 n11 c11, .bool false, .slice B11 m11 d11] 29))
  replace Q4 := Lib.hid (Q4.out.alloc (.cells #[.bool z11, .slice A11 n11 c11, .bool false, .slice B11 m11 d11] 29))
  replace L6 := Lib.hid (L6.out.box (.cells #[.bool z11, .slice A11 n11 c11, .bool false, .slice B11 m11 d11] 29))
  replace P6 := Lib.hid (P6.out.alloc (.cells #[.bool z11, .slice A11 n11 c11, .bool false, .slice B11 m11 d11] 29))
  replace L8 := Lib.hid (L8.out.box (.cells #[.bool z11, .slice A11 n11 c11, .bool false, .slice B11 m11 d11] 29))
  replace P8 := Lib.hid (P8.out.alloc (.cells #[.bool z11, .slice A11 n11 c11, .bool false, .slice B11 m11 d11] 29))
  replace L10 := Lib.hid (L10.out.box (.cells #[.bool z11, .slice A11 n11 c11, .bool false, .slice B11 m11 d11] 29))
  replace P10 := Lib.hid (P10.out.alloc (.cells #[.bool z11, .slice A11 n11 c11, .bool false, .slice B11 m11 d11] 29))
  replace X11 := Lib.hid (X11.out.alloc (.cells #[.bool z11, .slice A11 n11 c11, .bool false, .slice B11 m11 d11] 29))
  replace BX := Lib.hid (below_alloc BX.out (.cells #[.bool z11, .slice A11 n11 c11, .bool false, .slice B11 m11 d11] 29))
  replace TU := Lib.hid (TU.out.box (.cells #[.bool z11, .slice A11 n11 c11, .bool false, .slice B11 m11 d11] 29))
  generalize w11.heap.size = gQ11 at *
  generalize w11.alloc (.cells #[.bool z11, .slice A11 n11 c11, .bool false, .slice B11 m11 d11] 29) = V11 at *
  go_wp2_with fail
  refine (al_parse2 _).mono ?_
  rintro e w12 ⟨z12, A12, n12, c12, B12, m12, d12, rfl, hX, hb⟩
  replace X1 := Lib.hid (X1.out.via hb)
  replace Q1 := Lib.hid (Q1.out.via hb)
  replace X4 := Lib.hid (X4.out.via hb)
  replace Q4 := Lib.hid (Q4.out.via hb)
  replace L6 := Lib.hid (L6.out.via hb)
  replace P6 := Lib.hid (P6.out.via hb)
  replace L8 := Lib.hid (L8.out.via hb)
  replace P8 := Lib.hid (P8.out.via hb)
  replace L10 := Lib.hid (L10.out.via hb)
  replace P10 := Lib.hid (P10.out.via hb)
  replace X11 := Lib.hid (X11.out.via hb)
  replace Q11 := Lib.hid (Q11.out.via hb)
  replace BX := Lib.hid (btr BX.out hb)
  replace TU := Lib.hid (TU.out.via hb)
  have X12 := Lib.hid hX
  clear hb hX
  go_upto_region 8 with (fail)
  have Q12 := Lib.hid (Qd.new w12 _ rfl (.bool z12) (.slice A12 n12 c12) (.bool false) (.slice B12 m12 d12) 29)
  replace X1 := Lib.hid (X1.out.alloc (.cells #[.bool z12, .slice A12 n12 c12, .bool false, .slice B12 m12 d12] 29))
  replace Q1 := Lib.hid (Q1.out.alloc (.cells #[.bool z12, .slice A12 n12 c12, .bool false, .slice B12 m12 d12] 29))
  replace X4 := Lib.hid (X4.out.alloc (.cells #[.bool z12, .slice A12 n12 c12, .bool false, .slice B12 m12 d12] 29))
  replace Q4 := Lib.hid (Q4.out.alloc (.cells #[.bool z12, .slice A12 n12 c12, .bool false, .slice B12 m12 d12] 29))
  replace L6 := Lib.hid (L6.out.box (.cells #[.bool z12, .slice A12 n12 c12, .bool false, .slice B12 m12 d12] 29))
  replace P6 := Lib.hid (P6.out.alloc (.cells #[.bool z12, .slice A12 n12 c12, .bool false, .slice B12 m12 d12] 29))
  replace L8 := Lib.hid (L8.out.box (.cells #[.bool z12, .slice A12 n12 c12, .bool false, .slice B12 m12 d12] 29))
  replace P8 := Lib.hid (P8.out.alloc (.cells #[.bool z12, .slice A12 n12 c12, .bool false, .slice B12 m12 d12] 29))
  replace L10 := Lib.hid (L10.out.box (.cells #[.bool z12, .slice A12 n12 c12, .bool false, .slice B12 m12 d12] 29))
  replace P10 := Lib.hid (P10.out.alloc (.cells #[.bool z12, .slice A12 n12 c12, .bool false, .slice B12 m12 d12] 29))
  replace X11 := Lib.hid (X11.out.alloc (.cells #[.bool z12, .slice A12 n12 c12, .bool false, .slice B12 m12 d12] 29))
  replace Q11 := Lib.hid (Q11.out.alloc (.cells #[.bool z12, .slice A12 n12 c12, .bool false, .slice B12 m12 d12] 29))
  replace X12 := Lib.hid (X12.out.alloc (.cells #[.bool z12, .slice A12 n12 c12, .bool false, .slice B12 m12 d12] 29))
  replace BX := Lib.hid (below_alloc BX.out (.cells #[.bool z12, .slice A12 n12 c12, .bool false, .slice B12 m12 d12] 29))
  replace TU := Lib.hid (TU.out.box (.cells #[.bool z12, .slice A12 n12 c12, .bool false, .slice B12 m12 d12] 29))
  generalize w12.heap.size = gQ12 at *
  generalize w12.alloc (.cells #[.bool z12, .slice A12 n12 c12, .bool false, .slice B12 m12 d12] 29) = V12 at *
  go_wp2_with fail
  refine (lpart_c _ 2 3 (by decide) (by decide) (by decide) (by decide)).mono ?_
  rintro e w13 ⟨z13, A13, n13, c13, B13, m13, d13, rfl, hX, hb⟩
  replace X1 := Lib.hid (X1.out.via hb)
  replace Q1 := Lib.hid (Q1.out.via hb)
  replace X4 := Lib.hid (X4.out.via hb)
  replace Q4 := Lib.hid (Q4.out.via hb)
  replace L6 := Lib.hid (L6.out.via hb)
  replace P6 := Lib.hid (P6.out.via hb)
  replace L8 := Lib.hid (L8.out.via hb)
  replace P8 := Lib.hid (P8.out.via hb)
  replace L10 := Lib.hid (L10.out.via hb)
  replace P10 := Lib.hid (P10.out.via hb)
  replace X11 := Lib.hid (X11.out.via hb)
  replace Q11 := Lib.hid (Q11.out.via hb)
  replace X12 := Lib.hid (X12.out.via hb)
  replace Q12 := Lib.hid (Q12.out.via hb)
  replace BX := Lib.hid (btr BX.out hb)
  replace TU := Lib.hid (TU.out.via hb)
  have X13 := Lib.hid hX
  clear hb hX
  go_wp2_with fail
  refine (al_dec1 X13.out TU.out).mono ?_
  rintro e w14 ⟨rfl, hb⟩
  replace X1 := Lib.hid (X1.out.via hb)
  replace Q1 := Lib.hid (Q1.out.via hb)
  replace X4 := Lib.hid (X4.out.via hb)
  replace Q4 := Lib.hid (Q4.out.via hb)
  replace L6 := Lib.hid (L6.out.via hb)
  replace P6 := Lib.hid (P6.out.via hb)
  replace L8 := Lib.hid (L8.out.via hb)
  replace P8 := Lib.hid (P8.out.via hb)
  replace L10 := Lib.hid (L10.out.via hb)
  replace P10 := Lib.hid (P10.out.via hb)
  replace X11 := Lib.hid (X11.out.via hb)
  replace Q11 := Lib.hid (Q11.out.via hb)
  replace X12 := Lib.hid (X12.out.via hb)
  replace Q12 := Lib.hid (Q12.out.via hb)
  replace X13 := Lib.hid (X13.out.via hb)
  replace BX := Lib.hid (btr BX.out hb)
  replace TU := Lib.hid (TU.out.via hb)
  clear hb
  clear X13
  go_wp2_with fail
  refine (lpart_c _ (-1) 1000 (by decide) (by decide) (by decide) (by decide)).mono ?_
  rintro e w15 ⟨z14, A14, n14, c14, B14, m14, d14, rfl, hX, hb⟩
  replace X1 := Lib.hid (X1.out.via hb)
  replace Q1 := Lib.hid (Q1.out.via hb)
  replace X4 := Lib.hid (X4.out.via hb)
  replace Q4 := Lib.hid (Q4.out.via hb)
  replace L6 := Lib.hid (L6.out.via hb)
  replace P6 := Lib.hid (P6.out.via hb)
  replace L8 := Lib.hid (L8.out.via hb)
  replace P8 := Lib.hid (P8.out.via hb)
  replace L10 := Lib.hid (L10.out.via hb)
  replace P10 := Lib.hid (P10.out.via hb)
  replace X11 := Lib.hid (X11.out.via hb)
  replace Q11 := Lib.hid (Q11.out.via hb)
  replace X12 := Lib.hid (X12.out.via hb)
  replace Q12 := Lib.hid (Q12.out.via hb)
  replace BX := Lib.hid (btr BX.out hb)
  replace TU := Lib.hid (TU.out.via hb)
  have X14 := Lib.hid hX
  clear hb hX
  go_wp2_with fail
  refine (al_dec2 X14.out TU.out).mono ?_
  rintro e w16 ⟨rfl, hb⟩
  replace X1 := Lib.hid (X1.out.via hb)
  replace Q1 := Lib.hid (Q1.out.via hb)
  replace X4 := Lib.hid (X4.out.via hb)
  replace Q4 := Lib.hid (Q4.out.via hb)
  replace L6 := Lib.hid (L6.out.via hb)
  replace P6 := Lib.hid (P6.out.via hb)
  replace L8 := Lib.hid (L8.out.via hb)
  replace P8 := Lib.hid (P8.out.via hb)
  replace L10 := Lib.hid (L10.out.via hb)
  replace P10 := Lib.hid (P10.out.via hb)
  replace X11 := Lib.hid (X11.out.via hb)
  replace Q11 := Lib.hid (Q11.out.via hb)
  replace X12 := Lib.hid (X12.out.via hb)
  replace Q12 := Lib.hid (Q12.out.via hb)
  replace X14 := Lib.hid (X14.out.via hb)
  replace BX := Lib.hid (btr BX.out hb)
  replace TU := Lib.hid (TU.out.via hb)
  clear hb
  clear X14
  have ⟨Q1r0, Q1r1, Q1r2, Q1r3, Q1r4, Q1r5, Q1r6, Q1r7, Q1r8⟩ := Q1.out
  go_wp2_with fail
  clear Q1r0 Q1r1 Q1r2 Q1r3 Q1r4 Q1r5 Q1r6 Q1r7 Q1r8
  refine (lsame_w _ 2 _ _ (-3) 2 _ _ _ _ _ _ _ X1.out (by decide) (by decide) (by decide) (by decide) (by decide) (by decide) (by decide)).mono ?_
  rintro e w17 ⟨rfl, hb⟩
  replace X1 := Lib.hid (X1.out.via hb)
  replace Q1 := Lib.hid (Q1.out.via hb)
  replace X4 := Lib.hid (X4.out.via hb)
  replace Q4 := Lib.hid (Q4.out.via hb)
  replace L6 := Lib.hid (L6.out.via hb)
  replace P6 := Lib.hid (P6.out.via hb)
  replace L8 := Lib.hid (L8.out.via hb)
  replace P8 := Lib.hid (P8.out.via hb)
  replace L10 := Lib.hid (L10.out.via hb)
  replace P10 := Lib.hid (P10.out.via hb)
  replace X11 := Lib.hid (X11.out.via hb)
  replace Q11 := Lib.hid (Q11.out.via hb)
  replace X12 := Lib.hid (X12.out.via hb)
  replace Q12 := Lib.hid (Q12.out.via hb)
  replace BX := Lib.hid (btr BX.out hb)
  replace TU := Lib.hid (TU.out.via hb)
  clear hb
  have ⟨Q4r0, Q4r1, Q4r2, Q4r3, Q4r4, Q4r5, Q4r6, Q4r7, Q4r8⟩ := Q4.out
  go_wp2_with fail
  clear Q4r0 Q4r1 Q4r2 Q4r3 Q4r4 Q4r5 Q4r6 Q4r7 Q4r8
  refine (lsame_w _ 5 _ _ (5) 6 _ _ _ _ _ _ _ X4.out (by decide) (by decide) (by decide) (by decide) (by decide) (by decide) (by decide)).mono ?_
  rintro e w18 ⟨rfl, hb⟩
  replace X1 := Lib.hid (X1.out.via hb)
  replace Q1 := Lib.hid (Q1.out.via hb)
  replace X4 := Lib.hid (X4.out.via hb)
  replace Q4 := Lib.hid (Q4.out.via hb)
  replace L6 := Lib.hid (L6.out.via hb)
  replace P6 := Lib.hid (P6.out.via hb)
  replace L8 := Lib.hid (L8.out.via hb)
  replace P8 := Lib.hid (P8.out.via hb)
  replace L10 := Lib.hid (L10.out.via hb)
  replace P10 := Lib.hid (P10.out.via hb)
  replace X11 := Lib.hid (X11.out.via hb)
  replace Q11 := Lib.hid (Q11.out.via hb)
  replace X12 := Lib.hid (X12.out.via hb)
  replace Q12 := Lib.hid (Q12.out.via hb)
  replace BX := Lib.hid (btr BX.out hb)
  replace TU := Lib.hid (TU.out.via hb)
  clear hb
  have ⟨P6r0, P6r1, P6r2, P6r3, P6r4⟩ := P6.out
  go_wp2_with fail
  clear P6r0 P6r1 P6r2 P6r3 P6r4
  refine (lwhole_w _ _ _ _ (-2) L6.out (by decide) (by decide) (by decide)).mono ?_
  rintro e w19 ⟨rfl, hb⟩
  replace X1 := Lib.hid (X1.out.via hb)
  replace Q1 := Lib.hid (Q1.out.via hb)
  replace X4 := Lib.hid (X4.out.via hb)
  replace Q4 := Lib.hid (Q4.out.via hb)
  replace L6 := Lib.hid (L6.out.via hb)
  replace P6 := Lib.hid (P6.out.via hb)
  replace L8 := Lib.hid (L8.out.via hb)
  replace P8 := Lib.hid (P8.out.via hb)
  replace L10 := Lib.hid (L10.out.via hb)
  replace P10 := Lib.hid (P10.out.via hb)
  replace X11 := Lib.hid (X11.out.via hb)
  replace Q11 := Lib.hid (Q11.out.via hb)
  replace X12 := Lib.hid (X12.out.via hb)
  replace Q12 := Lib.hid (Q12.out.via hb)
  replace BX := Lib.hid (btr BX.out hb)
  replace TU := Lib.hid (TU.out.via hb)
  clear hb
  have ⟨P8r0, P8r1, P8r2, P8r3, P8r4⟩ := P8.out
  go_wp2_with fail
  clear P8r0 P8r1 P8r2 P8r3 P8r4
  refine (lwhole_w _ _ _ _ (2) L8.out (by decide) (by decide) (by decide)).mono ?_
  rintro e w20 ⟨rfl, hb⟩
  replace X1 := Lib.hid (X1.out.via hb)
  replace Q1 := Lib.hid (Q1.out.via hb)
  replace X4 := Lib.hid (X4.out.via hb)
  replace Q4 := Lib.hid (Q4.out.via hb)
  replace L6 := Lib.hid (L6.out.via hb)
  replace P6 := Lib.hid (P6.out.via hb)
  replace L8 := Lib.hid (L8.out.via hb)
  replace P8 := Lib.hid (P8.out.via hb)
  replace L10 := Lib.hid (L10.out.via hb)
  replace P10 := Lib.hid (P10.out.via hb)
  replace X11 := Lib.hid (X11.out.via hb)
  replace Q11 := Lib.hid (Q11.out.via hb)
  replace X12 := Lib.hid (X12.out.via hb)
  replace Q12 := Lib.hid (Q12.out.via hb)
  replace BX := Lib.hid (btr BX.out hb)
  replace TU := Lib.hid (TU.out.via hb)
  clear hb
  have ⟨P10r0, P10r1, P10r2, P10r3, P10r4⟩ := P10.out
  go_wp2_with fail
  clear P10r0 P10r1 P10r2 P10r3 P10r4
  refine (lwhole_w _ _ _ _ (-4) L10.out (by decide) (by decide) (by decide)).mono ?_
  rintro e w21 ⟨rfl, hb⟩
  replace X1 := Lib.hid (X1.out.via hb)
  replace Q1 := Lib.hid (Q1.out.via hb)
  replace X4 := Lib.hid (X4.out.via hb)
  replace Q4 := Lib.hid (Q4.out.via hb)
  replace L6 := Lib.hid (L6.out.via hb)
  replace P6 := Lib.hid (P6.out.via hb)
  replace L8 := Lib.hid (L8.out.via hb)
  replace P8 := Lib.hid (P8.out.via hb)
  replace L10 := Lib.hid (L10.out.via hb)
  replace P10 := Lib.hid (P10.out.via hb)
  replace X11 := Lib.hid (X11.out.via hb)
  replace Q11 := Lib.hid (Q11.out.via hb)
  replace X12 := Lib.hid (X12.out.via hb)
  replace Q12 := Lib.hid (Q12.out.via hb)
  replace BX := Lib.hid (btr BX.out hb)
  replace TU := Lib.hid (TU.out.via hb)
  clear hb
  have ⟨Q11r0, Q11r1, Q11r2, Q11r3, Q11r4, Q11r5, Q11r6, Q11r7, Q11r8⟩ := Q11.out
  go_wp2_with fail
  clear Q11r0 Q11r1 Q11r2 Q11r3 Q11r4 Q11r5 Q11r6 Q11r7 Q11r8
  refine (lsame_w _ 2 _ _ (25) 2 _ _ _ _ _ _ _ X11.out (by decide) (by decide) (by decide) (by decide) (by decide) (by decide) (by decide)).mono ?_
  rintro e w22 ⟨rfl, hb⟩
  replace X1 := Lib.hid (X1.out.via hb)
  replace Q1 := Lib.hid (Q1.out.via hb)
  replace X4 := Lib.hid (X4.out.via hb)
  replace Q4 := Lib.hid (Q4.out.via hb)
  replace L6 := Lib.hid (L6.out.via hb)
  replace P6 := Lib.hid (P6.out.via hb)
  replace L8 := Lib.hid (L8.out.via hb)
  replace P8 := Lib.hid (P8.out.via hb)
  replace L10 := Lib.hid (L10.out.via hb)
  replace P10 := Lib.hid (P10.out.via hb)
  replace X11 := Lib.hid (X11.out.via hb)
  replace Q11 := Lib.hid (Q11.out.via hb)
  replace X12 := Lib.hid (X12.out.via hb)
  replace Q12 := Lib.hid (Q12.out.via hb)
  replace BX := Lib.hid (btr BX.out hb)
  replace TU := Lib.hid (TU.out.via hb)
  clear hb
  have ⟨Q12r0, Q12r1, Q12r2, Q12r3, Q12r4, Q12r5, Q12r6, Q12r7, Q12r8⟩ := Q12.out
  go_wp2_with fail
  clear Q12r0 Q12r1 Q12r2 Q12r3 Q12r4 Q12r5 Q12r6 Q12r7 Q12r8
  refine (lsame_w _ 2 _ _ (-1) 2 _ _ _ _ _ _ _ X12.out (by decide) (by decide) (by decide) (by decide) (by decide) (by decide) (by decide)).mono ?_
  rintro e w23 ⟨rfl, hb⟩
  replace X1 := Lib.hid (X1.out.via hb)
  replace Q1 := Lib.hid (Q1.out.via hb)
  replace X4 := Lib.hid (X4.out.via hb)
  replace Q4 := Lib.hid (Q4.out.via hb)
  replace L6 := Lib.hid (L6.out.via hb)
  replace P6 := Lib.hid (P6.out.via hb)
  replace L8 := Lib.hid (L8.out.via hb)
  replace P8 := Lib.hid (P8.out.via hb)
  replace L10 := Lib.hid (L10.out.via hb)
  replace P10 := Lib.hid (P10.out.via hb)
  replace X11 := Lib.hid (X11.out.via hb)
  replace Q11 := Lib.hid (Q11.out.via hb)
  replace X12 := Lib.hid (X12.out.via hb)
  replace Q12 := Lib.hid (Q12.out.via hb)
  replace BX := Lib.hid (btr BX.out hb)
  replace TU := Lib.hid (TU.out.via hb)
  clear hb
  go_wp2
  go_ret
  exact ⟨rfl, BX.out⟩
end Go.Proofs.YtoigmcggkanncaaGreatDoor

