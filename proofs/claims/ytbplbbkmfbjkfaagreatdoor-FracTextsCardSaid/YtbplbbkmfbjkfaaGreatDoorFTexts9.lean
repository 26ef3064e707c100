/- Lemmas of several claims. -/
import Derived.Deep.DeepCutAuto
import Derived.Deep.Light
import Derived.Test.YtbplbbkmfbjkfaaGreatDoorFTexts8
/- Package frac: the reader of numerals: unsigned. -/
namespace Go.Proofs.YtbplbbkmfbjkfaaGreatDoor
open Go.RowKit

theorem str_nil (a : List UInt8) : (⟨a.toArray⟩ : ByteArray) ++ ⟨#[]⟩ = ⟨a.toArray⟩ := by
  apply ByteArray.ext
  simp [ByteArray.data_append]
theorem str_app (a b : List UInt8) : (⟨a.toArray⟩ : ByteArray) ++ ⟨b.toArray⟩ = ⟨(a ++ b).toArray⟩ := by
  apply ByteArray.ext
  simp [ByteArray.data_append]
set_option maxRecDepth 100000 in
set_option maxHeartbeats 4000000 in
theorem unsigned_any (w : World) (g : Nat) (l : List UInt8) (hs : Sb w g l) (hl : l.length ≤ 200) :
    Calls Tryz.prog 35 #[.pointer (some ⟨g, 0, none⟩)] w (RUn w g (uns l)) := by
  have hg := hs.lt
  have hlk := sk_len 47 (dr l)
  have hlm := sk_len 46 (dr l)
  obtain ⟨o, ho⟩ : ∃ o, uns l = o := ⟨_, rfl⟩
  rw [ho]
  have HO := Lib.hid ho
  have QR := Lib.hid (Qd.new w w.heap.size rfl (.bool false) (.slice none 0 0) (.bool false) (.slice none 0 0) 42)
  have BW : Below w.heap.size w (w.alloc (.cells #[.bool false, .slice none 0 0, .bool false, .slice none 0 0] 42)) := below_alloc (Below.refl _ _) _
  have SB := Lib.hid (hs.via BW)
  have BX : Hid (Bex w.heap.size g w _) := Bex.of BW
  clear BW hs ho
  go_enter Tryz.func35, Tryz.ntmps35
  go_wp2_with fail
  generalize w.alloc (.cells #[.bool false, .slice none 0 0, .bool false, .slice none 0 0] 42) = W0 at *
  go_wp2_with fail
  refine (digits_any _ _ l SB.out (by omega)).mono ?_
  intro e w1 hr
  unfold RDg at hr
  by_cases hd1 : dg l = []
  · rw [if_pos hd1] at hr
    obtain ⟨rfl, hb⟩ := hr
    replace BX := Lib.hid (BX.out.next hb)
    unfold Pan
    have e : o = none := by rw [← HO.out]; unfold uns; rw [if_pos hd1]
    rw [e]
    exact ⟨rfl, rfl, BX.out⟩
  · rw [if_neg hd1] at hr
    obtain ⟨rfl, hs, hb⟩ := hr
    replace QR := Lib.hid (QR.out.bex hb (by omega))
    replace SB := Lib.hid hs
    replace BX := Lib.hid (BX.out.next hb)
    clear hs hb
    have HD1 := Lib.hid (dg_all l)
    have hx1 := dgr_len l
    go_wp2_with fail
    refine (skip_any _ _ 47 (dr l) SB.out).mono ?_
    rintro e w2 ⟨rfl, hs, hb⟩
    replace QR := Lib.hid (QR.out.bex hb (by omega))
    replace SB := Lib.hid hs
    replace BX := Lib.hid (BX.out.next hb)
    clear hs hb
    cases hsg : (sk 47 (dr l)).1 with
    | true =>
      have HU : Hid (uns l = if dg (sk 47 (dr l)).2 = [] then none else some ((decV (dg l) : Int), (decV (dg (sk 47 (dr l)).2) : Int), dr (sk 47 (dr l)).2)) := by
        show _ = _
        unfold uns
        rw [if_neg hd1, if_pos hsg]
      go_wp2_with fail
      refine (number_any _ (dg l) HD1.out (by omega)).mono ?_
      rintro e w3 ⟨A1, n1, c1, rfl, hL, hb⟩
      replace QR := Lib.hid (QR.out.via hb)
      replace SB := Lib.hid (SB.out.via hb)
      replace BX := Lib.hid (BX.out.nextB hb)
      have L1 := Lib.hid hL
      clear hb hL
      go_wp2_with fail
      refine (digits_any _ _ (sk 47 (dr l)).2 SB.out (by omega)).mono ?_
      intro e w4 hr
      unfold RDg at hr
      by_cases hd4 : dg (sk 47 (dr l)).2 = []
      · rw [if_pos hd4] at hr
        obtain ⟨rfl, hb⟩ := hr
        replace BX := Lib.hid (BX.out.next hb)
        unfold Pan
        have e : o = none := by rw [← HO.out, HU.out, if_pos hd4]
        rw [e]
        exact ⟨rfl, rfl, BX.out⟩
      · rw [if_neg hd4] at hr
        obtain ⟨rfl, hs, hb⟩ := hr
        replace QR := Lib.hid (QR.out.bex hb (by omega))
        replace L1 := Lib.hid (L1.out.bex SB.out hb)
        replace SB := Lib.hid hs
        replace BX := Lib.hid (BX.out.next hb)
        clear hs hb
        have HD4 := Lib.hid (dg_all (sk 47 (dr l)).2)
        have hx4 := dgr_len (sk 47 (dr l)).2
        go_wp2_with fail
        refine (number_any _ (dg (sk 47 (dr l)).2) HD4.out (by omega)).mono ?_
        rintro e w5 ⟨A2, n2, c2, rfl, hL, hb⟩
        replace QR := Lib.hid (QR.out.via hb)
        replace L1 := Lib.hid (L1.out.via hb)
        replace SB := Lib.hid (SB.out.via hb)
        replace BX := Lib.hid (BX.out.nextB hb)
        have L2 := Lib.hid hL
        clear hb hL
        have HS : Hid (o = some ((decV (dg l) : Int), (decV (dg (sk 47 (dr l)).2) : Int), dr (sk 47 (dr l)).2)) := by
          show _ = _
          rw [← HO.out, HU.out, if_neg hd4]
        clear HO HU
        obtain ⟨np, hnp⟩ : ∃ b, decide ((decV (dg l) : Int) < 0) = b := ⟨_, rfl⟩
        obtain ⟨nq, hnq⟩ : ∃ b, decide ((decV (dg (sk 47 (dr l)).2) : Int) < 0) = b := ⟨_, rfl⟩
        rw [hnp, hnq]
        have HNp := Lib.hid hnp
        have HNq := Lib.hid hnq
        clear hnp hnq
        have ⟨r0, r1, r2, r3, r4, r5, r6, r7, r8⟩ := QR.out
        go_wp2
        exact post_r1 Tryz.results35 rfl rfl (QR.out.set (.bool np) (.slice A1 n1 c1) (.bool nq) (.slice A2 n2 c2)) (by rw [HS.out]; exact ⟨A1, n1, c1, A2, n2, c2, by rw [HNp.out, HNq.out], L1.out.put4 QR.out _ _ _ _, L2.out.put4 QR.out _ _ _ _, SB.out.put4 (by omega) _ _ _ _, BX.out.put4 (Nat.le_refl _) _ _ _ _⟩)
    | false =>
      have hsk : (sk 47 (dr l)).2 = dr l := sk_no hsg
      rw [hsk] at SB
      have HM := Lib.hid hsg
      clear hsg
      go_wp2_with fail
      refine (skip_any _ _ 46 (dr l) SB.out).mono ?_
      rintro e w3 ⟨rfl, hs, hb⟩
      replace QR := Lib.hid (QR.out.bex hb (by omega))
      replace SB := Lib.hid hs
      replace BX := Lib.hid (BX.out.next hb)
      clear hs hb
      cases hsg : (sk 46 (dr l)).1 with
      | true =>
        have HU : Hid (uns l = if dg (sk 46 (dr l)).2 = [] then none else tl (decV (dg l ++ dg (sk 46 (dr l)).2) : Int) (10 ^ (dg (sk 46 (dr l)).2).length) (dr (sk 46 (dr l)).2)) := by
          show _ = _
          unfold uns
          rw [if_neg hd1, if_neg (by rw [HM.out]; simp), if_pos hsg]
        go_wp2_with fail
        refine (digits_any _ _ (sk 46 (dr l)).2 SB.out (by omega)).mono ?_
        intro e w4 hr
        unfold RDg at hr
        by_cases hd4 : dg (sk 46 (dr l)).2 = []
        · rw [if_pos hd4] at hr
          obtain ⟨rfl, hb⟩ := hr
          replace BX := Lib.hid (BX.out.next hb)
          unfold Pan
          have e : o = none := by rw [← HO.out, HU.out, if_pos hd4]
          rw [e]
          exact ⟨rfl, rfl, BX.out⟩
        · rw [if_neg hd4] at hr
          obtain ⟨rfl, hs, hb⟩ := hr
          replace QR := Lib.hid (QR.out.bex hb (by omega))
          replace SB := Lib.hid hs
          replace BX := Lib.hid (BX.out.next hb)
          clear hs hb
          have HD4 := Lib.hid (dg_all (sk 46 (dr l)).2)
          have hx4 := dgr_len (sk 46 (dr l)).2
          replace HO : Hid (tl (decV (dg l ++ dg (sk 46 (dr l)).2) : Int) (10 ^ (dg (sk 46 (dr l)).2).length) (dr (sk 46 (dr l)).2) = o) := by
            show _ = _
            rw [← HO.out, HU.out, if_neg hd4]
          clear HU
          have HDT : Hid ((dg l ++ dg (sk 46 (dr l)).2).all isDig = true) := by
            show _ = _
            rw [List.all_append, HD1.out, HD4.out]
            rfl
          generalize dg (sk 46 (dr l)).2 = T at *
          generalize dr (sk 46 (dr l)).2 = U at *
          generalize dg l = D at *
          go_wp2_with fail
          try rw [str_app]
          refine (number_any _ (D ++ T) HDT.out (by rw [List.length_append]; omega)).mono ?_
          rintro e w5 ⟨A1, n1, c1, rfl, hL, hb⟩
          replace QR := Lib.hid (QR.out.via hb)
          replace SB := Lib.hid (SB.out.via hb)
          replace BX := Lib.hid (BX.out.nextB hb)
          have L1 := Lib.hid hL
          clear hb hL
          go_wp2_with fail
          refine (power_n _ T.length (by omega)).mono ?_
          rintro e w6 ⟨A2, n2, c2, rfl, hL, hb⟩
          replace QR := Lib.hid (QR.out.via hb)
          replace L1 := Lib.hid (L1.out.via hb)
          replace SB := Lib.hid (SB.out.via hb)
          replace BX := Lib.hid (BX.out.nextB hb)
          have L2 := Lib.hid hL
          clear hb hL
          have HSp : Hid (Sz 300 (decV (D ++ T) : Int)) := (sz_dec HDT.out (by rw [List.length_append]; omega)).mono (by omega)
          have HSq : Hid (Sz 300 ((10 : Int) ^ T.length)) := (sz_ten _ (by omega)).mono (by omega)
          obtain ⟨p, hp⟩ : ∃ p, (decV (D ++ T) : Int) = p := ⟨_, rfl⟩
          obtain ⟨q, hq⟩ : ∃ q, ((10 : Int) ^ T.length) = q := ⟨_, rfl⟩
          rw [hp] at HO HSp L1
          rw [hq] at HO HSq L2
          rw [hp, hq]
          clear hp hq
          obtain ⟨np, hnp⟩ : ∃ b, decide (p < 0) = b := ⟨_, rfl⟩
          obtain ⟨nq, hnq⟩ : ∃ b, decide (q < 0) = b := ⟨_, rfl⟩
          rw [hnp, hnq]
          have HNp := Lib.hid hnp
          have HNq := Lib.hid hnq
          clear hnp hnq
          obtain ⟨R, hR⟩ : ∃ R, U = R := ⟨_, rfl⟩
          rw [hR] at HO SB
          have hRl : R.length ≤ 200 := by rw [← hR]; omega
          clear hR
          go_upto_region 8 with (fail)
          have hrF := QR.out.lt
          have QF := Lib.hid (Qd.new w6 _ rfl (.bool np) (.slice A1 n1 c1) (.bool nq) (.slice A2 n2 c2) 42)
          replace QR := Lib.hid (QR.out.alloc (.cells #[.bool np, .slice A1 n1 c1, .bool nq, .slice A2 n2 c2] 42))
          replace L1 := Lib.hid (L1.out.box (.cells #[.bool np, .slice A1 n1 c1, .bool nq, .slice A2 n2 c2] 42))
          replace L2 := Lib.hid (L2.out.box (.cells #[.bool np, .slice A1 n1 c1, .bool nq, .slice A2 n2 c2] 42))
          replace SB := Lib.hid (SB.out.via ((Below.refl _ _).alloc (Nat.le_refl _) (.cells #[.bool np, .slice A1 n1 c1, .bool nq, .slice A2 n2 c2] 42)))
          have hgF : w.heap.size ≤ w6.heap.size := BX.out.size
          replace BX := Lib.hid (BX.out.alloc (.cells #[.bool np, .slice A1 n1 c1, .bool nq, .slice A2 n2 c2] 42))
          generalize w6.heap.size = gF at *
          generalize w6.alloc (.cells #[.bool np, .slice A1 n1 c1, .bool nq, .slice A2 n2 c2] 42) = V0 at *
          go_wp2_with fail
          refine (skip_any _ _ 101 R SB.out).mono ?_
          rintro e w7 ⟨rfl, hs, hb⟩
          replace QR := Lib.hid (QR.out.bex hb (by omega))
          replace L1 := Lib.hid (L1.out.bex SB.out hb)
          replace L2 := Lib.hid (L2.out.bex SB.out hb)
          replace QF := Lib.hid (QF.out.bex hb (by omega))
          replace SB := Lib.hid hs
          replace BX := Lib.hid (BX.out.next hb)
          clear hs hb
          have hlr := sk_len 101 R
          cases hse : (sk 101 R).1 with
          | true =>
            have HU : Hid (tl p q R = scl p q (sk 101 R).2) := by
              show _ = _
              unfold tl
              rw [if_pos hse]
            have hO := HU.out.symm.trans HO.out
            clear HO HU
            have ⟨f0, f1, f2, f3, f4, f5, f6, f7, f8⟩ := QF.out
            go_wp2_with fail
            refine (scaled_any _ g _ A1 A2 n1 n2 c1 c2 p q SB.out (by omega) L1.out L2.out HSp.out HSq.out HNp.out HNq.out).mono ?_
            intro e v1 hr
            rw [hO] at hr
            clear hO
            cases o with
            | none =>
              obtain ⟨rfl, hb⟩ := hr
              unfold Pan
              exact ⟨rfl, rfl, BX.out.next hb⟩
            | some t =>
              obtain ⟨P, Q, r⟩ := t
              obtain ⟨A3, n3, c3, A4, n4, c4, rfl, hL3, hL4, hs, hb⟩ := hr
              clear f0 f1 f2 f3 f4 f5 f6 f7 f8
              clear L1 L2
              replace QR := Lib.hid (QR.out.bex hb (by omega))
              replace QF := Lib.hid (QF.out.bex hb (by omega))
              replace SB := Lib.hid hs
              replace BX := Lib.hid (BX.out.next hb)
              have L1 := Lib.hid hL3
              have L2 := Lib.hid hL4
              clear hs hb hL3 hL4
              obtain ⟨mp, hmp⟩ : ∃ b, decide (P < 0) = b := ⟨_, rfl⟩
              obtain ⟨mq, hmq⟩ : ∃ b, decide (Q < 0) = b := ⟨_, rfl⟩
              rw [hmp, hmq]
              have HMp := Lib.hid hmp
              have HMq := Lib.hid hmq
              clear hmp hmq
              have ⟨f0, f1, f2, f3, f4, f5, f6, f7, f8⟩ := QF.out
              go_upto_region 10 with (fail)
              clear f0 f1 f2 f3 f4 f5 f6 f7 f8
              rw [pt4_eq]
              have QF2 := Lib.hid (QF.out.set (.bool mp) (.slice A3 n3 c3) (.bool mq) (.slice A4 n4 c4))
              have QR2 := Lib.hid (QR.out.far (h := gF) (by omega) (.bool mp) (.slice A3 n3 c3) (.bool mq) (.slice A4 n4 c4))
              have M1 := Lib.hid (L1.out.put4 QF.out (.bool mp) (.slice A3 n3 c3) (.bool mq) (.slice A4 n4 c4))
              have M2 := Lib.hid (L2.out.put4 QF.out (.bool mp) (.slice A3 n3 c3) (.bool mq) (.slice A4 n4 c4))
              have S2 := Lib.hid (SB.out.put4 (h := gF) (by omega) (.bool mp) (.slice A3 n3 c3) (.bool mq) (.slice A4 n4 c4))
              have X2 := Lib.hid (BX.out.put4 (k := gF) (by omega) (.bool mp) (.slice A3 n3 c3) (.bool mq) (.slice A4 n4 c4))
              clear QF QR L1 L2 SB BX
              generalize put4 v1 gF (.bool mp) (.slice A3 n3 c3) (.bool mq) (.slice A4 n4 c4) = V2 at *
              have ⟨f0, f1, f2, f3, f4, f5, f6, f7, f8⟩ := QF2.out
              have ⟨r0, r1, r2, r3, r4, r5, r6, r7, r8⟩ := QR2.out
              go_wp2
              exact post_r1 Tryz.results35 rfl rfl (QR2.out.set (.bool mp) (.slice A3 n3 c3) (.bool mq) (.slice A4 n4 c4)) ⟨A3, n3, c3, A4, n4, c4, by rw [HMp.out, HMq.out], M1.out.put4 QR2.out _ _ _ _, M2.out.put4 QR2.out _ _ _ _, S2.out.put4 (by omega) _ _ _ _, X2.out.put4 (by omega) _ _ _ _⟩
          | false =>
            have HU : Hid (o = some (p, q, (sk 101 R).2)) := by
              show _ = _
              rw [← HO.out]
              unfold tl
              rw [if_neg (by rw [hse]; simp)]
            clear HO
            have ⟨f0, f1, f2, f3, f4, f5, f6, f7, f8⟩ := QF.out
            have ⟨r0, r1, r2, r3, r4, r5, r6, r7, r8⟩ := QR.out
            go_wp2
            exact post_r1 Tryz.results35 rfl rfl (QR.out.set (.bool np) (.slice A1 n1 c1) (.bool nq) (.slice A2 n2 c2)) (by rw [HU.out]; exact ⟨A1, n1, c1, A2, n2, c2, by rw [HNp.out, HNq.out], L1.out.put4 QR.out _ _ _ _, L2.out.put4 QR.out _ _ _ _, SB.out.put4 (by omega) _ _ _ _, BX.out.put4 (by omega) _ _ _ _⟩)
      | false =>
        have HU : uns l = tl (decV (dg l ++ []) : Int) (10 ^ ([] : List UInt8).length) (sk 46 (dr l)).2 := by
          unfold uns
          rw [if_neg hd1, if_neg (by rw [HM.out]; simp), if_neg (by rw [hsg]; simp)]
        rw [List.append_nil] at HU
        have HO2 : Hid (tl (decV (dg l) : Int) (10 ^ 0) (sk 46 (dr l)).2 = o) := HU.symm.trans HO.out
        clear HO HU
        have HO := HO2
        clear HO2
        have HDT := Lib.hid HD1.out
        generalize (sk 46 (dr l)).2 = U at *
        generalize dg l = D at *
        go_wp2_with fail
        rw [str_nil]
        refine (number_any _ D HDT.out (by omega)).mono ?_
        rintro e w4 ⟨A1, n1, c1, rfl, hL, hb⟩
        replace QR := Lib.hid (QR.out.via hb)
        replace SB := Lib.hid (SB.out.via hb)
        replace BX := Lib.hid (BX.out.nextB hb)
        have L1 := Lib.hid hL
        clear hb hL
        go_wp2_with fail
        refine ((show Calls Tryz.prog 59 #[.int .i64 0] _ (RVz _ ((10 : Int) ^ 0)) from power_n _ 0 (by omega))).mono ?_
        rintro e w5 ⟨A2, n2, c2, rfl, hL, hb⟩
        replace QR := Lib.hid (QR.out.via hb)
        replace L1 := Lib.hid (L1.out.via hb)
        replace SB := Lib.hid (SB.out.via hb)
        replace BX := Lib.hid (BX.out.nextB hb)
        have L2 := Lib.hid hL
        clear hb hL
        have HSp : Hid (Sz 300 (decV D : Int)) := (sz_dec HDT.out (by omega)).mono (by omega)
        have HSq : Hid (Sz 300 ((10 : Int) ^ 0)) := (sz_ten _ (by omega)).mono (by omega)
        obtain ⟨p, hp⟩ : ∃ p, (decV D : Int) = p := ⟨_, rfl⟩
        obtain ⟨q, hq⟩ : ∃ q, ((10 : Int) ^ 0) = q := ⟨_, rfl⟩
        rw [hp] at HO HSp L1
        rw [hq] at HO HSq L2
        rw [hp, hq]
        clear hp hq
        obtain ⟨np, hnp⟩ : ∃ b, decide (p < 0) = b := ⟨_, rfl⟩
        obtain ⟨nq, hnq⟩ : ∃ b, decide (q < 0) = b := ⟨_, rfl⟩
        rw [hnp, hnq]
        have HNp := Lib.hid hnp
        have HNq := Lib.hid hnq
        clear hnp hnq
        obtain ⟨R, hR⟩ : ∃ R, U = R := ⟨_, rfl⟩
        rw [hR] at HO SB
        have hRl : R.length ≤ 200 := by rw [← hR]; omega
        clear hR
        go_upto_region 8 with (fail)
        have hrF := QR.out.lt
        have QF := Lib.hid (Qd.new w5 _ rfl (.bool np) (.slice A1 n1 c1) (.bool nq) (.slice A2 n2 c2) 42)
        replace QR := Lib.hid (QR.out.alloc (.cells #[.bool np, .slice A1 n1 c1, .bool nq, .slice A2 n2 c2] 42))
        replace L1 := Lib.hid (L1.out.box (.cells #[.bool np, .slice A1 n1 c1, .bool nq, .slice A2 n2 c2] 42))
        replace L2 := Lib.hid (L2.out.box (.cells #[.bool np, .slice A1 n1 c1, .bool nq, .slice A2 n2 c2] 42))
        replace SB := Lib.hid (SB.out.via ((Below.refl _ _).alloc (Nat.le_refl _) (.cells #[.bool np, .slice A1 n1 c1, .bool nq, .slice A2 n2 c2] 42)))
        have hgF : w.heap.size ≤ w5.heap.size := BX.out.size
        replace BX := Lib.hid (BX.out.alloc (.cells #[.bool np, .slice A1 n1 c1, .bool nq, .slice A2 n2 c2] 42))
        generalize w5.heap.size = gF at *
        generalize w5.alloc (.cells #[.bool np, .slice A1 n1 c1, .bool nq, .slice A2 n2 c2] 42) = V0 at *
        go_wp2_with fail
        refine (skip_any _ _ 101 R SB.out).mono ?_
        rintro e w6 ⟨rfl, hs, hb⟩
        replace QR := Lib.hid (QR.out.bex hb (by omega))
        replace L1 := Lib.hid (L1.out.bex SB.out hb)
        replace L2 := Lib.hid (L2.out.bex SB.out hb)
        replace QF := Lib.hid (QF.out.bex hb (by omega))
        replace SB := Lib.hid hs
        replace BX := Lib.hid (BX.out.next hb)
        clear hs hb
        have hlr := sk_len 101 R
        cases hse : (sk 101 R).1 with
        | true =>
          have HU : Hid (tl p q R = scl p q (sk 101 R).2) := by
            show _ = _
            unfold tl
            rw [if_pos hse]
          have hO := HU.out.symm.trans HO.out
          clear HO HU
          have ⟨f0, f1, f2, f3, f4, f5, f6, f7, f8⟩ := QF.out
          go_wp2_with fail
          refine (scaled_any _ g _ A1 A2 n1 n2 c1 c2 p q SB.out (by omega) L1.out L2.out HSp.out HSq.out HNp.out HNq.out).mono ?_
          intro e v1 hr
          rw [hO] at hr
          clear hO
          cases o with
          | none =>
            obtain ⟨rfl, hb⟩ := hr
            unfold Pan
            exact ⟨rfl, rfl, BX.out.next hb⟩
          | some t =>
            obtain ⟨P, Q, r⟩ := t
            obtain ⟨A3, n3, c3, A4, n4, c4, rfl, hL3, hL4, hs, hb⟩ := hr
            clear f0 f1 f2 f3 f4 f5 f6 f7 f8
            clear L1 L2
            replace QR := Lib.hid (QR.out.bex hb (by omega))
            replace QF := Lib.hid (QF.out.bex hb (by omega))
            replace SB := Lib.hid hs
            replace BX := Lib.hid (BX.out.next hb)
            have L1 := Lib.hid hL3
            have L2 := Lib.hid hL4
            clear hs hb hL3 hL4
            obtain ⟨mp, hmp⟩ : ∃ b, decide (P < 0) = b := ⟨_, rfl⟩
            obtain ⟨mq, hmq⟩ : ∃ b, decide (Q < 0) = b := ⟨_, rfl⟩
            rw [hmp, hmq]
            have HMp := Lib.hid hmp
            have HMq := Lib.hid hmq
            clear hmp hmq
            have ⟨f0, f1, f2, f3, f4, f5, f6, f7, f8⟩ := QF.out
            go_upto_region 10 with (fail)
            clear f0 f1 f2 f3 f4 f5 f6 f7 f8
            rw [pt4_eq]
            have QF2 := Lib.hid (QF.out.set (.bool mp) (.slice A3 n3 c3) (.bool mq) (.slice A4 n4 c4))
            have QR2 := Lib.hid (QR.out.far (h := gF) (by omega) (.bool mp) (.slice A3 n3 c3) (.bool mq) (.slice A4 n4 c4))
            have M1 := Lib.hid (L1.out.put4 QF.out (.bool mp) (.slice A3 n3 c3) (.bool mq) (.slice A4 n4 c4))
            have M2 := Lib.hid (L2.out.put4 QF.out (.bool mp) (.slice A3 n3 c3) (.bool mq) (.slice A4 n4 c4))
            have S2 := Lib.hid (SB.out.put4 (h := gF) (by omega) (.bool mp) (.slice A3 n3 c3) (.bool mq) (.slice A4 n4 c4))
            have X2 := Lib.hid (BX.out.put4 (k := gF) (by omega) (.bool mp) (.slice A3 n3 c3) (.bool mq) (.slice A4 n4 c4))
            clear QF QR L1 L2 SB BX
            generalize put4 v1 gF (.bool mp) (.slice A3 n3 c3) (.bool mq) (.slice A4 n4 c4) = V2 at *
            have ⟨f0, f1, f2, f3, f4, f5, f6, f7, f8⟩ := QF2.out
            have ⟨r0, r1, r2, r3, r4, r5, r6, r7, r8⟩ := QR2.out
            go_wp2
            exact post_r1 Tryz.results35 rfl rfl (QR2.out.set (.bool mp) (.slice A3 n3 c3) (.bool mq) (.slice A4 n4 c4)) ⟨A3, n3, c3, A4, n4, c4, by rw [HMp.out, HMq.out], M1.out.put4 QR2.out _ _ _ _, M2.out.put4 QR2.out _ _ _ _, S2.out.put4 (by omega) _ _ _ _, X2.out.put4 (by omega) _ _ _ _⟩
        | false =>
          have HU : Hid (o = some (p, q, (sk 101 R).2)) := by
            show _ = _
            rw [← HO.out]
            unfold tl
            rw [if_neg (by rw [hse]; simp)]
          clear HO
          have ⟨f0, f1, f2, f3, f4, f5, f6, f7, f8⟩ := QF.out
          have ⟨r0, r1, r2, r3, r4, r5, r6, r7, r8⟩ := QR.out
          go_wp2
          exact post_r1 Tryz.results35 rfl rfl (QR.out.set (.bool np) (.slice A1 n1 c1) (.bool nq) (.slice A2 n2 c2)) (by rw [HU.out]; exact ⟨A1, n1, c1, A2, n2, c2, by rw [HNp.out, HNq.out], L1.out.put4 QR.out _ _ _ _, L2.out.put4 QR.out _ _ _ _, SB.out.put4 (by omega) _ _ _ _, BX.out.put4 (by omega) _ _ _ _⟩)
end Go.Proofs.YtbplbbkmfbjkfaaGreatDoor

/- Package frac: numeral, Parse. -/
namespace Go.Proofs.YtbplbbkmfbjkfaaGreatDoor
open Go.RowKit

/-- The numbers of a numeral, or none. -/
def RNu (w : World) (o : Option (Int × Int)) (e : Ending) (w' : World) : Prop := match o with
  | none => e = Pan 12 ∧ Below w.heap.size w w'
  | some (p, q) => RFr w p q e w'
set_option maxRecDepth 100000 in
set_option maxHeartbeats 4000000 in
theorem numeral_long (w : World) (l : List UInt8) (hl : 200 < l.length) : Calls Tryz.prog 14 #[.string ⟨l.toArray⟩] w (RNu w none) := by
  have hz := str_size l
  have hi : (200 : Int) < (l.length : Int) := by omega
  clear hl
  have BW : Hid (Below w.heap.size w (w.alloc (.cells #[.bool false, .slice none 0 0, .bool false, .slice none 0 0] 42))) := below_alloc (Below.refl _ _) _
  go_enter Tryz.func14, Tryz.ntmps14
  go_wp2
  refine ⟨rfl, ?_⟩
  unfold RNu
  exact ⟨rfl, BW.out⟩
set_option maxRecDepth 100000 in
set_option maxHeartbeats 4000000 in
theorem numeral_short (w : World) (l : List UInt8) (hl : l.length ≤ 200) : Calls Tryz.prog 14 #[.string ⟨l.toArray⟩] w (RNu w (nml l)) := by
  have hz := str_size l
  have hi : decide ((200 : Int) < (l.length : Int)) = false := decide_eq_false (by omega)
  have hlk := sk_len 45 l
  obtain ⟨o, ho⟩ : ∃ o, nml l = o := ⟨_, rfl⟩
  rw [ho]
  have HO : Hid ((match uns (sk 45 l).2 with
    | some (p, q, []) => some (if (sk 45 l).1 = true then -p else p, q)
    | _ => none) = o) := by
    show _ = _
    rw [← ho]
    unfold nml
    rw [if_neg (by omega)]
    try rfl
  clear ho
  have BW : Hid (Below w.heap.size w ((w.alloc (.cells #[.bool false, .slice none 0 0, .bool false, .slice none 0 0] 42)).alloc (.cells #[.string ⟨l.toArray⟩] 65))) := below_alloc (below_alloc (Below.refl _ _) _) _
  have QR := Lib.hid ((Qd.new w w.heap.size rfl (.bool false) (.slice none 0 0) (.bool false) (.slice none 0 0) 42).alloc (.cells #[.string ⟨l.toArray⟩] 65))
  have SB := Lib.hid (Sb.new (w.alloc (.cells #[.bool false, .slice none 0 0, .bool false, .slice none 0 0] 42)) (w.heap.size + 1) (by simp) l 65)
  have hW0 : ((w.alloc (.cells #[.bool false, .slice none 0 0, .bool false, .slice none 0 0] 42)).alloc (.cells #[.string ⟨l.toArray⟩] 65)).heap.size = w.heap.size + 1 + 1 := by simp
  go_enter Tryz.func14, Tryz.ntmps14
  go_upto_region 4 with (fail)
  generalize (w.alloc (.cells #[.bool false, .slice none 0 0, .bool false, .slice none 0 0] 42)).alloc (.cells #[.string ⟨l.toArray⟩] 65) = W0 at *
  have BX : Hid (Bex W0.heap.size (w.heap.size + 1) W0 W0) := Bex.of (Below.refl _ _)
  go_wp2_with fail
  refine (skip_any _ _ 45 l SB.out).mono ?_
  rintro e w1 ⟨rfl, hs, hb⟩
  replace QR := Lib.hid (QR.out.bex hb (by omega))
  replace SB := Lib.hid hs
  replace BX := Lib.hid (BX.out.next hb)
  clear hs hb
  go_wp2_with fail
  refine (unsigned_any _ _ _ SB.out (by omega)).mono ?_
  intro e w2 hr
  cases hu : uns (sk 45 l).2 with
  | none =>
    rw [hu] at hr HO
    obtain ⟨rfl, hb⟩ := hr
    have e : o = none := HO.out.symm
    rw [e]
    have hB : Below w.heap.size w w2 := BW.out.trans ((BX.out.next hb).below (by omega) (by omega))
    unfold Pan RNu
    exact ⟨rfl, rfl, hB⟩
  | some t =>
    obtain ⟨p, q, r⟩ := t
    have HSZ := Lib.hid (uns_sz (Nat.le_trans (sk_len 45 l) hl) hu)
    rw [hu] at hr HO
    clear hu
    obtain ⟨A1, n1, c1, A2, n2, c2, rfl, hL, hM, hs, hb⟩ := hr
    replace QR := Lib.hid (QR.out.bex hb (by omega))
    replace SB := Lib.hid hs
    replace BX := Lib.hid (BX.out.next hb)
    have L1 := Lib.hid hL
    have L2 := Lib.hid hM
    clear hs hb hL hM
    obtain ⟨np, hnp⟩ : ∃ b, decide (p < 0) = b := ⟨_, rfl⟩
    obtain ⟨nq, hnq⟩ : ∃ b, decide (q < 0) = b := ⟨_, rfl⟩
    rw [hnp, hnq]
    have HNp := Lib.hid hnp
    have HNq := Lib.hid hnq
    clear hnp hnq
    go_upto_region 6 with (fail)
    have QF := Lib.hid (Qd.new w2 _ rfl (.bool np) (.slice A1 n1 c1) (.bool nq) (.slice A2 n2 c2) 42)
    replace QR := Lib.hid (QR.out.alloc (.cells #[.bool np, .slice A1 n1 c1, .bool nq, .slice A2 n2 c2] 42))
    replace L1 := Lib.hid (L1.out.box (.cells #[.bool np, .slice A1 n1 c1, .bool nq, .slice A2 n2 c2] 42))
    replace L2 := Lib.hid (L2.out.box (.cells #[.bool np, .slice A1 n1 c1, .bool nq, .slice A2 n2 c2] 42))
    replace SB := Lib.hid (SB.out.via ((Below.refl _ _).alloc (Nat.le_refl _) (.cells #[.bool np, .slice A1 n1 c1, .bool nq, .slice A2 n2 c2] 42)))
    have hgF : W0.heap.size ≤ w2.heap.size := BX.out.size
    replace BX := Lib.hid (BX.out.alloc (.cells #[.bool np, .slice A1 n1 c1, .bool nq, .slice A2 n2 c2] 42))
    generalize w2.heap.size = gF at *
    generalize w2.alloc (.cells #[.bool np, .slice A1 n1 c1, .bool nq, .slice A2 n2 c2] 42) = V0 at *
    have c0 := SB.out.c0
    by_cases hr0 : r = []
    · have e0 : r.isEmpty = true := by simpa using hr0
      have HO1 : Hid (some (if (sk 45 l).1 = true then -p else p, q) = o) := by
        show _ = _
        rw [← HO.out, hr0]
      clear HO hr0
      cases hsg : (sk 45 l).1 with
      | true =>
        have HU : Hid (o = some (-p, q)) := by
          show _ = _
          rw [← HO1.out, if_pos hsg]
        clear HO1
        have HSP := Lib.hid HSZ.out.2.2.1
        have ⟨f0, f1, f2, f3, f4, f5, f6, f7, f8⟩ := QF.out
        go_wp2_with fail
        refine (neg_n2 _ A1 n1 c1 426 p L1.out HSP.out (by omega) HNp.out).mono ?_
        rintro e w3 ⟨A3, n3, c3, rfl, hL, hb⟩
        replace QR := Lib.hid (QR.out.via hb)
        replace L1 := Lib.hid (L1.out.via hb)
        replace L2 := Lib.hid (L2.out.via hb)
        replace QF := Lib.hid (QF.out.via hb)
        replace SB := Lib.hid (SB.out.via hb)
        replace BX := Lib.hid (BX.out.nextB hb)
        have L3 := Lib.hid hL
        clear hb hL
        clear f0 f1 f2 f3 f4 f5 f6 f7 f8
        clear L1
        obtain ⟨mp, hmp⟩ : ∃ b, decide (-p < 0) = b := ⟨_, rfl⟩
        rw [hmp]
        have HMp := Lib.hid hmp
        clear hmp
        have ⟨f0, f1, f2, f3, f4, f5, f6, f7, f8⟩ := QF.out
        go_wp2_with fail
        refine (must_ok _ _ _ _ _).mono ?_
        rintro e w4 ⟨rfl, hb⟩
        replace QR := Lib.hid (QR.out.via hb)
        replace L2 := Lib.hid (L2.out.via hb)
        replace QF := Lib.hid (QF.out.via hb)
        replace L3 := Lib.hid (L3.out.via hb)
        replace SB := Lib.hid (SB.out.via hb)
        replace BX := Lib.hid (BX.out.nextB hb)
        clear hb
        clear f0 f1 f2 f3 f4 f5 f6 f7 f8
        have ⟨f0, f1, f2, f3, f4, f5, f6, f7, f8⟩ := QF.out
        go_upto_region 10 with (fail)
        clear f0 f1 f2 f3 f4 f5 f6 f7 f8 c0
        have QF2 := Lib.hid (QF.out.lo (.bool mp) (.slice A3 n3 c3))
        have QR2 := Lib.hid ((QR.out.far1 (h := gF) (by omega) 0 (.bool mp)).far1 (h := gF) (by omega) 1 (.slice A3 n3 c3))
        have M1 := Lib.hid (L3.out.lo QF.out (.bool mp) (.slice A3 n3 c3))
        have M2 := Lib.hid (L2.out.lo QF.out (.bool mp) (.slice A3 n3 c3))
        have X2 := Lib.hid ((BX.out.setN (k := gF) (by omega) 0 (.bool mp)).setN (k := gF) (by omega) 1 (.slice A3 n3 c3))
        clear QF QR L2 L3 BX SB
        generalize (w4.setCell ⟨gF, 0, none⟩ (.bool mp)).setCell ⟨gF, 1, none⟩ (.slice A3 n3 c3) = V2 at *
        have ⟨f0, f1, f2, f3, f4, f5, f6, f7, f8⟩ := QF2.out
        have ⟨r0, r1, r2, r3, r4, r5, r6, r7, r8⟩ := QR2.out
        go_wp2
        exact post_r1 Tryz.results14 rfl rfl (QR2.out.set (.bool mp) (.slice A3 n3 c3) (.bool nq) (.slice A2 n2 c2)) (by rw [HU.out]; exact ⟨A3, n3, c3, A2, n2, c2, by rw [HMp.out, HNq.out], M1.out.put4 QR2.out _ _ _ _, M2.out.put4 QR2.out _ _ _ _, below_put4 (BW.out.trans (X2.out.below (by omega) (by omega))) (Nat.le_refl _) _ _ _ _⟩)
      | false =>
        have HU : Hid (o = some (p, q)) := by
          show _ = _
          rw [← HO1.out, if_neg (by rw [hsg]; simp)]
        clear HO1
        have ⟨f0, f1, f2, f3, f4, f5, f6, f7, f8⟩ := QF.out
        have ⟨r0, r1, r2, r3, r4, r5, r6, r7, r8⟩ := QR.out
        go_wp2
        exact post_r1 Tryz.results14 rfl rfl (QR.out.set (.bool np) (.slice A1 n1 c1) (.bool nq) (.slice A2 n2 c2)) (by rw [HU.out]; exact ⟨A1, n1, c1, A2, n2, c2, by rw [HNp.out, HNq.out], L1.out.put4 QR.out _ _ _ _, L2.out.put4 QR.out _ _ _ _, below_put4 (BW.out.trans (BX.out.below (by omega) (by omega))) (Nat.le_refl _) _ _ _ _⟩)
    · have e0 : r.isEmpty = false := by simpa using hr0
      have e : o = none := by
        rw [← HO.out]
        cases r with
        | nil => exact absurd rfl hr0
        | cons a t => rfl
      clear HO
      go_wp2
      refine ⟨rfl, ?_⟩
      try rw [e]
      unfold RNu
      exact ⟨rfl, BW.out.trans ((BX.out).below (by omega) (by omega))⟩
end Go.Proofs.YtbplbbkmfbjkfaaGreatDoor

/- Package frac: Parse. -/
namespace Go.Proofs.YtbplbbkmfbjkfaaGreatDoor
open Go.RowKit

/-- What Parse of a text answers. -/
def prE (l : List UInt8) : Int := match nml l with | none => 12 | some (_, q) => if q = 0 then 18 else 0
def prP (l : List UInt8) : Int := match nml l with | none => 0 | some (p, q) => if q = 0 then 0 else p / dvr p q
def prQ (l : List UInt8) : Int := match nml l with | none => 0 | some (p, q) => if q = 0 then 0 else q / dvr p q
theorem numeral_any (w : World) (l : List UInt8) (_ : l.length ≤ 9223372036854775807) : Calls Tryz.prog 14 #[.string ⟨l.toArray⟩] w (RNu w (nml l)) := by
  rcases Nat.lt_or_ge 200 l.length with h | h
  · rw [show nml l = none by unfold nml; rw [if_pos h]]
    exact numeral_long w l h
  · exact numeral_short w l h

set_option maxRecDepth 100000 in
set_option maxHeartbeats 2000000 in
theorem parse1_bad (w : World) (g0 : Nat) (l : List UInt8) (hl : l.length ≤ 9223372036854775807) (hs : Sb w g0 l) (hn : nml l = none) :
    Calls Tryz.prog 13 #[.pointer (some ⟨g0, 0, none⟩)] w (fun e w' => e = Pan 12 ∧ Below w.heap.size w w') := by
  have BW : Hid (Below w.heap.size w (w.alloc (.cells #[.bool false, .slice none 0 0, .bool false, .slice none 0 0] 26))) := below_alloc (Below.refl _ _) _
  have c0 := (hs.via BW.out).c0
  have HN := Lib.hid hn
  clear hs hn
  go_enter Tryz.func13, Tryz.ntmps13
  go_wp2_with fail
  generalize w.alloc (.cells #[.bool false, .slice none 0 0, .bool false, .slice none 0 0] 26) = W0 at *
  have hh := numeral_any W0 l hl
  rw [HN.out] at hh
  refine hh.mono ?_
  rintro e w1 ⟨rfl, hb⟩
  unfold Pan
  exact ⟨rfl, rfl, btr BW.out hb⟩
set_option maxRecDepth 100000 in
set_option maxHeartbeats 2000000 in
theorem parse1_zero (w : World) (g0 : Nat) (l : List UInt8) (hs : Sb w g0 l) (p : Int) (hn : nml l = some (p, 0)) :
    Calls Tryz.prog 13 #[.pointer (some ⟨g0, 0, none⟩)] w (fun e w' => e = Pan 18 ∧ Below w.heap.size w w') := by
  have BW : Hid (Below w.heap.size w (w.alloc (.cells #[.bool false, .slice none 0 0, .bool false, .slice none 0 0] 26))) := below_alloc (Below.refl _ _) _
  have c0 := (hs.via BW.out).c0
  have HN := Lib.hid hn
  have HZ := Lib.hid (nml_sz hn)
  have hl : l.length ≤ 9223372036854775807 := by have := HZ.out.1; omega
  clear hs hn
  go_enter Tryz.func13, Tryz.ntmps13
  go_wp2_with fail
  generalize w.alloc (.cells #[.bool false, .slice none 0 0, .bool false, .slice none 0 0] 26) = W0 at *
  have hh := numeral_any W0 l hl
  rw [HN.out] at hh
  refine hh.mono ?_
  rintro e w1 ⟨A1, n1, c1, A2, n2, c2, rfl, hL, hM, hb⟩
  have L1 := Lib.hid hL
  have L2 := Lib.hid hM
  have BB := Lib.hid (btr BW.out hb)
  obtain ⟨np, hnp⟩ : ∃ b, decide (p < 0) = b := ⟨_, rfl⟩
  obtain ⟨nq, hnq⟩ : ∃ b, decide ((0 : Int) < 0) = b := ⟨_, rfl⟩
  rw [hnp, hnq]
  have HNp := Lib.hid hnp
  have HNq := Lib.hid hnq
  clear hb hL hM hnp hnq
  go_wp2_with fail
  refine (reduced_zero _ A1 A2 n1 n2 c1 c2 426 p 0 L1.out L2.out HZ.out.2.2.1 HZ.out.2.2.2 (by omega) HNp.out HNq.out rfl).mono ?_
  rintro e w2 ⟨rfl, hb⟩
  unfold Pan
  exact ⟨rfl, rfl, btr BB.out hb⟩
set_option maxRecDepth 100000 in
set_option maxHeartbeats 2000000 in
theorem parse1_ok (w : World) (g0 : Nat) (l : List UInt8) (hs : Sb w g0 l) (p q : Int) (hn : nml l = some (p, q)) (hq : 0 < q) :
    Calls Tryz.prog 13 #[.pointer (some ⟨g0, 0, none⟩)] w (RFr w (p / dvr p q) (q / dvr p q)) := by
  have BW : Hid (Below w.heap.size w (w.alloc (.cells #[.bool false, .slice none 0 0, .bool false, .slice none 0 0] 26))) := below_alloc (Below.refl _ _) _
  have QR := Lib.hid (Qd.new w w.heap.size rfl (.bool false) (.slice none 0 0) (.bool false) (.slice none 0 0) 26)
  have c0 := (hs.via BW.out).c0
  have HN := Lib.hid hn
  have HZ := Lib.hid (nml_sz hn)
  have HQ := Lib.hid hq
  have hl : l.length ≤ 9223372036854775807 := by have := HZ.out.1; omega
  clear hs hn hq
  go_enter Tryz.func13, Tryz.ntmps13
  go_wp2_with fail
  generalize w.alloc (.cells #[.bool false, .slice none 0 0, .bool false, .slice none 0 0] 26) = W0 at *
  have hh := numeral_any W0 l hl
  rw [HN.out] at hh
  refine hh.mono ?_
  rintro e w1 ⟨A1, n1, c1, A2, n2, c2, rfl, hL, hM, hb⟩
  have L1 := Lib.hid hL
  have L2 := Lib.hid hM
  replace QR := Lib.hid (QR.out.via hb)
  have BB := Lib.hid (btr BW.out hb)
  obtain ⟨np, hnp⟩ : ∃ b, decide (p < 0) = b := ⟨_, rfl⟩
  obtain ⟨nq, hnq⟩ : ∃ b, decide (q < 0) = b := ⟨_, rfl⟩
  rw [hnp, hnq]
  have HNp := Lib.hid hnp
  have HNq := Lib.hid hnq
  clear hb hL hM hnp hnq hh
  go_wp2_with fail
  refine (reduced_pos _ A1 A2 n1 n2 c1 c2 426 p q L1.out L2.out HZ.out.2.2.1 HZ.out.2.2.2 (by omega) HNp.out HNq.out HQ.out).mono ?_
  rintro e w2 ⟨A5, n5, c5, B5, m5, d5, rfl, hL, hM, hb⟩
  replace QR := Lib.hid (QR.out.via hb)
  obtain ⟨mp, hmp⟩ : ∃ b, decide (p / dvr p q < 0) = b := ⟨_, rfl⟩
  obtain ⟨mq, hmq⟩ : ∃ b, decide (q / dvr p q < 0) = b := ⟨_, rfl⟩
  rw [hmp, hmq]
  have HMp := Lib.hid hmp
  have HMq := Lib.hid hmq
  have L5 := Lib.hid hL
  have M5 := Lib.hid hM
  replace BB := Lib.hid (btr BB.out hb)
  clear hb hL hM hmp hmq
  have ⟨r0, r1, r2, r3, rf0, rf1, rf2, rf3, rl⟩ := QR.out
  go_wp2
  exact post_f1 Tryz.results13 rfl rfl (QR.out.set (.bool mp) (.slice A5 n5 c5) (.bool mq) (.slice B5 m5 d5)) ⟨A5, n5, c5, B5, m5, d5, by rw [HMp.out, HMq.out], L5.out.put4 QR.out _ _ _ _, M5.out.put4 QR.out _ _ _ _, below_put4 BB.out (Nat.le_refl _) _ _ _ _⟩
set_option maxRecDepth 100000 in
set_option maxHeartbeats 2000000 in
theorem fparse_g (w : World) (l : List UInt8) (np nq : Bool) (l1 l2 : List Nat) (err : Int)
    (H : ∀ W g0, Sb W g0 l → Calls Tryz.prog 12 #[.func (.func 13) #[] #[.pointer (some ⟨g0, 0, none⟩)]] W (RG W np l1 nq l2 err)) :
    Calls Tryz.prog 5 #[.string ⟨l.toArray⟩] w (RG w np l1 nq l2 err) := by
  have hmf : ∀ (fn : Fn) (first cap : Array Value) (w : World), (Instr.makeFunc fn first cap).run Tryz.prog w = .ok (.func fn first cap) w := fun _ _ _ _ => rfl
  have HH := Lib.hid H
  clear H
  have BW : Hid (Below w.heap.size w ((w.alloc (.cells #[.string ⟨l.toArray⟩] 9)).alloc (.cells #[.bool false, .slice none 0 0, .bool false, .slice none 0 0] 26))) := below_alloc (below_alloc (Below.refl _ _) _) _
  have SB := Lib.hid ((Sb.new w w.heap.size rfl l 9).via ((Below.refl _ _).alloc (Nat.le_refl _) (.cells #[.bool false, .slice none 0 0, .bool false, .slice none 0 0] 26)))
  have QR := Lib.hid (Qd.new (w.alloc (.cells #[.string ⟨l.toArray⟩] 9)) (w.heap.size + 1) (by simp) (.bool false) (.slice none 0 0) (.bool false) (.slice none 0 0) 26)
  go_enter Tryz.func5, Tryz.ntmps5
  go_wp2_with fail
  generalize (w.alloc (.cells #[.string ⟨l.toArray⟩] 9)).alloc (.cells #[.bool false, .slice none 0 0, .bool false, .slice none 0 0] 26) = W0 at *
  refine (HH.out _ w.heap.size SB.out).mono ?_
  rintro e w1 ⟨A1, n1, c1, B1, m1, d1, rfl, hL, hM, hb⟩
  have Q := Lib.hid (QR.out.via hb)
  have L1 := Lib.hid hL
  have M1 := Lib.hid hM
  have BB := Lib.hid (btr BW.out hb)
  have ⟨q0, q1, q2, q3, f0, f1, f2, f3, ql⟩ := Q.out
  clear hL hM hb
  go_wp2
  exact post_f Tryz.results5 rfl rfl (Q.out.set (.bool np) (.slice A1 n1 c1) (.bool nq) (.slice B1 m1 d1)) ⟨A1, n1, c1, B1, m1, d1, rfl, L1.out.put4 Q.out _ _ _ _, M1.out.put4 Q.out _ _ _ _, below_put4 BB.out (by omega) _ _ _ _⟩
theorem fparse_any (w : World) (l : List UInt8) (hl : l.length ≤ 9223372036854775807) :
    Calls Tryz.prog 5 #[.string ⟨l.toArray⟩] w (RG w (decide (prP l < 0)) (digs (prP l).natAbs) (decide (prQ l < 0)) (digs (prQ l).natAbs) (prE l)) := by
  have hcf : ∀ (u : Value) (W : World), (callFunc 13 (#[] ++ #[u])).run Tryz.prog W = .ok (.enter 13 (#[] ++ #[u])) W := fun u W => by go_simp
  refine fparse_g w l _ _ _ _ _ fun W g0 hs => ?_
  unfold prP prQ prE
  cases hn : nml l with
  | none => exact (attempt_no W _ #[] #[_] 12 (hcf _) (parse1_bad _ g0 l hl (hs.via (wat_below W)) hn)).mono fun _ _ h => rfx_rg h
  | some t =>
    obtain ⟨p, q⟩ := t
    have hz := nml_sz hn
    by_cases hq : q = 0
    · subst hq
      exact (attempt_no W _ #[] #[_] 18 (hcf _) (parse1_zero _ g0 l (hs.via (wat_below W)) p hn)).mono fun _ _ h => rfx_rg h
    · simp only [if_neg hq]
      exact (attempt_ok W _ #[] #[_] _ _ (hcf _) (parse1_ok _ g0 l (hs.via (wat_below W)) p q hn (by omega))).mono fun _ _ h => rfe_rg h
end Go.Proofs.YtbplbbkmfbjkfaaGreatDoor

/- What a reader makes of a text, way by way (mathematics). -/
namespace Go.Proofs.YtbplbbkmfbjkfaaGreatDoor
open Go.RowKit

theorem sk_head (c : UInt8) {L : List UInt8} (hp : 0 < L.length) : (sk c L).1 = decide ((L[0]'hp) = c) := by
  cases L with
  | nil => simp at hp
  | cons a t =>
    rw [sk_cons]
    by_cases h : a = c
    · rw [if_pos h]
      simpa using h
    · rw [if_neg h]
      simpa using h
theorem sk_ext {c : UInt8} {L : List UInt8} (h : (sk c L).1 = true) : (⟨L.toArray⟩ : ByteArray).extract 1 L.length = ⟨(sk c L).2.toArray⟩ ∧ (sk c L).2.length + 1 = L.length := by
  rw [ext_drop]
  cases L with
  | nil => cases h
  | cons a t =>
    rw [sk_cons] at h ⊢
    by_cases e : a = c
    · rw [if_pos e]
      exact ⟨rfl, rfl⟩
    · rw [if_neg e] at h
      cases h
/-- The two numbers of a numeral that was read to its end, with its sign. -/
def fin (neg : Bool) (x : Option (Int × Int × List UInt8)) : Option (Int × Int) := match x with
  | some (p, q, []) => some (if neg = true then -p else p, q)
  | _ => none
theorem nml_fin {l : List UInt8} (h : ¬ 200 < l.length) : nml l = fin (sk 45 l).1 (uns (sk 45 l).2) := by
  unfold nml fin
  rw [if_neg h]
  rfl
theorem fin_some {neg : Bool} {p q : Int} {r : List UInt8} (h : r ≠ []) : fin neg (some (p, q, r)) = none := by
  cases r with
  | nil => exact absurd rfl h
  | cons a t => rfl
theorem un_e1 {neg : Bool} {s : List UInt8} (h : dg s = []) : fin neg (uns s) = none := by unfold uns; rw [if_pos h]; rfl
theorem un_e2 {neg : Bool} {s : List UInt8} (h1 : dg s ≠ []) (h2 : (sk 47 (dr s)).1 = true) (h3 : dg (sk 47 (dr s)).2 = [] ∨ dr (sk 47 (dr s)).2 ≠ []) : fin neg (uns s) = none := by
  unfold uns
  rw [if_neg h1, if_pos h2]
  by_cases h4 : dg (sk 47 (dr s)).2 = []
  · rw [if_pos h4]
    rfl
  · rw [if_neg h4]
    exact fin_some (h3.resolve_left h4)
theorem un_o2 {neg : Bool} {s : List UInt8} (h1 : dg s ≠ []) (h2 : (sk 47 (dr s)).1 = true) (h3 : dg (sk 47 (dr s)).2 ≠ []) (h4 : dr (sk 47 (dr s)).2 = []) :
    fin neg (uns s) = some (if neg = true then -(decV (dg s) : Int) else (decV (dg s) : Int), (decV (dg (sk 47 (dr s)).2) : Int)) := by
  unfold uns
  rw [if_neg h1, if_pos h2, if_neg h3, h4]
  rfl
def pts (R : List UInt8) : List UInt8 := if (sk 46 R).1 = true then dg (sk 46 R).2 else []
def rss (R : List UInt8) : List UInt8 := if (sk 46 R).1 = true then dr (sk 46 R).2 else R
theorem un_e3 {neg : Bool} {s : List UInt8} (h1 : dg s ≠ []) (h2 : (sk 47 (dr s)).1 = false) (h3 : (sk 46 (dr s)).1 = true) (h4 : dg (sk 46 (dr s)).2 = []) : fin neg (uns s) = none := by
  unfold uns
  rw [if_neg h1, if_neg (by rw [h2]; decide), if_pos h3, if_pos h4]
  rfl
theorem un_t {neg : Bool} {s : List UInt8} (h1 : dg s ≠ []) (h2 : (sk 47 (dr s)).1 = false) (h3 : (sk 46 (dr s)).1 = true → dg (sk 46 (dr s)).2 ≠ []) :
    fin neg (uns s) = fin neg (tl (decV (dg s ++ pts (dr s)) : Int) (10 ^ (pts (dr s)).length) (rss (dr s))) := by
  unfold uns pts rss
  rw [if_neg h1, if_neg (by rw [h2]; decide)]
  by_cases h : (sk 46 (dr s)).1 = true
  · rw [if_pos h, if_neg (h3 h), if_pos h, if_pos h]
  · rw [if_neg h, if_neg h, if_neg h, sk_no (by simpa using h)]
def pwI (L : List UInt8) : Int := if (sk 101 L).1 = true then (if (sk 45 (sk 101 L).2).1 = true then -(decV (dg (sk 45 (sk 101 L).2).2) : Int) else (decV (dg (sk 45 (sk 101 L).2).2) : Int)) else 0
def pwR (L : List UInt8) : List UInt8 := if (sk 101 L).1 = true then dr (sk 45 (sk 101 L).2).2 else L
def pwBad (L : List UInt8) : Prop := (sk 101 L).1 = true ∧ (dg (sk 45 (sk 101 L).2).2 = [] ∨ 3 < (dg (sk 45 (sk 101 L).2).2).length)
theorem tl_e4 {neg : Bool} {N K : Int} {L : List UInt8} (h : pwBad L) : fin neg (tl N K L) = none := by
  unfold tl scl
  rw [if_pos h.1, if_pos h.2]
  rfl
theorem tl_e5 {neg : Bool} {N K : Int} {L : List UInt8} (h : ¬ pwBad L) (h2 : pwR L ≠ []) : fin neg (tl N K L) = none := by
  unfold pwR at h2
  unfold tl scl
  by_cases h1 : (sk 101 L).1 = true
  · rw [if_pos h1] at h2
    rw [if_pos h1, if_neg (fun hh => h ⟨h1, hh⟩)]
    split
    · exact fin_some h2
    · exact fin_some h2
  · rw [if_neg h1] at h2
    rw [if_neg h1, sk_no (by simpa using h1)]
    exact fin_some h2
theorem pw_le {L : List UInt8} (h : ¬ pwBad L) : -999 ≤ pwI L ∧ pwI L ≤ 999 := by
  unfold pwI
  by_cases h1 : (sk 101 L).1 = true
  · rw [if_pos h1]
    have h2 : ¬ (dg (sk 45 (sk 101 L).2).2 = [] ∨ 3 < (dg (sk 45 (sk 101 L).2).2).length) := fun hh => h ⟨h1, hh⟩
    have h3 := decV_lt (dg_all (sk 45 (sk 101 L).2).2)
    have h4 : 10 ^ (dg (sk 45 (sk 101 L).2).2).length ≤ 10 ^ 3 := Nat.pow_le_pow_right (by decide) (by omega)
    split <;> omega
  · rw [if_neg h1]
    omega
/-- What the reference makes of a numeral with a point and a power: a over b is worth the same. -/
theorem tl_ok {neg : Bool} {N : Int} {k : Nat} {L : List UInt8} (h : ¬ pwBad L) (h2 : pwR L = []) :
    ∃ p q : Int, fin neg (tl N (10 ^ k) L) = some (if neg = true then -p else p, q) ∧ 0 < q ∧
      (∀ j : Nat, pwI L - k = (j : Int) → (N * 10 ^ j) * q = p * 1) ∧ (∀ j : Nat, pwI L - k = -(j : Int) → N * q = p * 10 ^ j) := by
  have hk : (0 : Int) < 10 ^ k := Int.pow_pos (by decide)
  unfold pwR at h2
  unfold tl scl pwI
  by_cases h1 : (sk 101 L).1 = true
  · rw [if_pos h1] at h2
    rw [if_pos h1, if_pos h1, if_neg (fun hh => h ⟨h1, hh⟩), h2]
    generalize decV (dg (sk 45 (sk 101 L).2).2) = e
    have he : (0 : Int) < 10 ^ e := Int.pow_pos (by decide)
    by_cases h3 : (sk 45 (sk 101 L).2).1 = true
    · rw [if_pos h3, if_pos h3]
      refine ⟨N, 10 ^ k * 10 ^ e, rfl, Int.mul_pos hk he, fun j hj => ?_, fun j hj => ?_⟩
      · obtain rfl : j = 0 := by omega
        obtain rfl : k = 0 := by omega
        obtain rfl : e = 0 := by omega
        simp
      · obtain rfl : j = k + e := by omega
        rw [Int.pow_add]
    · rw [if_neg h3, if_neg h3]
      refine ⟨N * 10 ^ e, 10 ^ k, rfl, hk, fun j hj => ?_, fun j hj => ?_⟩
      · obtain rfl : e = j + k := by omega
        rw [Int.pow_add, Int.mul_one, Int.mul_assoc]
      · obtain rfl : k = e + j := by omega
        rw [Int.pow_add, Int.mul_assoc]
  · rw [if_neg h1] at h2
    rw [if_neg h1, if_neg h1, sk_no (by simpa using h1), h2]
    refine ⟨N, 10 ^ k, rfl, hk, fun j hj => ?_, fun j hj => ?_⟩
    · obtain rfl : j = 0 := by omega
      obtain rfl : k = 0 := by omega
      simp
    · obtain rfl : j = k := by omega
      rfl
/-- What the reference's Parse returns. -/
def RP2 (w : World) (l : List UInt8) (e : Ending) (w' : World) : Prop := RG w (decide (prP l < 0)) (digs (prP l).natAbs) (decide (prQ l < 0)) (digs (prQ l).natAbs) (prE l) e w'
theorem rp2_no {w w' : World} {l : List UInt8} {e : Ending} (h : nml l = none) (hr : RG w false [] false [] 12 e w') : RP2 w l e w' := by
  unfold RP2
  rw [show prP l = 0 by unfold prP; rw [h], show prQ l = 0 by unfold prQ; rw [h], show prE l = 12 by unfold prE; rw [h]]
  exact hr
theorem rp2_zero {w w' : World} {l : List UInt8} {p : Int} {e : Ending} (h : nml l = some (p, 0)) (hr : RG w false [] false [] 18 e w') : RP2 w l e w' := by
  unfold RP2
  rw [show prP l = 0 by unfold prP; rw [h]; rfl, show prQ l = 0 by unfold prQ; rw [h]; rfl, show prE l = 18 by unfold prE; rw [h]; rfl]
  exact hr
theorem rp2_ok {w w' : World} {l : List UInt8} {p q a b : Int} {e : Ending} (h : nml l = some (p, q)) (hq : 0 < q) (hb : 0 < b) (ha : Sz 500 a) (hb2 : Sz 500 b) (hab : a * q = p * b) (hr : RFE w (a / dvr a b) (b / dvr a b) e w') : RP2 w l e w' := by
  obtain ⟨h0, h1, h2, h3⟩ := nml_sz h
  have f1 := red_fr (h2.mono (show 426 ≤ 500 by omega)) (h3.mono (show 426 ≤ 500 by omega)) (by omega) (show q ≠ 0 by omega)
  have f2 := red_fr ha hb2 (by omega) (show b ≠ 0 by omega)
  have e1 := frv_uniq f1 f2 (by omega) (by omega) (by rw [hab])
  unfold RP2
  rw [show prP l = p / dvr p q by unfold prP; rw [h]; exact if_neg (by omega), show prQ l = q / dvr p q by unfold prQ; rw [h]; exact if_neg (by omega), show prE l = 0 by unfold prE; rw [h]; exact if_neg (by omega), e1.1, e1.2]
  exact rfe_rg hr
theorem sz_ten3 (k : Nat) (hk : k ≤ 1300) : Sz 136 ((10 : Int) ^ k) := by
  show ((10 : Int) ^ k).natAbs < 4294967296 ^ 136
  rw [Int.natAbs_pow]
  exact Nat.lt_of_le_of_lt (Nat.pow_le_pow_right (by decide) hk) (by decide +kernel)
theorem rvalue_p (w : World) (l : List UInt8) (ha : l.all isDig = true) (hne : l ≠ []) (hl : l.length ≤ 1000) : Calls Tryz.prog 17 #[.string ⟨l.toArray⟩] w (fun e w' => ∃ A n c, e = .returned (.agg #[.bool false, .slice A n c]) ∧ Lm w' w'.heap.size A n c (digs (decV l : Int).natAbs) ∧ Below w.heap.size w w') := by
  refine (rvalue_n w l ha hne hl).mono ?_
  rintro e2 w' ⟨A, n, c, rfl, hL, hb⟩
  rw [decide_eq_false (show ¬ ((decV l : Nat) : Int) < 0 by omega)]
  exact ⟨A, n, c, rfl, hL, hb⟩
theorem rten_p2 (w : World) (d : Nat) (hd : d ≤ 1000) : Calls Tryz.prog 20 #[.int .i64 (d : Int)] w (fun e w' => ∃ A n c, e = .returned (.agg #[.bool false, .slice A n c]) ∧ Lm w' w'.heap.size A n c (digs ((10 : Int) ^ d).natAbs) ∧ Below w.heap.size w w') := by
  refine (rten_n w d hd).mono ?_
  rintro e2 w' ⟨A, n, c, rfl, hL, hb⟩
  rw [decide_eq_false (show ¬ (10 : Int) ^ d < 0 by have h : (0 : Int) < 10 ^ d := Int.pow_pos (by decide); omega)]
  exact ⟨A, n, c, rfl, hL, hb⟩
theorem str_list (T : List UInt8) : (⟨T.toArray⟩ : ByteArray).toList = T := by
  rw [ByteArray.toList_eq]
theorem pts_all (R : List UInt8) : (pts R).all isDig = true := by
  unfold pts
  split
  · exact dg_all _
  · rfl
theorem pts_len (R : List UInt8) : (pts R).length + (rss R).length ≤ R.length := by
  unfold pts rss
  have h1 := sk_len 46 R
  have h2 := dgr_len (sk 46 R).2
  split
  · omega
  · rw [List.length_nil]
    omega
theorem decV_snoc2 (l : List UInt8) (c : UInt8) : decV (l ++ [c]) = decV l * 10 + (c.toNat - 48) := by
  unfold decV
  rw [List.foldl_append]
  rfl
/-- A product of numbers that are not negative. -/
theorem rmul_p {w : World} {A B : Option Addr} {n m ca cb k : Nat} {x y : Int} (hA : Lm w w.heap.size A n ca (digs x.natAbs)) (hB : Lm w w.heap.size B m cb (digs y.natAbs)) (hx : Sz k x) (hy : Sz k y) (hk : k ≤ 2000) (hx0 : 0 ≤ x) (hy0 : 0 ≤ y) :
    Calls Tryz.prog 19 #[.agg #[.bool false, .slice A n ca], .agg #[.bool false, .slice B m cb]] w (fun e w' => ∃ A n c, e = .returned (.tuple #[.agg #[.bool false, .slice A n c], .int .i64 0]) ∧ Lm w' w'.heap.size A n c (digs (x * y).natAbs) ∧ Below w.heap.size w w') := by
  refine (rmul_n w A B n m ca cb k x y hA hB hx hy hk (decide_eq_false (by omega)) (decide_eq_false (by omega))).mono ?_
  rintro e w' ⟨A1, n1, c1, rfl, hL, hb⟩
  rw [decide_eq_false (show ¬ x * y < 0 by have := Int.mul_nonneg hx0 hy0; omega)]
  exact ⟨A1, n1, c1, rfl, hL, hb⟩
/-- A box with a number that is not negative. -/
def NqO (W : World) (z : Int) (sx : Value) (wx : World) : Prop := ∃ g A n c, sx = .pointer (some ⟨g, 0, none⟩) ∧ Pr wx g (.bool false) (.slice A n c) ∧ Lm wx wx.heap.size A n c (digs z.natAbs) ∧ W.heap.size ≤ g ∧ Below W.heap.size W wx
section
variable {W w4 : World} {z : Int} {A : Option Addr} {n c : Nat} {t : TypeId}
theorem nfin1 (hB : Below W.heap.size W w4) (X : Lm w4 w4.heap.size A n c (digs z.natAbs)) : NqO W z (.pointer (some ⟨w4.heap.size, 0, none⟩)) (w4.alloc (.cells #[.bool false, .slice A n c] t)) :=
  ⟨_, _, _, _, rfl, Pr.new w4 _ rfl _ _ t, X.box _, hB.size, hB.alloc hB.size _⟩
theorem nfin2 {g : Nat} (hB : Below W.heap.size W w4) (X : Lm w4 w4.heap.size A n c (digs z.natAbs)) (P : Pr w4 g (.bool false) (.slice none 0 0)) (hg : W.heap.size ≤ g) :
    NqO W z (.pointer (some ⟨g, 0, none⟩)) ((w4.setCell ⟨g, 0, none⟩ (.bool false)).setCell ⟨g, 1, none⟩ (.slice A n c)) :=
  ⟨_, _, _, _, rfl, P.set _ _, X.setP P _ _, hg, below_set2 hB hg _ _⟩
end
/-- The world of the loop that makes the denominator: box g7 with the numerator, box g8 with the denominator T. -/
structure Dn (w wr : World) (g7 g8 : Nat) (A9 : Option Addr) (n9 c9 : Nat) (N T : Int) : Prop where
  q : Qd wr w.heap.size (.bool false) (.slice none 0 0) (.bool false) (.slice none 0 0)
  p7 : Pr wr g7 (.bool false) (.slice A9 n9 c9)
  l9 : Lm wr wr.heap.size A9 n9 c9 (digs N.natAbs)
  p8 : ∃ A n c, Pr wr g8 (.bool false) (.slice A n c) ∧ Lm wr wr.heap.size A n c (digs T.natAbs)
  b : Below w.heap.size w wr
theorem Dn.step {w wr v : World} {g7 g8 : Nat} {A9 A : Option Addr} {n9 c9 n c : Nat} {N T T' : Int} (d : Dn w wr g7 g8 A9 n9 c9 N T) (hb : Below wr.heap.size wr v) (hL : Lm v v.heap.size A n c (digs T'.natAbs)) (h78 : g7 ≠ g8) (h8 : w.heap.size + 1 ≤ g8) :
    Dn w ((v.setCell ⟨g8, 0, none⟩ (.bool false)).setCell ⟨g8, 1, none⟩ (.slice A n c)) g7 g8 A9 n9 c9 N T' := by
  obtain ⟨A0, n0, c0, p8, l8⟩ := d.p8
  exact ⟨(d.q.via hb).far2 (by omega), (d.p7.via hb).far h78 _ _, (d.l9.via hb).setP (p8.via hb) _ _, ⟨A, n, c, (p8.via hb).set _ _, hL.setP (p8.via hb) _ _⟩, below_set2 (btr d.b hb) (by omega) _ _⟩
theorem rten_neg (w : World) (pz : Int) (m : Nat) (h : pz = -(m : Int)) (hm : m ≤ 1000) : Calls Tryz.prog 20 #[.int .i64 (IntKind.i64.wrap (-pz))] w (fun e w' => ∃ A n c, e = .returned (.agg #[.bool false, .slice A n c]) ∧ Lm w' w'.heap.size A n c (digs ((10 : Int) ^ m).natAbs) ∧ Below w.heap.size w w') := by
  rw [show IntKind.i64.wrap (-pz) = (m : Int) by rw [IntKind.wrap_i64]; omega]
  exact rten_p2 w m hm
/-- The world behind the two numbers: box g7 with the numerator a, box g8 with the denominator b. -/
structure Pw (w wr : World) (g7 g8 : Nat) (a b : Int) : Prop where
  q : Qd wr w.heap.size (.bool false) (.slice none 0 0) (.bool false) (.slice none 0 0)
  p7 : ∃ A n c, Pr wr g7 (.bool false) (.slice A n c) ∧ Lm wr wr.heap.size A n c (digs a.natAbs)
  p8 : ∃ A n c, Pr wr g8 (.bool false) (.slice A n c) ∧ Lm wr wr.heap.size A n c (digs b.natAbs)
  b : Below w.heap.size w wr
/-- A way that ends in a return: what stands behind it is laid aside, whatever it is. -/
theorem wp_err {P : Program} {c : Code} {K : Act → World → Prop} {Q : Exit → Act → World → Prop} {a : Act} {w : World} (hK : ∀ a w, Code.wp P Code.ret Q a w → K a w)
    (h : ∀ Q' : Exit → Act → World → Prop, Q' = Q → Code.wp P c (Exit.then (Q' .ret) Q') a w) : Code.wp P c (Exit.then K Q) a w :=
  Code.wp_mono (fun e a w hh => by
    cases e with
    | normal => exact hK a w (wp_ret hh)
    | _ => exact hh) (h Q rfl)
/-- The power of ten that the reference's Parse reckons with. -/
def pwT (l : List UInt8) : Int := pwI (rss (dr (sk 45 l).2)) - ((pts (dr (sk 45 l).2)).length : Int)
end Go.Proofs.YtbplbbkmfbjkfaaGreatDoor

/- The reference of frac: Parse at any string. -/
namespace Go.Proofs.YtbplbbkmfbjkfaaGreatDoor
open Go.RowKit

set_option maxRecDepth 100000 in
set_option maxHeartbeats 16000000 in
theorem rfparse_p (w : World) (l : List UInt8) (hl : l.length ≤ 300) (hS : 0 ≤ pwT l) : Calls Tryz.prog 6 #[.string ⟨l.toArray⟩] w (RP2 w l) := by
  have QR := Lib.hid (Qd.new w w.heap.size rfl (.bool false) (.slice none 0 0) (.bool false) (.slice none 0 0) 26)
  have BW : Hid (Below w.heap.size w (w.alloc (.cells #[.bool false, .slice none 0 0, .bool false, .slice none 0 0] 26))) := below_alloc (Below.refl _ _) _
  have hz := str_size l
  go_enter Tryz.func6, Tryz.ntmps6
  go_upto_region 1 with (fail)
  generalize w.alloc (.cells #[.bool false, .slice none 0 0, .bool false, .slice none 0 0] 26) = W0 at *
  by_cases h200 : 200 < l.length
  · clear hS
    have HN : Hid (nml l = none) := by
      show _ = _
      unfold nml
      rw [if_pos h200]
    have h2 : (200 : Int) < (l.length : Int) := by omega
    have ⟨rQR0, rQR1, rQR2, rQR3, rQR4, rQR5, rQR6, rQR7, rQRl⟩ := QR.out
    go_upto_region 2 with (fail)
    rename_i hKK
    refine wp_err hKK fun Q9 hQ9 => ?_
    have HQ9 := Lib.hid hQ9
    clear hQ9
    go_light
    as_aux_lemma =>
    go_wp2
    rw [HQ9.out]
    show bodyPost _ _ _ Exit.ret _ _
    exact post_f Tryz.results6 rfl rfl (QR.out.set (.bool false) (.slice none 0 0) (.bool false) (.slice none 0 0)) (by exact rp2_no HN.out ⟨none, 0, 0, none, 0, 0, rfl, Lm.nil _ _, Lm.nil _ _, below_put4 BW.out (Nat.le_refl _) _ _ _ _⟩)
  · have HS := Lib.hid hS
    clear hS
    unfold pwT at HS
    have HF := Lib.hid (nml_fin h200)
    have HLl : Hid (l.length ≤ 200) := by show _ ≤ _; omega
    have h2 : ¬ (200 : Int) < (l.length : Int) := by omega
    go_upto_region 3 with (fail)
    clear h2 h200
    go_upto_region 3 with (fail)
    go_cut [4] (fun sx wx => sx = .bool (sk 45 l).1 ∧ wx = W0)
    case first =>
      as_aux_lemma =>
      have hz := str_size l
      by_cases hp : 0 < l.length
      · have hps : 0 < (⟨l.toArray⟩ : ByteArray).size := by rw [hz]; exact hp
        have hge := str_get l 0 hp hps
        have hpi : (0 : Int) < (l.length : Int) := by omega
        have HSK := Lib.hid (sk_head 45 hp)
        by_cases hc : (l[0]'hp) = 45
        · have hcn : (l[0]'hp).toNat = 45 := by rw [hc]; rfl
          have HS1 : Hid ((sk 45 l).1 = true) := HSK.out.trans (decide_eq_true hc)
          clear HSK hc
          generalize (l[0]'hp) = x at *
          go_wp2
          go_meet
          exact ⟨by rw [HS1.out], rfl⟩
        · have hcn : ¬ ((l[0]'hp).toNat : Int) = 45 := fun e => hc (UInt8.toNat_inj.1 (by show (l[0]'hp).toNat = 45; omega))
          have hcn2 : decide (((l[0]'hp).toNat : Int) = 45) = false := decide_eq_false hcn
          have hcn3 : (((l[0]'hp).toNat : Int) == 45) = false := beq_false_of_ne hcn
          have HS1 : Hid ((sk 45 l).1 = false) := HSK.out.trans (decide_eq_false hc)
          clear HSK hc
          generalize (l[0]'hp) = x at *
          go_wp2
          go_meet
          exact ⟨by rw [HS1.out], rfl⟩
      · obtain rfl : l = [] := List.eq_nil_of_length_eq_zero (by omega)
        clear hp
        go_wp2
        go_meet
        exact ⟨rfl, rfl⟩
    case rest =>
      obtain ⟨rfl, hwc⟩ := hcut
      generalize wc = W1 at *
      subst hwc
      have HX : Hid ((sk 45 l).1 = true → (⟨l.toArray⟩ : ByteArray).extract 1 l.length = ⟨(sk 45 l).2.toArray⟩ ∧ (sk 45 l).2.length + 1 = l.length) := sk_ext
      have HY : Hid ((sk 45 l).1 = false → (sk 45 l).2 = l) := sk_no
      have HSl : Hid ((sk 45 l).2.length ≤ 200) := Nat.le_trans (sk_len 45 l) HLl.out
      clear HLl
      generalize (sk 45 l).1 = neg at *
      generalize (sk 45 l).2 = s at *
      go_upto_if 33 with (fail)
      go_cut [0] (fun s0 wx => s0 = .string ⟨s.toArray⟩ ∧ wx = W1)
      case first =>
        as_aux_lemma =>
        cases neg with
        | true =>
          have hx := (HX.out rfl).1
          have hx2 := (HX.out rfl).2
          have hlp : (1 : Int) ≤ (l.length : Int) := by omega
          go_wp2
          go_meet
          exact ⟨rfl, rfl⟩
        | false =>
          have HY2 := HY.out rfl
          go_wp2
          go_meet
          exact ⟨by rw [HY2], rfl⟩
      case rest =>
        obtain ⟨rfl, hwc⟩ := hcut
        generalize wc = W2 at *
        subst hwc
        clear HX HY hz
        go_wp2_with fail
        refine (rsplit_any _ s (by have := HSl.out; omega)).mono ?_
        rintro e w1 ⟨rfl, hb⟩
        replace QR := Lib.hid (QR.out.via hb)
        replace BW := Lib.hid (btr BW.out hb)
        clear hb
        have HE1 := Lib.hid (fun hh : dg s = [] => un_e1 (neg := neg) hh)
        have HE2 := Lib.hid (fun h1 h2 h3 => un_e2 (neg := neg) (s := s) h1 h2 h3)
        have HO2 := Lib.hid (fun h1 h2 h3 h4 => un_o2 (neg := neg) (s := s) h1 h2 h3 h4)
        have HE3 := Lib.hid (fun h1 h2 h3 h4 => un_e3 (neg := neg) (s := s) h1 h2 h3 h4)
        have HT := Lib.hid (fun h1 h2 h3 => un_t (neg := neg) (s := s) h1 h2 h3)
        have HDa : Hid ((dg s).all isDig = true) := dg_all s
        have HDl : Hid ((dg s).length + (dr s).length ≤ 200) := by
          have h3 : dg s ++ dr s = s := List.takeWhile_append_dropWhile
          have h4 := congrArg List.length h3
          rw [List.length_append] at h4
          have := HSl.out
          show _ ≤ _
          omega
        clear HSl
        generalize uns s = us at *
        generalize dg s = D at *
        generalize dr s = R at *
        by_cases hD : D = []
        · have HN : Hid (nml l = none) := HF.out.trans (HE1.out hD)
          subst hD
          have ⟨rQR0, rQR1, rQR2, rQR3, rQR4, rQR5, rQR6, rQR7, rQRl⟩ := QR.out
          go_upto_region 8 with (fail)
          rename_i hKK
          refine wp_err hKK fun Q9 hQ9 => ?_
          have HQ9 := Lib.hid hQ9
          clear hQ9
          go_light
          as_aux_lemma =>
          go_wp2
          rw [HQ9.out]
          show bodyPost _ _ _ Exit.ret _ _
          exact post_f Tryz.results6 rfl rfl (QR.out.set (.bool false) (.slice none 0 0) (.bool false) (.slice none 0 0)) (by exact rp2_no HN.out ⟨none, 0, 0, none, 0, 0, rfl, Lm.nil _ _, Lm.nil _ _, below_put4 BW.out (Nat.le_refl _) _ _ _ _⟩)
        · have HD := Lib.hid hD
          have hTn := hD
          clear hD HE1
          have hTL := str_list D
          have hT1 : (D == []) = false := by simp [hTn]
          have hT2 : (D != []) = true := by simp [hTn]
          have hT3 : D.isEmpty = false := by simp [hTn]
          go_upto_region 9 with (fail)
          clear hTn hTL hT1 hT2 hT3
          go_wp2_with fail
          refine (rvalue_p _ D HDa.out HD.out (by have := HDl.out; omega)).mono ?_
          rintro e w2 ⟨A7, n7, c7, rfl, hL7, hb⟩
          replace QR := Lib.hid (QR.out.via hb)
          replace BW := Lib.hid (btr BW.out hb)
          have L7 := Lib.hid hL7
          clear hb hL7
          go_wp2_with fail
          refine (rfrom_any _ 1 (by decide) (by decide)).mono ?_
          rintro e w3 ⟨A8, n8, c8, rfl, hL8, hb⟩
          replace QR := Lib.hid (QR.out.via hb)
          replace L7 := Lib.hid (L7.out.via hb)
          replace BW := Lib.hid (btr BW.out hb)
          have L8 := Lib.hid hL8
          clear hb hL8
          go_upto_region 10 with (fail)
          have HG7 : Hid (w.heap.size < w3.heap.size) := QR.out.lt
          replace QR := Lib.hid ((QR.out.alloc (.cells #[.bool false, .slice A7 n7 c7] 24)).alloc (.cells #[.bool false, .slice A8 n8 c8] 24))
          replace L7 := Lib.hid ((L7.out.box (.cells #[.bool false, .slice A7 n7 c7] 24)).box (.cells #[.bool false, .slice A8 n8 c8] 24))
          replace L8 := Lib.hid ((L8.out.box (.cells #[.bool false, .slice A7 n7 c7] 24)).box (.cells #[.bool false, .slice A8 n8 c8] 24))
          have P7 := Lib.hid ((Pr.new w3 _ rfl (.bool false) (.slice A7 n7 c7) 24).alloc (.cells #[.bool false, .slice A8 n8 c8] 24))
          have P8 := Lib.hid (Pr.new (w3.alloc (.cells #[.bool false, .slice A7 n7 c7] 24)) (w3.heap.size + 1) (by simp) (.bool false) (.slice A8 n8 c8) 24)
          replace BW := Lib.hid (below_alloc (below_alloc BW.out (.cells #[.bool false, .slice A7 n7 c7] 24)) (.cells #[.bool false, .slice A8 n8 c8] 24))
          obtain ⟨g8, hg8⟩ : ∃ g8, w3.heap.size + 1 = g8 := ⟨_, rfl⟩
          rw [hg8] at P8 ⊢
          generalize w3.heap.size = g7 at *
          have HG8 : Hid (w.heap.size < g8 ∧ g7 ≠ g8) := by
            have := HG7.out
            show _ ∧ _
            omega
          clear hg8
          generalize (w3.alloc (.cells #[.bool false, .slice A7 n7 c7] 24)).alloc (.cells #[.bool false, .slice A8 n8 c8] 24) = V1 at *
          go_upto_region 10 with (fail)
          go_cut [54] (fun sx wx => sx = .bool (sk 47 R).1 ∧ wx = V1)
          case first =>
            as_aux_lemma =>
            have hz := str_size R
            by_cases hp : 0 < R.length
            · have hps : 0 < (⟨R.toArray⟩ : ByteArray).size := by rw [hz]; exact hp
              have hge := str_get R 0 hp hps
              have hpi : (0 : Int) < (R.length : Int) := by omega
              have HSK := Lib.hid (sk_head 47 hp)
              by_cases hc : (R[0]'hp) = 47
              · have hcn : (R[0]'hp).toNat = 47 := by rw [hc]; rfl
                have HS1 : Hid ((sk 47 R).1 = true) := HSK.out.trans (decide_eq_true hc)
                clear HSK hc
                generalize (R[0]'hp) = x at *
                go_wp2
                go_meet
                exact ⟨by rw [HS1.out], rfl⟩
              · have hcn : ¬ ((R[0]'hp).toNat : Int) = 47 := fun e => hc (UInt8.toNat_inj.1 (by show (R[0]'hp).toNat = 47; omega))
                have hcn2 : decide (((R[0]'hp).toNat : Int) = 47) = false := decide_eq_false hcn
                have hcn3 : (((R[0]'hp).toNat : Int) == 47) = false := beq_false_of_ne hcn
                have HS1 : Hid ((sk 47 R).1 = false) := HSK.out.trans (decide_eq_false hc)
                clear HSK hc
                generalize (R[0]'hp) = x at *
                go_wp2
                go_meet
                exact ⟨by rw [HS1.out], rfl⟩
            · obtain rfl : R = [] := List.eq_nil_of_length_eq_zero (by omega)
              clear hp
              go_wp2
              go_meet
              exact ⟨rfl, rfl⟩
          case rest =>
            obtain ⟨rfl, hwc⟩ := hcut
            generalize wc = V2 at *
            subst hwc
            have HX : Hid ((sk 47 R).1 = true → (⟨R.toArray⟩ : ByteArray).extract 1 R.length = ⟨(sk 47 R).2.toArray⟩ ∧ (sk 47 R).2.length + 1 = R.length) := sk_ext
            generalize (sk 47 R).2 = T at *
            generalize hq47 : (sk 47 R).1 = q47 at *
            clear hq47
            cases q47 with
            | true =>
              as_aux_lemma =>
              have hx := (HX.out rfl).1
              have hx2 := (HX.out rfl).2
              have hzR := str_size R
              have hlp : (1 : Int) ≤ (R.length : Int) := by omega
              have HTl : Hid (T.length ≤ 200) := by have := HDl.out; show _ ≤ _; omega
              go_wp2_with fail
              clear hx hx2 hzR hlp HX HE3 HT
              refine (rsplit_any _ T (by have := HTl.out; omega)).mono ?_
              rintro e w4 ⟨rfl, hb⟩
              replace QR := Lib.hid (QR.out.via hb)
              replace L7 := Lib.hid (L7.out.via hb)
              replace L8 := Lib.hid (L8.out.via hb)
              replace P7 := Lib.hid (P7.out.via hb)
              replace P8 := Lib.hid (P8.out.via hb)
              replace BW := Lib.hid (btr BW.out hb)
              clear hb
              have HMa : Hid ((dg T).all isDig = true) := dg_all T
              have HMl : Hid ((dg T).length ≤ 200) := by
                have := (dgr_len T)
                have := HTl.out
                show _ ≤ _
                omega
              generalize dg T = M at *
              generalize dr T = E at *
              by_cases hM : M = []
              · have HN : Hid (nml l = none) := HF.out.trans (HE2.out HD.out (by first | rfl | trivial) (.inl hM))
                subst hM
                have ⟨rQR0, rQR1, rQR2, rQR3, rQR4, rQR5, rQR6, rQR7, rQRl⟩ := QR.out
                go_upto_region 13 with (fail)
                rename_i hKK
                refine wp_err hKK fun Q9 hQ9 => ?_
                have HQ9 := Lib.hid hQ9
                clear hQ9
                go_light
                as_aux_lemma =>
                go_wp2
                rw [HQ9.out]
                show bodyPost _ _ _ Exit.ret _ _
                exact post_f Tryz.results6 rfl rfl (QR.out.set (.bool false) (.slice none 0 0) (.bool false) (.slice none 0 0)) (by exact rp2_no HN.out ⟨none, 0, 0, none, 0, 0, rfl, Lm.nil _ _, Lm.nil _ _, below_put4 BW.out (Nat.le_refl _) _ _ _ _⟩)
              · have HM := Lib.hid hM
                have hTn := hM
                clear hM
                have hTL := str_list M
                have hT1 : (M == []) = false := by simp [hTn]
                have hT2 : (M != []) = true := by simp [hTn]
                have hT3 : M.isEmpty = false := by simp [hTn]
                by_cases hE : E = []
                · have HN := Lib.hid (HF.out.trans (HO2.out HD.out (by first | rfl | trivial) HM.out hE))
                  subst hE
                  clear HO2 HE2 HF
                  go_wp2_with fail
                  clear hTn hTL hT1 hT2 hT3
                  refine (rvalue_p _ M HMa.out HM.out (by have := HMl.out; omega)).mono ?_
                  rintro e w5 ⟨A9, n9, c9, rfl, hL9, hb⟩
                  replace QR := Lib.hid (QR.out.via hb)
                  replace L7 := Lib.hid (L7.out.via hb)
                  replace L8 := Lib.hid (L8.out.via hb)
                  replace P7 := Lib.hid (P7.out.via hb)
                  replace P8 := Lib.hid (P8.out.via hb)
                  replace BW := Lib.hid (btr BW.out hb)
                  have L9 := Lib.hid hL9
                  clear hb hL9
                  clear L8
                  have ⟨rP80, rP81, rP82, rP83, rP8l⟩ := P8.out
                  go_upto_region 52 with (fail)
                  clear rP80 rP81 rP82 rP83 rP8l
                  have HG9 : Hid (w.heap.size ≠ g8) := by have := HG7.out; have := HG8.out.1; show _ ≠ _; omega
                  replace QR := Lib.hid (QR.out.far2 HG9.out (x := .bool false) (y := .slice A9 n9 c9))
                  replace L7 := Lib.hid (L7.out.setP P8.out (.bool false) (.slice A9 n9 c9))
                  replace P7 := Lib.hid (P7.out.far HG8.out.2 (.bool false) (.slice A9 n9 c9))
                  replace L9 := Lib.hid (L9.out.setP P8.out (.bool false) (.slice A9 n9 c9))
                  replace BW := Lib.hid (below_set2 BW.out (Nat.le_of_lt HG8.out.1) (.bool false) (.slice A9 n9 c9))
                  replace P8 := Lib.hid (P8.out.set (.bool false) (.slice A9 n9 c9))
                  clear HG9
                  generalize (w5.setCell ⟨g8, 0, none⟩ (.bool false)).setCell ⟨g8, 1, none⟩ (.slice A9 n9 c9) = Y6 at *
                  have HSa : Hid (Sz 500 (decV D : Int)) := (sz_dec HDa.out (by have := HDl.out; omega)).mono (by omega)
                  have HSb : Hid (Sz 500 (decV M : Int)) := (sz_dec HMa.out HMl.out).mono (by omega)
                  have HA0 : Hid (0 ≤ (decV D : Int)) := by show _ ≤ _; omega
                  have L8 := L9
                  clear L9
                  generalize hda : (decV D : Int) = a at *
                  clear hda
                  by_cases hb0 : decV M = 0
                  · have hn9 : n9 = 0 := by
                      have h1 := L8.out.len
                      rw [hb0] at h1
                      exact h1.symm
                    subst hn9
                    have HN2 : Hid (nml l = some (if neg = true then -a else a, 0)) := by rw [HN.out, hb0]; rfl
                    clear HN hb0
                    have ⟨rP80, rP81, rP82, rP83, rP8l⟩ := P8.out
                    have ⟨rQR0, rQR1, rQR2, rQR3, rQR4, rQR5, rQR6, rQR7, rQRl⟩ := QR.out
                    go_upto_region 53 with (fail)
                    rename_i hKK
                    refine wp_err hKK fun Q9 hQ9 => ?_
                    have HQ9 := Lib.hid hQ9
                    clear hQ9
                    go_light
                    as_aux_lemma =>
                    go_wp2
                    rw [HQ9.out]
                    show bodyPost _ _ _ Exit.ret _ _
                    exact post_f Tryz.results6 rfl rfl (QR.out.set (.bool false) (.slice none 0 0) (.bool false) (.slice none 0 0)) (by exact rp2_zero HN2.out ⟨none, 0, 0, none, 0, 0, rfl, Lm.nil _ _, Lm.nil _ _, below_put4 BW.out (Nat.le_refl _) _ _ _ _⟩)
                  · have HB0 : Hid (0 < (decV M : Int)) := by show _ < _; omega
                    clear hb0
                    generalize hdb : (decV M : Int) = b at *
                    clear hdb
                    have HQ := HB0
                    as_aux_lemma =>
                    have HNZ : Hid (n9 ≠ 0) := by
                      show _ ≠ _
                      have h1 := L8.out.len
                      have h2 : digs (b).natAbs ≠ [] := fun e => by
                        have := digs_nil.1 e
                        have := HB0.out
                        omega
                      intro e
                      exact h2 (List.eq_nil_of_length_eq_zero (h1.trans e))
                    have hnz : ¬ (n9 : Int) = 0 := by have := HNZ.out; omega
                    have hnz2 : ((n9 : Int) == 0) = false := by simp; have := HNZ.out; omega
                    have hnz3 : ¬ n9 = 0 := HNZ.out
                    have ⟨rP80, rP81, rP82, rP83, rP8l⟩ := P8.out
                    go_upto_if 189 with (fail)
                    clear rP80 rP81 rP82 rP83 rP8l hnz hnz2 hnz3 HNZ
                    cases neg with
                    | true =>
                      have ⟨rP70, rP71, rP72, rP73, rP7l⟩ := P7.out
                      go_wp2_with fail
                      clear rP70 rP71 rP72 rP73 rP7l
                      refine (rneg_n2 _ A7 n7 c7 500 (a) L7.out HSa.out (by omega) (decide_eq_false (by have := HA0.out; omega))).mono ?_
                      rintro e w7 ⟨A20, n20, c20, rfl, hL20, hb⟩
                      clear L7
                      replace QR := Lib.hid (QR.out.via hb)
                      replace P7 := Lib.hid (P7.out.via hb)
                      replace P8 := Lib.hid (P8.out.via hb)
                      replace L8 := Lib.hid (L8.out.via hb)
                      replace BW := Lib.hid (btr BW.out hb)
                      have L20 := Lib.hid hL20
                      clear hb hL20
                      obtain ⟨z20, hz20⟩ : ∃ b, decide (-(a) < 0) = b := ⟨_, rfl⟩
                      rw [hz20]
                      have Hz20 := Lib.hid hz20
                      clear hz20
                      have ⟨rP70, rP71, rP72, rP73, rP7l⟩ := P7.out
                      go_upto_region 56 with (fail)
                      clear rP70 rP71 rP72 rP73 rP7l
                      have HG9 : Hid (w.heap.size ≠ g7) := by have := HG7.out; show _ ≠ _; omega
                      replace QR := Lib.hid (QR.out.far2 HG9.out (x := .bool z20) (y := .slice A20 n20 c20))
                      replace P8 := Lib.hid (P8.out.far (fun e => HG8.out.2 e.symm) (.bool z20) (.slice A20 n20 c20))
                      replace L20 := Lib.hid (L20.out.setP P7.out (.bool z20) (.slice A20 n20 c20))
                      replace L8 := Lib.hid (L8.out.setP P7.out (.bool z20) (.slice A20 n20 c20))
                      replace BW := Lib.hid (below_set2 BW.out (Nat.le_of_lt HG7.out) (.bool z20) (.slice A20 n20 c20))
                      replace P7 := Lib.hid (P7.out.set (.bool z20) (.slice A20 n20 c20))
                      generalize (w7.setCell ⟨g7, 0, none⟩ (.bool z20)).setCell ⟨g7, 1, none⟩ (.slice A20 n20 c20) = V20 at *
                      rename_i hKK
                      refine wp_err hKK fun Q9 hQ9 => ?_
                      have HQ9 := Lib.hid hQ9
                      clear hQ9
                      go_light
                      have ⟨rP70, rP71, rP72, rP73, rP7l⟩ := P7.out
                      have ⟨rP80, rP81, rP82, rP83, rP8l⟩ := P8.out
                      go_wp2_with fail
                      clear rP70 rP71 rP72 rP73 rP7l rP80 rP81 rP82 rP83 rP8l
                      refine (rreduced_pos _ A20 A9 n20 n9 c20 c9 500 (-(a)) (b) L20.out L8.out (Sz.neg HSa.out) (HSb.out) (by omega) Hz20.out (decide_eq_false (by have := HB0.out; omega)) HB0.out).mono ?_
                      rintro e w8 ⟨A5, n5, c5, B5, m5, d5, rfl, hL5, hM5, hb⟩
                      clear P7
                      clear P8
                      clear L8
                      clear L20
                      replace QR := Lib.hid (QR.out.via hb)
                      replace BW := Lib.hid (btr BW.out hb)
                      have L5 := Lib.hid hL5
                      have M5 := Lib.hid hM5
                      clear hb hL5 hM5
                      obtain ⟨z5, hz5⟩ : ∃ z, decide ((-(a)) / dvr (-(a)) (b) < 0) = z := ⟨_, rfl⟩
                      obtain ⟨z6, hz6⟩ : ∃ z, decide ((b) / dvr (-(a)) (b) < 0) = z := ⟨_, rfl⟩
                      rw [hz5, hz6]
                      have Hz5 := Lib.hid hz5
                      have Hz6 := Lib.hid hz6
                      clear hz5 hz6
                      have ⟨rQR0, rQR1, rQR2, rQR3, rQR4, rQR5, rQR6, rQR7, rQRl⟩ := QR.out
                      go_wp2
                      rw [HQ9.out]
                      show bodyPost _ _ _ Exit.ret _ _
                      exact post_f Tryz.results6 rfl rfl (QR.out.set (.bool z5) (.slice A5 n5 c5) (.bool z6) (.slice B5 m5 d5)) (by exact rp2_ok HN.out HQ.out HB0.out (Sz.neg HSa.out) (HSb.out) (by first | rw [if_pos rfl] | rw [if_pos trivial]) ⟨A5, n5, c5, B5, m5, d5, by rw [Hz5.out, Hz6.out]; rfl, L5.out.put4 QR.out _ _ _ _, M5.out.put4 QR.out _ _ _ _, below_put4 BW.out (Nat.le_refl _) _ _ _ _⟩)
                    | false =>
                      go_upto_region 56 with (fail)
                      rename_i hKK
                      refine wp_err hKK fun Q9 hQ9 => ?_
                      have HQ9 := Lib.hid hQ9
                      clear hQ9
                      go_light
                      have ⟨rP70, rP71, rP72, rP73, rP7l⟩ := P7.out
                      have ⟨rP80, rP81, rP82, rP83, rP8l⟩ := P8.out
                      go_wp2_with fail
                      clear rP70 rP71 rP72 rP73 rP7l rP80 rP81 rP82 rP83 rP8l
                      refine (rreduced_pos _ A7 A9 n7 n9 c7 c9 500 (a) (b) L7.out L8.out (HSa.out) (HSb.out) (by omega) (decide_eq_false (by have := HA0.out; omega)) (decide_eq_false (by have := HB0.out; omega)) HB0.out).mono ?_
                      rintro e w7 ⟨A5, n5, c5, B5, m5, d5, rfl, hL5, hM5, hb⟩
                      clear P7
                      clear P8
                      clear L8
                      clear L7
                      replace QR := Lib.hid (QR.out.via hb)
                      replace BW := Lib.hid (btr BW.out hb)
                      have L5 := Lib.hid hL5
                      have M5 := Lib.hid hM5
                      clear hb hL5 hM5
                      obtain ⟨z5, hz5⟩ : ∃ z, decide ((a) / dvr (a) (b) < 0) = z := ⟨_, rfl⟩
                      obtain ⟨z6, hz6⟩ : ∃ z, decide ((b) / dvr (a) (b) < 0) = z := ⟨_, rfl⟩
                      rw [hz5, hz6]
                      have Hz5 := Lib.hid hz5
                      have Hz6 := Lib.hid hz6
                      clear hz5 hz6
                      have ⟨rQR0, rQR1, rQR2, rQR3, rQR4, rQR5, rQR6, rQR7, rQRl⟩ := QR.out
                      go_wp2
                      rw [HQ9.out]
                      show bodyPost _ _ _ Exit.ret _ _
                      exact post_f Tryz.results6 rfl rfl (QR.out.set (.bool z5) (.slice A5 n5 c5) (.bool z6) (.slice B5 m5 d5)) (by exact rp2_ok HN.out HQ.out HB0.out (HSa.out) (HSb.out) (by rw [if_neg (by decide)]) ⟨A5, n5, c5, B5, m5, d5, by rw [Hz5.out, Hz6.out]; rfl, L5.out.put4 QR.out _ _ _ _, M5.out.put4 QR.out _ _ _ _, below_put4 BW.out (Nat.le_refl _) _ _ _ _⟩)
                · have HN : Hid (nml l = none) := HF.out.trans (HE2.out HD.out (by first | rfl | trivial) (.inr hE))
                  have hEL := str_list E
                  have hE1 : (E != []) = true := by simp [hE]
                  have hE2 : (E == []) = false := by simp [hE]
                  have hE3 : E.isEmpty = false := by simp [hE]
                  have ⟨rQR0, rQR1, rQR2, rQR3, rQR4, rQR5, rQR6, rQR7, rQRl⟩ := QR.out
                  go_upto_region 13 with (fail)
                  rename_i hKK
                  refine wp_err hKK fun Q9 hQ9 => ?_
                  have HQ9 := Lib.hid hQ9
                  clear hQ9
                  go_light
                  as_aux_lemma =>
                  go_wp2
                  rw [HQ9.out]
                  show bodyPost _ _ _ Exit.ret _ _
                  exact post_f Tryz.results6 rfl rfl (QR.out.set (.bool false) (.slice none 0 0) (.bool false) (.slice none 0 0)) (by exact rp2_no HN.out ⟨none, 0, 0, none, 0, 0, rfl, Lm.nil _ _, Lm.nil _ _, below_put4 BW.out (Nat.le_refl _) _ _ _ _⟩)
            | false =>
              clear HX HE2 HO2
              have HPa := Lib.hid (pts_all R)
              have HPl := Lib.hid (pts_len R)
              go_upto_region 16 with (fail)
              go_cut [77] (fun sx wx => sx = .bool (sk 46 R).1 ∧ wx = V2)
              case first =>
                as_aux_lemma =>
                have hz := str_size R
                by_cases hp : 0 < R.length
                · have hps : 0 < (⟨R.toArray⟩ : ByteArray).size := by rw [hz]; exact hp
                  have hge := str_get R 0 hp hps
                  have hpi : (0 : Int) < (R.length : Int) := by omega
                  have HSK := Lib.hid (sk_head 46 hp)
                  by_cases hc : (R[0]'hp) = 46
                  · have hcn : (R[0]'hp).toNat = 46 := by rw [hc]; rfl
                    have HS1 : Hid ((sk 46 R).1 = true) := HSK.out.trans (decide_eq_true hc)
                    clear HSK hc
                    generalize (R[0]'hp) = x at *
                    go_wp2
                    go_meet
                    exact ⟨by rw [HS1.out], rfl⟩
                  · have hcn : ¬ ((R[0]'hp).toNat : Int) = 46 := fun e => hc (UInt8.toNat_inj.1 (by show (R[0]'hp).toNat = 46; omega))
                    have hcn2 : decide (((R[0]'hp).toNat : Int) = 46) = false := decide_eq_false hcn
                    have hcn3 : (((R[0]'hp).toNat : Int) == 46) = false := beq_false_of_ne hcn
                    have HS1 : Hid ((sk 46 R).1 = false) := HSK.out.trans (decide_eq_false hc)
                    clear HSK hc
                    generalize (R[0]'hp) = x at *
                    go_wp2
                    go_meet
                    exact ⟨by rw [HS1.out], rfl⟩
                · obtain rfl : R = [] := List.eq_nil_of_length_eq_zero (by omega)
                  clear hp
                  go_wp2
                  go_meet
                  exact ⟨rfl, rfl⟩
              case rest =>
                obtain ⟨rfl, hwc⟩ := hcut
                generalize wc = V3 at *
                subst hwc
                by_cases hPB : (sk 46 R).1 = true ∧ dg (sk 46 R).2 = []
                · have HN : Hid (nml l = none) := HF.out.trans (HE3.out HD.out (by first | rfl | trivial) hPB.1 hPB.2)
                  have hxx := sk_ext hPB.1
                  have hx := hxx.1
                  have hx2 := hxx.2
                  clear hxx
                  rw [hPB.1]
                  have HPB := Lib.hid hPB.2
                  have hzR := str_size R
                  have hlp : (1 : Int) ≤ (R.length : Int) := by omega
                  have HTl : Hid ((sk 46 R).2.length ≤ 200) := by have := HDl.out; show _ ≤ _; omega
                  clear hPB HT HE3 HF
                  generalize (sk 46 R).2 = U at *
                  go_wp2_with fail
                  clear hx hx2 hzR hlp
                  refine (rsplit_any _ U (by have := HTl.out; omega)).mono ?_
                  rintro e w4 ⟨rfl, hb⟩
                  replace QR := Lib.hid (QR.out.via hb)
                  replace L7 := Lib.hid (L7.out.via hb)
                  replace L8 := Lib.hid (L8.out.via hb)
                  replace P7 := Lib.hid (P7.out.via hb)
                  replace P8 := Lib.hid (P8.out.via hb)
                  replace BW := Lib.hid (btr BW.out hb)
                  clear hb
                  have hM := HPB.out
                  clear HPB HTl
                  generalize dg U = M at *
                  generalize dr U = E at *
                  subst hM
                  have ⟨rQR0, rQR1, rQR2, rQR3, rQR4, rQR5, rQR6, rQR7, rQRl⟩ := QR.out
                  go_upto_region 19 with (fail)
                  rename_i hKK
                  refine wp_err hKK fun Q9 hQ9 => ?_
                  have HQ9 := Lib.hid hQ9
                  clear hQ9
                  go_light
                  as_aux_lemma =>
                  go_wp2
                  rw [HQ9.out]
                  show bodyPost _ _ _ Exit.ret _ _
                  exact post_f Tryz.results6 rfl rfl (QR.out.set (.bool false) (.slice none 0 0) (.bool false) (.slice none 0 0)) (by exact rp2_no HN.out ⟨none, 0, 0, none, 0, 0, rfl, Lm.nil _ _, Lm.nil _ _, below_put4 BW.out (Nat.le_refl _) _ _ _ _⟩)
                · have HFT := Lib.hid (HF.out.trans (HT.out HD.out (by first | rfl | trivial) (fun h1 h2 => hPB ⟨h1, h2⟩)))
                  have HPB := Lib.hid (fun h1 : (sk 46 R).1 = true => fun h2 : dg (sk 46 R).2 = [] => hPB ⟨h1, h2⟩)
                  clear hPB HF HT HE3
                  go_upto_if 77 with (fail)
                  go_cut [6, 11] (fun s6 s11 wx => s6 = .string ⟨(rss R).toArray⟩ ∧ s11 = .string ⟨(pts R).toArray⟩ ∧ Below V3.heap.size V3 wx)
                  case first =>
                    as_aux_lemma =>
                    by_cases h46 : (sk 46 R).1 = true
                    · have HRS : Hid (rss R = dr (sk 46 R).2) := if_pos h46
                      have HPT : Hid (pts R = dg (sk 46 R).2) := if_pos h46
                      have hM := HPB.out h46
                      have hxx := sk_ext h46
                      have hx := hxx.1
                      have hx2 := hxx.2
                      have hzR := str_size R
                      have hlp : (1 : Int) ≤ (R.length : Int) := by omega
                      have HTl : Hid ((sk 46 R).2.length ≤ 200) := by have := HDl.out; show _ ≤ _; omega
                      rw [h46]
                      clear hxx HPB h46
                      go_wp2_with fail
                      clear hx hx2 hzR hlp
                      refine (rsplit_any _ (sk 46 R).2 (by have := HTl.out; omega)).mono ?_
                      rintro e w9 ⟨rfl, hb⟩
                      have Hb := Lib.hid hb
                      clear hb
                      generalize dg (sk 46 R).2 = M at *
                      generalize dr (sk 46 R).2 = E at *
                      have hTn : ¬ M = [] := fun e => hM e
                      have hTL := str_list M
                      have hT1 : (M == []) = false := by simp [hTn]
                      have hT2 : (M != []) = true := by simp [hTn]
                      have hT3 : M.isEmpty = false := by simp [hTn]
                      go_wp2
                      go_meet
                      exact ⟨by rw [HRS.out], by rw [HPT.out], Hb.out⟩
                    · have HRS : Hid (rss R = R) := if_neg h46
                      have HPT : Hid (pts R = []) := if_neg h46
                      rw [show (sk 46 R).1 = false by simpa using h46]
                      clear h46 HPB
                      go_wp2
                      go_meet
                      exact ⟨by rw [HRS.out], by rw [HPT.out], Below.refl _ _⟩
                  case rest =>
                    obtain ⟨rfl, rfl, hb⟩ := hcut
                    clear HPB
                    replace QR := Lib.hid (QR.out.via hb)
                    replace L7 := Lib.hid (L7.out.via hb)
                    replace L8 := Lib.hid (L8.out.via hb)
                    replace P7 := Lib.hid (P7.out.via hb)
                    replace P8 := Lib.hid (P8.out.via hb)
                    replace BW := Lib.hid (btr BW.out hb)
                    clear hb
                    generalize pts R = PT at *
                    generalize rss R = RS at *
                    generalize wc = V4 at *
                    go_upto_region 21 with (fail)
                    go_cut [94] (fun sx wx => sx = .bool (sk 101 RS).1 ∧ wx = V4)
                    case first =>
                      as_aux_lemma =>
                      have hz := str_size RS
                      by_cases hp : 0 < RS.length
                      · have hps : 0 < (⟨RS.toArray⟩ : ByteArray).size := by rw [hz]; exact hp
                        have hge := str_get RS 0 hp hps
                        have hpi : (0 : Int) < (RS.length : Int) := by omega
                        have HSK := Lib.hid (sk_head 101 hp)
                        by_cases hc : (RS[0]'hp) = 101
                        · have hcn : (RS[0]'hp).toNat = 101 := by rw [hc]; rfl
                          have HS1 : Hid ((sk 101 RS).1 = true) := HSK.out.trans (decide_eq_true hc)
                          clear HSK hc
                          generalize (RS[0]'hp) = x at *
                          go_wp2
                          go_meet
                          exact ⟨by rw [HS1.out], rfl⟩
                        · have hcn : ¬ ((RS[0]'hp).toNat : Int) = 101 := fun e => hc (UInt8.toNat_inj.1 (by show (RS[0]'hp).toNat = 101; omega))
                          have hcn2 : decide (((RS[0]'hp).toNat : Int) = 101) = false := decide_eq_false hcn
                          have hcn3 : (((RS[0]'hp).toNat : Int) == 101) = false := beq_false_of_ne hcn
                          have HS1 : Hid ((sk 101 RS).1 = false) := HSK.out.trans (decide_eq_false hc)
                          clear HSK hc
                          generalize (RS[0]'hp) = x at *
                          go_wp2
                          go_meet
                          exact ⟨by rw [HS1.out], rfl⟩
                      · obtain rfl : RS = [] := List.eq_nil_of_length_eq_zero (by omega)
                        clear hp
                        go_wp2
                        go_meet
                        exact ⟨rfl, rfl⟩
                    case rest =>
                      obtain ⟨rfl, hwc⟩ := hcut
                      generalize wc = V5 at *
                      subst hwc
                      by_cases hPw : pwBad RS
                      · have HN : Hid (nml l = none) := HFT.out.trans (tl_e4 hPw)
                        have h101 := hPw.1
                        have HU := Lib.hid hPw.2
                        clear hPw HFT
                        have hxx := sk_ext h101
                        have hx := hxx.1
                        have hx2 := hxx.2
                        have HUl : Hid ((sk 45 (sk 101 RS).2).2.length ≤ 200) := by
                          have h1 := sk_len 45 (sk 101 RS).2
                          have := HPl.out
                          have := HDl.out
                          show _ ≤ _
                          omega
                        have hzR := str_size RS
                        have hlp : (1 : Int) ≤ (RS.length : Int) := by omega
                        rw [h101]
                        clear hxx h101
                        generalize (sk 101 RS).2 = U0 at *
                        go_upto_region 24 with (fail)
                        go_cut [104] (fun sx wx => sx = .bool (sk 45 U0).1 ∧ wx = V5)
                        case first =>
                          as_aux_lemma =>
                          have hz := str_size U0
                          by_cases hp : 0 < U0.length
                          · have hps : 0 < (⟨U0.toArray⟩ : ByteArray).size := by rw [hz]; exact hp
                            have hge := str_get U0 0 hp hps
                            have hpi : (0 : Int) < (U0.length : Int) := by omega
                            have HSK := Lib.hid (sk_head 45 hp)
                            by_cases hc : (U0[0]'hp) = 45
                            · have hcn : (U0[0]'hp).toNat = 45 := by rw [hc]; rfl
                              have HS1 : Hid ((sk 45 U0).1 = true) := HSK.out.trans (decide_eq_true hc)
                              clear HSK hc
                              generalize (U0[0]'hp) = x at *
                              go_wp2
                              go_meet
                              exact ⟨by rw [HS1.out], rfl⟩
                            · have hcn : ¬ ((U0[0]'hp).toNat : Int) = 45 := fun e => hc (UInt8.toNat_inj.1 (by show (U0[0]'hp).toNat = 45; omega))
                              have hcn2 : decide (((U0[0]'hp).toNat : Int) = 45) = false := decide_eq_false hcn
                              have hcn3 : (((U0[0]'hp).toNat : Int) == 45) = false := beq_false_of_ne hcn
                              have HS1 : Hid ((sk 45 U0).1 = false) := HSK.out.trans (decide_eq_false hc)
                              clear HSK hc
                              generalize (U0[0]'hp) = x at *
                              go_wp2
                              go_meet
                              exact ⟨by rw [HS1.out], rfl⟩
                          · obtain rfl : U0 = [] := List.eq_nil_of_length_eq_zero (by omega)
                            clear hp
                            go_wp2
                            go_meet
                            exact ⟨rfl, rfl⟩
                        case rest =>
                          obtain ⟨rfl, hwc⟩ := hcut
                          generalize wc = V6 at *
                          subst hwc
                          clear hx hx2 hzR hlp
                          have HX : Hid ((sk 45 U0).1 = true → (⟨U0.toArray⟩ : ByteArray).extract 1 U0.length = ⟨(sk 45 U0).2.toArray⟩ ∧ (sk 45 U0).2.length + 1 = U0.length) := sk_ext
                          have HY : Hid ((sk 45 U0).1 = false → (sk 45 U0).2 = U0) := sk_no
                          have hzU := str_size U0
                          generalize (sk 45 U0).1 = ng at *
                          generalize (sk 45 U0).2 = U1 at *
                          obtain ⟨sg, hsg⟩ : ∃ sg : Int, (if ng = true then (-1 : Int) else 1) = sg := ⟨_, rfl⟩
                          have Hsg := Lib.hid hsg
                          clear hsg
                          go_upto_if 104 with (fail)
                          go_cut [6, 13] (fun s6 s13 wx => s6 = .string ⟨U1.toArray⟩ ∧ s13 = .int .i64 sg ∧ wx = V6)
                          case first =>
                            as_aux_lemma =>
                            cases ng with
                            | true =>
                              have hx := (HX.out rfl).1
                              have hx2 := (HX.out rfl).2
                              have hlp : (1 : Int) ≤ (U0.length : Int) := by omega
                              go_wp2
                              go_meet
                              exact ⟨rfl, by rw [← Hsg.out]; rfl, rfl⟩
                            | false =>
                              have HY2 := HY.out rfl
                              go_wp2
                              go_meet
                              exact ⟨by rw [HY2], by rw [← Hsg.out]; rfl, rfl⟩
                          case rest =>
                            obtain ⟨rfl, rfl, hwc⟩ := hcut
                            generalize wc = V7 at *
                            subst hwc
                            clear HX HY hzU
                            go_wp2_with fail
                            refine (rsplit_any _ U1 (by have := HUl.out; omega)).mono ?_
                            rintro e w4 ⟨rfl, hb⟩
                            replace QR := Lib.hid (QR.out.via hb)
                            replace L7 := Lib.hid (L7.out.via hb)
                            replace L8 := Lib.hid (L8.out.via hb)
                            replace P7 := Lib.hid (P7.out.via hb)
                            replace P8 := Lib.hid (P8.out.via hb)
                            replace BW := Lib.hid (btr BW.out hb)
                            clear hb
                            rcases HU.out with hU | hU
                            · clear HU
                              generalize dg U1 = D2 at *
                              generalize dr U1 = E2 at *
                              subst hU
                              have ⟨rQR0, rQR1, rQR2, rQR3, rQR4, rQR5, rQR6, rQR7, rQRl⟩ := QR.out
                              go_upto_region 29 with (fail)
                              rename_i hKK
                              refine wp_err hKK fun Q9 hQ9 => ?_
                              have HQ9 := Lib.hid hQ9
                              clear hQ9
                              go_light
                              as_aux_lemma =>
                              go_wp2
                              rw [HQ9.out]
                              show bodyPost _ _ _ Exit.ret _ _
                              exact post_f Tryz.results6 rfl rfl (QR.out.set (.bool false) (.slice none 0 0) (.bool false) (.slice none 0 0)) (by exact rp2_no HN.out ⟨none, 0, 0, none, 0, 0, rfl, Lm.nil _ _, Lm.nil _ _, below_put4 BW.out (Nat.le_refl _) _ _ _ _⟩)
                            · have hzD := str_size (dg U1)
                              have hlD : (3 : Int) < ((dg U1).length : Int) := by omega
                              have hTn : dg U1 ≠ [] := fun e => by rw [e] at hU; simp at hU
                              clear HU hU
                              generalize dg U1 = D2 at *
                              generalize dr U1 = E2 at *
                              have hTL := str_list D2
                              have hT1 : (D2 == []) = false := by simp [hTn]
                              have hT2 : (D2 != []) = true := by simp [hTn]
                              have hT3 : D2.isEmpty = false := by simp [hTn]
                              have ⟨rQR0, rQR1, rQR2, rQR3, rQR4, rQR5, rQR6, rQR7, rQRl⟩ := QR.out
                              go_upto_region 29 with (fail)
                              rename_i hKK
                              refine wp_err hKK fun Q9 hQ9 => ?_
                              have HQ9 := Lib.hid hQ9
                              clear hQ9
                              go_light
                              as_aux_lemma =>
                              go_wp2
                              rw [HQ9.out]
                              show bodyPost _ _ _ Exit.ret _ _
                              exact post_f Tryz.results6 rfl rfl (QR.out.set (.bool false) (.slice none 0 0) (.bool false) (.slice none 0 0)) (by exact rp2_no HN.out ⟨none, 0, 0, none, 0, 0, rfl, Lm.nil _ _, Lm.nil _ _, below_put4 BW.out (Nat.le_refl _) _ _ _ _⟩)
                      · have HPw := Lib.hid hPw
                        have HPle := Lib.hid (pw_le hPw)
                        clear hPw
                        go_upto_if 94 with (fail)
                        go_cut [6, 12] (fun s6 s12 wx => s6 = .string ⟨(pwR RS).toArray⟩ ∧ s12 = .int .i64 (pwI RS) ∧ Below V5.heap.size V5 wx)
                        case first =>
                          as_aux_lemma =>
                          have HB0 : Hid (Below V5.heap.size V5 V5) := Below.refl _ _
                          by_cases h101 : (sk 101 RS).1 = true
                          · have HPI : Hid (pwI RS = (if (sk 45 (sk 101 RS).2).1 = true then -(decV (dg (sk 45 (sk 101 RS).2).2) : Int) else (decV (dg (sk 45 (sk 101 RS).2).2) : Int))) := if_pos h101
                            have HPR : Hid (pwR RS = dr (sk 45 (sk 101 RS).2).2) := if_pos h101
                            have HU : Hid (¬ (dg (sk 45 (sk 101 RS).2).2 = [] ∨ 3 < (dg (sk 45 (sk 101 RS).2).2).length)) := fun hh => HPw.out ⟨h101, hh⟩
                            have hxx := sk_ext h101
                            have hx := hxx.1
                            have hx2 := hxx.2
                            have HUl : Hid ((sk 45 (sk 101 RS).2).2.length ≤ 200) := by
                              have h1 := sk_len 45 (sk 101 RS).2
                              have := HPl.out
                              have := HDl.out
                              show _ ≤ _
                              omega
                            have hzR := str_size RS
                            have hlp : (1 : Int) ≤ (RS.length : Int) := by omega
                            rw [h101]
                            clear hxx h101
                            generalize (sk 101 RS).2 = U0 at *
                            go_upto_region 24 with (fail)
                            go_cut [104] (fun sx wx => sx = .bool (sk 45 U0).1 ∧ wx = V5)
                            case first =>
                              as_aux_lemma =>
                              have hz := str_size U0
                              by_cases hp : 0 < U0.length
                              · have hps : 0 < (⟨U0.toArray⟩ : ByteArray).size := by rw [hz]; exact hp
                                have hge := str_get U0 0 hp hps
                                have hpi : (0 : Int) < (U0.length : Int) := by omega
                                have HSK := Lib.hid (sk_head 45 hp)
                                by_cases hc : (U0[0]'hp) = 45
                                · have hcn : (U0[0]'hp).toNat = 45 := by rw [hc]; rfl
                                  have HS1 : Hid ((sk 45 U0).1 = true) := HSK.out.trans (decide_eq_true hc)
                                  clear HSK hc
                                  generalize (U0[0]'hp) = x at *
                                  go_wp2
                                  go_meet
                                  exact ⟨by rw [HS1.out], rfl⟩
                                · have hcn : ¬ ((U0[0]'hp).toNat : Int) = 45 := fun e => hc (UInt8.toNat_inj.1 (by show (U0[0]'hp).toNat = 45; omega))
                                  have hcn2 : decide (((U0[0]'hp).toNat : Int) = 45) = false := decide_eq_false hcn
                                  have hcn3 : (((U0[0]'hp).toNat : Int) == 45) = false := beq_false_of_ne hcn
                                  have HS1 : Hid ((sk 45 U0).1 = false) := HSK.out.trans (decide_eq_false hc)
                                  clear HSK hc
                                  generalize (U0[0]'hp) = x at *
                                  go_wp2
                                  go_meet
                                  exact ⟨by rw [HS1.out], rfl⟩
                              · obtain rfl : U0 = [] := List.eq_nil_of_length_eq_zero (by omega)
                                clear hp
                                go_wp2
                                go_meet
                                exact ⟨rfl, rfl⟩
                            case rest =>
                              obtain ⟨rfl, hwc⟩ := hcut
                              generalize wc = V6 at *
                              subst hwc
                              clear hx hx2 hzR hlp
                              have HX : Hid ((sk 45 U0).1 = true → (⟨U0.toArray⟩ : ByteArray).extract 1 U0.length = ⟨(sk 45 U0).2.toArray⟩ ∧ (sk 45 U0).2.length + 1 = U0.length) := sk_ext
                              have HY : Hid ((sk 45 U0).1 = false → (sk 45 U0).2 = U0) := sk_no
                              have hzU := str_size U0
                              generalize (sk 45 U0).1 = ng at *
                              generalize (sk 45 U0).2 = U1 at *
                              obtain ⟨sg, hsg⟩ : ∃ sg : Int, (if ng = true then (-1 : Int) else 1) = sg := ⟨_, rfl⟩
                              have Hsg := Lib.hid hsg
                              clear hsg
                              go_upto_if 104 with (fail)
                              go_cut [6, 13] (fun s6 s13 wx => s6 = .string ⟨U1.toArray⟩ ∧ s13 = .int .i64 sg ∧ wx = V6)
                              case first =>
                                as_aux_lemma =>
                                cases ng with
                                | true =>
                                  have hx := (HX.out rfl).1
                                  have hx2 := (HX.out rfl).2
                                  have hlp : (1 : Int) ≤ (U0.length : Int) := by omega
                                  go_wp2
                                  go_meet
                                  exact ⟨rfl, by rw [← Hsg.out]; rfl, rfl⟩
                                | false =>
                                  have HY2 := HY.out rfl
                                  go_wp2
                                  go_meet
                                  exact ⟨by rw [HY2], by rw [← Hsg.out]; rfl, rfl⟩
                              case rest =>
                                obtain ⟨rfl, rfl, hwc⟩ := hcut
                                generalize wc = V7 at *
                                subst hwc
                                clear HX HY hzU
                                go_wp2_with fail
                                refine (rsplit_any _ U1 (by have := HUl.out; omega)).mono ?_
                                rintro e w4 ⟨rfl, hb⟩
                                replace HB0 := Lib.hid (btr HB0.out hb)
                                clear hb
                                have HDD : Hid ((dg U1).all isDig = true) := dg_all U1
                                generalize dg U1 = D2 at *
                                generalize dr U1 = E2 at *
                                have hU := HU.out
                                have hTn : D2 ≠ [] := fun e => hU (.inl e)
                                have hl3 : ¬ (3 : Int) < (D2.length : Int) := fun e => hU (.inr (by omega))
                                have hl4 : D2.length ≤ 3 := by omega
                                have hzD := str_size D2
                                clear HU hU
                                have hTL := str_list D2
                                have hT1 : (D2 == []) = false := by simp [hTn]
                                have hT2 : (D2 != []) = true := by simp [hTn]
                                have hT3 : D2.isEmpty = false := by simp [hTn]
                                go_wp2
                                clear hTn hTL hT1 hT2 hT3 hl3
                                go_loop [12, 16] (fun p i => ∃ j : Nat, j ≤ D2.length ∧ i = .int .i64 j ∧ p = .int .i64 (decV (D2.take j) : Nat) ∧ decV (D2.take j) ≤ 999) (fun _ i => D2.length - (intOf i).toNat)
                                case atStart => exact ⟨0, Nat.zero_le _, rfl, rfl, by rw [List.take_zero]; exact Nat.zero_le _⟩
                                case round =>
                                  obtain ⟨j, hj, rfl, rfl, hv⟩ := hrel
                                  by_cases hlt : j < D2.length
                                  · have hps : j < (⟨D2.toArray⟩ : ByteArray).size := by rw [hzD]; exact hlt
                                    have hge := str_get D2 j hlt hps
                                    have HT1 := Lib.hid (take_snoc_ D2 j hlt)
                                    have hd := HDD.out
                                    rw [List.all_eq_true] at hd
                                    have hd1 := hd _ (List.getElem_mem hlt)
                                    have hd2 : 48 ≤ (D2[j]'hlt).toNat ∧ (D2[j]'hlt).toNat ≤ 57 := by unfold isDig at hd1; simpa using hd1
                                    have HV : Hid (decV (D2.take (j + 1)) = decV (D2.take j) * 10 + ((D2[j]'hlt).toNat - 48)) := by rw [HT1.out]; exact decV_snoc2 _ _
                                    have HV2 : Hid (decV (D2.take (j + 1)) ≤ 999) := by
                                      have h1 : (D2.take (j + 1)).all isDig = true := by
                                        rw [List.all_eq_true]
                                        exact fun c hc => hd c (List.mem_of_mem_take hc)
                                      have h2 := decV_lt h1
                                      have h3 : 10 ^ (D2.take (j + 1)).length ≤ 10 ^ 3 := Nat.pow_le_pow_right (by decide) (by rw [List.length_take]; omega)
                                      show _ ≤ _
                                      omega
                                    obtain ⟨hd3, hd4⟩ := hd2
                                    clear hd hd1 HT1
                                    generalize (D2[j]'hlt) = x at *
                                    generalize decV (D2.take j) = v at *
                                    have hji : (j : Int) < (D2.length : Int) := by omega
                                    go_wp2
                                    exact ⟨⟨j + 1, by omega, by go_num, by rw [HV.out]; go_num, HV2.out⟩, by simp [intOf]; omega⟩
                                  · have hjl : j = D2.length := by omega
                                    have hjd : decide ((j : Int) < (D2.length : Int)) = false := decide_eq_false (by omega)
                                    have hji : ¬ (j : Int) < (D2.length : Int) := by omega
                                    have HV : Hid (decV (D2.take j) = decV D2) := by show _ = _; rw [hjl, List.take_length]
                                    clear hjl
                                    generalize decV (D2.take j) = v at *
                                    cases ng with
                                    | true =>
                                      obtain rfl : sg = -1 := Hsg.out.symm
                                      go_wp2
                                      go_meet
                                      exact ⟨by rw [HPR.out], by rw [HPI.out, ← HV.out]; simp, HB0.out⟩
                                    | false =>
                                      obtain rfl : sg = 1 := Hsg.out.symm
                                      go_wp2
                                      go_meet
                                      exact ⟨by rw [HPR.out], by rw [HPI.out, ← HV.out]; simp, HB0.out⟩
                          · have HPI : Hid (pwI RS = 0) := if_neg h101
                            have HPR : Hid (pwR RS = RS) := if_neg h101
                            rw [show (sk 101 RS).1 = false by simpa using h101]
                            clear h101
                            go_wp2
                            go_meet
                            exact ⟨by rw [HPR.out], by rw [HPI.out], HB0.out⟩
                        case rest =>
                          obtain ⟨rfl, rfl, hb⟩ := hcut
                          replace QR := Lib.hid (QR.out.via hb)
                          replace L7 := Lib.hid (L7.out.via hb)
                          replace L8 := Lib.hid (L8.out.via hb)
                          replace P7 := Lib.hid (P7.out.via hb)
                          replace P8 := Lib.hid (P8.out.via hb)
                          replace BW := Lib.hid (btr BW.out hb)
                          clear hb
                          generalize wc = V8 at *
                          by_cases hR : pwR RS = []
                          · obtain ⟨p, q, hfin, hq, hpos, hneg⟩ := tl_ok (neg := neg) (N := (decV (D ++ PT) : Int)) (k := PT.length) HPw.out hR
                            have HN := Lib.hid (HFT.out.trans hfin)
                            have HQ := Lib.hid hq
                            have HPos := Lib.hid hpos
                            have HNeg := Lib.hid hneg
                            clear hfin hq hpos hneg HFT HPw
                            generalize pwI RS = pw at *
                            generalize pwR RS = E0 at *
                            subst hR
                            have HDPa : Hid ((D ++ PT).all isDig = true) := by show _ = _; rw [List.all_append, HDa.out, HPa.out]; rfl
                            have HDPn : Hid (D ++ PT ≠ []) := fun e => HD.out (List.append_eq_nil_iff.1 e).1
                            have HDPl : Hid ((D ++ PT).length ≤ 200 ∧ PT.length ≤ 200) := by
                              have := HDl.out
                              have := HPl.out
                              show _ ∧ _
                              rw [List.length_append]
                              omega
                            have hzD := str_size D
                            have hzP := str_size PT
                            have hlD : D.length ≤ 200 := by have := HDl.out; omega
                            have hlP := HDPl.out.2
                            go_wp2_with fail
                            rw [dec_eq0]
                            clear hzD hlD
                            refine (rvalue_p _ (D ++ PT) HDPa.out HDPn.out (by have := HDPl.out; omega)).mono ?_
                            rintro e w4 ⟨A9, n9, c9, rfl, hL9, hb⟩
                            replace QR := Lib.hid (QR.out.via hb)
                            replace L7 := Lib.hid (L7.out.via hb)
                            replace L8 := Lib.hid (L8.out.via hb)
                            replace P7 := Lib.hid (P7.out.via hb)
                            replace P8 := Lib.hid (P8.out.via hb)
                            replace BW := Lib.hid (btr BW.out hb)
                            have L9 := Lib.hid hL9
                            clear hb hL9
                            clear L7
                            have ⟨rP70, rP71, rP72, rP73, rP7l⟩ := P7.out
                            go_upto_region 39 with (fail)
                            clear rP70 rP71 rP72 rP73 rP7l
                            have HG9 : Hid (w.heap.size ≠ g7) := by have := HG7.out; have := HG8.out.1; show _ ≠ _; omega
                            replace QR := Lib.hid (QR.out.far2 HG9.out (x := .bool false) (y := .slice A9 n9 c9))
                            replace L8 := Lib.hid (L8.out.setP P7.out (.bool false) (.slice A9 n9 c9))
                            replace P8 := Lib.hid (P8.out.far (fun e => HG8.out.2 e.symm) (.bool false) (.slice A9 n9 c9))
                            replace L9 := Lib.hid (L9.out.setP P7.out (.bool false) (.slice A9 n9 c9))
                            replace BW := Lib.hid (below_set2 BW.out (Nat.le_of_lt HG7.out) (.bool false) (.slice A9 n9 c9))
                            replace P7 := Lib.hid (P7.out.set (.bool false) (.slice A9 n9 c9))
                            clear HG9
                            generalize (w4.setCell ⟨g7, 0, none⟩ (.bool false)).setCell ⟨g7, 1, none⟩ (.slice A9 n9 c9) = Y5 at *
                            have HSN : Hid (Sz 500 (decV (D ++ PT) : Int)) := (sz_dec HDPa.out HDPl.out.1).mono (by omega)
                            have HSN2 : Hid (Sz 200 (decV (D ++ PT) : Int)) := sz_dec HDPa.out HDPl.out.1
                            have HN0 : Hid (0 ≤ (decV (D ++ PT) : Int)) := by show _ ≤ _; omega
                            generalize hdn : (decV (D ++ PT) : Int) = N at *
                            clear hdn HDPa HDPn HPa HDa HD HPl HDl
                            have hpw1 := HPle.out.1
                            have hpw2 := HPle.out.2
                            go_upto_region 40 with (fail)
                            obtain ⟨t, ht⟩ : ∃ t, pw - (PT.length : Int) = t := ⟨_, rfl⟩
                            rw [ht] at HPos HNeg HS ⊢
                            have HTb : Hid (-1199 ≤ t ∧ t ≤ 999) := by show _ ∧ _; omega
                            clear hpw1 hpw2 hlP hzP ht HPle HDPl
                            go_upto_if 150 with (fail)
                            go_cut [] (fun wx => ∃ a b : Int, Pw w wx g7 g8 a b ∧ 0 ≤ a ∧ 0 < b ∧ Sz 500 a ∧ Sz 500 b ∧ a * q = p * b)
                            case first =>
                              have ht0 : 0 ≤ t := HS.out
                              obtain ⟨j, rfl⟩ := Int.eq_ofNat_of_zero_le ht0
                              have hj : j ≤ 999 := by have := HTb.out; omega
                              have HAB : Hid (N * 10 ^ j * q = p) := (HPos.out j rfl).trans (Int.mul_one p)
                              have HST : Hid (Sz 500 ((10 : Int) ^ j)) := (sz_ten3 j (by omega)).mono (by omega)
                              have HT0 : Hid ((0 : Int) ≤ 10 ^ j) := Int.le_of_lt (Int.pow_pos (by decide))
                              have HA0 : Hid (0 ≤ N * 10 ^ j) := Int.mul_nonneg HN0.out HT0.out
                              have HSa : Hid (Sz 500 (N * 10 ^ j)) := (HSN2.out.mul (sz_ten3 j (by omega))).mono (by omega)
                              have HSb : Hid (Sz 500 (1 : Int)) := Sz.mono (show Sz 1 (1 : Int) by unfold Sz; decide) (by omega)
                              have HB0 : Hid (0 < (1 : Int)) := by show (0 : Int) < 1; decide
                              clear HPos HNeg ht0
                              go_upto_region 41 with (fail)
                              have HKS : Hid (∀ X : World, Below Y5.heap.size Y5 X → X.cell? ⟨g7, 0, none⟩ = some (.bool false) ∧ X.cell? ⟨g7, 1, none⟩ = some (.slice A9 n9 c9)) := fun X h => ⟨(P7.out.via h).c0, (P7.out.via h).c1⟩
                              go_cut [17, 18] (fun sx se wx => se = .int .i64 0 ∧ NqO Y5 (N * 10 ^ j) sx wx)
                              case first =>
                                go_region_held3 (fun X => X.cell? ⟨g7, 0, none⟩ = some (.bool false) ∧ X.cell? ⟨g7, 1, none⟩ = some (.slice A9 n9 c9))
                                  (first | (refine HKS.out _ ?_; (repeat' (first | with_reducible exact BB2 | with_reducible exact BB1 | with_reducible exact (Below.refl _ _).drew | with_reducible exact Below.refl _ _ | with_reducible refine Below.drew ?_ | with_reducible refine Below.setCell ?_ ?_ _ | with_reducible refine Below.alloc ?_ ?_ _)); all_goals (first | omega | exact Nat.le_refl _ | exact S2 | exact S1 | (simp; done) | (simp; omega))))
                                  (first
                                   | (have _t := BB1; go_at_call 19; refine (rmul_p (k := 500) (x := N) (y := 10 ^ j) (by first | with_reducible exact L9.out.via BB1 | with_reducible exact (L9.out.via BB1).box _) (by first | with_reducible exact hL10 | with_reducible exact hL10.box _) HSN.out HST.out (by omega) HN0.out HT0.out).mono ?_; rintro e u2 ⟨A11, n11, c11, rfl, hL11, hh⟩; have B2 : Below u1.heap.size u1 u2 := (by first | with_reducible exact hh | with_reducible exact b_one hh); have BB2 := btr BB1 B2; have S2 := BB2.size; have T2 := B2.size; (try (have P0 := P0.via B2)); (try (have P1 : (Pr u2 (u1.heap.size) (.bool false) (.slice none 0 0)) := (by with_reducible exact (Pr.new u1 (u1.heap.size) rfl (.bool false) (.slice none 0 0) 24).via hh); have l1 := P1.lt)); (try (have ⟨p00, p01, p02, p03, p0l⟩ := P0; have p0a0 := fun o => (P0.alloc o).c0; have p0a1 := fun o => (P0.alloc o).c1; have p0a2 := fun o => (P0.alloc o).f0; have p0a3 := fun o => (P0.alloc o).f1; have p0n1 := Nat.ne_of_lt p0l; have p0n2 := Nat.ne_of_gt p0l)); (try (have ⟨p10, p11, p12, p13, p1l⟩ := P1; have p1a0 := fun o => (P1.alloc o).c0; have p1a1 := fun o => (P1.alloc o).c1; have p1a2 := fun o => (P1.alloc o).f0; have p1a3 := fun o => (P1.alloc o).f1; have p1n1 := Nat.ne_of_lt p1l; have p1n2 := Nat.ne_of_gt p1l)))
                                   | (go_at_call 20; refine (rten_p2 _ j (by omega)).mono ?_; rintro e u1 ⟨A10, n10, c10, rfl, hL10, hh⟩; have BB1 : Below Y5.heap.size Y5 u1 := (by first | with_reducible exact b_one_d hh | exact (Below.refl _ _).drew.trans hh | exact hh); have S1 := BB1.size; have T1 := BB1.size; (try (have P0 : (Pr u1 (Y5.heap.size) (.bool false) (.slice none 0 0)) := (by with_reducible exact (Pr.new Y5 (Y5.heap.size) rfl (.bool false) (.slice none 0 0) 24).drew.via hh); have l0 := P0.lt)))
                                   | fail)
                                all_goals
                                  go_wp2_with fail
                                  go_meet
                                  first
                                  | (refine ⟨rfl, ?_⟩; with_reducible exact nfin1 BB2 hL11)
                                  | (refine ⟨rfl, ?_⟩; with_reducible exact nfin2 BB2 hL11 P0 (Nat.le_refl _))
                                  | (refine ⟨rfl, ?_⟩; with_reducible exact nfin2 BB2 hL11 P1 S1)
                              case rest =>
                                obtain ⟨rfl, gN, A11, n11, c11, rfl, hP, hL, hgN, hb⟩ := hcut
                                clear HKS
                                replace QR := Lib.hid (QR.out.via hb)
                                replace L8 := Lib.hid (L8.out.via hb)
                                replace P7 := Lib.hid (P7.out.via hb)
                                replace P8 := Lib.hid (P8.out.via hb)
                                replace L9 := Lib.hid (L9.out.via hb)
                                replace BW := Lib.hid (btr BW.out hb)
                                have PN := Lib.hid hP
                                have LN := Lib.hid hL
                                clear hb hP hL hgN
                                generalize wc = V9 at *
                                have ⟨rN0, rN1, rN2, rN3, rNl⟩ := PN.out
                                clear L9
                                have ⟨rP70, rP71, rP72, rP73, rP7l⟩ := P7.out
                                go_wp2
                                clear rP70 rP71 rP72 rP73 rP7l
                                have HG9 : Hid (w.heap.size ≠ g7) := by have := HG7.out; have := HG8.out.1; show _ ≠ _; omega
                                replace QR := Lib.hid (QR.out.far2 HG9.out (x := .bool false) (y := .slice A11 n11 c11))
                                replace L8 := Lib.hid (L8.out.setP P7.out (.bool false) (.slice A11 n11 c11))
                                replace P8 := Lib.hid (P8.out.far (fun e => HG8.out.2 e.symm) (.bool false) (.slice A11 n11 c11))
                                replace LN := Lib.hid (LN.out.setP P7.out (.bool false) (.slice A11 n11 c11))
                                replace BW := Lib.hid (below_set2 BW.out (Nat.le_of_lt HG7.out) (.bool false) (.slice A11 n11 c11))
                                replace P7 := Lib.hid (P7.out.set (.bool false) (.slice A11 n11 c11))
                                clear HG9
                                generalize (V9.setCell ⟨g7, 0, none⟩ (.bool false)).setCell ⟨g7, 1, none⟩ (.slice A11 n11 c11) = Y6 at *
                                clear rN0 rN1 rN2 rN3 rNl PN
                                have L7 := LN
                                clear LN
                                go_meet
                                exact ⟨N * 10 ^ j, 1, ⟨QR.out, ⟨_, _, _, P7.out, L7.out⟩, ⟨_, _, _, P8.out, L8.out⟩, BW.out⟩, HA0.out, HB0.out, HSa.out, HSb.out, by rw [Int.mul_one]; exact HAB.out⟩
                            case rest =>
                              as_aux_lemma =>
                              obtain ⟨a, b, ⟨hQ, ⟨A7, n7, c7, hP7, hL7⟩, ⟨A8, n8, c8, hP8, hL8⟩, hBW⟩, ha0, hb0, hsa, hsb, hab⟩ := hcut
                              have QR := Lib.hid hQ
                              have P7 := Lib.hid hP7
                              have L7 := Lib.hid hL7
                              have P8 := Lib.hid hP8
                              have L8 := Lib.hid hL8
                              have BW := Lib.hid hBW
                              have HA0 := Lib.hid ha0
                              have HB0 := Lib.hid hb0
                              have HSa := Lib.hid hsa
                              have HSb := Lib.hid hsb
                              have HAB := Lib.hid hab
                              clear hQ hP7 hL7 hP8 hL8 hBW ha0 hb0 hsa hsb hab
                              generalize wc = V12 at *
                              as_aux_lemma =>
                              have HNZ : Hid (n8 ≠ 0) := by
                                show _ ≠ _
                                have h1 := L8.out.len
                                have h2 : digs (b).natAbs ≠ [] := fun e => by
                                  have := digs_nil.1 e
                                  have := HB0.out
                                  omega
                                intro e
                                exact h2 (List.eq_nil_of_length_eq_zero (h1.trans e))
                              have hnz : ¬ (n8 : Int) = 0 := by have := HNZ.out; omega
                              have hnz2 : ((n8 : Int) == 0) = false := by simp; have := HNZ.out; omega
                              have hnz3 : ¬ n8 = 0 := HNZ.out
                              have ⟨rP80, rP81, rP82, rP83, rP8l⟩ := P8.out
                              go_upto_if 189 with (fail)
                              clear rP80 rP81 rP82 rP83 rP8l hnz hnz2 hnz3 HNZ
                              cases neg with
                              | true =>
                                have ⟨rP70, rP71, rP72, rP73, rP7l⟩ := P7.out
                                go_wp2_with fail
                                clear rP70 rP71 rP72 rP73 rP7l
                                refine (rneg_n2 _ A7 n7 c7 500 (a) L7.out HSa.out (by omega) (decide_eq_false (by have := HA0.out; omega))).mono ?_
                                rintro e w6 ⟨A20, n20, c20, rfl, hL20, hb⟩
                                clear L7
                                replace QR := Lib.hid (QR.out.via hb)
                                replace P7 := Lib.hid (P7.out.via hb)
                                replace P8 := Lib.hid (P8.out.via hb)
                                replace L8 := Lib.hid (L8.out.via hb)
                                replace BW := Lib.hid (btr BW.out hb)
                                have L20 := Lib.hid hL20
                                clear hb hL20
                                obtain ⟨z20, hz20⟩ : ∃ b, decide (-(a) < 0) = b := ⟨_, rfl⟩
                                rw [hz20]
                                have Hz20 := Lib.hid hz20
                                clear hz20
                                have ⟨rP70, rP71, rP72, rP73, rP7l⟩ := P7.out
                                go_upto_region 56 with (fail)
                                clear rP70 rP71 rP72 rP73 rP7l
                                have HG9 : Hid (w.heap.size ≠ g7) := by have := HG7.out; show _ ≠ _; omega
                                replace QR := Lib.hid (QR.out.far2 HG9.out (x := .bool z20) (y := .slice A20 n20 c20))
                                replace P8 := Lib.hid (P8.out.far (fun e => HG8.out.2 e.symm) (.bool z20) (.slice A20 n20 c20))
                                replace L20 := Lib.hid (L20.out.setP P7.out (.bool z20) (.slice A20 n20 c20))
                                replace L8 := Lib.hid (L8.out.setP P7.out (.bool z20) (.slice A20 n20 c20))
                                replace BW := Lib.hid (below_set2 BW.out (Nat.le_of_lt HG7.out) (.bool z20) (.slice A20 n20 c20))
                                replace P7 := Lib.hid (P7.out.set (.bool z20) (.slice A20 n20 c20))
                                generalize (w6.setCell ⟨g7, 0, none⟩ (.bool z20)).setCell ⟨g7, 1, none⟩ (.slice A20 n20 c20) = V20 at *
                                rename_i hKK
                                refine wp_err hKK fun Q9 hQ9 => ?_
                                have HQ9 := Lib.hid hQ9
                                clear hQ9
                                go_light
                                have ⟨rP70, rP71, rP72, rP73, rP7l⟩ := P7.out
                                have ⟨rP80, rP81, rP82, rP83, rP8l⟩ := P8.out
                                go_wp2_with fail
                                clear rP70 rP71 rP72 rP73 rP7l rP80 rP81 rP82 rP83 rP8l
                                refine (rreduced_pos _ A20 A8 n20 n8 c20 c8 500 (-(a)) (b) L20.out L8.out (Sz.neg HSa.out) (HSb.out) (by omega) Hz20.out (decide_eq_false (by have := HB0.out; omega)) HB0.out).mono ?_
                                rintro e w7 ⟨A5, n5, c5, B5, m5, d5, rfl, hL5, hM5, hb⟩
                                clear P7
                                clear P8
                                clear L8
                                clear L20
                                replace QR := Lib.hid (QR.out.via hb)
                                replace BW := Lib.hid (btr BW.out hb)
                                have L5 := Lib.hid hL5
                                have M5 := Lib.hid hM5
                                clear hb hL5 hM5
                                obtain ⟨z5, hz5⟩ : ∃ z, decide ((-(a)) / dvr (-(a)) (b) < 0) = z := ⟨_, rfl⟩
                                obtain ⟨z6, hz6⟩ : ∃ z, decide ((b) / dvr (-(a)) (b) < 0) = z := ⟨_, rfl⟩
                                rw [hz5, hz6]
                                have Hz5 := Lib.hid hz5
                                have Hz6 := Lib.hid hz6
                                clear hz5 hz6
                                have ⟨rQR0, rQR1, rQR2, rQR3, rQR4, rQR5, rQR6, rQR7, rQRl⟩ := QR.out
                                go_wp2
                                rw [HQ9.out]
                                show bodyPost _ _ _ Exit.ret _ _
                                exact post_f Tryz.results6 rfl rfl (QR.out.set (.bool z5) (.slice A5 n5 c5) (.bool z6) (.slice B5 m5 d5)) (by exact rp2_ok HN.out HQ.out HB0.out (Sz.neg HSa.out) (HSb.out) (by first | rw [if_pos rfl, Int.neg_mul, HAB.out, Int.neg_mul] | rw [if_pos trivial, Int.neg_mul, HAB.out, Int.neg_mul]) ⟨A5, n5, c5, B5, m5, d5, by rw [Hz5.out, Hz6.out]; rfl, L5.out.put4 QR.out _ _ _ _, M5.out.put4 QR.out _ _ _ _, below_put4 BW.out (Nat.le_refl _) _ _ _ _⟩)
                              | false =>
                                go_upto_region 56 with (fail)
                                rename_i hKK
                                refine wp_err hKK fun Q9 hQ9 => ?_
                                have HQ9 := Lib.hid hQ9
                                clear hQ9
                                go_light
                                have ⟨rP70, rP71, rP72, rP73, rP7l⟩ := P7.out
                                have ⟨rP80, rP81, rP82, rP83, rP8l⟩ := P8.out
                                go_wp2_with fail
                                clear rP70 rP71 rP72 rP73 rP7l rP80 rP81 rP82 rP83 rP8l
                                refine (rreduced_pos _ A7 A8 n7 n8 c7 c8 500 (a) (b) L7.out L8.out (HSa.out) (HSb.out) (by omega) (decide_eq_false (by have := HA0.out; omega)) (decide_eq_false (by have := HB0.out; omega)) HB0.out).mono ?_
                                rintro e w6 ⟨A5, n5, c5, B5, m5, d5, rfl, hL5, hM5, hb⟩
                                clear P7
                                clear P8
                                clear L8
                                clear L7
                                replace QR := Lib.hid (QR.out.via hb)
                                replace BW := Lib.hid (btr BW.out hb)
                                have L5 := Lib.hid hL5
                                have M5 := Lib.hid hM5
                                clear hb hL5 hM5
                                obtain ⟨z5, hz5⟩ : ∃ z, decide ((a) / dvr (a) (b) < 0) = z := ⟨_, rfl⟩
                                obtain ⟨z6, hz6⟩ : ∃ z, decide ((b) / dvr (a) (b) < 0) = z := ⟨_, rfl⟩
                                rw [hz5, hz6]
                                have Hz5 := Lib.hid hz5
                                have Hz6 := Lib.hid hz6
                                clear hz5 hz6
                                have ⟨rQR0, rQR1, rQR2, rQR3, rQR4, rQR5, rQR6, rQR7, rQRl⟩ := QR.out
                                go_wp2
                                rw [HQ9.out]
                                show bodyPost _ _ _ Exit.ret _ _
                                exact post_f Tryz.results6 rfl rfl (QR.out.set (.bool z5) (.slice A5 n5 c5) (.bool z6) (.slice B5 m5 d5)) (by exact rp2_ok HN.out HQ.out HB0.out (HSa.out) (HSb.out) (by rw [if_neg (by decide), HAB.out]) ⟨A5, n5, c5, B5, m5, d5, by rw [Hz5.out, Hz6.out]; rfl, L5.out.put4 QR.out _ _ _ _, M5.out.put4 QR.out _ _ _ _, below_put4 BW.out (Nat.le_refl _) _ _ _ _⟩)
                          · have HN : Hid (nml l = none) := HFT.out.trans (tl_e5 HPw.out hR)
                            have hTn := hR
                            clear hR HFT HPw
                            generalize pwR RS = E at *
                            have hTL := str_list E
                            have hT1 : (E == []) = false := by simp [hTn]
                            have hT2 : (E != []) = true := by simp [hTn]
                            have hT3 : E.isEmpty = false := by simp [hTn]
                            have ⟨rQR0, rQR1, rQR2, rQR3, rQR4, rQR5, rQR6, rQR7, rQRl⟩ := QR.out
                            go_upto_region 37 with (fail)
                            rename_i hKK
                            refine wp_err hKK fun Q9 hQ9 => ?_
                            have HQ9 := Lib.hid hQ9
                            clear hQ9
                            go_light
                            as_aux_lemma =>
                            go_wp2
                            rw [HQ9.out]
                            show bodyPost _ _ _ Exit.ret _ _
                            exact post_f Tryz.results6 rfl rfl (QR.out.set (.bool false) (.slice none 0 0) (.bool false) (.slice none 0 0)) (by exact rp2_no HN.out ⟨none, 0, 0, none, 0, 0, rfl, Lm.nil _ _, Lm.nil _ _, below_put4 BW.out (Nat.le_refl _) _ _ _ _⟩)
end Go.Proofs.YtbplbbkmfbjkfaaGreatDoor

