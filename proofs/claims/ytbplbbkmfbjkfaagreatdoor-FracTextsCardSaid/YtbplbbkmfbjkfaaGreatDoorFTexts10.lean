/- Lemmas of several claims. -/
import Derived.Deep.DeepCutAuto
import Derived.Deep.Light
import Derived.Test.YtbplbbkmfbjkfaaGreatDoorFTexts9
/- The reference of frac: Parse at any string. -/
namespace Go.Proofs.YtbplbbkmfbjkfaaGreatDoor
open Go.RowKit

set_option maxRecDepth 100000 in
set_option maxHeartbeats 16000000 in
theorem rfparse_n (w : World) (l : List UInt8) (hl : l.length ≤ 300) (hS : ¬ 0 ≤ pwT l) : Calls Tryz.prog 6 #[.string ⟨l.toArray⟩] w (RP2 w l) := by
  have QR := Lib.hid (Qd.new w w.heap.size rfl (.bool false) (.slice none 0 0) (.bool false) (.slice none 0 0) 26)
  have BW : Hid (Below w.heap.size w (w.alloc (.cells #[.bool false, .slice none 0 0, .bool false, .slice none 0 0] 26))) := below_alloc (Below.refl _ _) _
  have hz := str_size l
  go_enter Tryz.func6, Tryz.ntmps6
  go_upto_region 1 with (fail)
  generalize w.alloc (.cells #[.bool false, .slice none 0 0, .bool false, .slice none 0 0] 26) = W0 at *
  by_cases h200 : 200 < l.length
  · clear hS
    have HN : Hid (nml l = none) := by
      show _ = _
      unfold nml
      rw [if_pos h200]
    have h2 : (200 : Int) < (l.length : Int) := by omega
    have ⟨rQR0, rQR1, rQR2, rQR3, rQR4, rQR5, rQR6, rQR7, rQRl⟩ := QR.out
    go_upto_region 2 with (fail)
    rename_i hKK
    refine wp_err hKK fun Q9 hQ9 => ?_
    have HQ9 := Lib.hid hQ9
    clear hQ9
    go_light
    as_aux_lemma =>
    go_wp2
    rw [HQ9.out]
    show bodyPost _ _ _ Exit.ret _ _
    exact post_f Tryz.results6 rfl rfl (QR.out.set (.bool false) (.slice none 0 0) (.bool false) (.slice none 0 0)) (by exact rp2_no HN.out ⟨none, 0, 0, none, 0, 0, rfl, Lm.nil _ _, Lm.nil _ _, below_put4 BW.out (Nat.le_refl _) _ _ _ _⟩)
  · have HS := Lib.hid hS
    clear hS
    unfold pwT at HS
    have HF := Lib.hid (nml_fin h200)
    have HLl : Hid (l.length ≤ 200) := by show _ ≤ _; omega
    have h2 : ¬ (200 : Int) < (l.length : Int) := by omega
    go_upto_region 3 with (fail)
    clear h2 h200
    go_upto_region 3 with (fail)
    go_cut [4] (fun sx wx => sx = .bool (sk 45 l).1 ∧ wx = W0)
    case first =>
      as_aux_lemma =>
      have hz := str_size l
      by_cases hp : 0 < l.length
      · have hps : 0 < (⟨l.toArray⟩ : ByteArray).size := by rw [hz]; exact hp
        have hge := str_get l 0 hp hps
        have hpi : (0 : Int) < (l.length : Int) := by omega
        have HSK := Lib.hid (sk_head 45 hp)
        by_cases hc : (l[0]'hp) = 45
        · have hcn : (l[0]'hp).toNat = 45 := by rw [hc]; rfl
          have HS1 : Hid ((sk 45 l).1 = true) := HSK.out.trans (decide_eq_true hc)
          clear HSK hc
          generalize (l[0]'hp) = x at *
          go_wp2
          go_meet
          exact ⟨by rw [HS1.out], rfl⟩
        · have hcn : ¬ ((l[0]'hp).toNat : Int) = 45 := fun e => hc (UInt8.toNat_inj.1 (by show (l[0]'hp).toNat = 45; omega))
          have hcn2 : decide (((l[0]'hp).toNat : Int) = 45) = false := decide_eq_false hcn
          have hcn3 : (((l[0]'hp).toNat : Int) == 45) = false := beq_false_of_ne hcn
          have HS1 : Hid ((sk 45 l).1 = false) := HSK.out.trans (decide_eq_false hc)
          clear HSK hc
          generalize (l[0]'hp) = x at *
          go_wp2
          go_meet
          exact ⟨by rw [HS1.out], rfl⟩
      · obtain rfl : l = [] := List.eq_nil_of_length_eq_zero (by omega)
        clear hp
        go_wp2
        go_meet
        exact ⟨rfl, rfl⟩
    case rest =>
      obtain ⟨rfl, hwc⟩ := hcut
      generalize wc = W1 at *
      subst hwc
      have HX : Hid ((sk 45 l).1 = true → (⟨l.toArray⟩ : ByteArray).extract 1 l.length = ⟨(sk 45 l).2.toArray⟩ ∧ (sk 45 l).2.length + 1 = l.length) := sk_ext
      have HY : Hid ((sk 45 l).1 = false → (sk 45 l).2 = l) := sk_no
      have HSl : Hid ((sk 45 l).2.length ≤ 200) := Nat.le_trans (sk_len 45 l) HLl.out
      clear HLl
      generalize (sk 45 l).1 = neg at *
      generalize (sk 45 l).2 = s at *
      go_upto_if 33 with (fail)
      go_cut [0] (fun s0 wx => s0 = .string ⟨s.toArray⟩ ∧ wx = W1)
      case first =>
        as_aux_lemma =>
        cases neg with
        | true =>
          have hx := (HX.out rfl).1
          have hx2 := (HX.out rfl).2
          have hlp : (1 : Int) ≤ (l.length : Int) := by omega
          go_wp2
          go_meet
          exact ⟨rfl, rfl⟩
        | false =>
          have HY2 := HY.out rfl
          go_wp2
          go_meet
          exact ⟨by rw [HY2], rfl⟩
      case rest =>
        obtain ⟨rfl, hwc⟩ := hcut
        generalize wc = W2 at *
        subst hwc
        clear HX HY hz
        go_wp2_with fail
        refine (rsplit_any _ s (by have := HSl.out; omega)).mono ?_
        rintro e w1 ⟨rfl, hb⟩
        replace QR := Lib.hid (QR.out.via hb)
        replace BW := Lib.hid (btr BW.out hb)
        clear hb
        have HE1 := Lib.hid (fun hh : dg s = [] => un_e1 (neg := neg) hh)
        have HE2 := Lib.hid (fun h1 h2 h3 => un_e2 (neg := neg) (s := s) h1 h2 h3)
        have HO2 := Lib.hid (fun h1 h2 h3 h4 => un_o2 (neg := neg) (s := s) h1 h2 h3 h4)
        have HE3 := Lib.hid (fun h1 h2 h3 h4 => un_e3 (neg := neg) (s := s) h1 h2 h3 h4)
        have HT := Lib.hid (fun h1 h2 h3 => un_t (neg := neg) (s := s) h1 h2 h3)
        have HDa : Hid ((dg s).all isDig = true) := dg_all s
        have HDl : Hid ((dg s).length + (dr s).length ≤ 200) := by
          have h3 : dg s ++ dr s = s := List.takeWhile_append_dropWhile
          have h4 := congrArg List.length h3
          rw [List.length_append] at h4
          have := HSl.out
          show _ ≤ _
          omega
        clear HSl
        generalize uns s = us at *
        generalize dg s = D at *
        generalize dr s = R at *
        by_cases hD : D = []
        · have HN : Hid (nml l = none) := HF.out.trans (HE1.out hD)
          subst hD
          have ⟨rQR0, rQR1, rQR2, rQR3, rQR4, rQR5, rQR6, rQR7, rQRl⟩ := QR.out
          go_upto_region 8 with (fail)
          rename_i hKK
          refine wp_err hKK fun Q9 hQ9 => ?_
          have HQ9 := Lib.hid hQ9
          clear hQ9
          go_light
          as_aux_lemma =>
          go_wp2
          rw [HQ9.out]
          show bodyPost _ _ _ Exit.ret _ _
          exact post_f Tryz.results6 rfl rfl (QR.out.set (.bool false) (.slice none 0 0) (.bool false) (.slice none 0 0)) (by exact rp2_no HN.out ⟨none, 0, 0, none, 0, 0, rfl, Lm.nil _ _, Lm.nil _ _, below_put4 BW.out (Nat.le_refl _) _ _ _ _⟩)
        · have HD := Lib.hid hD
          have hTn := hD
          clear hD HE1
          have hTL := str_list D
          have hT1 : (D == []) = false := by simp [hTn]
          have hT2 : (D != []) = true := by simp [hTn]
          have hT3 : D.isEmpty = false := by simp [hTn]
          go_upto_region 9 with (fail)
          clear hTn hTL hT1 hT2 hT3
          go_wp2_with fail
          refine (rvalue_p _ D HDa.out HD.out (by have := HDl.out; omega)).mono ?_
          rintro e w2 ⟨A7, n7, c7, rfl, hL7, hb⟩
          replace QR := Lib.hid (QR.out.via hb)
          replace BW := Lib.hid (btr BW.out hb)
          have L7 := Lib.hid hL7
          clear hb hL7
          go_wp2_with fail
          refine (rfrom_any _ 1 (by decide) (by decide)).mono ?_
          rintro e w3 ⟨A8, n8, c8, rfl, hL8, hb⟩
          replace QR := Lib.hid (QR.out.via hb)
          replace L7 := Lib.hid (L7.out.via hb)
          replace BW := Lib.hid (btr BW.out hb)
          have L8 := Lib.hid hL8
          clear hb hL8
          go_upto_region 10 with (fail)
          have HG7 : Hid (w.heap.size < w3.heap.size) := QR.out.lt
          replace QR := Lib.hid ((QR.out.alloc (.cells #[.bool false, .slice A7 n7 c7] 24)).alloc (.cells #[.bool false, .slice A8 n8 c8] 24))
          replace L7 := Lib.hid ((L7.out.box (.cells #[.bool false, .slice A7 n7 c7] 24)).box (.cells #[.bool false, .slice A8 n8 c8] 24))
          replace L8 := Lib.hid ((L8.out.box (.cells #[.bool false, .slice A7 n7 c7] 24)).box (.cells #[.bool false, .slice A8 n8 c8] 24))
          have P7 := Lib.hid ((Pr.new w3 _ rfl (.bool false) (.slice A7 n7 c7) 24).alloc (.cells #[.bool false, .slice A8 n8 c8] 24))
          have P8 := Lib.hid (Pr.new (w3.alloc (.cells #[.bool false, .slice A7 n7 c7] 24)) (w3.heap.size + 1) (by simp) (.bool false) (.slice A8 n8 c8) 24)
          replace BW := Lib.hid (below_alloc (below_alloc BW.out (.cells #[.bool false, .slice A7 n7 c7] 24)) (.cells #[.bool false, .slice A8 n8 c8] 24))
          obtain ⟨g8, hg8⟩ : ∃ g8, w3.heap.size + 1 = g8 := ⟨_, rfl⟩
          rw [hg8] at P8 ⊢
          generalize w3.heap.size = g7 at *
          have HG8 : Hid (w.heap.size < g8 ∧ g7 ≠ g8) := by
            have := HG7.out
            show _ ∧ _
            omega
          clear hg8
          generalize (w3.alloc (.cells #[.bool false, .slice A7 n7 c7] 24)).alloc (.cells #[.bool false, .slice A8 n8 c8] 24) = V1 at *
          go_upto_region 10 with (fail)
          go_cut [54] (fun sx wx => sx = .bool (sk 47 R).1 ∧ wx = V1)
          case first =>
            as_aux_lemma =>
            have hz := str_size R
            by_cases hp : 0 < R.length
            · have hps : 0 < (⟨R.toArray⟩ : ByteArray).size := by rw [hz]; exact hp
              have hge := str_get R 0 hp hps
              have hpi : (0 : Int) < (R.length : Int) := by omega
              have HSK := Lib.hid (sk_head 47 hp)
              by_cases hc : (R[0]'hp) = 47
              · have hcn : (R[0]'hp).toNat = 47 := by rw [hc]; rfl
                have HS1 : Hid ((sk 47 R).1 = true) := HSK.out.trans (decide_eq_true hc)
                clear HSK hc
                generalize (R[0]'hp) = x at *
                go_wp2
                go_meet
                exact ⟨by rw [HS1.out], rfl⟩
              · have hcn : ¬ ((R[0]'hp).toNat : Int) = 47 := fun e => hc (UInt8.toNat_inj.1 (by show (R[0]'hp).toNat = 47; omega))
                have hcn2 : decide (((R[0]'hp).toNat : Int) = 47) = false := decide_eq_false hcn
                have hcn3 : (((R[0]'hp).toNat : Int) == 47) = false := beq_false_of_ne hcn
                have HS1 : Hid ((sk 47 R).1 = false) := HSK.out.trans (decide_eq_false hc)
                clear HSK hc
                generalize (R[0]'hp) = x at *
                go_wp2
                go_meet
                exact ⟨by rw [HS1.out], rfl⟩
            · obtain rfl : R = [] := List.eq_nil_of_length_eq_zero (by omega)
              clear hp
              go_wp2
              go_meet
              exact ⟨rfl, rfl⟩
          case rest =>
            obtain ⟨rfl, hwc⟩ := hcut
            generalize wc = V2 at *
            subst hwc
            have HX : Hid ((sk 47 R).1 = true → (⟨R.toArray⟩ : ByteArray).extract 1 R.length = ⟨(sk 47 R).2.toArray⟩ ∧ (sk 47 R).2.length + 1 = R.length) := sk_ext
            generalize (sk 47 R).2 = T at *
            generalize hq47 : (sk 47 R).1 = q47 at *
            clear hq47
            cases q47 with
            | true =>
              as_aux_lemma =>
              have hx := (HX.out rfl).1
              have hx2 := (HX.out rfl).2
              have hzR := str_size R
              have hlp : (1 : Int) ≤ (R.length : Int) := by omega
              have HTl : Hid (T.length ≤ 200) := by have := HDl.out; show _ ≤ _; omega
              go_wp2_with fail
              clear hx hx2 hzR hlp HX HE3 HT
              refine (rsplit_any _ T (by have := HTl.out; omega)).mono ?_
              rintro e w4 ⟨rfl, hb⟩
              replace QR := Lib.hid (QR.out.via hb)
              replace L7 := Lib.hid (L7.out.via hb)
              replace L8 := Lib.hid (L8.out.via hb)
              replace P7 := Lib.hid (P7.out.via hb)
              replace P8 := Lib.hid (P8.out.via hb)
              replace BW := Lib.hid (btr BW.out hb)
              clear hb
              have HMa : Hid ((dg T).all isDig = true) := dg_all T
              have HMl : Hid ((dg T).length ≤ 200) := by
                have := (dgr_len T)
                have := HTl.out
                show _ ≤ _
                omega
              generalize dg T = M at *
              generalize dr T = E at *
              by_cases hM : M = []
              · have HN : Hid (nml l = none) := HF.out.trans (HE2.out HD.out (by first | rfl | trivial) (.inl hM))
                subst hM
                have ⟨rQR0, rQR1, rQR2, rQR3, rQR4, rQR5, rQR6, rQR7, rQRl⟩ := QR.out
                go_upto_region 13 with (fail)
                rename_i hKK
                refine wp_err hKK fun Q9 hQ9 => ?_
                have HQ9 := Lib.hid hQ9
                clear hQ9
                go_light
                as_aux_lemma =>
                go_wp2
                rw [HQ9.out]
                show bodyPost _ _ _ Exit.ret _ _
                exact post_f Tryz.results6 rfl rfl (QR.out.set (.bool false) (.slice none 0 0) (.bool false) (.slice none 0 0)) (by exact rp2_no HN.out ⟨none, 0, 0, none, 0, 0, rfl, Lm.nil _ _, Lm.nil _ _, below_put4 BW.out (Nat.le_refl _) _ _ _ _⟩)
              · have HM := Lib.hid hM
                have hTn := hM
                clear hM
                have hTL := str_list M
                have hT1 : (M == []) = false := by simp [hTn]
                have hT2 : (M != []) = true := by simp [hTn]
                have hT3 : M.isEmpty = false := by simp [hTn]
                by_cases hE : E = []
                · have HN := Lib.hid (HF.out.trans (HO2.out HD.out (by first | rfl | trivial) HM.out hE))
                  subst hE
                  clear HO2 HE2 HF
                  go_wp2_with fail
                  clear hTn hTL hT1 hT2 hT3
                  refine (rvalue_p _ M HMa.out HM.out (by have := HMl.out; omega)).mono ?_
                  rintro e w5 ⟨A9, n9, c9, rfl, hL9, hb⟩
                  replace QR := Lib.hid (QR.out.via hb)
                  replace L7 := Lib.hid (L7.out.via hb)
                  replace L8 := Lib.hid (L8.out.via hb)
                  replace P7 := Lib.hid (P7.out.via hb)
                  replace P8 := Lib.hid (P8.out.via hb)
                  replace BW := Lib.hid (btr BW.out hb)
                  have L9 := Lib.hid hL9
                  clear hb hL9
                  clear L8
                  have ⟨rP80, rP81, rP82, rP83, rP8l⟩ := P8.out
                  go_upto_region 52 with (fail)
                  clear rP80 rP81 rP82 rP83 rP8l
                  have HG9 : Hid (w.heap.size ≠ g8) := by have := HG7.out; have := HG8.out.1; show _ ≠ _; omega
                  replace QR := Lib.hid (QR.out.far2 HG9.out (x := .bool false) (y := .slice A9 n9 c9))
                  replace L7 := Lib.hid (L7.out.setP P8.out (.bool false) (.slice A9 n9 c9))
                  replace P7 := Lib.hid (P7.out.far HG8.out.2 (.bool false) (.slice A9 n9 c9))
                  replace L9 := Lib.hid (L9.out.setP P8.out (.bool false) (.slice A9 n9 c9))
                  replace BW := Lib.hid (below_set2 BW.out (Nat.le_of_lt HG8.out.1) (.bool false) (.slice A9 n9 c9))
                  replace P8 := Lib.hid (P8.out.set (.bool false) (.slice A9 n9 c9))
                  clear HG9
                  generalize (w5.setCell ⟨g8, 0, none⟩ (.bool false)).setCell ⟨g8, 1, none⟩ (.slice A9 n9 c9) = Y6 at *
                  have HSa : Hid (Sz 500 (decV D : Int)) := (sz_dec HDa.out (by have := HDl.out; omega)).mono (by omega)
                  have HSb : Hid (Sz 500 (decV M : Int)) := (sz_dec HMa.out HMl.out).mono (by omega)
                  have HA0 : Hid (0 ≤ (decV D : Int)) := by show _ ≤ _; omega
                  have L8 := L9
                  clear L9
                  generalize hda : (decV D : Int) = a at *
                  clear hda
                  by_cases hb0 : decV M = 0
                  · have hn9 : n9 = 0 := by
                      have h1 := L8.out.len
                      rw [hb0] at h1
                      exact h1.symm
                    subst hn9
                    have HN2 : Hid (nml l = some (if neg = true then -a else a, 0)) := by rw [HN.out, hb0]; rfl
                    clear HN hb0
                    have ⟨rP80, rP81, rP82, rP83, rP8l⟩ := P8.out
                    have ⟨rQR0, rQR1, rQR2, rQR3, rQR4, rQR5, rQR6, rQR7, rQRl⟩ := QR.out
                    go_upto_region 53 with (fail)
                    rename_i hKK
                    refine wp_err hKK fun Q9 hQ9 => ?_
                    have HQ9 := Lib.hid hQ9
                    clear hQ9
                    go_light
                    as_aux_lemma =>
                    go_wp2
                    rw [HQ9.out]
                    show bodyPost _ _ _ Exit.ret _ _
                    exact post_f Tryz.results6 rfl rfl (QR.out.set (.bool false) (.slice none 0 0) (.bool false) (.slice none 0 0)) (by exact rp2_zero HN2.out ⟨none, 0, 0, none, 0, 0, rfl, Lm.nil _ _, Lm.nil _ _, below_put4 BW.out (Nat.le_refl _) _ _ _ _⟩)
                  · have HB0 : Hid (0 < (decV M : Int)) := by show _ < _; omega
                    clear hb0
                    generalize hdb : (decV M : Int) = b at *
                    clear hdb
                    have HQ := HB0
                    as_aux_lemma =>
                    have HNZ : Hid (n9 ≠ 0) := by
                      show _ ≠ _
                      have h1 := L8.out.len
                      have h2 : digs (b).natAbs ≠ [] := fun e => by
                        have := digs_nil.1 e
                        have := HB0.out
                        omega
                      intro e
                      exact h2 (List.eq_nil_of_length_eq_zero (h1.trans e))
                    have hnz : ¬ (n9 : Int) = 0 := by have := HNZ.out; omega
                    have hnz2 : ((n9 : Int) == 0) = false := by simp; have := HNZ.out; omega
                    have hnz3 : ¬ n9 = 0 := HNZ.out
                    have ⟨rP80, rP81, rP82, rP83, rP8l⟩ := P8.out
                    go_upto_if 189 with (fail)
                    clear rP80 rP81 rP82 rP83 rP8l hnz hnz2 hnz3 HNZ
                    cases neg with
                    | true =>
                      have ⟨rP70, rP71, rP72, rP73, rP7l⟩ := P7.out
                      go_wp2_with fail
                      clear rP70 rP71 rP72 rP73 rP7l
                      refine (rneg_n2 _ A7 n7 c7 500 (a) L7.out HSa.out (by omega) (decide_eq_false (by have := HA0.out; omega))).mono ?_
                      rintro e w7 ⟨A20, n20, c20, rfl, hL20, hb⟩
                      clear L7
                      replace QR := Lib.hid (QR.out.via hb)
                      replace P7 := Lib.hid (P7.out.via hb)
                      replace P8 := Lib.hid (P8.out.via hb)
                      replace L8 := Lib.hid (L8.out.via hb)
                      replace BW := Lib.hid (btr BW.out hb)
                      have L20 := Lib.hid hL20
                      clear hb hL20
                      obtain ⟨z20, hz20⟩ : ∃ b, decide (-(a) < 0) = b := ⟨_, rfl⟩
                      rw [hz20]
                      have Hz20 := Lib.hid hz20
                      clear hz20
                      have ⟨rP70, rP71, rP72, rP73, rP7l⟩ := P7.out
                      go_upto_region 56 with (fail)
                      clear rP70 rP71 rP72 rP73 rP7l
                      have HG9 : Hid (w.heap.size ≠ g7) := by have := HG7.out; show _ ≠ _; omega
                      replace QR := Lib.hid (QR.out.far2 HG9.out (x := .bool z20) (y := .slice A20 n20 c20))
                      replace P8 := Lib.hid (P8.out.far (fun e => HG8.out.2 e.symm) (.bool z20) (.slice A20 n20 c20))
                      replace L20 := Lib.hid (L20.out.setP P7.out (.bool z20) (.slice A20 n20 c20))
                      replace L8 := Lib.hid (L8.out.setP P7.out (.bool z20) (.slice A20 n20 c20))
                      replace BW := Lib.hid (below_set2 BW.out (Nat.le_of_lt HG7.out) (.bool z20) (.slice A20 n20 c20))
                      replace P7 := Lib.hid (P7.out.set (.bool z20) (.slice A20 n20 c20))
                      generalize (w7.setCell ⟨g7, 0, none⟩ (.bool z20)).setCell ⟨g7, 1, none⟩ (.slice A20 n20 c20) = V20 at *
                      rename_i hKK
                      refine wp_err hKK fun Q9 hQ9 => ?_
                      have HQ9 := Lib.hid hQ9
                      clear hQ9
                      go_light
                      have ⟨rP70, rP71, rP72, rP73, rP7l⟩ := P7.out
                      have ⟨rP80, rP81, rP82, rP83, rP8l⟩ := P8.out
                      go_wp2_with fail
                      clear rP70 rP71 rP72 rP73 rP7l rP80 rP81 rP82 rP83 rP8l
                      refine (rreduced_pos _ A20 A9 n20 n9 c20 c9 500 (-(a)) (b) L20.out L8.out (Sz.neg HSa.out) (HSb.out) (by omega) Hz20.out (decide_eq_false (by have := HB0.out; omega)) HB0.out).mono ?_
                      rintro e w8 ⟨A5, n5, c5, B5, m5, d5, rfl, hL5, hM5, hb⟩
                      clear P7
                      clear P8
                      clear L8
                      clear L20
                      replace QR := Lib.hid (QR.out.via hb)
                      replace BW := Lib.hid (btr BW.out hb)
                      have L5 := Lib.hid hL5
                      have M5 := Lib.hid hM5
                      clear hb hL5 hM5
                      obtain ⟨z5, hz5⟩ : ∃ z, decide ((-(a)) / dvr (-(a)) (b) < 0) = z := ⟨_, rfl⟩
                      obtain ⟨z6, hz6⟩ : ∃ z, decide ((b) / dvr (-(a)) (b) < 0) = z := ⟨_, rfl⟩
                      rw [hz5, hz6]
                      have Hz5 := Lib.hid hz5
                      have Hz6 := Lib.hid hz6
                      clear hz5 hz6
                      have ⟨rQR0, rQR1, rQR2, rQR3, rQR4, rQR5, rQR6, rQR7, rQRl⟩ := QR.out
                      go_wp2
                      rw [HQ9.out]
                      show bodyPost _ _ _ Exit.ret _ _
                      exact post_f Tryz.results6 rfl rfl (QR.out.set (.bool z5) (.slice A5 n5 c5) (.bool z6) (.slice B5 m5 d5)) (by exact rp2_ok HN.out HQ.out HB0.out (Sz.neg HSa.out) (HSb.out) (by first | rw [if_pos rfl] | rw [if_pos trivial]) ⟨A5, n5, c5, B5, m5, d5, by rw [Hz5.out, Hz6.out]; rfl, L5.out.put4 QR.out _ _ _ _, M5.out.put4 QR.out _ _ _ _, below_put4 BW.out (Nat.le_refl _) _ _ _ _⟩)
                    | false =>
                      go_upto_region 56 with (fail)
                      rename_i hKK
                      refine wp_err hKK fun Q9 hQ9 => ?_
                      have HQ9 := Lib.hid hQ9
                      clear hQ9
                      go_light
                      have ⟨rP70, rP71, rP72, rP73, rP7l⟩ := P7.out
                      have ⟨rP80, rP81, rP82, rP83, rP8l⟩ := P8.out
                      go_wp2_with fail
                      clear rP70 rP71 rP72 rP73 rP7l rP80 rP81 rP82 rP83 rP8l
                      refine (rreduced_pos _ A7 A9 n7 n9 c7 c9 500 (a) (b) L7.out L8.out (HSa.out) (HSb.out) (by omega) (decide_eq_false (by have := HA0.out; omega)) (decide_eq_false (by have := HB0.out; omega)) HB0.out).mono ?_
                      rintro e w7 ⟨A5, n5, c5, B5, m5, d5, rfl, hL5, hM5, hb⟩
                      clear P7
                      clear P8
                      clear L8
                      clear L7
                      replace QR := Lib.hid (QR.out.via hb)
                      replace BW := Lib.hid (btr BW.out hb)
                      have L5 := Lib.hid hL5
                      have M5 := Lib.hid hM5
                      clear hb hL5 hM5
                      obtain ⟨z5, hz5⟩ : ∃ z, decide ((a) / dvr (a) (b) < 0) = z := ⟨_, rfl⟩
                      obtain ⟨z6, hz6⟩ : ∃ z, decide ((b) / dvr (a) (b) < 0) = z := ⟨_, rfl⟩
                      rw [hz5, hz6]
                      have Hz5 := Lib.hid hz5
                      have Hz6 := Lib.hid hz6
                      clear hz5 hz6
                      have ⟨rQR0, rQR1, rQR2, rQR3, rQR4, rQR5, rQR6, rQR7, rQRl⟩ := QR.out
                      go_wp2
                      rw [HQ9.out]
                      show bodyPost _ _ _ Exit.ret _ _
                      exact post_f Tryz.results6 rfl rfl (QR.out.set (.bool z5) (.slice A5 n5 c5) (.bool z6) (.slice B5 m5 d5)) (by exact rp2_ok HN.out HQ.out HB0.out (HSa.out) (HSb.out) (by rw [if_neg (by decide)]) ⟨A5, n5, c5, B5, m5, d5, by rw [Hz5.out, Hz6.out]; rfl, L5.out.put4 QR.out _ _ _ _, M5.out.put4 QR.out _ _ _ _, below_put4 BW.out (Nat.le_refl _) _ _ _ _⟩)
                · have HN : Hid (nml l = none) := HF.out.trans (HE2.out HD.out (by first | rfl | trivial) (.inr hE))
                  have hEL := str_list E
                  have hE1 : (E != []) = true := by simp [hE]
                  have hE2 : (E == []) = false := by simp [hE]
                  have hE3 : E.isEmpty = false := by simp [hE]
                  have ⟨rQR0, rQR1, rQR2, rQR3, rQR4, rQR5, rQR6, rQR7, rQRl⟩ := QR.out
                  go_upto_region 13 with (fail)
                  rename_i hKK
                  refine wp_err hKK fun Q9 hQ9 => ?_
                  have HQ9 := Lib.hid hQ9
                  clear hQ9
                  go_light
                  as_aux_lemma =>
                  go_wp2
                  rw [HQ9.out]
                  show bodyPost _ _ _ Exit.ret _ _
                  exact post_f Tryz.results6 rfl rfl (QR.out.set (.bool false) (.slice none 0 0) (.bool false) (.slice none 0 0)) (by exact rp2_no HN.out ⟨none, 0, 0, none, 0, 0, rfl, Lm.nil _ _, Lm.nil _ _, below_put4 BW.out (Nat.le_refl _) _ _ _ _⟩)
            | false =>
              clear HX HE2 HO2
              have HPa := Lib.hid (pts_all R)
              have HPl := Lib.hid (pts_len R)
              go_upto_region 16 with (fail)
              go_cut [77] (fun sx wx => sx = .bool (sk 46 R).1 ∧ wx = V2)
              case first =>
                as_aux_lemma =>
                have hz := str_size R
                by_cases hp : 0 < R.length
                · have hps : 0 < (⟨R.toArray⟩ : ByteArray).size := by rw [hz]; exact hp
                  have hge := str_get R 0 hp hps
                  have hpi : (0 : Int) < (R.length : Int) := by omega
                  have HSK := Lib.hid (sk_head 46 hp)
                  by_cases hc : (R[0]'hp) = 46
                  · have hcn : (R[0]'hp).toNat = 46 := by rw [hc]; rfl
                    have HS1 : Hid ((sk 46 R).1 = true) := HSK.out.trans (decide_eq_true hc)
                    clear HSK hc
                    generalize (R[0]'hp) = x at *
                    go_wp2
                    go_meet
                    exact ⟨by rw [HS1.out], rfl⟩
                  · have hcn : ¬ ((R[0]'hp).toNat : Int) = 46 := fun e => hc (UInt8.toNat_inj.1 (by show (R[0]'hp).toNat = 46; omega))
                    have hcn2 : decide (((R[0]'hp).toNat : Int) = 46) = false := decide_eq_false hcn
                    have hcn3 : (((R[0]'hp).toNat : Int) == 46) = false := beq_false_of_ne hcn
                    have HS1 : Hid ((sk 46 R).1 = false) := HSK.out.trans (decide_eq_false hc)
                    clear HSK hc
                    generalize (R[0]'hp) = x at *
                    go_wp2
                    go_meet
                    exact ⟨by rw [HS1.out], rfl⟩
                · obtain rfl : R = [] := List.eq_nil_of_length_eq_zero (by omega)
                  clear hp
                  go_wp2
                  go_meet
                  exact ⟨rfl, rfl⟩
              case rest =>
                obtain ⟨rfl, hwc⟩ := hcut
                generalize wc = V3 at *
                subst hwc
                by_cases hPB : (sk 46 R).1 = true ∧ dg (sk 46 R).2 = []
                · have HN : Hid (nml l = none) := HF.out.trans (HE3.out HD.out (by first | rfl | trivial) hPB.1 hPB.2)
                  have hxx := sk_ext hPB.1
                  have hx := hxx.1
                  have hx2 := hxx.2
                  clear hxx
                  rw [hPB.1]
                  have HPB := Lib.hid hPB.2
                  have hzR := str_size R
                  have hlp : (1 : Int) ≤ (R.length : Int) := by omega
                  have HTl : Hid ((sk 46 R).2.length ≤ 200) := by have := HDl.out; show _ ≤ _; omega
                  clear hPB HT HE3 HF
                  generalize (sk 46 R).2 = U at *
                  go_wp2_with fail
                  clear hx hx2 hzR hlp
                  refine (rsplit_any _ U (by have := HTl.out; omega)).mono ?_
                  rintro e w4 ⟨rfl, hb⟩
                  replace QR := Lib.hid (QR.out.via hb)
                  replace L7 := Lib.hid (L7.out.via hb)
                  replace L8 := Lib.hid (L8.out.via hb)
                  replace P7 := Lib.hid (P7.out.via hb)
                  replace P8 := Lib.hid (P8.out.via hb)
                  replace BW := Lib.hid (btr BW.out hb)
                  clear hb
                  have hM := HPB.out
                  clear HPB HTl
                  generalize dg U = M at *
                  generalize dr U = E at *
                  subst hM
                  have ⟨rQR0, rQR1, rQR2, rQR3, rQR4, rQR5, rQR6, rQR7, rQRl⟩ := QR.out
                  go_upto_region 19 with (fail)
                  rename_i hKK
                  refine wp_err hKK fun Q9 hQ9 => ?_
                  have HQ9 := Lib.hid hQ9
                  clear hQ9
                  go_light
                  as_aux_lemma =>
                  go_wp2
                  rw [HQ9.out]
                  show bodyPost _ _ _ Exit.ret _ _
                  exact post_f Tryz.results6 rfl rfl (QR.out.set (.bool false) (.slice none 0 0) (.bool false) (.slice none 0 0)) (by exact rp2_no HN.out ⟨none, 0, 0, none, 0, 0, rfl, Lm.nil _ _, Lm.nil _ _, below_put4 BW.out (Nat.le_refl _) _ _ _ _⟩)
                · have HFT := Lib.hid (HF.out.trans (HT.out HD.out (by first | rfl | trivial) (fun h1 h2 => hPB ⟨h1, h2⟩)))
                  have HPB := Lib.hid (fun h1 : (sk 46 R).1 = true => fun h2 : dg (sk 46 R).2 = [] => hPB ⟨h1, h2⟩)
                  clear hPB HF HT HE3
                  go_upto_if 77 with (fail)
                  go_cut [6, 11] (fun s6 s11 wx => s6 = .string ⟨(rss R).toArray⟩ ∧ s11 = .string ⟨(pts R).toArray⟩ ∧ Below V3.heap.size V3 wx)
                  case first =>
                    as_aux_lemma =>
                    by_cases h46 : (sk 46 R).1 = true
                    · have HRS : Hid (rss R = dr (sk 46 R).2) := if_pos h46
                      have HPT : Hid (pts R = dg (sk 46 R).2) := if_pos h46
                      have hM := HPB.out h46
                      have hxx := sk_ext h46
                      have hx := hxx.1
                      have hx2 := hxx.2
                      have hzR := str_size R
                      have hlp : (1 : Int) ≤ (R.length : Int) := by omega
                      have HTl : Hid ((sk 46 R).2.length ≤ 200) := by have := HDl.out; show _ ≤ _; omega
                      rw [h46]
                      clear hxx HPB h46
                      go_wp2_with fail
                      clear hx hx2 hzR hlp
                      refine (rsplit_any _ (sk 46 R).2 (by have := HTl.out; omega)).mono ?_
                      rintro e w9 ⟨rfl, hb⟩
                      have Hb := Lib.hid hb
                      clear hb
                      generalize dg (sk 46 R).2 = M at *
                      generalize dr (sk 46 R).2 = E at *
                      have hTn : ¬ M = [] := fun e => hM e
                      have hTL := str_list M
                      have hT1 : (M == []) = false := by simp [hTn]
                      have hT2 : (M != []) = true := by simp [hTn]
                      have hT3 : M.isEmpty = false := by simp [hTn]
                      go_wp2
                      go_meet
                      exact ⟨by rw [HRS.out], by rw [HPT.out], Hb.out⟩
                    · have HRS : Hid (rss R = R) := if_neg h46
                      have HPT : Hid (pts R = []) := if_neg h46
                      rw [show (sk 46 R).1 = false by simpa using h46]
                      clear h46 HPB
                      go_wp2
                      go_meet
                      exact ⟨by rw [HRS.out], by rw [HPT.out], Below.refl _ _⟩
                  case rest =>
                    obtain ⟨rfl, rfl, hb⟩ := hcut
                    clear HPB
                    replace QR := Lib.hid (QR.out.via hb)
                    replace L7 := Lib.hid (L7.out.via hb)
                    replace L8 := Lib.hid (L8.out.via hb)
                    replace P7 := Lib.hid (P7.out.via hb)
                    replace P8 := Lib.hid (P8.out.via hb)
                    replace BW := Lib.hid (btr BW.out hb)
                    clear hb
                    generalize pts R = PT at *
                    generalize rss R = RS at *
                    generalize wc = V4 at *
                    go_upto_region 21 with (fail)
                    go_cut [94] (fun sx wx => sx = .bool (sk 101 RS).1 ∧ wx = V4)
                    case first =>
                      as_aux_lemma =>
                      have hz := str_size RS
                      by_cases hp : 0 < RS.length
                      · have hps : 0 < (⟨RS.toArray⟩ : ByteArray).size := by rw [hz]; exact hp
                        have hge := str_get RS 0 hp hps
                        have hpi : (0 : Int) < (RS.length : Int) := by omega
                        have HSK := Lib.hid (sk_head 101 hp)
                        by_cases hc : (RS[0]'hp) = 101
                        · have hcn : (RS[0]'hp).toNat = 101 := by rw [hc]; rfl
                          have HS1 : Hid ((sk 101 RS).1 = true) := HSK.out.trans (decide_eq_true hc)
                          clear HSK hc
                          generalize (RS[0]'hp) = x at *
                          go_wp2
                          go_meet
                          exact ⟨by rw [HS1.out], rfl⟩
                        · have hcn : ¬ ((RS[0]'hp).toNat : Int) = 101 := fun e => hc (UInt8.toNat_inj.1 (by show (RS[0]'hp).toNat = 101; omega))
                          have hcn2 : decide (((RS[0]'hp).toNat : Int) = 101) = false := decide_eq_false hcn
                          have hcn3 : (((RS[0]'hp).toNat : Int) == 101) = false := beq_false_of_ne hcn
                          have HS1 : Hid ((sk 101 RS).1 = false) := HSK.out.trans (decide_eq_false hc)
                          clear HSK hc
                          generalize (RS[0]'hp) = x at *
                          go_wp2
                          go_meet
                          exact ⟨by rw [HS1.out], rfl⟩
                      · obtain rfl : RS = [] := List.eq_nil_of_length_eq_zero (by omega)
                        clear hp
                        go_wp2
                        go_meet
                        exact ⟨rfl, rfl⟩
                    case rest =>
                      obtain ⟨rfl, hwc⟩ := hcut
                      generalize wc = V5 at *
                      subst hwc
                      by_cases hPw : pwBad RS
                      · have HN : Hid (nml l = none) := HFT.out.trans (tl_e4 hPw)
                        have h101 := hPw.1
                        have HU := Lib.hid hPw.2
                        clear hPw HFT
                        have hxx := sk_ext h101
                        have hx := hxx.1
                        have hx2 := hxx.2
                        have HUl : Hid ((sk 45 (sk 101 RS).2).2.length ≤ 200) := by
                          have h1 := sk_len 45 (sk 101 RS).2
                          have := HPl.out
                          have := HDl.out
                          show _ ≤ _
                          omega
                        have hzR := str_size RS
                        have hlp : (1 : Int) ≤ (RS.length : Int) := by omega
                        rw [h101]
                        clear hxx h101
                        generalize (sk 101 RS).2 = U0 at *
                        go_upto_region 24 with (fail)
                        go_cut [104] (fun sx wx => sx = .bool (sk 45 U0).1 ∧ wx = V5)
                        case first =>
                          as_aux_lemma =>
                          have hz := str_size U0
                          by_cases hp : 0 < U0.length
                          · have hps : 0 < (⟨U0.toArray⟩ : ByteArray).size := by rw [hz]; exact hp
                            have hge := str_get U0 0 hp hps
                            have hpi : (0 : Int) < (U0.length : Int) := by omega
                            have HSK := Lib.hid (sk_head 45 hp)
                            by_cases hc : (U0[0]'hp) = 45
                            · have hcn : (U0[0]'hp).toNat = 45 := by rw [hc]; rfl
                              have HS1 : Hid ((sk 45 U0).1 = true) := HSK.out.trans (decide_eq_true hc)
                              clear HSK hc
                              generalize (U0[0]'hp) = x at *
                              go_wp2
                              go_meet
                              exact ⟨by rw [HS1.out], rfl⟩
                            · have hcn : ¬ ((U0[0]'hp).toNat : Int) = 45 := fun e => hc (UInt8.toNat_inj.1 (by show (U0[0]'hp).toNat = 45; omega))
                              have hcn2 : decide (((U0[0]'hp).toNat : Int) = 45) = false := decide_eq_false hcn
                              have hcn3 : (((U0[0]'hp).toNat : Int) == 45) = false := beq_false_of_ne hcn
                              have HS1 : Hid ((sk 45 U0).1 = false) := HSK.out.trans (decide_eq_false hc)
                              clear HSK hc
                              generalize (U0[0]'hp) = x at *
                              go_wp2
                              go_meet
                              exact ⟨by rw [HS1.out], rfl⟩
                          · obtain rfl : U0 = [] := List.eq_nil_of_length_eq_zero (by omega)
                            clear hp
                            go_wp2
                            go_meet
                            exact ⟨rfl, rfl⟩
                        case rest =>
                          obtain ⟨rfl, hwc⟩ := hcut
                          generalize wc = V6 at *
                          subst hwc
                          clear hx hx2 hzR hlp
                          have HX : Hid ((sk 45 U0).1 = true → (⟨U0.toArray⟩ : ByteArray).extract 1 U0.length = ⟨(sk 45 U0).2.toArray⟩ ∧ (sk 45 U0).2.length + 1 = U0.length) := sk_ext
                          have HY : Hid ((sk 45 U0).1 = false → (sk 45 U0).2 = U0) := sk_no
                          have hzU := str_size U0
                          generalize (sk 45 U0).1 = ng at *
                          generalize (sk 45 U0).2 = U1 at *
                          obtain ⟨sg, hsg⟩ : ∃ sg : Int, (if ng = true then (-1 : Int) else 1) = sg := ⟨_, rfl⟩
                          have Hsg := Lib.hid hsg
                          clear hsg
                          go_upto_if 104 with (fail)
                          go_cut [6, 13] (fun s6 s13 wx => s6 = .string ⟨U1.toArray⟩ ∧ s13 = .int .i64 sg ∧ wx = V6)
                          case first =>
                            as_aux_lemma =>
                            cases ng with
                            | true =>
                              have hx := (HX.out rfl).1
                              have hx2 := (HX.out rfl).2
                              have hlp : (1 : Int) ≤ (U0.length : Int) := by omega
                              go_wp2
                              go_meet
                              exact ⟨rfl, by rw [← Hsg.out]; rfl, rfl⟩
                            | false =>
                              have HY2 := HY.out rfl
                              go_wp2
                              go_meet
                              exact ⟨by rw [HY2], by rw [← Hsg.out]; rfl, rfl⟩
                          case rest =>
                            obtain ⟨rfl, rfl, hwc⟩ := hcut
                            generalize wc = V7 at *
                            subst hwc
                            clear HX HY hzU
                            go_wp2_with fail
                            refine (rsplit_any _ U1 (by have := HUl.out; omega)).mono ?_
                            rintro e w4 ⟨rfl, hb⟩
                            replace QR := Lib.hid (QR.out.via hb)
                            replace L7 := Lib.hid (L7.out.via hb)
                            replace L8 := Lib.hid (L8.out.via hb)
                            replace P7 := Lib.hid (P7.out.via hb)
                            replace P8 := Lib.hid (P8.out.via hb)
                            replace BW := Lib.hid (btr BW.out hb)
                            clear hb
                            rcases HU.out with hU | hU
                            · clear HU
                              generalize dg U1 = D2 at *
                              generalize dr U1 = E2 at *
                              subst hU
                              have ⟨rQR0, rQR1, rQR2, rQR3, rQR4, rQR5, rQR6, rQR7, rQRl⟩ := QR.out
                              go_upto_region 29 with (fail)
                              rename_i hKK
                              refine wp_err hKK fun Q9 hQ9 => ?_
                              have HQ9 := Lib.hid hQ9
                              clear hQ9
                              go_light
                              as_aux_lemma =>
                              go_wp2
                              rw [HQ9.out]
                              show bodyPost _ _ _ Exit.ret _ _
                              exact post_f Tryz.results6 rfl rfl (QR.out.set (.bool false) (.slice none 0 0) (.bool false) (.slice none 0 0)) (by exact rp2_no HN.out ⟨none, 0, 0, none, 0, 0, rfl, Lm.nil _ _, Lm.nil _ _, below_put4 BW.out (Nat.le_refl _) _ _ _ _⟩)
                            · have hzD := str_size (dg U1)
                              have hlD : (3 : Int) < ((dg U1).length : Int) := by omega
                              have hTn : dg U1 ≠ [] := fun e => by rw [e] at hU; simp at hU
                              clear HU hU
                              generalize dg U1 = D2 at *
                              generalize dr U1 = E2 at *
                              have hTL := str_list D2
                              have hT1 : (D2 == []) = false := by simp [hTn]
                              have hT2 : (D2 != []) = true := by simp [hTn]
                              have hT3 : D2.isEmpty = false := by simp [hTn]
                              have ⟨rQR0, rQR1, rQR2, rQR3, rQR4, rQR5, rQR6, rQR7, rQRl⟩ := QR.out
                              go_upto_region 29 with (fail)
                              rename_i hKK
                              refine wp_err hKK fun Q9 hQ9 => ?_
                              have HQ9 := Lib.hid hQ9
                              clear hQ9
                              go_light
                              as_aux_lemma =>
                              go_wp2
                              rw [HQ9.out]
                              show bodyPost _ _ _ Exit.ret _ _
                              exact post_f Tryz.results6 rfl rfl (QR.out.set (.bool false) (.slice none 0 0) (.bool false) (.slice none 0 0)) (by exact rp2_no HN.out ⟨none, 0, 0, none, 0, 0, rfl, Lm.nil _ _, Lm.nil _ _, below_put4 BW.out (Nat.le_refl _) _ _ _ _⟩)
                      · have HPw := Lib.hid hPw
                        have HPle := Lib.hid (pw_le hPw)
                        clear hPw
                        go_upto_if 94 with (fail)
                        go_cut [6, 12] (fun s6 s12 wx => s6 = .string ⟨(pwR RS).toArray⟩ ∧ s12 = .int .i64 (pwI RS) ∧ Below V5.heap.size V5 wx)
                        case first =>
                          as_aux_lemma =>
                          have HB0 : Hid (Below V5.heap.size V5 V5) := Below.refl _ _
                          by_cases h101 : (sk 101 RS).1 = true
                          · have HPI : Hid (pwI RS = (if (sk 45 (sk 101 RS).2).1 = true then -(decV (dg (sk 45 (sk 101 RS).2).2) : Int) else (decV (dg (sk 45 (sk 101 RS).2).2) : Int))) := if_pos h101
                            have HPR : Hid (pwR RS = dr (sk 45 (sk 101 RS).2).2) := if_pos h101
                            have HU : Hid (¬ (dg (sk 45 (sk 101 RS).2).2 = [] ∨ 3 < (dg (sk 45 (sk 101 RS).2).2).length)) := fun hh => HPw.out ⟨h101, hh⟩
                            have hxx := sk_ext h101
                            have hx := hxx.1
                            have hx2 := hxx.2
                            have HUl : Hid ((sk 45 (sk 101 RS).2).2.length ≤ 200) := by
                              have h1 := sk_len 45 (sk 101 RS).2
                              have := HPl.out
                              have := HDl.out
                              show _ ≤ _
                              omega
                            have hzR := str_size RS
                            have hlp : (1 : Int) ≤ (RS.length : Int) := by omega
                            rw [h101]
                            clear hxx h101
                            generalize (sk 101 RS).2 = U0 at *
                            go_upto_region 24 with (fail)
                            go_cut [104] (fun sx wx => sx = .bool (sk 45 U0).1 ∧ wx = V5)
                            case first =>
                              as_aux_lemma =>
                              have hz := str_size U0
                              by_cases hp : 0 < U0.length
                              · have hps : 0 < (⟨U0.toArray⟩ : ByteArray).size := by rw [hz]; exact hp
                                have hge := str_get U0 0 hp hps
                                have hpi : (0 : Int) < (U0.length : Int) := by omega
                                have HSK := Lib.hid (sk_head 45 hp)
                                by_cases hc : (U0[0]'hp) = 45
                                · have hcn : (U0[0]'hp).toNat = 45 := by rw [hc]; rfl
                                  have HS1 : Hid ((sk 45 U0).1 = true) := HSK.out.trans (decide_eq_true hc)
                                  clear HSK hc
                                  generalize (U0[0]'hp) = x at *
                                  go_wp2
                                  go_meet
                                  exact ⟨by rw [HS1.out], rfl⟩
                                · have hcn : ¬ ((U0[0]'hp).toNat : Int) = 45 := fun e => hc (UInt8.toNat_inj.1 (by show (U0[0]'hp).toNat = 45; omega))
                                  have hcn2 : decide (((U0[0]'hp).toNat : Int) = 45) = false := decide_eq_false hcn
                                  have hcn3 : (((U0[0]'hp).toNat : Int) == 45) = false := beq_false_of_ne hcn
                                  have HS1 : Hid ((sk 45 U0).1 = false) := HSK.out.trans (decide_eq_false hc)
                                  clear HSK hc
                                  generalize (U0[0]'hp) = x at *
                                  go_wp2
                                  go_meet
                                  exact ⟨by rw [HS1.out], rfl⟩
                              · obtain rfl : U0 = [] := List.eq_nil_of_length_eq_zero (by omega)
                                clear hp
                                go_wp2
                                go_meet
                                exact ⟨rfl, rfl⟩
                            case rest =>
                              obtain ⟨rfl, hwc⟩ := hcut
                              generalize wc = V6 at *
                              subst hwc
                              clear hx hx2 hzR hlp
                              have HX : Hid ((sk 45 U0).1 = true → (⟨U0.toArray⟩ : ByteArray).extract 1 U0.length = ⟨(sk 45 U0).2.toArray⟩ ∧ (sk 45 U0).2.length + 1 = U0.length) := sk_ext
                              have HY : Hid ((sk 45 U0).1 = false → (sk 45 U0).2 = U0) := sk_no
                              have hzU := str_size U0
                              generalize (sk 45 U0).1 = ng at *
                              generalize (sk 45 U0).2 = U1 at *
                              obtain ⟨sg, hsg⟩ : ∃ sg : Int, (if ng = true then (-1 : Int) else 1) = sg := ⟨_, rfl⟩
                              have Hsg := Lib.hid hsg
                              clear hsg
                              go_upto_if 104 with (fail)
                              go_cut [6, 13] (fun s6 s13 wx => s6 = .string ⟨U1.toArray⟩ ∧ s13 = .int .i64 sg ∧ wx = V6)
                              case first =>
                                as_aux_lemma =>
                                cases ng with
                                | true =>
                                  have hx := (HX.out rfl).1
                                  have hx2 := (HX.out rfl).2
                                  have hlp : (1 : Int) ≤ (U0.length : Int) := by omega
                                  go_wp2
                                  go_meet
                                  exact ⟨rfl, by rw [← Hsg.out]; rfl, rfl⟩
                                | false =>
                                  have HY2 := HY.out rfl
                                  go_wp2
                                  go_meet
                                  exact ⟨by rw [HY2], by rw [← Hsg.out]; rfl, rfl⟩
                              case rest =>
                                obtain ⟨rfl, rfl, hwc⟩ := hcut
                                generalize wc = V7 at *
                                subst hwc
                                clear HX HY hzU
                                go_wp2_with fail
                                refine (rsplit_any _ U1 (by have := HUl.out; omega)).mono ?_
                                rintro e w4 ⟨rfl, hb⟩
                                replace HB0 := Lib.hid (btr HB0.out hb)
                                clear hb
                                have HDD : Hid ((dg U1).all isDig = true) := dg_all U1
                                generalize dg U1 = D2 at *
                                generalize dr U1 = E2 at *
                                have hU := HU.out
                                have hTn : D2 ≠ [] := fun e => hU (.inl e)
                                have hl3 : ¬ (3 : Int) < (D2.length : Int) := fun e => hU (.inr (by omega))
                                have hl4 : D2.length ≤ 3 := by omega
                                have hzD := str_size D2
                                clear HU hU
                                have hTL := str_list D2
                                have hT1 : (D2 == []) = false := by simp [hTn]
                                have hT2 : (D2 != []) = true := by simp [hTn]
                                have hT3 : D2.isEmpty = false := by simp [hTn]
                                go_wp2
                                clear hTn hTL hT1 hT2 hT3 hl3
                                go_loop [12, 16] (fun p i => ∃ j : Nat, j ≤ D2.length ∧ i = .int .i64 j ∧ p = .int .i64 (decV (D2.take j) : Nat) ∧ decV (D2.take j) ≤ 999) (fun _ i => D2.length - (intOf i).toNat)
                                case atStart => exact ⟨0, Nat.zero_le _, rfl, rfl, by rw [List.take_zero]; exact Nat.zero_le _⟩
                                case round =>
                                  obtain ⟨j, hj, rfl, rfl, hv⟩ := hrel
                                  by_cases hlt : j < D2.length
                                  · have hps : j < (⟨D2.toArray⟩ : ByteArray).size := by rw [hzD]; exact hlt
                                    have hge := str_get D2 j hlt hps
                                    have HT1 := Lib.hid (take_snoc_ D2 j hlt)
                                    have hd := HDD.out
                                    rw [List.all_eq_true] at hd
                                    have hd1 := hd _ (List.getElem_mem hlt)
                                    have hd2 : 48 ≤ (D2[j]'hlt).toNat ∧ (D2[j]'hlt).toNat ≤ 57 := by unfold isDig at hd1; simpa using hd1
                                    have HV : Hid (decV (D2.take (j + 1)) = decV (D2.take j) * 10 + ((D2[j]'hlt).toNat - 48)) := by rw [HT1.out]; exact decV_snoc2 _ _
                                    have HV2 : Hid (decV (D2.take (j + 1)) ≤ 999) := by
                                      have h1 : (D2.take (j + 1)).all isDig = true := by
                                        rw [List.all_eq_true]
                                        exact fun c hc => hd c (List.mem_of_mem_take hc)
                                      have h2 := decV_lt h1
                                      have h3 : 10 ^ (D2.take (j + 1)).length ≤ 10 ^ 3 := Nat.pow_le_pow_right (by decide) (by rw [List.length_take]; omega)
                                      show _ ≤ _
                                      omega
                                    obtain ⟨hd3, hd4⟩ := hd2
                                    clear hd hd1 HT1
                                    generalize (D2[j]'hlt) = x at *
                                    generalize decV (D2.take j) = v at *
                                    have hji : (j : Int) < (D2.length : Int) := by omega
                                    go_wp2
                                    exact ⟨⟨j + 1, by omega, by go_num, by rw [HV.out]; go_num, HV2.out⟩, by simp [intOf]; omega⟩
                                  · have hjl : j = D2.length := by omega
                                    have hjd : decide ((j : Int) < (D2.length : Int)) = false := decide_eq_false (by omega)
                                    have hji : ¬ (j : Int) < (D2.length : Int) := by omega
                                    have HV : Hid (decV (D2.take j) = decV D2) := by show _ = _; rw [hjl, List.take_length]
                                    clear hjl
                                    generalize decV (D2.take j) = v at *
                                    cases ng with
                                    | true =>
                                      obtain rfl : sg = -1 := Hsg.out.symm
                                      go_wp2
                                      go_meet
                                      exact ⟨by rw [HPR.out], by rw [HPI.out, ← HV.out]; simp, HB0.out⟩
                                    | false =>
                                      obtain rfl : sg = 1 := Hsg.out.symm
                                      go_wp2
                                      go_meet
                                      exact ⟨by rw [HPR.out], by rw [HPI.out, ← HV.out]; simp, HB0.out⟩
                          · have HPI : Hid (pwI RS = 0) := if_neg h101
                            have HPR : Hid (pwR RS = RS) := if_neg h101
                            rw [show (sk 101 RS).1 = false by simpa using h101]
                            clear h101
                            go_wp2
                            go_meet
                            exact ⟨by rw [HPR.out], by rw [HPI.out], HB0.out⟩
                        case rest =>
                          obtain ⟨rfl, rfl, hb⟩ := hcut
                          replace QR := Lib.hid (QR.out.via hb)
                          replace L7 := Lib.hid (L7.out.via hb)
                          replace L8 := Lib.hid (L8.out.via hb)
                          replace P7 := Lib.hid (P7.out.via hb)
                          replace P8 := Lib.hid (P8.out.via hb)
                          replace BW := Lib.hid (btr BW.out hb)
                          clear hb
                          generalize wc = V8 at *
                          by_cases hR : pwR RS = []
                          · obtain ⟨p, q, hfin, hq, hpos, hneg⟩ := tl_ok (neg := neg) (N := (decV (D ++ PT) : Int)) (k := PT.length) HPw.out hR
                            have HN := Lib.hid (HFT.out.trans hfin)
                            have HQ := Lib.hid hq
                            have HPos := Lib.hid hpos
                            have HNeg := Lib.hid hneg
                            clear hfin hq hpos hneg HFT HPw
                            generalize pwI RS = pw at *
                            generalize pwR RS = E0 at *
                            subst hR
                            have HDPa : Hid ((D ++ PT).all isDig = true) := by show _ = _; rw [List.all_append, HDa.out, HPa.out]; rfl
                            have HDPn : Hid (D ++ PT ≠ []) := fun e => HD.out (List.append_eq_nil_iff.1 e).1
                            have HDPl : Hid ((D ++ PT).length ≤ 200 ∧ PT.length ≤ 200) := by
                              have := HDl.out
                              have := HPl.out
                              show _ ∧ _
                              rw [List.length_append]
                              omega
                            have hzD := str_size D
                            have hzP := str_size PT
                            have hlD : D.length ≤ 200 := by have := HDl.out; omega
                            have hlP := HDPl.out.2
                            go_wp2_with fail
                            rw [dec_eq0]
                            clear hzD hlD
                            refine (rvalue_p _ (D ++ PT) HDPa.out HDPn.out (by have := HDPl.out; omega)).mono ?_
                            rintro e w4 ⟨A9, n9, c9, rfl, hL9, hb⟩
                            replace QR := Lib.hid (QR.out.via hb)
                            replace L7 := Lib.hid (L7.out.via hb)
                            replace L8 := Lib.hid (L8.out.via hb)
                            replace P7 := Lib.hid (P7.out.via hb)
                            replace P8 := Lib.hid (P8.out.via hb)
                            replace BW := Lib.hid (btr BW.out hb)
                            have L9 := Lib.hid hL9
                            clear hb hL9
                            clear L7
                            have ⟨rP70, rP71, rP72, rP73, rP7l⟩ := P7.out
                            go_upto_region 39 with (fail)
                            clear rP70 rP71 rP72 rP73 rP7l
                            have HG9 : Hid (w.heap.size ≠ g7) := by have := HG7.out; have := HG8.out.1; show _ ≠ _; omega
                            replace QR := Lib.hid (QR.out.far2 HG9.out (x := .bool false) (y := .slice A9 n9 c9))
                            replace L8 := Lib.hid (L8.out.setP P7.out (.bool false) (.slice A9 n9 c9))
                            replace P8 := Lib.hid (P8.out.far (fun e => HG8.out.2 e.symm) (.bool false) (.slice A9 n9 c9))
                            replace L9 := Lib.hid (L9.out.setP P7.out (.bool false) (.slice A9 n9 c9))
                            replace BW := Lib.hid (below_set2 BW.out (Nat.le_of_lt HG7.out) (.bool false) (.slice A9 n9 c9))
                            replace P7 := Lib.hid (P7.out.set (.bool false) (.slice A9 n9 c9))
                            clear HG9
                            generalize (w4.setCell ⟨g7, 0, none⟩ (.bool false)).setCell ⟨g7, 1, none⟩ (.slice A9 n9 c9) = Y5 at *
                            have HSN : Hid (Sz 500 (decV (D ++ PT) : Int)) := (sz_dec HDPa.out HDPl.out.1).mono (by omega)
                            have HSN2 : Hid (Sz 200 (decV (D ++ PT) : Int)) := sz_dec HDPa.out HDPl.out.1
                            have HN0 : Hid (0 ≤ (decV (D ++ PT) : Int)) := by show _ ≤ _; omega
                            generalize hdn : (decV (D ++ PT) : Int) = N at *
                            clear hdn HDPa HDPn HPa HDa HD HPl HDl
                            have hpw1 := HPle.out.1
                            have hpw2 := HPle.out.2
                            go_upto_region 40 with (fail)
                            obtain ⟨t, ht⟩ : ∃ t, pw - (PT.length : Int) = t := ⟨_, rfl⟩
                            rw [ht] at HPos HNeg HS ⊢
                            have HTb : Hid (-1199 ≤ t ∧ t ≤ 999) := by show _ ∧ _; omega
                            clear hpw1 hpw2 hlP hzP ht HPle HDPl
                            go_upto_if 150 with (fail)
                            go_cut [] (fun wx => ∃ a b : Int, Pw w wx g7 g8 a b ∧ 0 ≤ a ∧ 0 < b ∧ Sz 500 a ∧ Sz 500 b ∧ a * q = p * b)
                            case first =>
                              have ht0 : ¬ 0 ≤ t := by have := HS.out; omega
                              rw [decide_eq_false ht0]
                              go_upto_block 2 with (fail)
                              obtain ⟨j, hjt⟩ : ∃ j : Nat, t = -(j : Int) := ⟨t.natAbs, by omega⟩
                              subst hjt
                              have hj : j ≤ 1199 := by have := HTb.out; omega
                              have hj0 : 1 ≤ j := by omega
                              have HAB := Lib.hid (HNeg.out j rfl)
                              have HSb : Hid (Sz 500 ((10 : Int) ^ j)) := (sz_ten3 j (by omega)).mono (by omega)
                              have HB0 : Hid ((0 : Int) < 10 ^ j) := Int.pow_pos (by decide)
                              clear HPos HNeg HTb
                              have HDn : Hid (Dn w Y5 g7 g8 A9 n9 c9 N (10 ^ 0)) := ⟨QR.out, P7.out, L9.out, ⟨A8, n8, c8, P8.out, by rw [Int.pow_zero]; exact L8.out⟩, BW.out⟩
                              clear QR P7 P8 L8 L9 BW
                              go_cut [12] from 162 to 171 (fun sp wx => ∃ i m : Nat, j = i + m ∧ m ≤ 1000 ∧ sp = .int .i64 (-(m : Int)) ∧ Dn w wx g7 g8 A9 n9 c9 N (10 ^ i))
                              case first =>
                                as_aux_lemma =>
                                go_wp2
                                go_loopw [12] (fun p wr => ∃ i : Nat, i ≤ j ∧ p = .int .i64 (-(j : Int) + (i : Int)) ∧ Dn w wr g7 g8 A9 n9 c9 N (10 ^ i)) (fun p _ => (-(intOf p)).toNat)
                                case atStart => exact ⟨0, Nat.zero_le _, by simp, HDn.out⟩
                                case round =>
                                  obtain ⟨i, hi, rfl, hD⟩ := hrel
                                  have HDi := Lib.hid hD
                                  clear hD HDn
                                  obtain ⟨A, n, c, hp8, hl8⟩ := HDi.out.p8
                                  have P8 := Lib.hid hp8
                                  have L8 := Lib.hid hl8
                                  clear hp8 hl8
                                  have HS1 : Hid (Sz 500 ((10 : Int) ^ i)) := (sz_ten3 i (by omega)).mono (by omega)
                                  have HS2 : Hid (Sz 500 (10 : Int)) := Sz.mono (show Sz 1 (10 : Int) by unfold Sz; decide) (by omega)
                                  have HP0 : Hid ((0 : Int) ≤ 10 ^ i) := Int.le_of_lt (Int.pow_pos (by decide))
                                  by_cases hlt : (-(j : Int) + (i : Int)) < -1000
                                  · have hld : decide ((-(j : Int) + (i : Int)) < -1000) = true := decide_eq_true hlt
                                    go_upto_region 46 with (fail)
                                    have ⟨pa0, pa1, pa2, pa3, pa4⟩ := P8.out
                                    have ⟨pb0, pb1, pb2, pb3, pb4⟩ := P8.out.drewN 1
                                    go_region_with (first
                                     | (have _t := F0; go_at_call 19; refine (rmul_p (k := 500) (x := 10 ^ i) (y := 10) (L8.out.via F0) hL12 HS1.out HS2.out (by omega) HP0.out (by decide)).mono ?_; rintro e v1 ⟨A13, n13, c13, rfl, hL13, h1⟩; have F1 : Below wr.heap.size wr v1 := btr F0 h1; have ⟨pd0, pd1, pd2, pd3, pd4⟩ := P8.out.via F1)
                                     | (go_at_call 18; refine (rfrom_any _ 10 (by decide) (by decide)).mono ?_; rintro e v0 ⟨A12, n12, c12, rfl, hL12, h0⟩; have F0 : Below wr.heap.size wr v0 := (by first | exact (bdrewN (Below.refl _ _) 1).trans h0 | exact (Below.refl _ _).drew.trans h0 | exact h0); have ⟨pc0, pc1, pc2, pc3, pc4⟩ := P8.out.via F0)
                                     | fail)
                                    all_goals
                                      go_wp2
                                      refine ⟨⟨i + 1, by omega, ?_, HDi.out.step F1 (by rw [← Int.pow_succ] at hL13; exact hL13) HG8.out.2 HG8.out.1⟩, ?_⟩
                                      · first | rfl | (congr 1; omega) | (go_num; done) | (simp; omega)
                                      · go_light
                                        simp [intOf]
                                        omega
                                  · have hld : decide ((-(j : Int) + (i : Int)) < -1000) = false := decide_eq_false hlt
                                    have HE : Hid (∃ m : Nat, j = i + m ∧ m ≤ 1000 ∧ -(j : Int) + (i : Int) = -(m : Int)) := ⟨j - i, by omega, by omega, by omega⟩
                                    clear HS1 HS2 HP0 P8 L8
                                    go_wp2
                                    go_meet
                                    obtain ⟨m, h1, h2, h3⟩ := HE.out
                                    exact ⟨i, m, h1, h2, by rw [h3], HDi.out⟩
                              case rest =>
                                obtain ⟨i, m, hm, hmb, rfl, hD⟩ := hcut
                                have HDi := Lib.hid hD
                                clear hD HDn
                                obtain ⟨A, n, c, hp8, hl8⟩ := HDi.out.p8
                                have P8 := Lib.hid hp8
                                have L8 := Lib.hid hl8
                                clear hp8 hl8
                                have HS1 : Hid (Sz 500 ((10 : Int) ^ i)) := (sz_ten3 i (by omega)).mono (by omega)
                                have HP0 : Hid ((0 : Int) ≤ 10 ^ i) := Int.le_of_lt (Int.pow_pos (by decide))
                                obtain ⟨pz, hpz⟩ : ∃ pz : Int, -(m : Int) = pz := ⟨_, rfl⟩
                                rw [hpz]
                                have HPZ := Lib.hid hpz.symm
                                have hz1 : -1000 ≤ pz := by omega
                                have hz2 : pz ≤ 0 := by omega
                                have HPW : Hid ((10 : Int) ^ i * 10 ^ m = 10 ^ j) := by show _ = _; rw [← Int.pow_add, ← hm]
                                have QR := Lib.hid HDi.out.q
                                have P7 := Lib.hid HDi.out.p7
                                have L9 := Lib.hid HDi.out.l9
                                have BW := Lib.hid HDi.out.b
                                have HST : Hid (Sz 500 ((10 : Int) ^ m)) := (sz_ten3 m (by omega)).mono (by omega)
                                have HT0 : Hid ((0 : Int) ≤ 10 ^ m) := Int.le_of_lt (Int.pow_pos (by decide))
                                clear hpz HDi hm hj hj0
                                generalize wc = V11 at *
                                go_upto_region 48 with (fail)
                                have HKS : Hid (∀ X : World, Below V11.heap.size V11 X → X.cell? ⟨g8, 0, none⟩ = some (.bool false) ∧ X.cell? ⟨g8, 1, none⟩ = some (.slice A n c)) := fun X h => ⟨(P8.out.via h).c0, (P8.out.via h).c1⟩
                                go_cut [19, 20] (fun sx se wx => se = .int .i64 0 ∧ NqO V11 (10 ^ i * 10 ^ m) sx wx)
                                case first =>
                                  go_region_held3 (fun X => X.cell? ⟨g8, 0, none⟩ = some (.bool false) ∧ X.cell? ⟨g8, 1, none⟩ = some (.slice A n c))
                                    (first | (refine HKS.out _ ?_; (repeat' (first | with_reducible exact BB2 | with_reducible exact BB1 | with_reducible exact (Below.refl _ _).drew | with_reducible exact Below.refl _ _ | with_reducible refine Below.drew ?_ | with_reducible refine Below.setCell ?_ ?_ _ | with_reducible refine Below.alloc ?_ ?_ _)); all_goals (first | omega | exact Nat.le_refl _ | exact S2 | exact S1 | (simp; done) | (simp; omega))))
                                    (first
                                     | (have _t := BB1; go_at_call 19; refine (rmul_p (k := 500) (x := 10 ^ i) (y := 10 ^ m) (by first | with_reducible exact L8.out.via BB1 | with_reducible exact (L8.out.via BB1).box _) (by first | with_reducible exact hL10 | with_reducible exact hL10.box _) HS1.out HST.out (by omega) HP0.out HT0.out).mono ?_; rintro e u2 ⟨A11, n11, c11, rfl, hL11, hh⟩; have B2 : Below u1.heap.size u1 u2 := (by first | with_reducible exact hh | with_reducible exact b_one hh); have BB2 := btr BB1 B2; have S2 := BB2.size; have T2 := B2.size; (try (have P0 := P0.via B2)); (try (have P1 : (Pr u2 (u1.heap.size) (.bool false) (.slice none 0 0)) := (by with_reducible exact (Pr.new u1 (u1.heap.size) rfl (.bool false) (.slice none 0 0) 24).via hh); have l1 := P1.lt)); (try (have ⟨p00, p01, p02, p03, p0l⟩ := P0; have p0a0 := fun o => (P0.alloc o).c0; have p0a1 := fun o => (P0.alloc o).c1; have p0a2 := fun o => (P0.alloc o).f0; have p0a3 := fun o => (P0.alloc o).f1; have p0n1 := Nat.ne_of_lt p0l; have p0n2 := Nat.ne_of_gt p0l)); (try (have ⟨p10, p11, p12, p13, p1l⟩ := P1; have p1a0 := fun o => (P1.alloc o).c0; have p1a1 := fun o => (P1.alloc o).c1; have p1a2 := fun o => (P1.alloc o).f0; have p1a3 := fun o => (P1.alloc o).f1; have p1n1 := Nat.ne_of_lt p1l; have p1n2 := Nat.ne_of_gt p1l)))
                                     | (go_at_call 20; refine (rten_neg _ pz m HPZ.out hmb).mono ?_; rintro e u1 ⟨A10, n10, c10, rfl, hL10, hh⟩; have BB1 : Below V11.heap.size V11 u1 := (by first | with_reducible exact b_one_d hh | exact (Below.refl _ _).drew.trans hh | exact hh); have S1 := BB1.size; have T1 := BB1.size; (try (have P0 : (Pr u1 (V11.heap.size) (.bool false) (.slice none 0 0)) := (by with_reducible exact (Pr.new V11 (V11.heap.size) rfl (.bool false) (.slice none 0 0) 24).drew.via hh); have l0 := P0.lt)))
                                     | fail)
                                  all_goals
                                    go_wp2_with fail
                                    go_meet
                                    first
                                    | (refine ⟨rfl, ?_⟩; with_reducible exact nfin1 BB2 hL11)
                                    | (refine ⟨rfl, ?_⟩; with_reducible exact nfin2 BB2 hL11 P0 (Nat.le_refl _))
                                    | (refine ⟨rfl, ?_⟩; with_reducible exact nfin2 BB2 hL11 P1 S1)
                                case rest =>
                                  obtain ⟨rfl, gN, A11, n11, c11, rfl, hP, hL, hgN, hb⟩ := hcut
                                  clear HKS
                                  replace QR := Lib.hid (QR.out.via hb)
                                  replace P7 := Lib.hid (P7.out.via hb)
                                  replace L9 := Lib.hid (L9.out.via hb)
                                  replace P8 := Lib.hid (P8.out.via hb)
                                  replace L8 := Lib.hid (L8.out.via hb)
                                  replace BW := Lib.hid (btr BW.out hb)
                                  have PN := Lib.hid hP
                                  have LN := Lib.hid hL
                                  clear hb hP hL hgN
                                  generalize wc = V10 at *
                                  have ⟨rN0, rN1, rN2, rN3, rNl⟩ := PN.out
                                  clear L8
                                  have ⟨rP80, rP81, rP82, rP83, rP8l⟩ := P8.out
                                  go_wp2
                                  clear rP80 rP81 rP82 rP83 rP8l
                                  have HG9 : Hid (w.heap.size ≠ g8) := by have := HG7.out; have := HG8.out.1; show _ ≠ _; omega
                                  replace QR := Lib.hid (QR.out.far2 HG9.out (x := .bool false) (y := .slice A11 n11 c11))
                                  replace P7 := Lib.hid (P7.out.far HG8.out.2 (.bool false) (.slice A11 n11 c11))
                                  replace L9 := Lib.hid (L9.out.setP P8.out (.bool false) (.slice A11 n11 c11))
                                  replace LN := Lib.hid (LN.out.setP P8.out (.bool false) (.slice A11 n11 c11))
                                  replace BW := Lib.hid (below_set2 BW.out (Nat.le_of_lt HG8.out.1) (.bool false) (.slice A11 n11 c11))
                                  replace P8 := Lib.hid (P8.out.set (.bool false) (.slice A11 n11 c11))
                                  clear HG9
                                  generalize (V10.setCell ⟨g8, 0, none⟩ (.bool false)).setCell ⟨g8, 1, none⟩ (.slice A11 n11 c11) = Y6 at *
                                  clear rN0 rN1 rN2 rN3 rNl PN
                                  have L8 := LN
                                  clear LN
                                  rw [HPW.out] at L8
                                  have L7 := L9
                                  clear L9
                                  have HA0 := HN0
                                  go_meet
                                  exact ⟨N, 10 ^ j, ⟨QR.out, ⟨_, _, _, P7.out, L7.out⟩, ⟨_, _, _, P8.out, L8.out⟩, BW.out⟩, HA0.out, HB0.out, HSN.out, HSb.out, HAB.out⟩
                            case rest =>
                              as_aux_lemma =>
                              obtain ⟨a, b, ⟨hQ, ⟨A7, n7, c7, hP7, hL7⟩, ⟨A8, n8, c8, hP8, hL8⟩, hBW⟩, ha0, hb0, hsa, hsb, hab⟩ := hcut
                              have QR := Lib.hid hQ
                              have P7 := Lib.hid hP7
                              have L7 := Lib.hid hL7
                              have P8 := Lib.hid hP8
                              have L8 := Lib.hid hL8
                              have BW := Lib.hid hBW
                              have HA0 := Lib.hid ha0
                              have HB0 := Lib.hid hb0
                              have HSa := Lib.hid hsa
                              have HSb := Lib.hid hsb
                              have HAB := Lib.hid hab
                              clear hQ hP7 hL7 hP8 hL8 hBW ha0 hb0 hsa hsb hab
                              generalize wc = V12 at *
                              as_aux_lemma =>
                              have HNZ : Hid (n8 ≠ 0) := by
                                show _ ≠ _
                                have h1 := L8.out.len
                                have h2 : digs (b).natAbs ≠ [] := fun e => by
                                  have := digs_nil.1 e
                                  have := HB0.out
                                  omega
                                intro e
                                exact h2 (List.eq_nil_of_length_eq_zero (h1.trans e))
                              have hnz : ¬ (n8 : Int) = 0 := by have := HNZ.out; omega
                              have hnz2 : ((n8 : Int) == 0) = false := by simp; have := HNZ.out; omega
                              have hnz3 : ¬ n8 = 0 := HNZ.out
                              have ⟨rP80, rP81, rP82, rP83, rP8l⟩ := P8.out
                              go_upto_if 189 with (fail)
                              clear rP80 rP81 rP82 rP83 rP8l hnz hnz2 hnz3 HNZ
                              cases neg with
                              | true =>
                                have ⟨rP70, rP71, rP72, rP73, rP7l⟩ := P7.out
                                go_wp2_with fail
                                clear rP70 rP71 rP72 rP73 rP7l
                                refine (rneg_n2 _ A7 n7 c7 500 (a) L7.out HSa.out (by omega) (decide_eq_false (by have := HA0.out; omega))).mono ?_
                                rintro e w6 ⟨A20, n20, c20, rfl, hL20, hb⟩
                                clear L7
                                replace QR := Lib.hid (QR.out.via hb)
                                replace P7 := Lib.hid (P7.out.via hb)
                                replace P8 := Lib.hid (P8.out.via hb)
                                replace L8 := Lib.hid (L8.out.via hb)
                                replace BW := Lib.hid (btr BW.out hb)
                                have L20 := Lib.hid hL20
                                clear hb hL20
                                obtain ⟨z20, hz20⟩ : ∃ b, decide (-(a) < 0) = b := ⟨_, rfl⟩
                                rw [hz20]
                                have Hz20 := Lib.hid hz20
                                clear hz20
                                have ⟨rP70, rP71, rP72, rP73, rP7l⟩ := P7.out
                                go_upto_region 56 with (fail)
                                clear rP70 rP71 rP72 rP73 rP7l
                                have HG9 : Hid (w.heap.size ≠ g7) := by have := HG7.out; show _ ≠ _; omega
                                replace QR := Lib.hid (QR.out.far2 HG9.out (x := .bool z20) (y := .slice A20 n20 c20))
                                replace P8 := Lib.hid (P8.out.far (fun e => HG8.out.2 e.symm) (.bool z20) (.slice A20 n20 c20))
                                replace L20 := Lib.hid (L20.out.setP P7.out (.bool z20) (.slice A20 n20 c20))
                                replace L8 := Lib.hid (L8.out.setP P7.out (.bool z20) (.slice A20 n20 c20))
                                replace BW := Lib.hid (below_set2 BW.out (Nat.le_of_lt HG7.out) (.bool z20) (.slice A20 n20 c20))
                                replace P7 := Lib.hid (P7.out.set (.bool z20) (.slice A20 n20 c20))
                                generalize (w6.setCell ⟨g7, 0, none⟩ (.bool z20)).setCell ⟨g7, 1, none⟩ (.slice A20 n20 c20) = V20 at *
                                rename_i hKK
                                refine wp_err hKK fun Q9 hQ9 => ?_
                                have HQ9 := Lib.hid hQ9
                                clear hQ9
                                go_light
                                have ⟨rP70, rP71, rP72, rP73, rP7l⟩ := P7.out
                                have ⟨rP80, rP81, rP82, rP83, rP8l⟩ := P8.out
                                go_wp2_with fail
                                clear rP70 rP71 rP72 rP73 rP7l rP80 rP81 rP82 rP83 rP8l
                                refine (rreduced_pos _ A20 A8 n20 n8 c20 c8 500 (-(a)) (b) L20.out L8.out (Sz.neg HSa.out) (HSb.out) (by omega) Hz20.out (decide_eq_false (by have := HB0.out; omega)) HB0.out).mono ?_
                                rintro e w7 ⟨A5, n5, c5, B5, m5, d5, rfl, hL5, hM5, hb⟩
                                clear P7
                                clear P8
                                clear L8
                                clear L20
                                replace QR := Lib.hid (QR.out.via hb)
                                replace BW := Lib.hid (btr BW.out hb)
                                have L5 := Lib.hid hL5
                                have M5 := Lib.hid hM5
                                clear hb hL5 hM5
                                obtain ⟨z5, hz5⟩ : ∃ z, decide ((-(a)) / dvr (-(a)) (b) < 0) = z := ⟨_, rfl⟩
                                obtain ⟨z6, hz6⟩ : ∃ z, decide ((b) / dvr (-(a)) (b) < 0) = z := ⟨_, rfl⟩
                                rw [hz5, hz6]
                                have Hz5 := Lib.hid hz5
                                have Hz6 := Lib.hid hz6
                                clear hz5 hz6
                                have ⟨rQR0, rQR1, rQR2, rQR3, rQR4, rQR5, rQR6, rQR7, rQRl⟩ := QR.out
                                go_wp2
                                rw [HQ9.out]
                                show bodyPost _ _ _ Exit.ret _ _
                                exact post_f Tryz.results6 rfl rfl (QR.out.set (.bool z5) (.slice A5 n5 c5) (.bool z6) (.slice B5 m5 d5)) (by exact rp2_ok HN.out HQ.out HB0.out (Sz.neg HSa.out) (HSb.out) (by first | rw [if_pos rfl, Int.neg_mul, HAB.out, Int.neg_mul] | rw [if_pos trivial, Int.neg_mul, HAB.out, Int.neg_mul]) ⟨A5, n5, c5, B5, m5, d5, by rw [Hz5.out, Hz6.out]; rfl, L5.out.put4 QR.out _ _ _ _, M5.out.put4 QR.out _ _ _ _, below_put4 BW.out (Nat.le_refl _) _ _ _ _⟩)
                              | false =>
                                go_upto_region 56 with (fail)
                                rename_i hKK
                                refine wp_err hKK fun Q9 hQ9 => ?_
                                have HQ9 := Lib.hid hQ9
                                clear hQ9
                                go_light
                                have ⟨rP70, rP71, rP72, rP73, rP7l⟩ := P7.out
                                have ⟨rP80, rP81, rP82, rP83, rP8l⟩ := P8.out
                                go_wp2_with fail
                                clear rP70 rP71 rP72 rP73 rP7l rP80 rP81 rP82 rP83 rP8l
                                refine (rreduced_pos _ A7 A8 n7 n8 c7 c8 500 (a) (b) L7.out L8.out (HSa.out) (HSb.out) (by omega) (decide_eq_false (by have := HA0.out; omega)) (decide_eq_false (by have := HB0.out; omega)) HB0.out).mono ?_
                                rintro e w6 ⟨A5, n5, c5, B5, m5, d5, rfl, hL5, hM5, hb⟩
                                clear P7
                                clear P8
                                clear L8
                                clear L7
                                replace QR := Lib.hid (QR.out.via hb)
                                replace BW := Lib.hid (btr BW.out hb)
                                have L5 := Lib.hid hL5
                                have M5 := Lib.hid hM5
                                clear hb hL5 hM5
                                obtain ⟨z5, hz5⟩ : ∃ z, decide ((a) / dvr (a) (b) < 0) = z := ⟨_, rfl⟩
                                obtain ⟨z6, hz6⟩ : ∃ z, decide ((b) / dvr (a) (b) < 0) = z := ⟨_, rfl⟩
                                rw [hz5, hz6]
                                have Hz5 := Lib.hid hz5
                                have Hz6 := Lib.hid hz6
                                clear hz5 hz6
                                have ⟨rQR0, rQR1, rQR2, rQR3, rQR4, rQR5, rQR6, rQR7, rQRl⟩ := QR.out
                                go_wp2
                                rw [HQ9.out]
                                show bodyPost _ _ _ Exit.ret _ _
                                exact post_f Tryz.results6 rfl rfl (QR.out.set (.bool z5) (.slice A5 n5 c5) (.bool z6) (.slice B5 m5 d5)) (by exact rp2_ok HN.out HQ.out HB0.out (HSa.out) (HSb.out) (by rw [if_neg (by decide), HAB.out]) ⟨A5, n5, c5, B5, m5, d5, by rw [Hz5.out, Hz6.out]; rfl, L5.out.put4 QR.out _ _ _ _, M5.out.put4 QR.out _ _ _ _, below_put4 BW.out (Nat.le_refl _) _ _ _ _⟩)
                          · have HN : Hid (nml l = none) := HFT.out.trans (tl_e5 HPw.out hR)
                            have hTn := hR
                            clear hR HFT HPw
                            generalize pwR RS = E at *
                            have hTL := str_list E
                            have hT1 : (E == []) = false := by simp [hTn]
                            have hT2 : (E != []) = true := by simp [hTn]
                            have hT3 : E.isEmpty = false := by simp [hTn]
                            have ⟨rQR0, rQR1, rQR2, rQR3, rQR4, rQR5, rQR6, rQR7, rQRl⟩ := QR.out
                            go_upto_region 37 with (fail)
                            rename_i hKK
                            refine wp_err hKK fun Q9 hQ9 => ?_
                            have HQ9 := Lib.hid hQ9
                            clear hQ9
                            go_light
                            as_aux_lemma =>
                            go_wp2
                            rw [HQ9.out]
                            show bodyPost _ _ _ Exit.ret _ _
                            exact post_f Tryz.results6 rfl rfl (QR.out.set (.bool false) (.slice none 0 0) (.bool false) (.slice none 0 0)) (by exact rp2_no HN.out ⟨none, 0, 0, none, 0, 0, rfl, Lm.nil _ _, Lm.nil _ _, below_put4 BW.out (Nat.le_refl _) _ _ _ _⟩)
end Go.Proofs.YtbplbbkmfbjkfaaGreatDoor

/- The reference of frac: Parse at any string. -/
namespace Go.Proofs.YtbplbbkmfbjkfaaGreatDoor
open Go.RowKit

theorem rfparse_any (w : World) (l : List UInt8) (hl : l.length ≤ 300) : Calls Tryz.prog 6 #[.string ⟨l.toArray⟩] w (RP2 w l) := by
  by_cases h : 0 ≤ pwT l
  · exact rfparse_p w l hl h
  · exact rfparse_n w l hl h
end Go.Proofs.YtbplbbkmfbjkfaaGreatDoor

/- Package frac: Decimal. -/
namespace Go.Proofs.YtbplbbkmfbjkfaaGreatDoor
open Go.RowKit

set_option maxRecDepth 100000 in
set_option maxHeartbeats 2000000 in
theorem decimal1_n (w : World) (gp : Nat) (A B : Option Addr) (n m ca cb k d : Nat) (x P : Int) (hA : Lm w w.heap.size A n ca (digs x.natAbs)) (hB : Lm w w.heap.size B m cb (digs P.natAbs)) (hx : Sz k x) (hP : Sz k P) (hk : k ≤ 1500) (hk1 : 1 ≤ k) (hd : d ≤ 50) (hP0 : 0 < P) (hU : TabU w) {na : Bool} (ha : decide (x < 0) = na) (hc : w.cell? ⟨gp, 0, none⟩ = some (.int .i64 (d : Int))) (hg : gp < w.heap.size) :
    Calls Tryz.prog 28 #[fv na A n ca false B m cb, .pointer (some ⟨gp, 0, none⟩)] w (RSs w ⟨(decT x P d).toArray⟩) := by
  have BW : Hid (Below w.heap.size w (w.alloc (.cells #[.bool na, .slice A n ca, .bool false, .slice B m cb] 42))) := below_alloc (Below.refl _ _) _
  have H := Lib.hid (decimal_n _ A B n m ca cb k d x P (hA.via BW.out) (hB.via BW.out) hx hP hk hk1 hd hP0 (hU.via BW.out) ha)
  have QF := Lib.hid (Qd.new w w.heap.size rfl (.bool na) (.slice A n ca) (.bool false) (.slice B m cb) 42)
  have c0 := (BW.out.cell (p := ⟨gp, 0, none⟩) hg).trans hc
  clear hA hB hx hP hk hk1 hd hP0 hU ha hc hg
  go_enter Tryz.func28, Tryz.ntmps28
  go_wp2_with fail
  generalize w.alloc (.cells #[.bool na, .slice A n ca, .bool false, .slice B m cb] 42) = W0 at *
  have ⟨f0, f1, f2, f3, f4, f5, f6, f7, f8⟩ := QF.out
  go_wp2_with fail
  refine H.out.mono ?_
  rintro e w1 ⟨rfl, hb⟩
  have BB := Lib.hid (btr BW.out hb)
  clear hb
  go_wp2
  go_ret
  exact ⟨rfl, BB.out⟩
set_option maxRecDepth 100000 in
set_option maxHeartbeats 2000000 in
theorem fdecimal_g (w : World) (na da : Bool) (A B : Option Addr) (n m ca cb : Nat) (xs ys : List Nat) (d : Int) (hA : Lm w w.heap.size A n ca xs) (hB : Lm w w.heap.size B m cb ys) (t : ByteArray) (err : Int)
    (H : ∀ W gp, Below w.heap.size w W → W.cell? ⟨gp, 0, none⟩ = some (.int .i64 d) → gp < W.heap.size → Lm W W.heap.size A n ca xs → Lm W W.heap.size B m cb ys → Calls Tryz.prog 23 #[fv na A n ca da B m cb, .func (.func 28) #[] #[.pointer (some ⟨gp, 0, none⟩)]] W (RSE W t err)) :
    Calls Tryz.prog 9 #[fv na A n ca da B m cb, .int .i64 d] w (RSE w t err) := by
  have hmf : ∀ (fn : Fn) (first cap : Array Value) (w : World), (Instr.makeFunc fn first cap).run Tryz.prog w = .ok (.func fn first cap) w := fun _ _ _ _ => rfl
  have HH := Lib.hid H
  have QF := Lib.hid ((Qd.new w w.heap.size rfl (.bool na) (.slice A n ca) (.bool da) (.slice B m cb) 26).alloc (.cells #[.int .i64 d] 3))
  have BW : Hid (Below w.heap.size w ((w.alloc (.cells #[.bool na, .slice A n ca, .bool da, .slice B m cb] 26)).alloc (.cells #[.int .i64 d] 3))) := below_alloc (below_alloc (Below.refl _ _) _) _
  have hc : ((w.alloc (.cells #[.bool na, .slice A n ca, .bool da, .slice B m cb] 26)).alloc (.cells #[.int .i64 d] 3)).cell? ⟨w.heap.size + 1, 0, none⟩ = some (.int .i64 d) := by go_simp
  have hl : w.heap.size + 1 < ((w.alloc (.cells #[.bool na, .slice A n ca, .bool da, .slice B m cb] 26)).alloc (.cells #[.int .i64 d] 3)).heap.size := by simp
  have LA := Lib.hid (hA.via BW.out)
  have LB := Lib.hid (hB.via BW.out)
  clear H hA hB
  go_enter Tryz.func9, Tryz.ntmps9
  go_upto_region 1 with (fail)
  generalize (w.alloc (.cells #[.bool na, .slice A n ca, .bool da, .slice B m cb] 26)).alloc (.cells #[.int .i64 d] 3) = W0 at *
  have ⟨f0, f1, f2, f3, f4, f5, f6, f7, f8⟩ := QF.out
  go_wp2_with fail
  refine (HH.out _ _ BW.out hc hl LA.out LB.out).mono ?_
  rintro e w1 ⟨rfl, hb⟩
  have BB := Lib.hid (btr BW.out hb)
  clear hb
  go_wp2
  go_returns
  exact ⟨rfl, BB.out⟩
theorem fdecimal_n (w : World) (A B : Option Addr) (n m ca cb k d : Nat) (x P : Int) (hA : Lm w w.heap.size A n ca (digs x.natAbs)) (hB : Lm w w.heap.size B m cb (digs P.natAbs)) (hx : Sz k x) (hP : Sz k P) (hk : k ≤ 1500) (hk1 : 1 ≤ k) (hd : d ≤ 50) (hP0 : 0 < P) (hU : TabU w) {na : Bool} (ha : decide (x < 0) = na) (hv : fchk na (digs x.natAbs) false (digs P.natAbs) = 0) :
    Calls Tryz.prog 9 #[fv na A n ca false B m cb, .int .i64 (d : Int)] w (RSE w ⟨(decT x P d).toArray⟩ 0) := by
  have hcf2 : ∀ (u v : Value) (W : World), (callFunc 28 #[u, v]).run Tryz.prog W = .ok (.enter 28 #[u, v]) W := fun u v W => by go_simp
  have hcf3 : ∀ (u v : Value) (W : World), (callFunc 51 (#[] ++ #[u, v])).run Tryz.prog W = .ok (.enter 51 (#[] ++ #[u, v])) W := fun u v W => by go_simp
  exact fdecimal_g w na false A B n m ca cb _ _ _ hA hB _ 0 fun W gp bW hc hl h1 h2 => changesp_g W 28 (.pointer (some ⟨gp, 0, none⟩)) na false A B n m ca cb _ _ h1 h2 _ 0 fun W2 g0 ga b2 qf qa i1 i2 =>
    attempts_ok W2 51 #[] #[_, _] ⟨(decT x P d).toArray⟩ (hcf3 _ _) (changesp_ok (Wai W2) g0 ga 28 (.pointer (some ⟨gp, 0, none⟩)) na false A B n m ca cb _ _ (qf.via (wai_below W2)) (qa.via (wai_below W2)) (i1.via (wai_below W2)) (i2.via (wai_below W2)) hv ⟨(decT x P d).toArray⟩ (fun u W => hcf2 u _ W) fun W3 b3 j1 j2 =>
      have bb : Below W.heap.size W W3 := btr (btr b2 (wai_below W2)) b3
      decimal1_n W3 gp A B n m ca cb k d x P j1 j2 hx hP hk hk1 hd hP0 (((hU.via bW).via bb)) ha ((bb.cell (p := ⟨gp, 0, none⟩) hl).trans hc) (Nat.lt_of_lt_of_le hl bb.size))
end Go.Proofs.YtbplbbkmfbjkfaaGreatDoor

/- Text and Decimal of what is no fraction, Decimal with digits out of range: both sides. -/
namespace Go.Proofs.YtbplbbkmfbjkfaaGreatDoor
open Go.RowKit

set_option maxRecDepth 100000 in
set_option maxHeartbeats 4000000 in
theorem changest_bad (w : World) (g0 ga : Nat) (f : FuncId) (na da : Bool) (A B : Option Addr) (n m ca cb : Nat) (xs ys : List Nat) (hf : Fb w g0 f) (qa : Qd w ga (.bool na) (.slice A n ca) (.bool da) (.slice B m cb)) (hA : Lm w w.heap.size A n ca xs) (hB : Lm w w.heap.size B m cb ys) (hv : fchk na xs da ys = 8) :
    Calls Tryz.prog 51 #[.pointer (some ⟨g0, 0, none⟩), .pointer (some ⟨ga, 0, none⟩)] w (fun e w' => e = Pan 8 ∧ Below w.heap.size w w') := by
  have HF := Lib.hid hf
  have QA := Lib.hid qa
  have LA := Lib.hid hA
  have LB := Lib.hid hB
  have HV := Lib.hid hv
  clear hA hB hv hf qa
  go_enter Tryz.func51, Tryz.ntmps51
  go_upto_region 1 with (fail)
  refine wp_region_held_drew (S := fun w' => w'.cell? ⟨g0, 0, none⟩ = some (.func (.func f) #[] #[]) ∧ w'.cell? ⟨ga, 0, none⟩ = some (.bool na) ∧ w'.cell? ⟨ga, 1, none⟩ = some (.slice A n ca) ∧ w'.cell? ⟨ga, 2, none⟩ = some (.bool da) ∧ w'.cell? ⟨ga, 3, none⟩ = some (.slice B m cb)) (by kernel_rfl) ?_ (fun hHeld => ?_)
  · exact ⟨HF.out.c0, QA.out.c0, QA.out.c1, QA.out.c2, QA.out.c3⟩
  refine wpAnyH_take (i := 0) (v := ?_) rfl (by kernel_rfl) (by kernel_rfl) (by kernel_rfl) (fun _ _ _ h => h) (Or.inl ⟨by rfl, ?_⟩) (by assumption) ?_
  rotate_left
  · (intro w hSw; (try dsimp only at hSw); go_simp; try with_reducible rfl)
  try simp only [Act.put, List.setIfInBounds_toArray]
  refine wpAnyH_take (i := 1) (v := ?_) rfl (by kernel_rfl) (by kernel_rfl) (by kernel_rfl) (fun _ _ _ h => h) (Or.inl ⟨by rfl, ?_⟩) (by assumption) ?_
  rotate_left
  · (intro w hSw; (try dsimp only at hSw); go_simp; try with_reducible rfl)
  try simp only [Act.put]
  refine wpAnyH_ready (rs := [2]) (by kernel_rfl) (by simp) ?_
  refine AllReadyH.cons rfl (fun K hK => ?_) (AllReadyH.nil)
  go_simp
  refine (known_no _ na da A B n m ca cb xs ys LA.out.drew LB.out.drew HV.out).mono ?_
  rintro e wp ⟨rfl, hbp⟩
  unfold Pan
  exact ⟨rfl, rfl, (Below.refl _ _).drew.trans hbp⟩
set_option maxRecDepth 100000 in
set_option maxHeartbeats 4000000 in
theorem changesp_bad (w : World) (g0 ga : Nat) (f : FuncId) (p : Value) (na da : Bool) (A B : Option Addr) (n m ca cb : Nat) (xs ys : List Nat) (hf : Fbp w g0 f p) (qa : Qd w ga (.bool na) (.slice A n ca) (.bool da) (.slice B m cb)) (hA : Lm w w.heap.size A n ca xs) (hB : Lm w w.heap.size B m cb ys) (hv : fchk na xs da ys = 8) :
    Calls Tryz.prog 51 #[.pointer (some ⟨g0, 0, none⟩), .pointer (some ⟨ga, 0, none⟩)] w (fun e w' => e = Pan 8 ∧ Below w.heap.size w w') := by
  have HF := Lib.hid hf
  have QA := Lib.hid qa
  have LA := Lib.hid hA
  have LB := Lib.hid hB
  have HV := Lib.hid hv
  clear hA hB hv hf qa
  go_enter Tryz.func51, Tryz.ntmps51
  go_upto_region 1 with (fail)
  refine wp_region_held_drew (S := fun w' => w'.cell? ⟨g0, 0, none⟩ = some (.func (.func f) #[] #[p]) ∧ w'.cell? ⟨ga, 0, none⟩ = some (.bool na) ∧ w'.cell? ⟨ga, 1, none⟩ = some (.slice A n ca) ∧ w'.cell? ⟨ga, 2, none⟩ = some (.bool da) ∧ w'.cell? ⟨ga, 3, none⟩ = some (.slice B m cb)) (by kernel_rfl) ?_ (fun hHeld => ?_)
  · exact ⟨HF.out.c0, QA.out.c0, QA.out.c1, QA.out.c2, QA.out.c3⟩
  refine wpAnyH_take (i := 0) (v := ?_) rfl (by kernel_rfl) (by kernel_rfl) (by kernel_rfl) (fun _ _ _ h => h) (Or.inl ⟨by rfl, ?_⟩) (by assumption) ?_
  rotate_left
  · (intro w hSw; (try dsimp only at hSw); go_simp; try with_reducible rfl)
  try simp only [Act.put, List.setIfInBounds_toArray]
  refine wpAnyH_take (i := 1) (v := ?_) rfl (by kernel_rfl) (by kernel_rfl) (by kernel_rfl) (fun _ _ _ h => h) (Or.inl ⟨by rfl, ?_⟩) (by assumption) ?_
  rotate_left
  · (intro w hSw; (try dsimp only at hSw); go_simp; try with_reducible rfl)
  try simp only [Act.put]
  refine wpAnyH_ready (rs := [2]) (by kernel_rfl) (by simp) ?_
  refine AllReadyH.cons rfl (fun K hK => ?_) (AllReadyH.nil)
  go_simp
  refine (known_no _ na da A B n m ca cb xs ys LA.out.drew LB.out.drew HV.out).mono ?_
  rintro e wp ⟨rfl, hbp⟩
  unfold Pan
  exact ⟨rfl, rfl, (Below.refl _ _).drew.trans hbp⟩
theorem ftext_bad (w : World) (na da : Bool) (A B : Option Addr) (n m ca cb : Nat) (xs ys : List Nat) (hA : Lm w w.heap.size A n ca xs) (hB : Lm w w.heap.size B m cb ys) (hv : fchk na xs da ys = 8) :
    Calls Tryz.prog 7 #[fv na A n ca da B m cb] w (RSE w ⟨#[]⟩ 8) := by
  have hcf3 : ∀ (u v : Value) (W : World), (callFunc 51 (#[] ++ #[u, v])).run Tryz.prog W = .ok (.enter 51 (#[] ++ #[u, v])) W := fun u v W => by go_simp
  exact ftext_g w na da A B n m ca cb _ _ hA hB _ 8 fun W bW h1 h2 => changest_g W 24 na da A B n m ca cb _ _ h1 h2 _ 8 fun W2 g0 ga b2 qf qa i1 i2 =>
    attempts_no W2 51 #[] #[_, _] 8 (hcf3 _ _) (changest_bad (Wai W2) g0 ga 24 na da A B n m ca cb _ _ (qf.via (wai_below W2)) (qa.via (wai_below W2)) (i1.via (wai_below W2)) (i2.via (wai_below W2)) hv)
theorem fdecimal_bad (w : World) (na da : Bool) (A B : Option Addr) (n m ca cb : Nat) (xs ys : List Nat) (d : Int) (hA : Lm w w.heap.size A n ca xs) (hB : Lm w w.heap.size B m cb ys) (hv : fchk na xs da ys = 8) :
    Calls Tryz.prog 9 #[fv na A n ca da B m cb, .int .i64 d] w (RSE w ⟨#[]⟩ 8) := by
  have hcf3 : ∀ (u v : Value) (W : World), (callFunc 51 (#[] ++ #[u, v])).run Tryz.prog W = .ok (.enter 51 (#[] ++ #[u, v])) W := fun u v W => by go_simp
  exact fdecimal_g w na da A B n m ca cb _ _ _ hA hB _ 8 fun W gp bW hc hl h1 h2 => changesp_g W 28 (.pointer (some ⟨gp, 0, none⟩)) na da A B n m ca cb _ _ h1 h2 _ 8 fun W2 g0 ga b2 qf qa i1 i2 =>
    attempts_no W2 51 #[] #[_, _] 8 (hcf3 _ _) (changesp_bad (Wai W2) g0 ga 28 (.pointer (some ⟨gp, 0, none⟩)) na da A B n m ca cb _ _ (qf.via (wai_below W2)) (qa.via (wai_below W2)) (i1.via (wai_below W2)) (i2.via (wai_below W2)) hv)
set_option maxRecDepth 100000 in
set_option maxHeartbeats 4000000 in
theorem changesp_pn (w : World) (g0 ga : Nat) (f : FuncId) (p : Value) (na da : Bool) (A B : Option Addr) (n m ca cb : Nat) (xs ys : List Nat) (hf : Fbp w g0 f p) (qa : Qd w ga (.bool na) (.slice A n ca) (.bool da) (.slice B m cb)) (hA : Lm w w.heap.size A n ca xs) (hB : Lm w w.heap.size B m cb ys) (hv : fchk na xs da ys = 0) (x : Int)
    (hcf : ∀ (u : Value) (W : World), (callFunc f #[u, p]).run Tryz.prog W = .ok (.enter f #[u, p]) W)
    (H : ∀ W, Below w.heap.size w W → Lm W W.heap.size A n ca xs → Lm W W.heap.size B m cb ys → Calls Tryz.prog f #[fv na A n ca da B m cb, p] W (fun e w' => e = Pan x ∧ Below W.heap.size W w')) :
    Calls Tryz.prog 51 #[.pointer (some ⟨g0, 0, none⟩), .pointer (some ⟨ga, 0, none⟩)] w (fun e w' => e = Pan x ∧ Below w.heap.size w w') := by
  have HF := Lib.hid hf
  have QA := Lib.hid qa
  have LA := Lib.hid hA
  have LB := Lib.hid hB
  have HV := Lib.hid hv
  have HH := Lib.hid H
  clear hA hB hv hf qa H
  go_enter Tryz.func51, Tryz.ntmps51
  go_upto_region 1 with (fail)
  refine wp_region_held_drew (S := fun w' => w'.cell? ⟨g0, 0, none⟩ = some (.func (.func f) #[] #[p]) ∧ w'.cell? ⟨ga, 0, none⟩ = some (.bool na) ∧ w'.cell? ⟨ga, 1, none⟩ = some (.slice A n ca) ∧ w'.cell? ⟨ga, 2, none⟩ = some (.bool da) ∧ w'.cell? ⟨ga, 3, none⟩ = some (.slice B m cb)) (by kernel_rfl) ?_ (fun hHeld => ?_)
  · exact ⟨(HF.out.via (Below.refl _ _)).c0, (QA.out.via (Below.refl _ _)).c0, (QA.out.via (Below.refl _ _)).c1, (QA.out.via (Below.refl _ _)).c2, (QA.out.via (Below.refl _ _)).c3⟩
  refine wpAnyH_take (i := 0) (v := ?_) rfl (by kernel_rfl) (by kernel_rfl) (by kernel_rfl) (fun _ _ _ h => h) (Or.inl ⟨by rfl, ?_⟩) (by assumption) ?_
  rotate_left
  · (intro w hSw; (try dsimp only at hSw); go_simp; try with_reducible rfl)
  try simp only [Act.put, List.setIfInBounds_toArray]
  refine wpAnyH_take (i := 1) (v := ?_) rfl (by kernel_rfl) (by kernel_rfl) (by kernel_rfl) (fun _ _ _ h => h) (Or.inl ⟨by rfl, ?_⟩) (by assumption) ?_
  rotate_left
  · (intro w hSw; (try dsimp only at hSw); go_simp; try with_reducible rfl)
  try simp only [Act.put]
  refine wpAnyH_ready (rs := [2]) (by kernel_rfl) (by simp) ?_
  refine AllReadyH.cons rfl (fun K hK => ?_) (AllReadyH.nil)
  go_simp
  refine (known_ok _ na da A B n m ca cb xs ys LA.out.drew LB.out.drew HV.out).mono ?_
  rintro e wc ⟨rfl, hbc⟩
  have Bc : Below w.heap.size w wc := (Below.refl _ _).drew.trans hbc
  go_wp2_with fail
  refine hK.out _ _ ?_ (fun hHeld => ?_)
  · exact ⟨(HF.out.via Bc).c0, (QA.out.via Bc).c0, (QA.out.via Bc).c1, (QA.out.via Bc).c2, (QA.out.via Bc).c3⟩
  clear hK K
  try simp only [Act.put, List.setIfInBounds_toArray, List.set_cons_zero, List.set_cons_succ]
  refine wpAnyH_ready (rs := [3]) (by kernel_rfl) (by simp) ?_
  refine AllReadyH.cons rfl (fun K hK => ?_) (AllReadyH.nil)
  go_simp
  refine (HH.out _ Bc (LA.out.via Bc) (LB.out.via Bc)).mono ?_
  rintro e wp ⟨rfl, hbp⟩
  unfold Pan
  exact ⟨rfl, rfl, btr Bc hbp⟩
set_option maxRecDepth 100000 in
set_option maxHeartbeats 4000000 in
theorem decimal_arg2 (w : World) (na da : Bool) (A B : Option Addr) (n m ca cb : Nat) (d : Int) (hd : d < 0 ∨ 50 < d) : Calls Tryz.prog 29 #[fv na A n ca da B m cb, .int .i64 d] w (fun e w' => e = Pan 2 ∧ Below w.heap.size w w') := by
  have BW : Hid (Below w.heap.size w (w.alloc (.cells #[.bool na, .slice A n ca, .bool da, .slice B m cb] 42))) := below_alloc (Below.refl _ _) _
  go_enter Tryz.func29, Tryz.ntmps29
  rcases hd with hd | hd
  · go_wp2
    exact ⟨rfl, rfl, BW.out⟩
  · have k1 : decide (d < 0) = false := decide_eq_false (by omega)
    have k2 : ¬ d < 0 := by omega
    go_wp2
    exact ⟨rfl, rfl, BW.out⟩
set_option maxRecDepth 100000 in
set_option maxHeartbeats 4000000 in
theorem decimal1_arg2 (w : World) (gp : Nat) (na da : Bool) (A B : Option Addr) (n m ca cb : Nat) (d : Int) (hd : d < 0 ∨ 50 < d) (hc : w.cell? ⟨gp, 0, none⟩ = some (.int .i64 d)) (hg : gp < w.heap.size) :
    Calls Tryz.prog 28 #[fv na A n ca da B m cb, .pointer (some ⟨gp, 0, none⟩)] w (fun e w' => e = Pan 2 ∧ Below w.heap.size w w') := by
  have BW : Hid (Below w.heap.size w (w.alloc (.cells #[.bool na, .slice A n ca, .bool da, .slice B m cb] 42))) := below_alloc (Below.refl _ _) _
  have QF := Lib.hid (Qd.new w w.heap.size rfl (.bool na) (.slice A n ca) (.bool da) (.slice B m cb) 42)
  have c0 := (BW.out.cell (p := ⟨gp, 0, none⟩) hg).trans hc
  clear hc hg
  go_enter Tryz.func28, Tryz.ntmps28
  go_wp2_with fail
  generalize w.alloc (.cells #[.bool na, .slice A n ca, .bool da, .slice B m cb] 42) = W0 at *
  have ⟨f0, f1, f2, f3, f4, f5, f6, f7, f8⟩ := QF.out
  go_wp2_with fail
  refine (decimal_arg2 _ na da A B n m ca cb d hd).mono ?_
  rintro e w1 ⟨rfl, hb⟩
  unfold Pan
  exact ⟨rfl, rfl, btr BW.out hb⟩
theorem fdecimal_arg2 (w : World) (na : Bool) (A B : Option Addr) (n m ca cb : Nat) (xs ys : List Nat) (d : Int) (hd : d < 0 ∨ 50 < d) (hA : Lm w w.heap.size A n ca xs) (hB : Lm w w.heap.size B m cb ys) (hv : fchk na xs false ys = 0) :
    Calls Tryz.prog 9 #[fv na A n ca false B m cb, .int .i64 d] w (RSE w ⟨#[]⟩ 2) := by
  have hcf2 : ∀ (u v : Value) (W : World), (callFunc 28 #[u, v]).run Tryz.prog W = .ok (.enter 28 #[u, v]) W := fun u v W => by go_simp
  have hcf3 : ∀ (u v : Value) (W : World), (callFunc 51 (#[] ++ #[u, v])).run Tryz.prog W = .ok (.enter 51 (#[] ++ #[u, v])) W := fun u v W => by go_simp
  exact fdecimal_g w na false A B n m ca cb _ _ _ hA hB _ 2 fun W gp bW hc hl h1 h2 => changesp_g W 28 (.pointer (some ⟨gp, 0, none⟩)) na false A B n m ca cb _ _ h1 h2 _ 2 fun W2 g0 ga b2 qf qa i1 i2 =>
    attempts_no W2 51 #[] #[_, _] 2 (hcf3 _ _) (changesp_pn (Wai W2) g0 ga 28 (.pointer (some ⟨gp, 0, none⟩)) na false A B n m ca cb _ _ (qf.via (wai_below W2)) (qa.via (wai_below W2)) (i1.via (wai_below W2)) (i2.via (wai_below W2)) hv 2 (fun u W => hcf2 u _ W) fun W3 b3 j1 j2 =>
      have bb : Below W.heap.size W W3 := btr (btr b2 (wai_below W2)) b3
      decimal1_arg2 W3 gp na false A B n m ca cb d hd ((bb.cell (p := ⟨gp, 0, none⟩) hl).trans hc) (Nat.lt_of_lt_of_le hl bb.size))
set_option maxRecDepth 100000 in
set_option maxHeartbeats 4000000 in
theorem rftext_bad (w : World) (na da : Bool) (A B : Option Addr) (n m ca cb : Nat) (xs ys : List Nat) (hA : Lm w w.heap.size A n ca xs) (hB : Lm w w.heap.size B m cb ys) (hv : fchk na xs da ys = 8) :
    Calls Tryz.prog 8 #[fv na A n ca da B m cb] w fun e w' => e = .returned (.tuple #[.string ⟨#[]⟩, .int .i64 8]) ∧ Below w.heap.size w w' := by
  have HA := Lib.hid hA
  have HB := Lib.hid hB
  have HC := Lib.hid hv
  clear hA hB hv
  go_enter Tryz.func8, Tryz.ntmps8
  have QF := Lib.hid (Qd.new w (w.heap.size) rfl (.bool na) (.slice A n ca) (.bool da) (.slice B m cb) 26)
  have LA := Lib.hid (HA.out.box (.cells #[.bool na, .slice A n ca, .bool da, .slice B m cb] 26))
  have LB := Lib.hid (HB.out.box (.cells #[.bool na, .slice A n ca, .bool da, .slice B m cb] 26))
  have BW : Hid (Below w.heap.size w (w.alloc (.cells #[.bool na, .slice A n ca, .bool da, .slice B m cb] 26))) := (below_alloc (Below.refl _ _) _)
  clear HA HB
  go_wp2_with fail
  generalize w.alloc (.cells #[.bool na, .slice A n ca, .bool da, .slice B m cb] 26) = W0 at *
  refine (rfcheck_any _ na da A B n m ca cb _ _ LA.out LB.out).mono ?_
  rintro e w1 ⟨rfl, hb⟩
  replace QF := Lib.hid (QF.out.via hb)
  replace LA := Lib.hid (LA.out.via hb)
  replace LB := Lib.hid (LB.out.via hb)
  replace BW := Lib.hid (btr BW.out hb)
  clear hb
  rw [HC.out]
  have ⟨rQF0, rQF1, rQF2, rQF3, rQF4, rQF5, rQF6, rQF7, rQFl⟩ := QF.out
  go_wp2_with fail
  clear rQF0 rQF1 rQF2 rQF3 rQF4 rQF5 rQF6 rQF7 rQFl
  refine (rfcheck_any _ na da A B n m ca cb _ _ LA.out LB.out).mono ?_
  rintro e w2 ⟨rfl, hb⟩
  replace QF := Lib.hid (QF.out.via hb)
  replace LA := Lib.hid (LA.out.via hb)
  replace LB := Lib.hid (LB.out.via hb)
  replace BW := Lib.hid (btr BW.out hb)
  clear hb
  rw [HC.out]
  go_wp2
  go_ret2
  exact ⟨rfl, BW.out⟩
set_option maxRecDepth 100000 in
set_option maxHeartbeats 4000000 in
theorem rdecimal_bad (w : World) (na da : Bool) (A B : Option Addr) (n m ca cb : Nat) (xs ys : List Nat) (hA : Lm w w.heap.size A n ca xs) (hB : Lm w w.heap.size B m cb ys) (d : Int) (hv : fchk na xs da ys = 8) :
    Calls Tryz.prog 10 #[fv na A n ca da B m cb, .int .i64 d] w fun e w' => e = .returned (.tuple #[.string ⟨#[]⟩, .int .i64 8]) ∧ Below w.heap.size w w' := by
  have HA := Lib.hid hA
  have HB := Lib.hid hB
  have HC := Lib.hid hv
  clear hA hB hv
  go_enter Tryz.func10, Tryz.ntmps10
  have QF := Lib.hid (Qd.new w (w.heap.size) rfl (.bool na) (.slice A n ca) (.bool da) (.slice B m cb) 26)
  have LA := Lib.hid (HA.out.box (.cells #[.bool na, .slice A n ca, .bool da, .slice B m cb] 26))
  have LB := Lib.hid (HB.out.box (.cells #[.bool na, .slice A n ca, .bool da, .slice B m cb] 26))
  have BW : Hid (Below w.heap.size w (w.alloc (.cells #[.bool na, .slice A n ca, .bool da, .slice B m cb] 26))) := (below_alloc (Below.refl _ _) _)
  clear HA HB
  go_wp2_with fail
  generalize w.alloc (.cells #[.bool na, .slice A n ca, .bool da, .slice B m cb] 26) = W0 at *
  refine (rfcheck_any _ na da A B n m ca cb _ _ LA.out LB.out).mono ?_
  rintro e w1 ⟨rfl, hb⟩
  replace QF := Lib.hid (QF.out.via hb)
  replace LA := Lib.hid (LA.out.via hb)
  replace LB := Lib.hid (LB.out.via hb)
  replace BW := Lib.hid (btr BW.out hb)
  clear hb
  rw [HC.out]
  have ⟨rQF0, rQF1, rQF2, rQF3, rQF4, rQF5, rQF6, rQF7, rQFl⟩ := QF.out
  go_wp2_with fail
  clear rQF0 rQF1 rQF2 rQF3 rQF4 rQF5 rQF6 rQF7 rQFl
  refine (rfcheck_any _ na da A B n m ca cb _ _ LA.out LB.out).mono ?_
  rintro e w2 ⟨rfl, hb⟩
  replace QF := Lib.hid (QF.out.via hb)
  replace LA := Lib.hid (LA.out.via hb)
  replace LB := Lib.hid (LB.out.via hb)
  replace BW := Lib.hid (btr BW.out hb)
  clear hb
  rw [HC.out]
  go_wp2
  go_ret2
  exact ⟨rfl, BW.out⟩
set_option maxRecDepth 100000 in
set_option maxHeartbeats 4000000 in
theorem rdecimal_arg (w : World) (na da : Bool) (A B : Option Addr) (n m ca cb : Nat) (xs ys : List Nat) (hA : Lm w w.heap.size A n ca xs) (hB : Lm w w.heap.size B m cb ys) (d : Int) (hd : d < 0 ∨ 50 < d) (hv : fchk na xs da ys = 0) :
    Calls Tryz.prog 10 #[fv na A n ca da B m cb, .int .i64 d] w fun e w' => e = .returned (.tuple #[.string ⟨#[]⟩, .int .i64 2]) ∧ Below w.heap.size w w' := by
  have HA := Lib.hid hA
  have HB := Lib.hid hB
  have HC := Lib.hid hv
  clear hA hB hv
  go_enter Tryz.func10, Tryz.ntmps10
  have QF := Lib.hid (Qd.new w (w.heap.size) rfl (.bool na) (.slice A n ca) (.bool da) (.slice B m cb) 26)
  have LA := Lib.hid (HA.out.box (.cells #[.bool na, .slice A n ca, .bool da, .slice B m cb] 26))
  have LB := Lib.hid (HB.out.box (.cells #[.bool na, .slice A n ca, .bool da, .slice B m cb] 26))
  have BW : Hid (Below w.heap.size w (w.alloc (.cells #[.bool na, .slice A n ca, .bool da, .slice B m cb] 26))) := (below_alloc (Below.refl _ _) _)
  clear HA HB
  go_wp2_with fail
  generalize w.alloc (.cells #[.bool na, .slice A n ca, .bool da, .slice B m cb] 26) = W0 at *
  refine (rfcheck_any _ na da A B n m ca cb _ _ LA.out LB.out).mono ?_
  rintro e w1 ⟨rfl, hb⟩
  replace QF := Lib.hid (QF.out.via hb)
  replace LA := Lib.hid (LA.out.via hb)
  replace LB := Lib.hid (LB.out.via hb)
  replace BW := Lib.hid (btr BW.out hb)
  clear hb
  rw [HC.out]
  rcases hd with hd | hd
  · go_wp2
    go_ret2
    exact ⟨rfl, BW.out⟩
  · have k1 : decide (d < 0) = false := decide_eq_false (by omega)
    have k2 : ¬ d < 0 := by omega
    go_wp2
    go_ret2
    exact ⟨rfl, BW.out⟩
end Go.Proofs.YtbplbbkmfbjkfaaGreatDoor

/- The walk of the law FracTexts. -/
namespace Go.Proofs.YtbplbbkmfbjkfaaGreatDoor
open Go.RowKit

/-- Text of any fraction: both sides return the same. -/
theorem text_both (na nb : Bool) (xs ys : List Nat) (gx : Good xs) (gy : Good ys) (lx : xs.length ≤ 130) (ly : ys.length ≤ 130) : ∃ (t : ByteArray) (err : Int),
    (∀ (W : World) (A B : Option Addr) (n m ca cb : Nat), Lm W W.heap.size A n ca xs → Lm W W.heap.size B m cb ys → TabU W → Calls Tryz.prog 7 #[fv na A n ca nb B m cb] W (RSE W t err)) ∧
    (∀ (W : World) (A B : Option Addr) (n m ca cb : Nat), Lm W W.heap.size A n ca xs → Lm W W.heap.size B m cb ys → Calls Tryz.prog 8 #[fv na A n ca nb B m cb] W (RSE W t err)) := by
  rcases fchk_cases na xs nb ys with hc | hc
  · obtain ⟨x, P, e1, e2, sx, e3, e4, sP, hP0, _⟩ := of_fchk hc gx gy lx ly
    subst e2 e3 e4
    exact ⟨⟨(ftx x P).toArray⟩, 0, fun W A B n m ca cb hA hB hU => ftext_n W A B n m ca cb 130 x P hA hB sx sP (by omega) hP0 hU e1.symm hc,
      fun W A B n m ca cb hA hB => rftext_n W na A B n m ca cb 130 x P hA hB sx sP (by omega) e1.symm hP0 hc⟩
  · exact ⟨⟨#[]⟩, 8, fun W A B n m ca cb hA hB hU => ftext_bad W na nb A B n m ca cb xs ys hA hB hc, fun W A B n m ca cb hA hB => rftext_bad W na nb A B n m ca cb xs ys hA hB hc⟩
/-- Decimal of any fraction and number of digits: both sides return the same. -/
theorem dec_both (na nb : Bool) (xs ys : List Nat) (d : Int) (gx : Good xs) (gy : Good ys) (lx : xs.length ≤ 130) (ly : ys.length ≤ 130) : ∃ (t : ByteArray) (err : Int),
    (∀ (W : World) (A B : Option Addr) (n m ca cb : Nat), Lm W W.heap.size A n ca xs → Lm W W.heap.size B m cb ys → TabU W → Calls Tryz.prog 9 #[fv na A n ca nb B m cb, .int .i64 d] W (RSE W t err)) ∧
    (∀ (W : World) (A B : Option Addr) (n m ca cb : Nat), Lm W W.heap.size A n ca xs → Lm W W.heap.size B m cb ys → Calls Tryz.prog 10 #[fv na A n ca nb B m cb, .int .i64 d] W (RSE W t err)) := by
  rcases fchk_cases na xs nb ys with hc | hc
  · obtain ⟨x, P, e1, e2, sx, e3, e4, sP, hP0, _⟩ := of_fchk hc gx gy lx ly
    subst e2 e3 e4
    by_cases hd : d < 0 ∨ 50 < d
    · exact ⟨⟨#[]⟩, 2, fun W A B n m ca cb hA hB hU => fdecimal_arg2 W na A B n m ca cb _ _ d hd hA hB hc, fun W A B n m ca cb hA hB => rdecimal_arg W na false A B n m ca cb _ _ hA hB d hd hc⟩
    · obtain ⟨k, rfl⟩ := Int.eq_ofNat_of_zero_le (show 0 ≤ d by omega)
      exact ⟨⟨(decT x P k).toArray⟩, 0, fun W A B n m ca cb hA hB hU => fdecimal_n W A B n m ca cb 130 k x P hA hB sx sP (by omega) (by omega) (by omega) hP0 hU e1.symm hc,
        fun W A B n m ca cb hA hB => rdecimal_n W na A B n m ca cb x P hA hB sx sP e1.symm hP0 hc k (by omega)⟩
  · exact ⟨⟨#[]⟩, 8, fun W A B n m ca cb hA hB hU => fdecimal_bad W na nb A B n m ca cb xs ys d hA hB hc, fun W A B n m ca cb hA hB => rdecimal_bad W na nb A B n m ca cb xs ys hA hB d hc⟩
set_option maxRecDepth 100000 in
set_option maxHeartbeats 8000000 in
theorem texts_any (w : World) (na nb : Bool) (A B : Option Addr) (n m ca cb : Nat) (xs ys : List Nat) (l : List UInt8) (d : Int) (hA : Lm w w.heap.size A n ca xs) (hB : Lm w w.heap.size B m cb ys) (hU : TabU w) (hl : l.length ≤ 9223372036854775807) :
    Calls Tryz.prog 3 #[fv na A n ca nb B m cb, .string ⟨l.toArray⟩, .int .i64 d] w (RBw w true) := by
  have QF := Lib.hid (Qd.new w w.heap.size rfl (.bool na) (.slice A n ca) (.bool nb) (.slice B m cb) 26)
  have BX : Hid (Below w.heap.size w (w.alloc (.cells #[.bool na, .slice A n ca, .bool nb, .slice B m cb] 26))) := below_alloc (Below.refl _ _) _
  have LA := Lib.hid (hA.via BX.out)
  have LB := Lib.hid (hB.via BX.out)
  have hq1 := hA.cap
  have hq2 := hA.max
  have hq3 := hB.cap
  have hq4 := hB.max
  have HU := Lib.hid (hU.via BX.out)
  have HGx := Lib.hid hA.good
  have HGy := Lib.hid hB.good
  have HLx : Hid (xs.length = n) := hA.len
  have HLy : Hid (ys.length = m) := hB.len
  have hzl := str_size l
  clear hA hB hU
  go_enter Tryz.func3, Tryz.ntmps3
  go_upto_region 1 with (fail)
  generalize w.alloc (.cells #[.bool na, .slice A n ca, .bool nb, .slice B m cb] 26) = W0 at *
  have ⟨fa0, fa1, fa2, fa3, fa4, fa5, fa6, fa7, fa8⟩ := QF.out
  go_wp2_with fail
  clear fa0 fa1 fa2 fa3 fa4 fa5 fa6 fa7 fa8
  refine (fgreat_any _ na nb A B n m ca cb hq1 hq2 hq3 hq4).mono ?_
  rintro e w1 ⟨rfl, hb⟩
  replace QF := Lib.hid (QF.out.via hb)
  replace LA := Lib.hid (LA.out.via hb)
  replace LB := Lib.hid (LB.out.via hb)
  replace HU := Lib.hid (HU.out.via hb)
  replace BX := Lib.hid (btr BX.out hb)
  clear hb
  by_cases hg : 130 < n ∨ 130 < m
  · rw [show (decide (130 < n) || decide (130 < m)) = true by simp; omega]
    clear hg
    go_wp2
    go_ret
    exact ⟨rfl, BX.out⟩
  · rw [show (decide (130 < n) || decide (130 < m)) = false by simp; omega]
    have HGG : Hid (xs.length ≤ 130 ∧ ys.length ≤ 130) := by
      have := HLx.out
      have := HLy.out
      show _ ∧ _
      omega
    clear hg HLx HLy hq1 hq2 hq3 hq4
    by_cases hl3 : 300 < l.length
    · have hl4 : (300 : Int) < (l.length : Int) := by omega
      go_wp2
      go_ret
      exact ⟨rfl, BX.out⟩
    · have hl4 : ¬ (300 : Int) < (l.length : Int) := by omega
      have hl5 : decide ((300 : Int) < (l.length : Int)) = false := decide_eq_false hl4
      obtain ⟨zp, hzp⟩ : ∃ z, decide (prP l < 0) = z := ⟨_, rfl⟩
      obtain ⟨zq, hzq⟩ : ∃ z, decide (prQ l < 0) = z := ⟨_, rfl⟩
      have HP1 := Lib.hid (fun W => fparse_any W l hl)
      have HP2 := Lib.hid (fun W => rfparse_any W l (by omega))
      unfold RP2 at HP2
      rw [hzp, hzq] at HP1 HP2
      clear hzp hzq
      generalize digs (prP l).natAbs = lp at *
      generalize digs (prQ l).natAbs = lq at *
      generalize prE l = er at *
      obtain ⟨t1, e1, HT1, HT2⟩ := text_both na nb xs ys HGx.out HGy.out HGG.out.1 HGG.out.2
      obtain ⟨t2, e2, HD1, HD2⟩ := dec_both na nb xs ys d HGx.out HGy.out HGG.out.1 HGG.out.2
      replace HT1 := Lib.hid HT1
      replace HT2 := Lib.hid HT2
      replace HD1 := Lib.hid HD1
      replace HD2 := Lib.hid HD2
      clear HGx HGy HGG
      go_wp2_with fail
      refine (HP1.out _).mono ?_
      rintro e w2 ⟨A1, n1, c1, B1, m1, d1, rfl, hL, hM, hb⟩
      replace QF := Lib.hid (QF.out.via hb)
      replace LA := Lib.hid (LA.out.via hb)
      replace LB := Lib.hid (LB.out.via hb)
      replace HU := Lib.hid (HU.out.via hb)
      replace BX := Lib.hid (btr BX.out hb)
      have L1 := Lib.hid hL
      have M1 := Lib.hid hM
      clear hb hL hM
      clear hl4 hl5 hzl
      go_upto_region 4 with (fail)
      have Q1 := Lib.hid (Qd.new w2 _ rfl (.bool zp) (.slice A1 n1 c1) (.bool zq) (.slice B1 m1 d1) 26)
      replace QF := Lib.hid (QF.out.alloc (.cells #[.bool zp, .slice A1 n1 c1, .bool zq, .slice B1 m1 d1] 26))
      replace LA := Lib.hid (LA.out.box (.cells #[.bool zp, .slice A1 n1 c1, .bool zq, .slice B1 m1 d1] 26))
      replace LB := Lib.hid (LB.out.box (.cells #[.bool zp, .slice A1 n1 c1, .bool zq, .slice B1 m1 d1] 26))
      replace HU := Lib.hid (HU.out.box (.cells #[.bool zp, .slice A1 n1 c1, .bool zq, .slice B1 m1 d1] 26))
      replace L1 := Lib.hid (L1.out.box (.cells #[.bool zp, .slice A1 n1 c1, .bool zq, .slice B1 m1 d1] 26))
      replace M1 := Lib.hid (M1.out.box (.cells #[.bool zp, .slice A1 n1 c1, .bool zq, .slice B1 m1 d1] 26))
      replace BX := Lib.hid (below_alloc BX.out (.cells #[.bool zp, .slice A1 n1 c1, .bool zq, .slice B1 m1 d1] 26))
      generalize w2.heap.size = g1 at *
      generalize w2.alloc (.cells #[.bool zp, .slice A1 n1 c1, .bool zq, .slice B1 m1 d1] 26) = V1 at *
      go_wp2_with fail
      refine (HP2.out _).mono ?_
      rintro e w3 ⟨A2, n2, c2, B2, m2, d2, rfl, hL, hM, hb⟩
      replace QF := Lib.hid (QF.out.via hb)
      replace LA := Lib.hid (LA.out.via hb)
      replace LB := Lib.hid (LB.out.via hb)
      replace HU := Lib.hid (HU.out.via hb)
      replace L1 := Lib.hid (L1.out.via hb)
      replace M1 := Lib.hid (M1.out.via hb)
      replace Q1 := Lib.hid (Q1.out.via hb)
      replace BX := Lib.hid (btr BX.out hb)
      have L2 := Lib.hid hL
      have M2 := Lib.hid hM
      clear hb hL hM
      go_upto_region 5 with (fail)
      have Q2 := Lib.hid (Qd.new w3 _ rfl (.bool zp) (.slice A2 n2 c2) (.bool zq) (.slice B2 m2 d2) 26)
      replace QF := Lib.hid (QF.out.alloc (.cells #[.bool zp, .slice A2 n2 c2, .bool zq, .slice B2 m2 d2] 26))
      replace LA := Lib.hid (LA.out.box (.cells #[.bool zp, .slice A2 n2 c2, .bool zq, .slice B2 m2 d2] 26))
      replace LB := Lib.hid (LB.out.box (.cells #[.bool zp, .slice A2 n2 c2, .bool zq, .slice B2 m2 d2] 26))
      replace HU := Lib.hid (HU.out.box (.cells #[.bool zp, .slice A2 n2 c2, .bool zq, .slice B2 m2 d2] 26))
      replace L1 := Lib.hid (L1.out.box (.cells #[.bool zp, .slice A2 n2 c2, .bool zq, .slice B2 m2 d2] 26))
      replace M1 := Lib.hid (M1.out.box (.cells #[.bool zp, .slice A2 n2 c2, .bool zq, .slice B2 m2 d2] 26))
      replace Q1 := Lib.hid (Q1.out.alloc (.cells #[.bool zp, .slice A2 n2 c2, .bool zq, .slice B2 m2 d2] 26))
      replace L2 := Lib.hid (L2.out.box (.cells #[.bool zp, .slice A2 n2 c2, .bool zq, .slice B2 m2 d2] 26))
      replace M2 := Lib.hid (M2.out.box (.cells #[.bool zp, .slice A2 n2 c2, .bool zq, .slice B2 m2 d2] 26))
      replace BX := Lib.hid (below_alloc BX.out (.cells #[.bool zp, .slice A2 n2 c2, .bool zq, .slice B2 m2 d2] 26))
      generalize w3.heap.size = g2 at *
      generalize w3.alloc (.cells #[.bool zp, .slice A2 n2 c2, .bool zq, .slice B2 m2 d2] 26) = V2 at *
      have ⟨fa0, fa1, fa2, fa3, fa4, fa5, fa6, fa7, fa8⟩ := QF.out
      go_wp2_with fail
      clear fa0 fa1 fa2 fa3 fa4 fa5 fa6 fa7 fa8
      refine (HT1.out _ A B n m ca cb LA.out LB.out HU.out).mono ?_
      rintro e w4 ⟨rfl, hb⟩
      replace QF := Lib.hid (QF.out.via hb)
      replace LA := Lib.hid (LA.out.via hb)
      replace LB := Lib.hid (LB.out.via hb)
      replace HU := Lib.hid (HU.out.via hb)
      replace L1 := Lib.hid (L1.out.via hb)
      replace M1 := Lib.hid (M1.out.via hb)
      replace Q1 := Lib.hid (Q1.out.via hb)
      replace L2 := Lib.hid (L2.out.via hb)
      replace M2 := Lib.hid (M2.out.via hb)
      replace Q2 := Lib.hid (Q2.out.via hb)
      replace BX := Lib.hid (btr BX.out hb)
      clear hb
      have ⟨fa0, fa1, fa2, fa3, fa4, fa5, fa6, fa7, fa8⟩ := QF.out
      go_wp2_with fail
      clear fa0 fa1 fa2 fa3 fa4 fa5 fa6 fa7 fa8
      refine (HT2.out _ A B n m ca cb LA.out LB.out).mono ?_
      rintro e w5 ⟨rfl, hb⟩
      replace QF := Lib.hid (QF.out.via hb)
      replace LA := Lib.hid (LA.out.via hb)
      replace LB := Lib.hid (LB.out.via hb)
      replace HU := Lib.hid (HU.out.via hb)
      replace L1 := Lib.hid (L1.out.via hb)
      replace M1 := Lib.hid (M1.out.via hb)
      replace Q1 := Lib.hid (Q1.out.via hb)
      replace L2 := Lib.hid (L2.out.via hb)
      replace M2 := Lib.hid (M2.out.via hb)
      replace Q2 := Lib.hid (Q2.out.via hb)
      replace BX := Lib.hid (btr BX.out hb)
      clear hb
      have ⟨fa0, fa1, fa2, fa3, fa4, fa5, fa6, fa7, fa8⟩ := QF.out
      go_wp2_with fail
      clear fa0 fa1 fa2 fa3 fa4 fa5 fa6 fa7 fa8
      refine (HD1.out _ A B n m ca cb LA.out LB.out HU.out).mono ?_
      rintro e w6 ⟨rfl, hb⟩
      replace QF := Lib.hid (QF.out.via hb)
      replace LA := Lib.hid (LA.out.via hb)
      replace LB := Lib.hid (LB.out.via hb)
      replace HU := Lib.hid (HU.out.via hb)
      replace L1 := Lib.hid (L1.out.via hb)
      replace M1 := Lib.hid (M1.out.via hb)
      replace Q1 := Lib.hid (Q1.out.via hb)
      replace L2 := Lib.hid (L2.out.via hb)
      replace M2 := Lib.hid (M2.out.via hb)
      replace Q2 := Lib.hid (Q2.out.via hb)
      replace BX := Lib.hid (btr BX.out hb)
      clear hb
      have ⟨fa0, fa1, fa2, fa3, fa4, fa5, fa6, fa7, fa8⟩ := QF.out
      go_wp2_with fail
      clear fa0 fa1 fa2 fa3 fa4 fa5 fa6 fa7 fa8
      refine (HD2.out _ A B n m ca cb LA.out LB.out).mono ?_
      rintro e w7 ⟨rfl, hb⟩
      replace QF := Lib.hid (QF.out.via hb)
      replace LA := Lib.hid (LA.out.via hb)
      replace LB := Lib.hid (LB.out.via hb)
      replace HU := Lib.hid (HU.out.via hb)
      replace L1 := Lib.hid (L1.out.via hb)
      replace M1 := Lib.hid (M1.out.via hb)
      replace Q1 := Lib.hid (Q1.out.via hb)
      replace L2 := Lib.hid (L2.out.via hb)
      replace M2 := Lib.hid (M2.out.via hb)
      replace Q2 := Lib.hid (Q2.out.via hb)
      replace BX := Lib.hid (btr BX.out hb)
      clear hb
      have ⟨fa0, fa1, fa2, fa3, fa4, fa5, fa6, fa7, fa8⟩ := Q1.out
      have ⟨fb0, fb1, fb2, fb3, fb4, fb5, fb6, fb7, fb8⟩ := Q2.out
      go_wp2_with fail
      clear fa0 fa1 fa2 fa3 fa4 fa5 fa6 fa7 fa8
      clear fb0 fb1 fb2 fb3 fb4 fb5 fb6 fb7 fb8
      refine (fsame_self _ zp zq A1 B1 A2 B2 n1 m1 n2 m2 c1 d1 c2 d2 lp lq L1.out M1.out L2.out M2.out).mono ?_
      rintro e w8 ⟨rfl, hb⟩
      replace QF := Lib.hid (QF.out.via hb)
      replace LA := Lib.hid (LA.out.via hb)
      replace LB := Lib.hid (LB.out.via hb)
      replace HU := Lib.hid (HU.out.via hb)
      replace L1 := Lib.hid (L1.out.via hb)
      replace M1 := Lib.hid (M1.out.via hb)
      replace Q1 := Lib.hid (Q1.out.via hb)
      replace L2 := Lib.hid (L2.out.via hb)
      replace M2 := Lib.hid (M2.out.via hb)
      replace Q2 := Lib.hid (Q2.out.via hb)
      replace BX := Lib.hid (btr BX.out hb)
      clear hb
      go_wp2
      go_ret
      exact ⟨rfl, BX.out⟩
end Go.Proofs.YtbplbbkmfbjkfaaGreatDoor

