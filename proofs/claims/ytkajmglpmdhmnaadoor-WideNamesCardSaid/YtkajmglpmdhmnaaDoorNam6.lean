
/-
  The law WideNames returns true: each limit and error that the chapter wide names is kept, one call after another. Conditions: the library's tables of de Bruijn and of powers of ten hold what their initialisers lay (the card ties them to the program's text); no other condition.
-/
import Derived.Deep.DeepCutAuto
import Derived.Deep.RegionHeld3
import Derived.Test.YtkajmglpmdhmnaaDoorTie
import Derived.Test.YtkajmglpmdhmnaaDoorCards
import Derived.Test.YtkajmglpmdhmnaaDoorNam5
/- The law WideNames: the limits and errors, one call after another. -/
namespace Go.Proofs.YtkajmglpmdhmnaaDoor
open Go.RowKit

set_option maxRecDepth 100000 in
set_option maxHeartbeats 8000000 in
theorem names_any (w : World) (hD : TabD w) (hU : TabU w) :
    Calls Tryd.prog 4 #[] w fun e w' => e = .returned (.bool true) ∧ Below w.heap.size w w' := by
  have TD := Lib.hid hD
  have TU := Lib.hid hU
  have HB : Hid (Below w.heap.size w w) := Below.refl _ _
  clear hD hU
  go_enter Tryd.func4, Tryd.ntmps4
  go_wp2_with fail
  refine (whole_any _ true none 0 0 [] (Lm.nil _ _)).mono ?_
  rintro e w1 ⟨rfl, hb1⟩
  have QTD := Lib.hid ((TD.out.box _).via hb1)
  have QTU := Lib.hid ((TU.out.box _).via hb1)
  have QHB := Lib.hid (HB.out.trans ((bbox hb1).mono HB.out.size))
  have PZ := Lib.hid ((Pr.new _ _ rfl _ _ _).via hb1)
  clear TD TU HB
  have TD := QTD
  clear QTD
  have TU := QTU
  clear QTU
  have HB := QHB
  clear QHB
  clear hb1
  go_wp2_with fail
  refine (check_bad _ true none 0 0 [] (Lm.nil _ _) (by decide)).mono ?_
  rintro e w2 ⟨rfl, hb2⟩
  have QPZ := Lib.hid (PZ.out.via hb2)
  have QTD := Lib.hid (TD.out.via hb2)
  have QTU := Lib.hid (TU.out.via hb2)
  have QHB := Lib.hid (HB.out.trans (hb2.mono HB.out.size))
  clear PZ TD TU HB
  have PZ := QPZ
  clear QPZ
  have TD := QTD
  clear QTD
  have TU := QTU
  clear QTU
  have HB := QHB
  clear QHB
  clear hb2
  go_wp2_with fail
  refine (whole_any _ false _ _ _ [1, 0] ((Lm.lit2 _ (w2.heap.size) _ (by simp) 1 0 (by omega) (by omega)).mono (by simp))).mono ?_
  rintro e w3 ⟨rfl, hb3⟩
  have QPZ := Lib.hid ((PZ.out.alloc _).via hb3)
  have QTD := Lib.hid ((TD.out.box _).via hb3)
  have QTU := Lib.hid ((TU.out.box _).via hb3)
  have QHB := Lib.hid (HB.out.trans ((bbox hb3).mono HB.out.size))
  clear PZ TD TU HB
  have PZ := QPZ
  clear QPZ
  have TD := QTD
  clear QTD
  have TU := QTU
  clear QTU
  have HB := QHB
  clear QHB
  have Lw2 := Lib.hid (((Lm.lit2 _ (w2.heap.size) _ (by simp) 1 0 (by omega) (by omega)).mono (by simp)).via hb3)
  clear hb3
  as_aux_lemma =>
  go_wp2_with fail
  refine (check_bad _ false _ _ _ [1, 0] Lw2.out (by decide)).mono ?_
  rintro e w4 ⟨rfl, hb4⟩
  have QLw2 := Lib.hid (Lw2.out.via hb4)
  have QPZ := Lib.hid (PZ.out.via hb4)
  have QTD := Lib.hid (TD.out.via hb4)
  have QTU := Lib.hid (TU.out.via hb4)
  have QHB := Lib.hid (HB.out.trans (hb4.mono HB.out.size))
  clear Lw2 PZ TD TU HB
  have Lw2 := QLw2
  clear QLw2
  have PZ := QPZ
  clear QPZ
  have TD := QTD
  clear QTD
  have TU := QTU
  clear QTU
  have HB := QHB
  clear QHB
  clear hb4
  clear Lw2
  go_wp2_with fail
  refine (ones_any _ 4097 (by omega)).mono ?_
  rintro e w5 ⟨Aa, ca, rfl, ha, hb5⟩
  have QPZ := Lib.hid (PZ.out.via hb5)
  have QTD := Lib.hid (TD.out.via hb5)
  have QTU := Lib.hid (TU.out.via hb5)
  have QHB := Lib.hid (HB.out.trans (hb5.mono HB.out.size))
  clear PZ TD TU HB
  have PZ := QPZ
  clear QPZ
  have TD := QTD
  clear QTD
  have TU := QTU
  clear QTU
  have HB := QHB
  clear QHB
  have La : Hid (Lm _ _ Aa 4097 ca (Ms 4097)) := Lib.hid ha
  clear ha
  clear hb5
  as_aux_lemma =>
  go_wp2_with fail
  refine (check_bad _ false _ _ _ _ La.out (chk_ms_long 4097 (by omega))).mono ?_
  rintro e w6 ⟨rfl, hb6⟩
  have QLa := Lib.hid (La.out.via hb6)
  have QPZ := Lib.hid (PZ.out.via hb6)
  have QTD := Lib.hid (TD.out.via hb6)
  have QTU := Lib.hid (TU.out.via hb6)
  have QHB := Lib.hid (HB.out.trans (hb6.mono HB.out.size))
  clear La PZ TD TU HB
  have La := QLa
  clear QLa
  have PZ := QPZ
  clear QPZ
  have TD := QTD
  clear QTD
  have TU := QTU
  clear QTU
  have HB := QHB
  clear QHB
  clear hb6
  clear La
  go_wp2_with fail
  refine (ones_any _ 4096 (by omega)).mono ?_
  rintro e w7 ⟨Ab, cb, rfl, hb, hb7⟩
  have QPZ := Lib.hid (PZ.out.via hb7)
  have QTD := Lib.hid (TD.out.via hb7)
  have QTU := Lib.hid (TU.out.via hb7)
  have QHB := Lib.hid (HB.out.trans (hb7.mono HB.out.size))
  clear PZ TD TU HB
  have PZ := QPZ
  clear QPZ
  have TD := QTD
  clear QTD
  have TU := QTU
  clear QTU
  have HB := QHB
  clear QHB
  have Lb : Hid (Lm _ _ Ab 4096 cb (Ms 4096)) := Lib.hid hb
  clear hb
  clear hb7
  as_aux_lemma =>
  go_wp2_with fail
  refine (check_ok _ false _ _ _ _ Lb.out (chk_ms 4096 (by omega))).mono ?_
  rintro e w8 ⟨rfl, hb8⟩
  have QLb := Lib.hid (Lb.out.via hb8)
  have QPZ := Lib.hid (PZ.out.via hb8)
  have QTD := Lib.hid (TD.out.via hb8)
  have QTU := Lib.hid (TU.out.via hb8)
  have QHB := Lib.hid (HB.out.trans (hb8.mono HB.out.size))
  clear Lb PZ TD TU HB
  have Lb := QLb
  clear QLb
  have PZ := QPZ
  clear QPZ
  have TD := QTD
  clear QTD
  have TU := QTU
  clear QTU
  have HB := QHB
  clear QHB
  clear hb8
  clear Lb
  have ⟨c0, c1, _, _, _⟩ := PZ.out
  go_wp2_with fail
  refine (check_ok _ false none 0 0 [] (Lm.nil _ _) (by decide)).mono ?_
  rintro e w9 ⟨rfl, hb9⟩
  have QPZ := Lib.hid (PZ.out.via hb9)
  have QTD := Lib.hid (TD.out.via hb9)
  have QTU := Lib.hid (TU.out.via hb9)
  have QHB := Lib.hid (HB.out.trans (hb9.mono HB.out.size))
  clear PZ TD TU HB
  have PZ := QPZ
  clear QPZ
  have TD := QTD
  clear QTD
  have TU := QTU
  clear QTU
  have HB := QHB
  clear QHB
  clear c0 c1
  clear hb9
  as_aux_lemma =>
  go_wp2_with fail
  refine (ones_any _ 4096 (by omega)).mono ?_
  rintro e w10 ⟨Ad, cd, rfl, hd, hb10⟩
  have QPZ := Lib.hid (PZ.out.via hb10)
  have QTD := Lib.hid (TD.out.via hb10)
  have QTU := Lib.hid (TU.out.via hb10)
  have QHB := Lib.hid (HB.out.trans (hb10.mono HB.out.size))
  clear PZ TD TU HB
  have PZ := QPZ
  clear QPZ
  have TD := QTD
  clear QTD
  have TU := QTU
  clear QTU
  have HB := QHB
  clear QHB
  have Ld : Hid (Lm _ _ Ad 4096 cd (Ms 4096)) := Lib.hid hd
  clear hd
  clear hb10
  go_wp2_with fail
  refine (from_any _ (1) (by omega) (by omega)).mono ?_
  rintro e w11 ⟨Ae, ne, ce, rfl, he, hb11⟩
  have QLd := Lib.hid (Ld.out.via hb11)
  have QPZ := Lib.hid (PZ.out.via hb11)
  have QTD := Lib.hid (TD.out.via hb11)
  have QTU := Lib.hid (TU.out.via hb11)
  have QHB := Lib.hid (HB.out.trans (hb11.mono HB.out.size))
  clear Ld PZ TD TU HB
  have Ld := QLd
  clear QLd
  have PZ := QPZ
  clear QPZ
  have TD := QTD
  clear QTD
  have TU := QTU
  clear QTU
  have HB := QHB
  clear QHB
  have Le : Hid (Lm _ _ Ae ne ce (digs 1)) := Lib.hid he
  clear he
  clear hb11
  as_aux_lemma =>
  go_wp2_with fail
  refine (add_over _ _ _ _ _ _ _ 4096 rfl Ld.out Le.out).mono ?_
  rintro e w12 ⟨Af, nf, cf, rfl, hf, hb12⟩
  have QLd := Lib.hid (Ld.out.via hb12)
  have QLe := Lib.hid (Le.out.via hb12)
  have QPZ := Lib.hid (PZ.out.via hb12)
  have QTD := Lib.hid (TD.out.via hb12)
  have QTU := Lib.hid (TU.out.via hb12)
  have QHB := Lib.hid (HB.out.trans (hb12.mono HB.out.size))
  clear Ld Le PZ TD TU HB
  have Ld := QLd
  clear QLd
  have Le := QLe
  clear QLe
  have PZ := QPZ
  clear QPZ
  have TD := QTD
  clear QTD
  have TU := QTU
  clear QTU
  have HB := QHB
  clear QHB
  clear hf
  clear hb12
  clear Ld Le
  go_wp2_with fail
  refine (ones_any _ 4096 (by omega)).mono ?_
  rintro e w13 ⟨Ag, cg, rfl, hg, hb13⟩
  have QPZ := Lib.hid ((PZ.out.alloc _).via hb13)
  have QTD := Lib.hid ((TD.out.box _).via hb13)
  have QTU := Lib.hid ((TU.out.box _).via hb13)
  have QHB := Lib.hid (HB.out.trans ((bbox hb13).mono HB.out.size))
  clear PZ TD TU HB
  have PZ := QPZ
  clear QPZ
  have TD := QTD
  clear QTD
  have TU := QTU
  clear QTU
  have HB := QHB
  clear QHB
  have Lg : Hid (Lm _ _ Ag 4096 cg (Ms 4096)) := Lib.hid hg
  clear hg
  clear hb13
  as_aux_lemma =>
  go_wp2_with fail
  refine (from_any _ (-1) (by omega) (by omega)).mono ?_
  rintro e w14 ⟨Ah, nh, ch, rfl, hh, hb14⟩
  have QLg := Lib.hid (Lg.out.via hb14)
  have QPZ := Lib.hid (PZ.out.via hb14)
  have QTD := Lib.hid (TD.out.via hb14)
  have QTU := Lib.hid (TU.out.via hb14)
  have QHB := Lib.hid (HB.out.trans (hb14.mono HB.out.size))
  clear Lg PZ TD TU HB
  have Lg := QLg
  clear QLg
  have PZ := QPZ
  clear QPZ
  have TD := QTD
  clear QTD
  have TU := QTU
  clear QTU
  have HB := QHB
  clear QHB
  have Lh : Hid (Lm _ _ Ah nh ch (digs 1)) := Lib.hid hh
  clear hh
  clear hb14
  go_wp2_with fail
  refine (add_fit _ _ _ _ _ _ _ 4096 rfl Lg.out Lh.out).mono ?_
  rintro e w15 ⟨gi, xi, Ai, ni, ci, rfl, hi, hb15⟩
  have QLg := Lib.hid (Lg.out.via hb15)
  have QLh := Lib.hid (Lh.out.via hb15)
  have QPZ := Lib.hid (PZ.out.via hb15)
  have QTD := Lib.hid (TD.out.via hb15)
  have QTU := Lib.hid (TU.out.via hb15)
  have QHB := Lib.hid (HB.out.trans (hb15.mono HB.out.size))
  clear Lg Lh PZ TD TU HB
  have Lg := QLg
  clear QLg
  have Lh := QLh
  clear QLh
  have PZ := QPZ
  clear QPZ
  have TD := QTD
  clear QTD
  have TU := QTU
  clear QTU
  have HB := QHB
  clear QHB
  clear hi
  clear hb15
  clear Lg Lh
  have QTD := Lib.hid (TD.out.box (.cells #[.bool gi, .slice Ai ni ci] 24))
  have QTU := Lib.hid (TU.out.box (.cells #[.bool gi, .slice Ai ni ci] 24))
  have QPZ := Lib.hid (PZ.out.alloc (.cells #[.bool gi, .slice Ai ni ci] 24))
  have QHB := Lib.hid (HB.out.alloc HB.out.size (.cells #[.bool gi, .slice Ai ni ci] 24))
  clear PZ TD TU HB
  have PZ := QPZ
  clear QPZ
  have TD := QTD
  clear QTD
  have TU := QTU
  clear QTU
  have HB := QHB
  clear QHB
  have ⟨c0, c1, _, _, cl⟩ := PZ.out
  as_aux_lemma =>
  go_wp2_with fail
  generalize (w15.alloc (.cells #[.bool gi, .slice Ai ni ci] 24)) = Vc at *
  have HKS : Hid (∀ V : World, Below Vc.heap.size Vc V → V.cell? ⟨w.heap.size, 0, none⟩ = some (.bool false) ∧ V.cell? ⟨w.heap.size, 1, none⟩ = some (.slice none 0 0)) := fun V h => ⟨(PZ.out.below h cl).c0, (PZ.out.below h cl).c1⟩
  go_cut [9] (fun sc wx => sc = .int .i64 18 ∧ Below Vc.heap.size Vc wx)
  case first =>
    as_aux_lemma =>
    go_region_held3 (fun w' => w'.cell? ⟨w.heap.size, 0, none⟩ = some (.bool false) ∧ w'.cell? ⟨w.heap.size, 1, none⟩ = some (.slice none 0 0))
      (first | exact ⟨c0, c1⟩ | (refine HKS.out _ ?_; (repeat' (first | exact Bb | exact Ba | exact (Below.refl _ _).drew | exact Below.refl _ _ | refine Below.drew ?_ | refine Below.setCell ?_ ?_ _ | refine Below.alloc ?_ ?_ _)); all_goals (first | omega | (simp; done) | (simp; omega))))
      (first
       | (go_at_call 20; refine (from_any _ 1 (by omega) (by omega)).mono ?_; rintro e wa ⟨Aj, nj, cj, rfl, hLj, hba⟩; have Ba : Below Vc.heap.size Vc wa := (by first | exact hba | exact (Below.refl _ _).drew.trans hba | exact b_one hba | exact b_one_d hba | exact b_two hba | exact b_two_d hba); have Bas := Ba.size; (try (have X1 := (by first | exact (Pr.new Vc Vc.heap.size rfl (.bool false) (.slice none 0 0) 24).via hba | exact (Pr.new Vc Vc.heap.size rfl (.bool false) (.slice none 0 0) 24).drew.via hba | exact ((Pr.new Vc Vc.heap.size rfl (.bool false) (.slice none 0 0) 24).alloc _).via hba | exact ((Pr.new Vc Vc.heap.size rfl (.bool false) (.slice none 0 0) 24).alloc _).drew.via hba : Pr _ (Vc.heap.size) (.bool false) (.slice none 0 0)); have ⟨X1a, X1b, X1c, X1d, X1e⟩ := X1)); (try (have X2 := (by first | exact (Pr.new (Vc.alloc _) (Vc.heap.size + 1) (by simp) (.bool false) (.slice none 0 0) 24).via hba | exact (Pr.new (Vc.alloc _) (Vc.heap.size + 1) (by simp) (.bool false) (.slice none 0 0) 24).drew.via hba : Pr _ (Vc.heap.size + 1) (.bool false) (.slice none 0 0)); have ⟨X2a, X2b, X2c, X2d, X2e⟩ := X2)))
       | (go_at_call 21; refine (divmod_zero _ false false _ none _ _ 0 _ (by first | exact hLj | exact hLj.box _ | exact (hLj.box _).box _) (Lm.nil _ _) (by decide)).mono ?_; rintro e wb ⟨Ak, nk, ck, Al, nl, cl_, rfl, hk, hl, hbb⟩; have Bab : Below wa.heap.size wa wb := (by first | exact hbb | exact (Below.refl _ _).drew.trans hbb | exact b_one hbb | exact b_one_d hbb | exact b_two hbb | exact b_two_d hbb); have Bb := Ba.trans (Bab.mono Ba.size); have Babs := Bab.size; have Bbs := Bb.size; (try (have Y1 := X1.via Bab; have ⟨Y1a, Y1b, Y1c, Y1d, Y1e⟩ := Y1)); (try (have Y2 := X2.via Bab; have ⟨Y2a, Y2b, Y2c, Y2d, Y2e⟩ := Y2)); (try (have U1 := (by first | exact (Pr.new wa wa.heap.size rfl (.bool false) (.slice none 0 0) 24).via hbb | exact (Pr.new wa wa.heap.size rfl (.bool false) (.slice none 0 0) 24).drew.via hbb | exact ((Pr.new wa wa.heap.size rfl (.bool false) (.slice none 0 0) 24).alloc _).via hbb | exact ((Pr.new wa wa.heap.size rfl (.bool false) (.slice none 0 0) 24).alloc _).drew.via hbb : Pr _ (wa.heap.size) (.bool false) (.slice none 0 0)); have ⟨U1a, U1b, U1c, U1d, U1e⟩ := U1)); (try (have U2 := (by first | exact (Pr.new (wa.alloc _) (wa.heap.size + 1) (by simp) (.bool false) (.slice none 0 0) 24).via hbb | exact (Pr.new (wa.alloc _) (wa.heap.size + 1) (by simp) (.bool false) (.slice none 0 0) 24).drew.via hbb : Pr _ (wa.heap.size + 1) (.bool false) (.slice none 0 0)); have ⟨U2a, U2b, U2c, U2d, U2e⟩ := U2))))
    all_goals
      as_aux_lemma =>
      go_wp2_with fail
      go_meet
      refine ⟨rfl, ?_⟩
      (repeat' (first | exact Bb | exact Ba | exact (Below.refl _ _).drew | exact Below.refl _ _ | refine Below.drew ?_ | refine Below.setCell ?_ ?_ _ | refine Below.alloc ?_ ?_ _)); all_goals (first | omega | (simp; done) | (simp; omega))
  case rest =>
  as_aux_lemma =>
  obtain ⟨rfl, hbn⟩ := hcut
  clear HKS c0 c1 cl
  have QTD := Lib.hid (TD.out.via hbn)
  have QTU := Lib.hid (TU.out.via hbn)
  have QPZ := Lib.hid (PZ.out.via hbn)
  have QHB := Lib.hid (HB.out.trans (hbn.mono HB.out.size))
  clear PZ TD TU HB
  have PZ := QPZ
  clear QPZ
  have TD := QTD
  clear QTD
  have TU := QTU
  clear QTU
  have HB := QHB
  clear QHB
  clear hbn
  have ⟨c0, c1, _, _, cl⟩ := PZ.out
  go_wp2_with fail
  generalize wc = Vd at *
  have HKS : Hid (∀ V : World, Below Vd.heap.size Vd V → V.cell? ⟨w.heap.size, 0, none⟩ = some (.bool false) ∧ V.cell? ⟨w.heap.size, 1, none⟩ = some (.slice none 0 0)) := fun V h => ⟨(PZ.out.below h cl).c0, (PZ.out.below h cl).c1⟩
  go_cut [11] (fun sc wx => sc = .int .i64 8 ∧ Below Vd.heap.size Vd wx)
  case first =>
    as_aux_lemma =>
    go_region_held3 (fun w' => w'.cell? ⟨w.heap.size, 0, none⟩ = some (.bool false) ∧ w'.cell? ⟨w.heap.size, 1, none⟩ = some (.slice none 0 0))
      (first | exact ⟨c0, c1⟩ | (refine HKS.out _ ?_; (repeat' (first | exact Bb | exact Ba | exact (Below.refl _ _).drew | exact Below.refl _ _ | refine Below.drew ?_ | refine Below.setCell ?_ ?_ _ | refine Below.alloc ?_ ?_ _)); all_goals (first | omega | (simp; done) | (simp; omega))))
      (first
       | (go_at_call 17; refine (whole_any _ false _ 1 1 [0] (by first | exact ((Lm.lit1 Vd Vd.heap.size _ rfl 0 (by omega)).mono (by simp)) | exact ((Lm.lit1 Vd Vd.heap.size _ rfl 0 (by omega)).mono (by simp)).drew | exact ((Lm.lit1 Vd Vd.heap.size _ rfl 0 (by omega)).mono (by simp)).box _ | exact (((Lm.lit1 Vd Vd.heap.size _ rfl 0 (by omega)).mono (by simp)).box _).drew | exact ((Lm.lit1 (Vd.alloc (.cells #[.bool false, .slice none 0 0] 24)) (Vd.heap.size + 1) _ (by simp) 0 (by omega)).mono (by simp)) | exact ((Lm.lit1 (Vd.alloc (.cells #[.bool false, .slice none 0 0] 24)) (Vd.heap.size + 1) _ (by simp) 0 (by omega)).mono (by simp)).drew)).mono ?_; rintro e wa ⟨rfl, hba⟩; have Ba : Below Vd.heap.size Vd wa := (by first | exact hba | exact (Below.refl _ _).drew.trans hba | exact b_one hba | exact b_one_d hba | exact b_two hba | exact b_two_d hba); have Bas := Ba.size; have hLw := Lm.via (by first | exact ((Lm.lit1 Vd Vd.heap.size _ rfl 0 (by omega)).mono (by simp)) | exact ((Lm.lit1 Vd Vd.heap.size _ rfl 0 (by omega)).mono (by simp)).drew | exact ((Lm.lit1 Vd Vd.heap.size _ rfl 0 (by omega)).mono (by simp)).box _ | exact (((Lm.lit1 Vd Vd.heap.size _ rfl 0 (by omega)).mono (by simp)).box _).drew | exact ((Lm.lit1 (Vd.alloc (.cells #[.bool false, .slice none 0 0] 24)) (Vd.heap.size + 1) _ (by simp) 0 (by omega)).mono (by simp)) | exact ((Lm.lit1 (Vd.alloc (.cells #[.bool false, .slice none 0 0] 24)) (Vd.heap.size + 1) _ (by simp) 0 (by omega)).mono (by simp)).drew) hba; (try (have X1 := (by first | exact (Pr.new Vd Vd.heap.size rfl (.bool false) (.slice none 0 0) 24).via hba | exact (Pr.new Vd Vd.heap.size rfl (.bool false) (.slice none 0 0) 24).drew.via hba | exact ((Pr.new Vd Vd.heap.size rfl (.bool false) (.slice none 0 0) 24).alloc _).via hba | exact ((Pr.new Vd Vd.heap.size rfl (.bool false) (.slice none 0 0) 24).alloc _).drew.via hba : Pr _ (Vd.heap.size) (.bool false) (.slice none 0 0)); have ⟨X1a, X1b, X1c, X1d, X1e⟩ := X1)); (try (have X2 := (by first | exact (Pr.new (Vd.alloc _) (Vd.heap.size + 1) (by simp) (.bool false) (.slice none 0 0) 24).via hba | exact (Pr.new (Vd.alloc _) (Vd.heap.size + 1) (by simp) (.bool false) (.slice none 0 0) 24).drew.via hba : Pr _ (Vd.heap.size + 1) (.bool false) (.slice none 0 0)); have ⟨X2a, X2b, X2c, X2d, X2e⟩ := X2)))
       | (go_at_call 22; refine (mul_bad _ false false _ none _ 0 _ 0 [0] [] (by first | exact hLw | exact hLw.box _) (Lm.nil _ _) (by decide)).mono ?_; rintro e wb ⟨Am, nm, cm, rfl, hm, hbb⟩; have Bab : Below wa.heap.size wa wb := (by first | exact hbb | exact (Below.refl _ _).drew.trans hbb | exact b_one hbb | exact b_one_d hbb | exact b_two hbb | exact b_two_d hbb); have Bb := Ba.trans (Bab.mono Ba.size); have Babs := Bab.size; have Bbs := Bb.size; (try (have Y1 := X1.via Bab; have ⟨Y1a, Y1b, Y1c, Y1d, Y1e⟩ := Y1)); (try (have Y2 := X2.via Bab; have ⟨Y2a, Y2b, Y2c, Y2d, Y2e⟩ := Y2)); (try (have U1 := (by first | exact (Pr.new wa wa.heap.size rfl (.bool false) (.slice none 0 0) 24).via hbb | exact (Pr.new wa wa.heap.size rfl (.bool false) (.slice none 0 0) 24).drew.via hbb | exact ((Pr.new wa wa.heap.size rfl (.bool false) (.slice none 0 0) 24).alloc _).via hbb | exact ((Pr.new wa wa.heap.size rfl (.bool false) (.slice none 0 0) 24).alloc _).drew.via hbb : Pr _ (wa.heap.size) (.bool false) (.slice none 0 0)); have ⟨U1a, U1b, U1c, U1d, U1e⟩ := U1)); (try (have U2 := (by first | exact (Pr.new (wa.alloc _) (wa.heap.size + 1) (by simp) (.bool false) (.slice none 0 0) 24).via hbb | exact (Pr.new (wa.alloc _) (wa.heap.size + 1) (by simp) (.bool false) (.slice none 0 0) 24).drew.via hbb : Pr _ (wa.heap.size + 1) (.bool false) (.slice none 0 0)); have ⟨U2a, U2b, U2c, U2d, U2e⟩ := U2))))
    all_goals
      as_aux_lemma =>
      go_wp2_with fail
      go_meet
      refine ⟨rfl, ?_⟩
      (repeat' (first | exact Bb | exact Ba | exact (Below.refl _ _).drew | exact Below.refl _ _ | refine Below.drew ?_ | refine Below.setCell ?_ ?_ _ | refine Below.alloc ?_ ?_ _)); all_goals (first | omega | (simp; done) | (simp; omega))
  case rest =>
  as_aux_lemma =>
  obtain ⟨rfl, hbn⟩ := hcut
  clear HKS c0 c1 cl
  have QTD := Lib.hid (TD.out.via hbn)
  have QTU := Lib.hid (TU.out.via hbn)
  have QPZ := Lib.hid (PZ.out.via hbn)
  have QHB := Lib.hid (HB.out.trans (hbn.mono HB.out.size))
  clear PZ TD TU HB
  have PZ := QPZ
  clear QPZ
  have TD := QTD
  clear QTD
  have TU := QTU
  clear QTU
  have HB := QHB
  clear QHB
  clear hbn
  have ⟨c0, c1, _, _, _⟩ := PZ.out
  as_aux_lemma =>
  go_wp2_with fail
  refine (shift_arg _ false none 0 0 [] 131073 (Lm.nil _ _) (by decide) (.inr (by omega))).mono ?_
  rintro e w16 ⟨An, nn, cn, rfl, hn, hb16⟩
  have QPZ := Lib.hid (PZ.out.via hb16)
  have QTD := Lib.hid (TD.out.via hb16)
  have QTU := Lib.hid (TU.out.via hb16)
  have QHB := Lib.hid (HB.out.trans (hb16.mono HB.out.size))
  clear PZ TD TU HB
  have PZ := QPZ
  clear QPZ
  have TD := QTD
  clear QTD
  have TU := QTU
  clear QTU
  have HB := QHB
  clear QHB
  clear hn
  clear c0 c1
  clear hb16
  have ⟨c0, c1, _, _, _⟩ := PZ.out
  go_wp2_with fail
  refine (pow_arg _ false none 0 0 [] 1001 (Lm.nil _ _) (by decide) (.inr (by omega))).mono ?_
  rintro e w17 ⟨Ao, no, co, rfl, ho, hb17⟩
  have QPZ := Lib.hid ((PZ.out.alloc _).via hb17)
  have QTD := Lib.hid ((TD.out.box _).via hb17)
  have QTU := Lib.hid ((TU.out.box _).via hb17)
  have QHB := Lib.hid (HB.out.trans ((bbox hb17).mono HB.out.size))
  clear PZ TD TU HB
  have PZ := QPZ
  clear QPZ
  have TD := QTD
  clear QTD
  have TU := QTU
  clear QTU
  have HB := QHB
  clear QHB
  clear ho
  clear c0 c1
  clear hb17
  as_aux_lemma =>
  go_wp2_with fail
  refine (from_any _ (-1) (by omega) (by omega)).mono ?_
  rintro e w18 ⟨Aq, nq, cq, rfl, hq, hb18⟩
  have QPZ := Lib.hid ((PZ.out.alloc _).via hb18)
  have QTD := Lib.hid ((TD.out.box _).via hb18)
  have QTU := Lib.hid ((TU.out.box _).via hb18)
  have QHB := Lib.hid (HB.out.trans ((bbox hb18).mono HB.out.size))
  clear PZ TD TU HB
  have PZ := QPZ
  clear QPZ
  have TD := QTD
  clear QTD
  have TU := QTU
  clear QTU
  have HB := QHB
  clear QHB
  have Lq : Hid (Lm _ _ Aq nq cq (digs 1)) := Lib.hid hq
  clear hq
  clear hb18
  go_wp2_with fail
  refine (sqrt_neg _ _ _ _ _ Lq.out (by decide)).mono ?_
  rintro e w19 ⟨Ar, nr, cr, rfl, hr, hb19⟩
  have QLq := Lib.hid (Lq.out.via hb19)
  have QPZ := Lib.hid (PZ.out.via hb19)
  have QTD := Lib.hid (TD.out.via hb19)
  have QTU := Lib.hid (TU.out.via hb19)
  have QHB := Lib.hid (HB.out.trans (hb19.mono HB.out.size))
  clear Lq PZ TD TU HB
  have Lq := QLq
  clear QLq
  have PZ := QPZ
  clear QPZ
  have TD := QTD
  clear QTD
  have TU := QTU
  clear QTU
  have HB := QHB
  clear QHB
  clear hr
  clear hb19
  clear Lq
  as_aux_lemma =>
  go_wp2_with fail
  refine (parse_no _ [48, 48, 55] (by decide) (by decide) _ rfl).mono ?_
  rintro e w20 ⟨As, ns, cs, rfl, hs, hb20⟩
  have QPZ := Lib.hid ((PZ.out.alloc _).via hb20)
  have QTD := Lib.hid ((TD.out.box _).via hb20)
  have QTU := Lib.hid ((TU.out.box _).via hb20)
  have QHB := Lib.hid (HB.out.trans ((bbox hb20).mono HB.out.size))
  clear PZ TD TU HB
  have PZ := QPZ
  clear QPZ
  have TD := QTD
  clear QTD
  have TU := QTU
  clear QTU
  have HB := QHB
  clear QHB
  clear hs
  clear hb20
  go_wp2_with fail
  refine (parse_no _ [43, 49] (by decide) (by decide) _ rfl).mono ?_
  rintro e w21 ⟨At, nt, ct, rfl, ht, hb21⟩
  have QPZ := Lib.hid ((PZ.out.alloc _).via hb21)
  have QTD := Lib.hid ((TD.out.box _).via hb21)
  have QTU := Lib.hid ((TU.out.box _).via hb21)
  have QHB := Lib.hid (HB.out.trans ((bbox hb21).mono HB.out.size))
  clear PZ TD TU HB
  have PZ := QPZ
  clear QPZ
  have TD := QTD
  clear QTD
  have TU := QTU
  clear QTU
  have HB := QHB
  clear QHB
  clear ht
  clear hb21
  as_aux_lemma =>
  go_wp2_with fail
  refine (parse_no _ [] (by decide) (by decide) _ rfl).mono ?_
  rintro e w22 ⟨Au, nu, cu, rfl, hu, hb22⟩
  have QPZ := Lib.hid ((PZ.out.alloc _).via hb22)
  have QTD := Lib.hid ((TD.out.box _).via hb22)
  have QTU := Lib.hid ((TU.out.box _).via hb22)
  have QHB := Lib.hid (HB.out.trans ((bbox hb22).mono HB.out.size))
  clear PZ TD TU HB
  have PZ := QPZ
  clear QPZ
  have TD := QTD
  clear QTD
  have TU := QTU
  clear QTU
  have HB := QHB
  clear QHB
  clear hu
  clear hb22
  go_wp2_with fail
  refine (parse_no _ [45, 48] (by decide) (by decide) _ rfl).mono ?_
  rintro e w23 ⟨Av, nv, cv, rfl, hv, hb23⟩
  have QPZ := Lib.hid ((PZ.out.alloc _).via hb23)
  have QTD := Lib.hid ((TD.out.box _).via hb23)
  have QTU := Lib.hid ((TU.out.box _).via hb23)
  have QHB := Lib.hid (HB.out.trans ((bbox hb23).mono HB.out.size))
  clear PZ TD TU HB
  have PZ := QPZ
  clear QPZ
  have TD := QTD
  clear QTD
  have TU := QTU
  clear QTU
  have HB := QHB
  clear QHB
  clear hv
  clear hb23
  as_aux_lemma =>
  go_wp2_with fail
  refine (whole_any _ true _ _ _ [0, 2147483648] ((Lm.lit2 _ (w23.heap.size + 1) _ (by simp) 0 2147483648 (by omega) (by omega)).mono (by simp))).mono ?_
  rintro e w24 ⟨rfl, hb24⟩
  have QPZ := Lib.hid (((PZ.out.alloc _).alloc _).via hb24)
  have QTD := Lib.hid (((TD.out.box _).box _).via hb24)
  have QTU := Lib.hid (((TU.out.box _).box _).via hb24)
  have QHB := Lib.hid (HB.out.trans ((bbox (bbox hb24)).mono HB.out.size))
  clear PZ TD TU HB
  have PZ := QPZ
  clear QPZ
  have TD := QTD
  clear QTD
  have TU := QTU
  clear QTU
  have HB := QHB
  clear QHB
  have Lw3 := Lib.hid (((Lm.lit2 _ (w23.heap.size + 1) _ (by simp) 0 2147483648 (by omega) (by omega)).mono (by simp)).via hb24)
  clear hb24
  go_wp2_with fail
  refine (int_low _ _ _ _ Lw3.out).mono ?_
  rintro e w25 ⟨rfl, hb25⟩
  have QLw3 := Lib.hid (Lw3.out.via hb25)
  have QPZ := Lib.hid (PZ.out.via hb25)
  have QTD := Lib.hid (TD.out.via hb25)
  have QTU := Lib.hid (TU.out.via hb25)
  have QHB := Lib.hid (HB.out.trans (hb25.mono HB.out.size))
  clear Lw3 PZ TD TU HB
  have Lw3 := QLw3
  clear QLw3
  have PZ := QPZ
  clear QPZ
  have TD := QTD
  clear QTD
  have TU := QTU
  clear QTU
  have HB := QHB
  clear QHB
  clear hb25
  clear Lw3
  as_aux_lemma =>
  go_wp2_with fail
  refine (whole_any _ false _ _ _ [0, 2147483648] ((Lm.lit2 _ (w25.heap.size) _ (by simp) 0 2147483648 (by omega) (by omega)).mono (by simp))).mono ?_
  rintro e w26 ⟨rfl, hb26⟩
  have QPZ := Lib.hid ((PZ.out.alloc _).via hb26)
  have QTD := Lib.hid ((TD.out.box _).via hb26)
  have QTU := Lib.hid ((TU.out.box _).via hb26)
  have QHB := Lib.hid (HB.out.trans ((bbox hb26).mono HB.out.size))
  clear PZ TD TU HB
  have PZ := QPZ
  clear QPZ
  have TD := QTD
  clear QTD
  have TU := QTU
  clear QTU
  have HB := QHB
  clear QHB
  have Lw4 := Lib.hid (((Lm.lit2 _ (w25.heap.size) _ (by simp) 0 2147483648 (by omega) (by omega)).mono (by simp)).via hb26)
  clear hb26
  go_wp2_with fail
  refine (int_over _ _ _ _ Lw4.out).mono ?_
  rintro e w27 ⟨zo, rfl, hb27⟩
  have QLw4 := Lib.hid (Lw4.out.via hb27)
  have QPZ := Lib.hid (PZ.out.via hb27)
  have QTD := Lib.hid (TD.out.via hb27)
  have QTU := Lib.hid (TU.out.via hb27)
  have QHB := Lib.hid (HB.out.trans (hb27.mono HB.out.size))
  clear Lw4 PZ TD TU HB
  have Lw4 := QLw4
  clear QLw4
  have PZ := QPZ
  clear QPZ
  have TD := QTD
  clear QTD
  have TU := QTU
  clear QTU
  have HB := QHB
  clear QHB
  clear hb27
  clear Lw4
  have ⟨c0, c1, _, _, _⟩ := PZ.out
  as_aux_lemma =>
  go_wp2_with fail
  refine (pow_zero0 _).mono ?_
  rintro e w28 ⟨App, npp, cpp, rfl, hpp, hb28⟩
  have QPZ := Lib.hid (PZ.out.via hb28)
  have QTD := Lib.hid (TD.out.via hb28)
  have QTU := Lib.hid (TU.out.via hb28)
  have QHB := Lib.hid (HB.out.trans (hb28.mono HB.out.size))
  clear PZ TD TU HB
  have PZ := QPZ
  clear QPZ
  have TD := QTD
  clear QTD
  have TU := QTU
  clear QTU
  have HB := QHB
  clear QHB
  have Lpp := Lib.hid hpp
  clear hpp
  clear c0 c1
  clear hb28
  have ⟨c0, c1, _, _, _⟩ := PZ.out
  go_wp2_with fail
  refine (gcd_zero0 _).mono ?_
  rintro e w29 ⟨Axx, nxx, cxx, rfl, hxx, hb29⟩
  have QLpp := Lib.hid ((Lpp.out.box _).via hb29)
  have QPZ := Lib.hid ((PZ.out.alloc _).via hb29)
  have QTD := Lib.hid ((TD.out.box _).via hb29)
  have QTU := Lib.hid ((TU.out.box _).via hb29)
  have QHB := Lib.hid (HB.out.trans ((bbox hb29).mono HB.out.size))
  have Ppp := Lib.hid ((Pr.new _ _ rfl _ _ _).via hb29)
  clear Lpp PZ TD TU HB
  have Lpp := QLpp
  clear QLpp
  have PZ := QPZ
  clear QPZ
  have TD := QTD
  clear QTD
  have TU := QTU
  clear QTU
  have HB := QHB
  clear QHB
  have Lxx := Lib.hid hxx
  clear hxx
  clear c0 c1
  clear hb29
  as_aux_lemma =>
  go_wp2_with fail
  refine (ones_any _ 4096 (by omega)).mono ?_
  rintro e w30 ⟨Ay, cy, rfl, hy, hb30⟩
  have QLpp := Lib.hid ((Lpp.out.box _).via hb30)
  have QLxx := Lib.hid ((Lxx.out.box _).via hb30)
  have QPZ := Lib.hid ((PZ.out.alloc _).via hb30)
  have QPpp := Lib.hid ((Ppp.out.alloc _).via hb30)
  have QTD := Lib.hid ((TD.out.box _).via hb30)
  have QTU := Lib.hid ((TU.out.box _).via hb30)
  have QHB := Lib.hid (HB.out.trans ((bbox hb30).mono HB.out.size))
  have Pxx := Lib.hid ((Pr.new _ _ rfl _ _ _).via hb30)
  clear Lpp Lxx PZ Ppp TD TU HB
  have Lpp := QLpp
  clear QLpp
  have Lxx := QLxx
  clear QLxx
  have PZ := QPZ
  clear QPZ
  have Ppp := QPpp
  clear QPpp
  have TD := QTD
  clear QTD
  have TU := QTU
  clear QTU
  have HB := QHB
  clear QHB
  have Ly : Hid (Lm _ _ Ay 4096 cy (Ms 4096)) := Lib.hid hy
  clear hy
  clear hb30
  go_wp2_with fail
  refine (shift_gone _ _ _ _ 4096 rfl Ly.out).mono ?_
  rintro e w31 ⟨Ass, nss, css, rfl, hss, hb31⟩
  have QLpp := Lib.hid (Lpp.out.via hb31)
  have QLxx := Lib.hid (Lxx.out.via hb31)
  have QLy := Lib.hid (Ly.out.via hb31)
  have QPZ := Lib.hid (PZ.out.via hb31)
  have QPpp := Lib.hid (Ppp.out.via hb31)
  have QPxx := Lib.hid (Pxx.out.via hb31)
  have QTD := Lib.hid (TD.out.via hb31)
  have QTU := Lib.hid (TU.out.via hb31)
  have QHB := Lib.hid (HB.out.trans (hb31.mono HB.out.size))
  clear Lpp Lxx Ly PZ Ppp Pxx TD TU HB
  have Lpp := QLpp
  clear QLpp
  have Lxx := QLxx
  clear QLxx
  have Ly := QLy
  clear QLy
  have PZ := QPZ
  clear QPZ
  have Ppp := QPpp
  clear QPpp
  have Pxx := QPxx
  clear QPxx
  have TD := QTD
  clear QTD
  have TU := QTU
  clear QTU
  have HB := QHB
  clear QHB
  have Lss := Lib.hid hss
  clear hss
  clear hb31
  as_aux_lemma =>
  go_wp2_with fail
  refine (from_any _ (-1) (by omega) (by omega)).mono ?_
  rintro e w32 ⟨Az, nz, cz, rfl, hz, hb32⟩
  have QLpp := Lib.hid ((Lpp.out.box _).via hb32)
  have QLxx := Lib.hid ((Lxx.out.box _).via hb32)
  have QLy := Lib.hid ((Ly.out.box _).via hb32)
  have QLss := Lib.hid ((Lss.out.box _).via hb32)
  have QPZ := Lib.hid ((PZ.out.alloc _).via hb32)
  have QPpp := Lib.hid ((Ppp.out.alloc _).via hb32)
  have QPxx := Lib.hid ((Pxx.out.alloc _).via hb32)
  have QTD := Lib.hid ((TD.out.box _).via hb32)
  have QTU := Lib.hid ((TU.out.box _).via hb32)
  have QHB := Lib.hid (HB.out.trans ((bbox hb32).mono HB.out.size))
  have Pss := Lib.hid ((Pr.new _ _ rfl _ _ _).via hb32)
  clear Lpp Lxx Ly Lss PZ Ppp Pxx TD TU HB
  have Lpp := QLpp
  clear QLpp
  have Lxx := QLxx
  clear QLxx
  have Ly := QLy
  clear QLy
  have Lss := QLss
  clear QLss
  have PZ := QPZ
  clear QPZ
  have Ppp := QPpp
  clear QPpp
  have Pxx := QPxx
  clear QPxx
  have TD := QTD
  clear QTD
  have TU := QTU
  clear QTU
  have HB := QHB
  clear QHB
  have Lz : Hid (Lm _ _ Az nz cz (digs 1)) := Lib.hid hz
  clear hz
  clear hb32
  go_wp2_with fail
  refine (shift_m1 _ _ _ _ Lz.out TD.out).mono ?_
  rintro e w33 ⟨Auu, nuu, cuu, rfl, huu, hb33⟩
  have QLpp := Lib.hid (Lpp.out.via hb33)
  have QLxx := Lib.hid (Lxx.out.via hb33)
  have QLy := Lib.hid (Ly.out.via hb33)
  have QLss := Lib.hid (Lss.out.via hb33)
  have QLz := Lib.hid (Lz.out.via hb33)
  have QPZ := Lib.hid (PZ.out.via hb33)
  have QPpp := Lib.hid (Ppp.out.via hb33)
  have QPxx := Lib.hid (Pxx.out.via hb33)
  have QPss := Lib.hid (Pss.out.via hb33)
  have QTD := Lib.hid (TD.out.via hb33)
  have QTU := Lib.hid (TU.out.via hb33)
  have QHB := Lib.hid (HB.out.trans (hb33.mono HB.out.size))
  clear Lpp Lxx Ly Lss Lz PZ Ppp Pxx Pss TD TU HB
  have Lpp := QLpp
  clear QLpp
  have Lxx := QLxx
  clear QLxx
  have Ly := QLy
  clear QLy
  have Lss := QLss
  clear QLss
  have Lz := QLz
  clear QLz
  have PZ := QPZ
  clear QPZ
  have Ppp := QPpp
  clear QPpp
  have Pxx := QPxx
  clear QPxx
  have Pss := QPss
  clear QPss
  have TD := QTD
  clear QTD
  have TU := QTU
  clear QTU
  have HB := QHB
  clear QHB
  have Luu := Lib.hid huu
  clear huu
  clear hb33
  as_aux_lemma =>
  go_wp2_with fail
  refine (alive_any _ (TD.out.box _) (TU.out.box _)).mono ?_
  rintro e w34 ⟨rfl, hb34⟩
  have QLpp := Lib.hid ((Lpp.out.box _).via hb34)
  have QLxx := Lib.hid ((Lxx.out.box _).via hb34)
  have QLy := Lib.hid ((Ly.out.box _).via hb34)
  have QLss := Lib.hid ((Lss.out.box _).via hb34)
  have QLz := Lib.hid ((Lz.out.box _).via hb34)
  have QLuu := Lib.hid ((Luu.out.box _).via hb34)
  have QPZ := Lib.hid ((PZ.out.alloc _).via hb34)
  have QPpp := Lib.hid ((Ppp.out.alloc _).via hb34)
  have QPxx := Lib.hid ((Pxx.out.alloc _).via hb34)
  have QPss := Lib.hid ((Pss.out.alloc _).via hb34)
  have QTD := Lib.hid ((TD.out.box _).via hb34)
  have QTU := Lib.hid ((TU.out.box _).via hb34)
  have QHB := Lib.hid (HB.out.trans ((bbox hb34).mono HB.out.size))
  have Puu := Lib.hid ((Pr.new _ _ rfl _ _ _).via hb34)
  clear Lpp Lxx Ly Lss Lz Luu PZ Ppp Pxx Pss TD TU HB
  have Lpp := QLpp
  clear QLpp
  have Lxx := QLxx
  clear QLxx
  have Ly := QLy
  clear QLy
  have Lss := QLss
  clear QLss
  have Lz := QLz
  clear QLz
  have Luu := QLuu
  clear QLuu
  have PZ := QPZ
  clear QPZ
  have Ppp := QPpp
  clear QPpp
  have Pxx := QPxx
  clear QPxx
  have Pss := QPss
  clear QPss
  have TD := QTD
  clear QTD
  have TU := QTU
  clear QTU
  have HB := QHB
  clear QHB
  clear hb34
  have ⟨c0, c1, _, _, _⟩ := Ppp.out
  go_wp2_with fail
  refine (lsame_true _ false _ _ _ 1 (1) Lpp.out (by decide) (by decide) (by omega) (by omega)).mono ?_
  rintro e w35 ⟨rfl, hb35⟩
  have QLpp := Lib.hid (Lpp.out.via hb35)
  have QLxx := Lib.hid (Lxx.out.via hb35)
  have QLy := Lib.hid (Ly.out.via hb35)
  have QLss := Lib.hid (Lss.out.via hb35)
  have QLz := Lib.hid (Lz.out.via hb35)
  have QLuu := Lib.hid (Luu.out.via hb35)
  have QPZ := Lib.hid (PZ.out.via hb35)
  have QPpp := Lib.hid (Ppp.out.via hb35)
  have QPxx := Lib.hid (Pxx.out.via hb35)
  have QPss := Lib.hid (Pss.out.via hb35)
  have QPuu := Lib.hid (Puu.out.via hb35)
  have QTD := Lib.hid (TD.out.via hb35)
  have QTU := Lib.hid (TU.out.via hb35)
  have QHB := Lib.hid (HB.out.trans (hb35.mono HB.out.size))
  clear Lpp Lxx Ly Lss Lz Luu PZ Ppp Pxx Pss Puu TD TU HB
  have Lpp := QLpp
  clear QLpp
  have Lxx := QLxx
  clear QLxx
  have Ly := QLy
  clear QLy
  have Lss := QLss
  clear QLss
  have Lz := QLz
  clear QLz
  have Luu := QLuu
  clear QLuu
  have PZ := QPZ
  clear QPZ
  have Ppp := QPpp
  clear QPpp
  have Pxx := QPxx
  clear QPxx
  have Pss := QPss
  clear QPss
  have Puu := QPuu
  clear QPuu
  have TD := QTD
  clear QTD
  have TU := QTU
  clear QTU
  have HB := QHB
  clear QHB
  clear c0 c1
  clear hb35
  have ⟨c0, c1, _, _, _⟩ := Pxx.out
  as_aux_lemma =>
  go_wp2_with fail
  refine (lsame_true _ false _ _ _ 0 (0) Lxx.out (by decide) (by decide) (by omega) (by omega)).mono ?_
  rintro e w36 ⟨rfl, hb36⟩
  have QLpp := Lib.hid (Lpp.out.via hb36)
  have QLxx := Lib.hid (Lxx.out.via hb36)
  have QLy := Lib.hid (Ly.out.via hb36)
  have QLss := Lib.hid (Lss.out.via hb36)
  have QLz := Lib.hid (Lz.out.via hb36)
  have QLuu := Lib.hid (Luu.out.via hb36)
  have QPZ := Lib.hid (PZ.out.via hb36)
  have QPpp := Lib.hid (Ppp.out.via hb36)
  have QPxx := Lib.hid (Pxx.out.via hb36)
  have QPss := Lib.hid (Pss.out.via hb36)
  have QPuu := Lib.hid (Puu.out.via hb36)
  have QTD := Lib.hid (TD.out.via hb36)
  have QTU := Lib.hid (TU.out.via hb36)
  have QHB := Lib.hid (HB.out.trans (hb36.mono HB.out.size))
  clear Lpp Lxx Ly Lss Lz Luu PZ Ppp Pxx Pss Puu TD TU HB
  have Lpp := QLpp
  clear QLpp
  have Lxx := QLxx
  clear QLxx
  have Ly := QLy
  clear QLy
  have Lss := QLss
  clear QLss
  have Lz := QLz
  clear QLz
  have Luu := QLuu
  clear QLuu
  have PZ := QPZ
  clear QPZ
  have Ppp := QPpp
  clear QPpp
  have Pxx := QPxx
  clear QPxx
  have Pss := QPss
  clear QPss
  have Puu := QPuu
  clear QPuu
  have TD := QTD
  clear QTD
  have TU := QTU
  clear QTU
  have HB := QHB
  clear QHB
  clear c0 c1
  clear hb36
  have ⟨c0, c1, _, _, _⟩ := Pss.out
  go_wp2_with fail
  refine (lsame_true _ false _ _ _ 0 (0) Lss.out (by decide) (by decide) (by omega) (by omega)).mono ?_
  rintro e w37 ⟨rfl, hb37⟩
  have QLpp := Lib.hid (Lpp.out.via hb37)
  have QLxx := Lib.hid (Lxx.out.via hb37)
  have QLy := Lib.hid (Ly.out.via hb37)
  have QLss := Lib.hid (Lss.out.via hb37)
  have QLz := Lib.hid (Lz.out.via hb37)
  have QLuu := Lib.hid (Luu.out.via hb37)
  have QPZ := Lib.hid (PZ.out.via hb37)
  have QPpp := Lib.hid (Ppp.out.via hb37)
  have QPxx := Lib.hid (Pxx.out.via hb37)
  have QPss := Lib.hid (Pss.out.via hb37)
  have QPuu := Lib.hid (Puu.out.via hb37)
  have QTD := Lib.hid (TD.out.via hb37)
  have QTU := Lib.hid (TU.out.via hb37)
  have QHB := Lib.hid (HB.out.trans (hb37.mono HB.out.size))
  clear Lpp Lxx Ly Lss Lz Luu PZ Ppp Pxx Pss Puu TD TU HB
  have Lpp := QLpp
  clear QLpp
  have Lxx := QLxx
  clear QLxx
  have Ly := QLy
  clear QLy
  have Lss := QLss
  clear QLss
  have Lz := QLz
  clear QLz
  have Luu := QLuu
  clear QLuu
  have PZ := QPZ
  clear QPZ
  have Ppp := QPpp
  clear QPpp
  have Pxx := QPxx
  clear QPxx
  have Pss := QPss
  clear QPss
  have Puu := QPuu
  clear QPuu
  have TD := QTD
  clear QTD
  have TU := QTU
  clear QTU
  have HB := QHB
  clear QHB
  clear c0 c1
  clear hb37
  have ⟨c0, c1, _, _, _⟩ := Puu.out
  as_aux_lemma =>
  go_wp2_with fail
  refine (lsame_true _ true _ _ _ 1 (-1) Luu.out (by decide) (by decide) (by omega) (by omega)).mono ?_
  rintro e w38 ⟨rfl, hb38⟩
  have QLpp := Lib.hid (Lpp.out.via hb38)
  have QLxx := Lib.hid (Lxx.out.via hb38)
  have QLy := Lib.hid (Ly.out.via hb38)
  have QLss := Lib.hid (Lss.out.via hb38)
  have QLz := Lib.hid (Lz.out.via hb38)
  have QLuu := Lib.hid (Luu.out.via hb38)
  have QPZ := Lib.hid (PZ.out.via hb38)
  have QPpp := Lib.hid (Ppp.out.via hb38)
  have QPxx := Lib.hid (Pxx.out.via hb38)
  have QPss := Lib.hid (Pss.out.via hb38)
  have QPuu := Lib.hid (Puu.out.via hb38)
  have QTD := Lib.hid (TD.out.via hb38)
  have QTU := Lib.hid (TU.out.via hb38)
  have QHB := Lib.hid (HB.out.trans (hb38.mono HB.out.size))
  clear Lpp Lxx Ly Lss Lz Luu PZ Ppp Pxx Pss Puu TD TU HB
  have Lpp := QLpp
  clear QLpp
  have Lxx := QLxx
  clear QLxx
  have Ly := QLy
  clear QLy
  have Lss := QLss
  clear QLss
  have Lz := QLz
  clear QLz
  have Luu := QLuu
  clear QLuu
  have PZ := QPZ
  clear QPZ
  have Ppp := QPpp
  clear QPpp
  have Pxx := QPxx
  clear QPxx
  have Pss := QPss
  clear QPss
  have Puu := QPuu
  clear QPuu
  have TD := QTD
  clear QTD
  have TU := QTU
  clear QTU
  have HB := QHB
  clear QHB
  clear c0 c1
  clear hb38
  go_wp2
  go_ret
  exact ⟨rfl, HB.out⟩
end Go.Proofs.YtkajmglpmdhmnaaDoor

namespace Go.Proofs.YtkajmglpmdhmnaaDoor
open Go.ChangeShapes Go.WideShapes Go.ChangeAt Go.RowKit

set_option maxRecDepth 100000 in
theorem wideNames_lifted (os : Os) (started : os.Started) (H : Type) (enc : TypeId × Value → H) :
    ReturnsInHanded {} Tryd.checked os 4 .any (fun w args => (Rows.wideNamesSpec.pre enc Tryd.prog Tryd.f4 [] false w args ∧ laidMetH Tryd.prog laid3 w) ∧ sizedMet enc Tryd.prog Tryd.f4 (OpenSpec.ofChange Rows.wideNamesSpec) false w args)
      (Rows.wideNamesSpec.post enc Tryd.prog Tryd.f4 false true false false) := by
  refine returnsInHanded_of_change_and (C := Tryd.checked) (X := fun w _ => laidMetH Tryd.prog laid3 w) (fun _ _ _ hh h => h.of_heap hh) own started (by kernel_rfl) Tryd.func4
    (ChangeSpec.witness_shaped (enc := enc) (C := Tryd.checked) (os := os) (X := fun w _ => laidMetH Tryd.prog laid3 w) false (World.doorLaid Tryd.prog 24 os) #[] 8 rfl (World.shaped_of_RefB (by kernel_rfl) (by kernel_rfl)) (by kernel_rfl) (by kernel_rfl) (by kernel_rfl) (door_met os _)) ?_
  intro W base args ds gs before hval0 hW _ _ hL _
  obtain ⟨hTD, hTU⟩ := tabs_of hL
  have hval : ∀ (j : Nat) t v, Tryd.f4.params[j]? = some t → args[j]? = some v → Value.okWide Tryd.prog W .any base t v := hval0
  have hW' := hW
  obtain ⟨p, q, hA0, hV, rfl, hfz, hnd⟩ := hW
  have hA : DataW.TrodAll enc Tryd.prog W 0 (fun _ => true) true Tryd.f4.params.toList args.toList ds p := hA0
  rw [Tryd.params4] at hA hval
  obtain ⟨rfl, rfl, rfl⟩ := trodAll_none hA
  obtain ⟨rfl, rfl⟩ := trodVars_none hV
  clear hA0 hval0 hval
  try (simp only [List.append_nil] at hW')
  refine (names_any W hTD hTU).mono fun e W' ⟨he, hb⟩ => ?_
  subst he
  exact ⟨_, rfl, _, _, _, [], [], [], hW', trodAll_mk1 (shut_bool Tryd.underlying4 _),
    trodAll_mk0, rfl, hb.frame _, fun h => by cases h⟩

theorem wideNames_row : Rows.WideNamesSaid :=
  OpenClaim.holds_of_wide 4 Tryd.f4 rfl rfl rfl rfl rfl rfl rfl ⟨rfl, rfl, rfl, rfl, rfl⟩ rfl rfl rfl rfl rfl (by kernel_rfl) Tryd.func4 (by kernel_rfl)
    (of_decide_eq_true (by kernel_rfl)) (by unfold Func.isWrapper; first | (rw [if_pos (by decide +kernel)]; kernel_rfl) | (rw [if_neg (by decide +kernel)]; exact ⟨rfl, rfl⟩))
    (fun os started H enc _ => wideNames_lifted os started H enc)

theorem wideNames_holds : Rows.WideNamesCardSaid :=
  Claim7.holds_tied_plain_at .later [] [.data, .data, .data] true (Rows.wideNamesCard.stood.harness) false
    wideNames_row (fun _ h => by cases h) (by kernel_rfl) (fun _ h => by cases h) wideNames_row_tie rfl ⟨rfl, rfl⟩ (by kernel_rfl) rfl
    (fun f fn hf hfn => by
      obtain rfl : f = 4 := Option.some.inj ((show Tryd.prog.funcNamed "planisphere/planispherelaw01.WideNames" = some 4 by kernel_rfl).symm.trans hf) |>.symm
      obtain rfl : fn = Tryd.f4 := (Option.some.inj (Tryd.func4.symm.trans hfn)).symm
      exact ⟨by kernel_rfl, fun j t ht => by
        rw [Tryd.params4] at ht
        simp at ht⟩)
    (by kernel_rfl)
end Go.Proofs.YtkajmglpmdhmnaaDoor

