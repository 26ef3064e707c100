/-
  For any two intervals a and b and any two whole numbers num and den the law SpanLeast returns true: the chapter's examples hold, and if both intervals are valid, both ends of the results of Mul, Div and Scale, where they are not errors, are less than a unit away from an exact result. Condition: none.
-/
import Derived.Test.YtffblodpgcifcaaGreatDoorRows
import Derived.Test.YtffblodpgcifcaaGreatDoorTie
import Derived.Test.YtffblodpgcifcaaGreatDoorCards
import Derived.Carry
import Derived.LaidMore
import Derived.OpenShut
import Derived.Stop.LaidErr
import Derived.MakeChecks
import Derived.SevenTiedAt
import Derived.Test.YtffblodpgcifcaaGreatDoorSL9
/- The walk of the law SpanLeast. -/
namespace Go.Proofs.YtffblodpgcifcaaGreatDoor
open Go.RowKit

set_option maxRecDepth 100000 in
set_option maxHeartbeats 64000000 in
theorem least_bad1 (w : World) (al ah bl bh num den : Int) (h1 : ivC al ah = 8) : Calls Tryz.prog 4 #[iv al ah, iv bl bh, .int .i64 num, .int .i64 den] w (RB1 w true) := by
  have QA := Lib.hid ((Pr.new w w.heap.size rfl (.int .i64 al) (.int .i64 ah) 23).alloc (ivB bl bh))
  have QB := Lib.hid (Pr.new (w.alloc (ivB al ah)) (w.heap.size + 1) (by simp) (.int .i64 bl) (.int .i64 bh) 23)
  have BX : Hid (Below w.heap.size w ((w.alloc (ivB al ah)).alloc (ivB bl bh))) := sbal (sbal (Below.refl _ _) _) _
  go_enter Tryz.func4, Tryz.ntmps4
  go_upto_region 1 with (fail)
  generalize (w.alloc (ivB al ah)).alloc (ivB bl bh) = W0 at *
  have hz0 : w.heap.size < w.heap.size + 1 := by omega
  generalize w.heap.size + 1 = gb at *
  go_wp2_with fail
  refine (lalive_any _).mono ?_
  rintro e w1 ⟨rfl, hb⟩
  replace QA := Lib.hid (QA.out.via hb)
  replace QB := Lib.hid (QB.out.via hb)
  replace BX := Lib.hid (sbtr BX.out hb)
  clear hb
  have hc1 := fun W => rscheck_any W al ah
  rw [h1] at hc1
  have HC1 := Lib.hid hc1
  clear hc1 h1
  have ⟨rQA0, rQA1, rQA2, rQA3, rQA4⟩ := QA.out
  go_wp2_with fail
  clear rQA0 rQA1 rQA2 rQA3 rQA4
  refine (HC1.out _).mono ?_
  rintro e w2 ⟨rfl, hb⟩
  replace QA := Lib.hid (QA.out.via hb)
  replace QB := Lib.hid (QB.out.via hb)
  replace BX := Lib.hid (sbtr BX.out hb)
  clear hb
  go_wp2
  go_ret
  exact ⟨rfl, BX.out⟩
set_option maxRecDepth 100000 in
set_option maxHeartbeats 64000000 in
theorem least_bad2 (w : World) (al ah bl bh num den : Int) (h1 : ivC al ah = 0) (h2 : ivC bl bh = 8) : Calls Tryz.prog 4 #[iv al ah, iv bl bh, .int .i64 num, .int .i64 den] w (RB1 w true) := by
  have QA := Lib.hid ((Pr.new w w.heap.size rfl (.int .i64 al) (.int .i64 ah) 23).alloc (ivB bl bh))
  have QB := Lib.hid (Pr.new (w.alloc (ivB al ah)) (w.heap.size + 1) (by simp) (.int .i64 bl) (.int .i64 bh) 23)
  have BX : Hid (Below w.heap.size w ((w.alloc (ivB al ah)).alloc (ivB bl bh))) := sbal (sbal (Below.refl _ _) _) _
  go_enter Tryz.func4, Tryz.ntmps4
  go_upto_region 1 with (fail)
  generalize (w.alloc (ivB al ah)).alloc (ivB bl bh) = W0 at *
  have hz0 : w.heap.size < w.heap.size + 1 := by omega
  generalize w.heap.size + 1 = gb at *
  go_wp2_with fail
  refine (lalive_any _).mono ?_
  rintro e w3 ⟨rfl, hb⟩
  replace QA := Lib.hid (QA.out.via hb)
  replace QB := Lib.hid (QB.out.via hb)
  replace BX := Lib.hid (sbtr BX.out hb)
  clear hb
  have hc1 := fun W => rscheck_any W al ah
  rw [h1] at hc1
  have HC1 := Lib.hid hc1
  have hc2 := fun W => rscheck_any W bl bh
  rw [h2] at hc2
  have HC2 := Lib.hid hc2
  clear hc1 h1 hc2 h2
  have ⟨rQA0, rQA1, rQA2, rQA3, rQA4⟩ := QA.out
  go_wp2_with fail
  clear rQA0 rQA1 rQA2 rQA3 rQA4
  refine (HC1.out _).mono ?_
  rintro e w4 ⟨rfl, hb⟩
  replace QA := Lib.hid (QA.out.via hb)
  replace QB := Lib.hid (QB.out.via hb)
  replace BX := Lib.hid (sbtr BX.out hb)
  clear hb
  have ⟨rQB0, rQB1, rQB2, rQB3, rQB4⟩ := QB.out
  go_wp2_with fail
  clear rQB0 rQB1 rQB2 rQB3 rQB4
  refine (HC2.out _).mono ?_
  rintro e w5 ⟨rfl, hb⟩
  replace QA := Lib.hid (QA.out.via hb)
  replace QB := Lib.hid (QB.out.via hb)
  replace BX := Lib.hid (sbtr BX.out hb)
  clear hb
  go_wp2
  go_ret
  exact ⟨rfl, BX.out⟩
set_option maxRecDepth 100000 in
set_option maxHeartbeats 64000000 in
theorem least_main (w : World) (al ah bl bh num den : Int) (d1 : -9223372036854775808 ≤ num) (d2 : num ≤ 9223372036854775807) (d3 : -9223372036854775808 ≤ den) (d4 : den ≤ 9223372036854775807) (h1 : ivC al ah = 0) (h2 : ivC bl bh = 0) (x1 : -2305843009213693952 ≤ al) (x2 : al ≤ ah) (x3 : ah ≤ 2305843009213693952) (y1 : -2305843009213693952 ≤ bl) (y2 : bl ≤ bh) (y3 : bh ≤ 2305843009213693952) : Calls Tryz.prog 4 #[iv al ah, iv bl bh, .int .i64 num, .int .i64 den] w (RB1 w true) := by
  have hc1 := fun W => rscheck_any W al ah
  rw [h1] at hc1
  have HC1 := Lib.hid hc1
  have hc2 := fun W => rscheck_any W bl bh
  rw [h2] at hc2
  have HC2 := Lib.hid hc2
  have vAB : ivB2 al ah bl bh = 0 := by rw [ivB2_ok h1]; exact h2
  have HD := Lib.hid (And.intro d1 (And.intro d2 (And.intro d3 d4)))
  have HX : Hid (-2305843009213693952 ≤ al ∧ al ≤ ah ∧ ah ≤ 2305843009213693952 ∧ -2305843009213693952 ≤ bl ∧ bl ≤ bh ∧ bh ≤ 2305843009213693952) := ⟨x1, x2, x3, y1, y2, y3⟩
  have cP := fun W => smulp_any W al ah bl bh
  rw [j2_ok vAB] at cP
  obtain ⟨oP, hoP⟩ : ∃ o : Out, o = mkI (mulLo al ah bl bh) (mulHi al ah bl bh) := ⟨_, rfl⟩
  have rP : OutRg (mkI (mulLo al ah bl bh) (mulHi al ah bl bh)) := out_rg (mul_le _ _ _ _)
  rw [← hoP] at cP rP
  obtain ⟨pl, ph, pe⟩ := oP
  have rP2 : -2305843009213693952 ≤ pl ∧ pl ≤ 2305843009213693952 ∧ -2305843009213693952 ≤ ph ∧ ph ≤ 2305843009213693952 := rP
  have Cp := Lib.hid cP
  have Rp := Lib.hid rP2
  have Op := Lib.hid hoP
  clear cP rP rP2 hoP
  have cP := fun W => sdiv_any W al ah bl bh
  rw [j2_ok vAB] at cP
  obtain ⟨oP, hoP⟩ : ∃ o : Out, o = divO al ah bl bh := ⟨_, rfl⟩
  have rP : OutRg (divO al ah bl bh) := divO_rg _ _ y2
  rw [← hoP] at cP rP
  obtain ⟨ql, qh, qe⟩ := oP
  have rP2 : -2305843009213693952 ≤ ql ∧ ql ≤ 2305843009213693952 ∧ -2305843009213693952 ≤ qh ∧ qh ≤ 2305843009213693952 := rP
  have Cq := Lib.hid cP
  have Rq := Lib.hid rP2
  have Oq := Lib.hid hoP
  clear cP rP rP2 hoP
  have cP := fun W => sscale_any W al ah num den d1 d2 d3 d4
  rw [j1_ok h1] at cP
  obtain ⟨oP, hoP⟩ : ∃ o : Out, o = scO al ah num den := ⟨_, rfl⟩
  have rP : OutRg (scO al ah num den) := scO_rg _ _ _ _
  rw [← hoP] at cP rP
  obtain ⟨sl, sh, se⟩ := oP
  have rP2 : -2305843009213693952 ≤ sl ∧ sl ≤ 2305843009213693952 ∧ -2305843009213693952 ≤ sh ∧ sh ≤ 2305843009213693952 := rP
  have Cs := Lib.hid cP
  have Rs := Lib.hid rP2
  have Os := Lib.hid hoP
  clear cP rP rP2 hoP
  have q0 := fun W => lnumber_any W al (by omega) (by omega)
  have Q0 := Lib.hid q0
  clear q0
  have q1 := fun W => lnumber_any W ah (by omega) (by omega)
  have Q1 := Lib.hid q1
  clear q1
  have q2 := fun W => lnumber_any W bl (by omega) (by omega)
  have Q2 := Lib.hid q2
  clear q2
  have q3 := fun W => lnumber_any W bh (by omega) (by omega)
  have Q3 := Lib.hid q3
  clear q3
  clear hc1 hc2 h1 h2 vAB d1 d2 d3 d4 x1 x2 x3 y1 y2 y3
  have QA := Lib.hid ((Pr.new w w.heap.size rfl (.int .i64 al) (.int .i64 ah) 23).alloc (ivB bl bh))
  have QB := Lib.hid (Pr.new (w.alloc (ivB al ah)) (w.heap.size + 1) (by simp) (.int .i64 bl) (.int .i64 bh) 23)
  have BX : Hid (Below w.heap.size w ((w.alloc (ivB al ah)).alloc (ivB bl bh))) := sbal (sbal (Below.refl _ _) _) _
  go_enter Tryz.func4, Tryz.ntmps4
  go_upto_region 1 with (fail)
  generalize (w.alloc (ivB al ah)).alloc (ivB bl bh) = W0 at *
  have hz0 : w.heap.size < w.heap.size + 1 := by omega
  generalize w.heap.size + 1 = gb at *
  go_wp2_with fail
  refine (lalive_any _).mono ?_
  rintro e w6 ⟨rfl, hb⟩
  replace QA := Lib.hid (QA.out.via hb)
  replace QB := Lib.hid (QB.out.via hb)
  replace BX := Lib.hid (sbtr BX.out hb)
  clear hb
  have ⟨rQA0, rQA1, rQA2, rQA3, rQA4⟩ := QA.out
  go_wp2_with fail
  clear rQA0 rQA1 rQA2 rQA3 rQA4
  refine (HC1.out _).mono ?_
  rintro e w7 ⟨rfl, hb⟩
  replace QA := Lib.hid (QA.out.via hb)
  replace QB := Lib.hid (QB.out.via hb)
  replace BX := Lib.hid (sbtr BX.out hb)
  clear hb
  have ⟨rQB0, rQB1, rQB2, rQB3, rQB4⟩ := QB.out
  go_wp2_with fail
  clear rQB0 rQB1 rQB2 rQB3 rQB4
  refine (HC2.out _).mono ?_
  rintro e w8 ⟨rfl, hb⟩
  replace QA := Lib.hid (QA.out.via hb)
  replace QB := Lib.hid (QB.out.via hb)
  replace BX := Lib.hid (sbtr BX.out hb)
  clear hb
  have ⟨rQA0, rQA1, rQA2, rQA3, rQA4⟩ := QA.out
  have ⟨rQB0, rQB1, rQB2, rQB3, rQB4⟩ := QB.out
  go_wp2_with fail
  clear rQA0 rQA1 rQA2 rQA3 rQA4 rQB0 rQB1 rQB2 rQB3 rQB4
  refine (Cp.out _).mono ?_
  rintro e w9 ⟨rfl, hb⟩
  replace QA := Lib.hid (QA.out.via hb)
  replace QB := Lib.hid (QB.out.via hb)
  replace BX := Lib.hid (sbtr BX.out hb)
  clear hb
  go_upto_region 5 with (fail)
  replace QA := Lib.hid (QA.out.alloc (ivB pl ph))
  replace QB := Lib.hid (QB.out.alloc (ivB pl ph))
  have XP := Lib.hid (Pr.new w9 _ rfl (.int .i64 pl) (.int .i64 ph) 23)
  replace BX := Lib.hid (sbal BX.out (ivB pl ph))
  generalize w9.heap.size = gXP at *
  generalize w9.alloc (ivB pl ph) = VXP at *
  have ⟨rQA0, rQA1, rQA2, rQA3, rQA4⟩ := QA.out
  have ⟨rQB0, rQB1, rQB2, rQB3, rQB4⟩ := QB.out
  go_wp2_with fail
  clear rQA0 rQA1 rQA2 rQA3 rQA4 rQB0 rQB1 rQB2 rQB3 rQB4
  refine (Cq.out _).mono ?_
  rintro e w10 ⟨rfl, hb⟩
  replace QA := Lib.hid (QA.out.via hb)
  replace QB := Lib.hid (QB.out.via hb)
  replace XP := Lib.hid (XP.out.via hb)
  replace BX := Lib.hid (sbtr BX.out hb)
  clear hb
  go_upto_region 6 with (fail)
  replace QA := Lib.hid (QA.out.alloc (ivB ql qh))
  replace QB := Lib.hid (QB.out.alloc (ivB ql qh))
  replace XP := Lib.hid (XP.out.alloc (ivB ql qh))
  have XQ := Lib.hid (Pr.new w10 _ rfl (.int .i64 ql) (.int .i64 qh) 23)
  replace BX := Lib.hid (sbal BX.out (ivB ql qh))
  generalize w10.heap.size = gXQ at *
  generalize w10.alloc (ivB ql qh) = VXQ at *
  have ⟨rQA0, rQA1, rQA2, rQA3, rQA4⟩ := QA.out
  go_wp2_with fail
  clear rQA0 rQA1 rQA2 rQA3 rQA4
  refine (Cs.out _).mono ?_
  rintro e w11 ⟨rfl, hb⟩
  replace QA := Lib.hid (QA.out.via hb)
  replace QB := Lib.hid (QB.out.via hb)
  replace XP := Lib.hid (XP.out.via hb)
  replace XQ := Lib.hid (XQ.out.via hb)
  replace BX := Lib.hid (sbtr BX.out hb)
  clear hb
  go_upto_region 7 with (fail)
  replace QA := Lib.hid (QA.out.alloc (ivB sl sh))
  replace QB := Lib.hid (QB.out.alloc (ivB sl sh))
  replace XP := Lib.hid (XP.out.alloc (ivB sl sh))
  replace XQ := Lib.hid (XQ.out.alloc (ivB sl sh))
  have XS := Lib.hid (Pr.new w11 _ rfl (.int .i64 sl) (.int .i64 sh) 23)
  replace BX := Lib.hid (sbal BX.out (ivB sl sh))
  generalize w11.heap.size = gXS at *
  generalize w11.alloc (ivB sl sh) = VXS at *
  have gPS : gXS < VXS.heap.size := XS.out.lt
  clear hz0 gPS HC1 HC2 Cp Cq Cs
  have HKS : Hid (∀ X : World, Below VXS.heap.size VXS X → X.cell? ⟨w.heap.size, 0, none⟩ = some (.int .i64 al) ∧ X.cell? ⟨w.heap.size, 1, none⟩ = some (.int .i64 ah) ∧ X.cell? ⟨gb, 0, none⟩ = some (.int .i64 bl) ∧ X.cell? ⟨gb, 1, none⟩ = some (.int .i64 bh)) := fun X h => ⟨(QA.out.via h).c0, (QA.out.via h).c1, (QB.out.via h).c0, (QB.out.via h).c1⟩
  go_cut [16] (fun s wx => A4 VXS al ah bl bh s wx)
  case first =>
    refine wp_region_noPanic ?_
    refine wp_region_held_drew (S := fun X => X.cell? ⟨w.heap.size, 0, none⟩ = some (.int .i64 al) ∧ X.cell? ⟨w.heap.size, 1, none⟩ = some (.int .i64 ah) ∧ X.cell? ⟨gb, 0, none⟩ = some (.int .i64 bl) ∧ X.cell? ⟨gb, 1, none⟩ = some (.int .i64 bh)) (by decide +kernel) ?_ (fun hHeld => ?_)
    · exact HKS.out _ (Below.refl _ _).drew
    refine wpAnyH_take (i := 0) (v := ?_) rfl (by decide +kernel) (by decide +kernel) (by decide +kernel) (fun _ _ _ h => h) (Or.inl ⟨by rfl, ?_⟩) (by assumption) ?_
    rotate_left
    · (intro w hSw; (try dsimp only at hSw); go_simp; try with_reducible rfl)
    try simp only [Act.put, List.setIfInBounds_toArray]
    refine wpAnyH_take (i := 1) (v := ?_) rfl (by decide +kernel) (by decide +kernel) (by decide +kernel) (fun _ _ _ h => h) (Or.inl ⟨by rfl, ?_⟩) (by assumption) ?_
    rotate_left
    · (intro w hSw; (try dsimp only at hSw); go_simp; try with_reducible rfl)
    try simp only [Act.put]
    refine wpAnyH_take (i := 3) (v := ?_) rfl (by decide +kernel) (by decide +kernel) (by decide +kernel) (fun _ _ _ h => h) (Or.inl ⟨by rfl, ?_⟩) (by assumption) ?_
    rotate_left
    · (intro w hSw; (try dsimp only at hSw); go_simp; try with_reducible rfl)
    try simp only [Act.put]
    refine wpAnyH_take (i := 4) (v := ?_) rfl (by decide +kernel) (by decide +kernel) (by decide +kernel) (fun _ _ _ h => h) (Or.inl ⟨by rfl, ?_⟩) (by assumption) ?_
    rotate_left
    · (intro w hSw; (try dsimp only at hSw); go_simp; try with_reducible rfl)
    try simp only [Act.put]
    refine wpAnyH_take (i := 6) (v := ?_) rfl (by decide +kernel) (by decide +kernel) (by decide +kernel) (fun _ _ _ h => h) (Or.inl ⟨by rfl, ?_⟩) (by assumption) ?_
    rotate_left
    · (intro w hSw; (try dsimp only at hSw); go_simp; try with_reducible rfl)
    try simp only [Act.put]
    refine wpAnyH_take (i := 7) (v := ?_) rfl (by decide +kernel) (by decide +kernel) (by decide +kernel) (fun _ _ _ h => h) (Or.inl ⟨by rfl, ?_⟩) (by assumption) ?_
    rotate_left
    · (intro w hSw; (try dsimp only at hSw); go_simp; try with_reducible rfl)
    try simp only [Act.put]
    refine wpAnyH_take (i := 9) (v := ?_) rfl (by decide +kernel) (by decide +kernel) (by decide +kernel) (fun _ _ _ h => h) (Or.inl ⟨by rfl, ?_⟩) (by assumption) ?_
    rotate_left
    · (intro w hSw; (try dsimp only at hSw); go_simp; try with_reducible rfl)
    try simp only [Act.put]
    refine wpAnyH_take (i := 10) (v := ?_) rfl (by decide +kernel) (by decide +kernel) (by decide +kernel) (fun _ _ _ h => h) (Or.inl ⟨by rfl, ?_⟩) (by assumption) ?_
    rotate_left
    · (intro w hSw; (try dsimp only at hSw); go_simp; try with_reducible rfl)
    try simp only [Act.put]
    have BB : Hid (Below VXS.heap.size VXS VXS.drew) := (Below.refl _ _).drew
    generalize hy0 : VXS.drew = y0 at *
    clear hy0
    refine wpAnyH_ready (rs := [2, 13]) (by decide +kernel) (by simp) ?_
    refine AllReadyH.cons rfl (fun K hK => ?_) (AllReadyH.cons rfl (fun K hK => ?_) (AllReadyH.nil))
    · clear hHeld
      go_simp
      refine (Q0.out _).mono ?_
      rintro e y1 ⟨p0, q0, z0, A0, n0, c0, G0, m0, d0, hz0, hf0, rfl, hL0, hM0, hh⟩
      go_wp2_with fail
      have BB2 := sbtr BB.out hh
      refine hK.out _ _ (HKS.out _ BB2) (fun hHeld => ?_)
      clear hK K
      try simp only [Act.put, List.setIfInBounds_toArray, List.set_cons_zero, List.set_cons_succ]
      have X0 : Fd y1 2 al 1099511627776 z0 A0 n0 c0 G0 m0 d0 := ⟨p0, q0, hz0, hf0, hL0, hM0⟩
      replace BB := Lib.hid BB2
      clear BB2 hh
      refine wpAnyH_ready (rs := [5, 13]) (by decide +kernel) (by simp) ?_
      refine AllReadyH.cons rfl (fun K hK => ?_) (AllReadyH.cons rfl (fun K hK => ?_) (AllReadyH.nil))
      · clear hHeld
        go_simp
        refine (Q1.out _).mono ?_
        rintro e y2 ⟨p1, q1, z1, A1, n1, c1, G1, m1, d1, hz1, hf1, rfl, hL1, hM1, hh⟩
        go_wp2_with fail
        have BB2 := sbtr BB.out hh
        refine hK.out _ _ (HKS.out _ BB2) (fun hHeld => ?_)
        clear hK K
        try simp only [Act.put, List.setIfInBounds_toArray, List.set_cons_zero, List.set_cons_succ]
        replace X0 := X0.via hh
        have X1 : Fd y2 2 ah 1099511627776 z1 A1 n1 c1 G1 m1 d1 := ⟨p1, q1, hz1, hf1, hL1, hM1⟩
        replace BB := Lib.hid BB2
        clear BB2 hh
        refine wpAnyH_ready (rs := [8, 13]) (by decide +kernel) (by simp) ?_
        refine AllReadyH.cons rfl (fun K hK => ?_) (AllReadyH.cons rfl (fun K hK => ?_) (AllReadyH.nil))
        · clear hHeld
          go_simp
          refine (Q2.out _).mono ?_
          rintro e y3 ⟨p2, q2, z2, A2, n2, c2, G2, m2, d2, hz2, hf2, rfl, hL2, hM2, hh⟩
          go_wp2_with fail
          have BB2 := sbtr BB.out hh
          refine hK.out _ _ (HKS.out _ BB2) (fun hHeld => ?_)
          clear hK K
          try simp only [Act.put, List.setIfInBounds_toArray, List.set_cons_zero, List.set_cons_succ]
          replace X0 := X0.via hh
          replace X1 := X1.via hh
          have X2 : Fd y3 2 bl 1099511627776 z2 A2 n2 c2 G2 m2 d2 := ⟨p2, q2, hz2, hf2, hL2, hM2⟩
          replace BB := Lib.hid BB2
          clear BB2 hh
          refine wpAnyH_ready (rs := [11, 13]) (by decide +kernel) (by simp) ?_
          refine AllReadyH.cons rfl (fun K hK => ?_) (AllReadyH.cons rfl (fun K hK => ?_) (AllReadyH.nil))
          · clear hHeld
            go_simp
            refine (Q3.out _).mono ?_
            rintro e y4 ⟨p3, q3, z3, A3, n3, c3, G3, m3, d3, hz3, hf3, rfl, hL3, hM3, hh⟩
            go_wp2_with fail
            have BB2 := sbtr BB.out hh
            refine hK.out _ _ (HKS.out _ BB2) (fun hHeld => ?_)
            clear hK K
            try simp only [Act.put, List.setIfInBounds_toArray, List.set_cons_zero, List.set_cons_succ]
            replace X0 := X0.via hh
            replace X1 := X1.via hh
            replace X2 := X2.via hh
            have X3 : Fd y4 2 bh 1099511627776 z3 A3 n3 c3 G3 m3 d3 := ⟨p3, q3, hz3, hf3, hL3, hM3⟩
            replace BB := Lib.hid BB2
            clear BB2 hh
            refine wpAnyH_take (i := 12) (oi := { dst := some 80, op := _, type := _, pos := _, after := _, guard := _ }) (v := ?_) rfl (by decide +kernel) (by decide +kernel) (by decide +kernel) (fun _ _ _ h => h) (Or.inl ⟨by rfl, ?_⟩) (by assumption) ?_
            rotate_left
            · (intro w hSw; clear hSw; go_simp; try with_reducible rfl)
            try simp only [Act.put, List.setIfInBounds_toArray, List.set_cons_zero, List.set_cons_succ]
            refine wpAnyH_ready (rs := [13]) (by decide +kernel) (by simp) ?_
            refine AllReadyH.cons rfl (fun K hK => ?_) (AllReadyH.nil)
            · clear hHeld
              go_simp
              have BB2 := sbal BB.out (.cells #[.bool false, .slice none 0 0, .bool false, .slice none 0 0, .bool false, .slice none 0 0, .bool false, .slice none 0 0, .bool false, .slice none 0 0, .bool false, .slice none 0 0, .bool false, .slice none 0 0, .bool false, .slice none 0 0] 45)
              refine hK.out _ _ (HKS.out _ BB2) (fun hHeld => ?_)
              clear hK K
              try simp only [Act.put, List.setIfInBounds_toArray, List.set_cons_zero, List.set_cons_succ]
              replace X0 := X0.alloc (.cells #[.bool false, .slice none 0 0, .bool false, .slice none 0 0, .bool false, .slice none 0 0, .bool false, .slice none 0 0, .bool false, .slice none 0 0, .bool false, .slice none 0 0, .bool false, .slice none 0 0, .bool false, .slice none 0 0] 45)
              replace X1 := X1.alloc (.cells #[.bool false, .slice none 0 0, .bool false, .slice none 0 0, .bool false, .slice none 0 0, .bool false, .slice none 0 0, .bool false, .slice none 0 0, .bool false, .slice none 0 0, .bool false, .slice none 0 0, .bool false, .slice none 0 0] 45)
              replace X2 := X2.alloc (.cells #[.bool false, .slice none 0 0, .bool false, .slice none 0 0, .bool false, .slice none 0 0, .bool false, .slice none 0 0, .bool false, .slice none 0 0, .bool false, .slice none 0 0, .bool false, .slice none 0 0, .bool false, .slice none 0 0] 45)
              replace X3 := X3.alloc (.cells #[.bool false, .slice none 0 0, .bool false, .slice none 0 0, .bool false, .slice none 0 0, .bool false, .slice none 0 0, .bool false, .slice none 0 0, .bool false, .slice none 0 0, .bool false, .slice none 0 0, .bool false, .slice none 0 0] 45)
              have P0 := D16.new y4 _ rfl (.bool false) (.slice none 0 0) (.bool false) (.slice none 0 0) (.bool false) (.slice none 0 0) (.bool false) (.slice none 0 0) (.bool false) (.slice none 0 0) (.bool false) (.slice none 0 0) (.bool false) (.slice none 0 0) (.bool false) (.slice none 0 0) 45
              have hg0 : VXS.heap.size ≤ y4.heap.size := BB.out.size
              replace BB := Lib.hid BB2
              clear BB2
              generalize y4.heap.size = g0 at *
              generalize hy : y4.alloc (.cells #[.bool false, .slice none 0 0, .bool false, .slice none 0 0, .bool false, .slice none 0 0, .bool false, .slice none 0 0, .bool false, .slice none 0 0, .bool false, .slice none 0 0, .bool false, .slice none 0 0, .bool false, .slice none 0 0] 45) = y5 at *
              clear hy
              refine wpAnyH_ready (rs := [14]) (by decide +kernel) (by simp) ?_
              refine AllReadyH.cons rfl (fun K hK => ?_) AllReadyH.nil
              clear hHeld
              rw [if_pos (by rfl)]
              refine wp_store_d16 P0 _ _ rfl z0 z1 z2 z3 A0 A1 A2 A3 G0 G1 G2 G3 n0 n1 n2 n3 c0 c1 c2 c3 m0 m1 m2 m3 d0 d1 d2 d3 rfl rfl ?_
              have BB2 := below_setA BB.out hg0 [.bool z0, .slice A0 n0 c0, .bool false, .slice G0 m0 d0, .bool z1, .slice A1 n1 c1, .bool false, .slice G1 m1 d1, .bool z2, .slice A2 n2 c2, .bool false, .slice G2 m2 d2, .bool z3, .slice A3 n3 c3, .bool false, .slice G3 m3 d3] 0
              refine hK.out _ _ (HKS.out _ BB2) (fun hHeld => ?_)
              clear hK K
              try simp only [Act.put, List.setIfInBounds_toArray]
              refine wpAnyH_done (by decide +kernel) ?_ _
              refine NoPanic.normal ?_
              as_aux_lemma =>
              go_wp2_with fail
              go_meet
              with_reducible exact zfin2 BB.out X0 X1 X2 X3 P0 hg0
          · clear hHeld
            go_simp
            have BB2 := sbal BB.out (.cells #[.bool false, .slice none 0 0, .bool false, .slice none 0 0, .bool false, .slice none 0 0, .bool false, .slice none 0 0, .bool false, .slice none 0 0, .bool false, .slice none 0 0, .bool false, .slice none 0 0, .bool false, .slice none 0 0] 45)
            refine hK.out _ _ (HKS.out _ BB2) (fun hHeld => ?_)
            clear hK K
            try simp only [Act.put, List.setIfInBounds_toArray, List.set_cons_zero, List.set_cons_succ]
            replace X0 := X0.alloc (.cells #[.bool false, .slice none 0 0, .bool false, .slice none 0 0, .bool false, .slice none 0 0, .bool false, .slice none 0 0, .bool false, .slice none 0 0, .bool false, .slice none 0 0, .bool false, .slice none 0 0, .bool false, .slice none 0 0] 45)
            replace X1 := X1.alloc (.cells #[.bool false, .slice none 0 0, .bool false, .slice none 0 0, .bool false, .slice none 0 0, .bool false, .slice none 0 0, .bool false, .slice none 0 0, .bool false, .slice none 0 0, .bool false, .slice none 0 0, .bool false, .slice none 0 0] 45)
            replace X2 := X2.alloc (.cells #[.bool false, .slice none 0 0, .bool false, .slice none 0 0, .bool false, .slice none 0 0, .bool false, .slice none 0 0, .bool false, .slice none 0 0, .bool false, .slice none 0 0, .bool false, .slice none 0 0, .bool false, .slice none 0 0] 45)
            have P0 := D16.new y3 _ rfl (.bool false) (.slice none 0 0) (.bool false) (.slice none 0 0) (.bool false) (.slice none 0 0) (.bool false) (.slice none 0 0) (.bool false) (.slice none 0 0) (.bool false) (.slice none 0 0) (.bool false) (.slice none 0 0) (.bool false) (.slice none 0 0) 45
            have hg0 : VXS.heap.size ≤ y3.heap.size := BB.out.size
            replace BB := Lib.hid BB2
            clear BB2
            generalize y3.heap.size = g0 at *
            generalize hy : y3.alloc (.cells #[.bool false, .slice none 0 0, .bool false, .slice none 0 0, .bool false, .slice none 0 0, .bool false, .slice none 0 0, .bool false, .slice none 0 0, .bool false, .slice none 0 0, .bool false, .slice none 0 0, .bool false, .slice none 0 0] 45) = y6 at *
            clear hy
            refine wpAnyH_ready (rs := [11]) (by decide +kernel) (by simp) ?_
            refine AllReadyH.cons rfl (fun K hK => ?_) (AllReadyH.nil)
            · clear hHeld
              go_simp
              refine (Q3.out _).mono ?_
              rintro e y7 ⟨p3, q3, z3, A3, n3, c3, G3, m3, d3, hz3, hf3, rfl, hL3, hM3, hh⟩
              go_wp2_with fail
              have BB2 := sbtr BB.out hh
              refine hK.out _ _ (HKS.out _ BB2) (fun hHeld => ?_)
              clear hK K
              try simp only [Act.put, List.setIfInBounds_toArray, List.set_cons_zero, List.set_cons_succ]
              replace X0 := X0.via hh
              replace X1 := X1.via hh
              replace X2 := X2.via hh
              replace P0 := P0.via hh
              have X3 : Fd y7 2 bh 1099511627776 z3 A3 n3 c3 G3 m3 d3 := ⟨p3, q3, hz3, hf3, hL3, hM3⟩
              replace BB := Lib.hid BB2
              clear BB2 hh
              refine wpAnyH_take (i := 12) (oi := { dst := some 80, op := _, type := _, pos := _, after := _, guard := _ }) (v := ?_) rfl (by decide +kernel) (by decide +kernel) (by decide +kernel) (fun _ _ _ h => h) (Or.inl ⟨by rfl, ?_⟩) (by assumption) ?_
              rotate_left
              · (intro w hSw; clear hSw; go_simp; try with_reducible rfl)
              try simp only [Act.put, List.setIfInBounds_toArray, List.set_cons_zero, List.set_cons_succ]
              refine wpAnyH_ready (rs := [14]) (by decide +kernel) (by simp) ?_
              refine AllReadyH.cons rfl (fun K hK => ?_) AllReadyH.nil
              clear hHeld
              rw [if_pos (by rfl)]
              refine wp_store_d16 P0 _ _ rfl z0 z1 z2 z3 A0 A1 A2 A3 G0 G1 G2 G3 n0 n1 n2 n3 c0 c1 c2 c3 m0 m1 m2 m3 d0 d1 d2 d3 rfl rfl ?_
              have BB2 := below_setA BB.out hg0 [.bool z0, .slice A0 n0 c0, .bool false, .slice G0 m0 d0, .bool z1, .slice A1 n1 c1, .bool false, .slice G1 m1 d1, .bool z2, .slice A2 n2 c2, .bool false, .slice G2 m2 d2, .bool z3, .slice A3 n3 c3, .bool false, .slice G3 m3 d3] 0
              refine hK.out _ _ (HKS.out _ BB2) (fun hHeld => ?_)
              clear hK K
              try simp only [Act.put, List.setIfInBounds_toArray]
              refine wpAnyH_done (by decide +kernel) ?_ _
              refine NoPanic.normal ?_
              as_aux_lemma =>
              go_wp2_with fail
              go_meet
              with_reducible exact zfin2 BB.out X0 X1 X2 X3 P0 hg0
        · clear hHeld
          go_simp
          have BB2 := sbal BB.out (.cells #[.bool false, .slice none 0 0, .bool false, .slice none 0 0, .bool false, .slice none 0 0, .bool false, .slice none 0 0, .bool false, .slice none 0 0, .bool false, .slice none 0 0, .bool false, .slice none 0 0, .bool false, .slice none 0 0] 45)
          refine hK.out _ _ (HKS.out _ BB2) (fun hHeld => ?_)
          clear hK K
          try simp only [Act.put, List.setIfInBounds_toArray, List.set_cons_zero, List.set_cons_succ]
          replace X0 := X0.alloc (.cells #[.bool false, .slice none 0 0, .bool false, .slice none 0 0, .bool false, .slice none 0 0, .bool false, .slice none 0 0, .bool false, .slice none 0 0, .bool false, .slice none 0 0, .bool false, .slice none 0 0, .bool false, .slice none 0 0] 45)
          replace X1 := X1.alloc (.cells #[.bool false, .slice none 0 0, .bool false, .slice none 0 0, .bool false, .slice none 0 0, .bool false, .slice none 0 0, .bool false, .slice none 0 0, .bool false, .slice none 0 0, .bool false, .slice none 0 0, .bool false, .slice none 0 0] 45)
          have P0 := D16.new y2 _ rfl (.bool false) (.slice none 0 0) (.bool false) (.slice none 0 0) (.bool false) (.slice none 0 0) (.bool false) (.slice none 0 0) (.bool false) (.slice none 0 0) (.bool false) (.slice none 0 0) (.bool false) (.slice none 0 0) (.bool false) (.slice none 0 0) 45
          have hg0 : VXS.heap.size ≤ y2.heap.size := BB.out.size
          replace BB := Lib.hid BB2
          clear BB2
          generalize y2.heap.size = g0 at *
          generalize hy : y2.alloc (.cells #[.bool false, .slice none 0 0, .bool false, .slice none 0 0, .bool false, .slice none 0 0, .bool false, .slice none 0 0, .bool false, .slice none 0 0, .bool false, .slice none 0 0, .bool false, .slice none 0 0, .bool false, .slice none 0 0] 45) = y8 at *
          clear hy
          refine wpAnyH_ready (rs := [8]) (by decide +kernel) (by simp) ?_
          refine AllReadyH.cons rfl (fun K hK => ?_) (AllReadyH.nil)
          · clear hHeld
            go_simp
            refine (Q2.out _).mono ?_
            rintro e y9 ⟨p2, q2, z2, A2, n2, c2, G2, m2, d2, hz2, hf2, rfl, hL2, hM2, hh⟩
            go_wp2_with fail
            have BB2 := sbtr BB.out hh
            refine hK.out _ _ (HKS.out _ BB2) (fun hHeld => ?_)
            clear hK K
            try simp only [Act.put, List.setIfInBounds_toArray, List.set_cons_zero, List.set_cons_succ]
            replace X0 := X0.via hh
            replace X1 := X1.via hh
            replace P0 := P0.via hh
            have X2 : Fd y9 2 bl 1099511627776 z2 A2 n2 c2 G2 m2 d2 := ⟨p2, q2, hz2, hf2, hL2, hM2⟩
            replace BB := Lib.hid BB2
            clear BB2 hh
            refine wpAnyH_ready (rs := [11]) (by decide +kernel) (by simp) ?_
            refine AllReadyH.cons rfl (fun K hK => ?_) (AllReadyH.nil)
            · clear hHeld
              go_simp
              refine (Q3.out _).mono ?_
              rintro e y10 ⟨p3, q3, z3, A3, n3, c3, G3, m3, d3, hz3, hf3, rfl, hL3, hM3, hh⟩
              go_wp2_with fail
              have BB2 := sbtr BB.out hh
              refine hK.out _ _ (HKS.out _ BB2) (fun hHeld => ?_)
              clear hK K
              try simp only [Act.put, List.setIfInBounds_toArray, List.set_cons_zero, List.set_cons_succ]
              replace X0 := X0.via hh
              replace X1 := X1.via hh
              replace X2 := X2.via hh
              replace P0 := P0.via hh
              have X3 : Fd y10 2 bh 1099511627776 z3 A3 n3 c3 G3 m3 d3 := ⟨p3, q3, hz3, hf3, hL3, hM3⟩
              replace BB := Lib.hid BB2
              clear BB2 hh
              refine wpAnyH_take (i := 12) (oi := { dst := some 80, op := _, type := _, pos := _, after := _, guard := _ }) (v := ?_) rfl (by decide +kernel) (by decide +kernel) (by decide +kernel) (fun _ _ _ h => h) (Or.inl ⟨by rfl, ?_⟩) (by assumption) ?_
              rotate_left
              · (intro w hSw; clear hSw; go_simp; try with_reducible rfl)
              try simp only [Act.put, List.setIfInBounds_toArray, List.set_cons_zero, List.set_cons_succ]
              refine wpAnyH_ready (rs := [14]) (by decide +kernel) (by simp) ?_
              refine AllReadyH.cons rfl (fun K hK => ?_) AllReadyH.nil
              clear hHeld
              rw [if_pos (by rfl)]
              refine wp_store_d16 P0 _ _ rfl z0 z1 z2 z3 A0 A1 A2 A3 G0 G1 G2 G3 n0 n1 n2 n3 c0 c1 c2 c3 m0 m1 m2 m3 d0 d1 d2 d3 rfl rfl ?_
              have BB2 := below_setA BB.out hg0 [.bool z0, .slice A0 n0 c0, .bool false, .slice G0 m0 d0, .bool z1, .slice A1 n1 c1, .bool false, .slice G1 m1 d1, .bool z2, .slice A2 n2 c2, .bool false, .slice G2 m2 d2, .bool z3, .slice A3 n3 c3, .bool false, .slice G3 m3 d3] 0
              refine hK.out _ _ (HKS.out _ BB2) (fun hHeld => ?_)
              clear hK K
              try simp only [Act.put, List.setIfInBounds_toArray]
              refine wpAnyH_done (by decide +kernel) ?_ _
              refine NoPanic.normal ?_
              as_aux_lemma =>
              go_wp2_with fail
              go_meet
              with_reducible exact zfin2 BB.out X0 X1 X2 X3 P0 hg0
      · clear hHeld
        go_simp
        have BB2 := sbal BB.out (.cells #[.bool false, .slice none 0 0, .bool false, .slice none 0 0, .bool false, .slice none 0 0, .bool false, .slice none 0 0, .bool false, .slice none 0 0, .bool false, .slice none 0 0, .bool false, .slice none 0 0, .bool false, .slice none 0 0] 45)
        refine hK.out _ _ (HKS.out _ BB2) (fun hHeld => ?_)
        clear hK K
        try simp only [Act.put, List.setIfInBounds_toArray, List.set_cons_zero, List.set_cons_succ]
        replace X0 := X0.alloc (.cells #[.bool false, .slice none 0 0, .bool false, .slice none 0 0, .bool false, .slice none 0 0, .bool false, .slice none 0 0, .bool false, .slice none 0 0, .bool false, .slice none 0 0, .bool false, .slice none 0 0, .bool false, .slice none 0 0] 45)
        have P0 := D16.new y1 _ rfl (.bool false) (.slice none 0 0) (.bool false) (.slice none 0 0) (.bool false) (.slice none 0 0) (.bool false) (.slice none 0 0) (.bool false) (.slice none 0 0) (.bool false) (.slice none 0 0) (.bool false) (.slice none 0 0) (.bool false) (.slice none 0 0) 45
        have hg0 : VXS.heap.size ≤ y1.heap.size := BB.out.size
        replace BB := Lib.hid BB2
        clear BB2
        generalize y1.heap.size = g0 at *
        generalize hy : y1.alloc (.cells #[.bool false, .slice none 0 0, .bool false, .slice none 0 0, .bool false, .slice none 0 0, .bool false, .slice none 0 0, .bool false, .slice none 0 0, .bool false, .slice none 0 0, .bool false, .slice none 0 0, .bool false, .slice none 0 0] 45) = y11 at *
        clear hy
        refine wpAnyH_ready (rs := [5]) (by decide +kernel) (by simp) ?_
        refine AllReadyH.cons rfl (fun K hK => ?_) (AllReadyH.nil)
        · clear hHeld
          go_simp
          refine (Q1.out _).mono ?_
          rintro e y12 ⟨p1, q1, z1, A1, n1, c1, G1, m1, d1, hz1, hf1, rfl, hL1, hM1, hh⟩
          go_wp2_with fail
          have BB2 := sbtr BB.out hh
          refine hK.out _ _ (HKS.out _ BB2) (fun hHeld => ?_)
          clear hK K
          try simp only [Act.put, List.setIfInBounds_toArray, List.set_cons_zero, List.set_cons_succ]
          replace X0 := X0.via hh
          replace P0 := P0.via hh
          have X1 : Fd y12 2 ah 1099511627776 z1 A1 n1 c1 G1 m1 d1 := ⟨p1, q1, hz1, hf1, hL1, hM1⟩
          replace BB := Lib.hid BB2
          clear BB2 hh
          refine wpAnyH_ready (rs := [8]) (by decide +kernel) (by simp) ?_
          refine AllReadyH.cons rfl (fun K hK => ?_) (AllReadyH.nil)
          · clear hHeld
            go_simp
            refine (Q2.out _).mono ?_
            rintro e y13 ⟨p2, q2, z2, A2, n2, c2, G2, m2, d2, hz2, hf2, rfl, hL2, hM2, hh⟩
            go_wp2_with fail
            have BB2 := sbtr BB.out hh
            refine hK.out _ _ (HKS.out _ BB2) (fun hHeld => ?_)
            clear hK K
            try simp only [Act.put, List.setIfInBounds_toArray, List.set_cons_zero, List.set_cons_succ]
            replace X0 := X0.via hh
            replace X1 := X1.via hh
            replace P0 := P0.via hh
            have X2 : Fd y13 2 bl 1099511627776 z2 A2 n2 c2 G2 m2 d2 := ⟨p2, q2, hz2, hf2, hL2, hM2⟩
            replace BB := Lib.hid BB2
            clear BB2 hh
            refine wpAnyH_ready (rs := [11]) (by decide +kernel) (by simp) ?_
            refine AllReadyH.cons rfl (fun K hK => ?_) (AllReadyH.nil)
            · clear hHeld
              go_simp
              refine (Q3.out _).mono ?_
              rintro e y14 ⟨p3, q3, z3, A3, n3, c3, G3, m3, d3, hz3, hf3, rfl, hL3, hM3, hh⟩
              go_wp2_with fail
              have BB2 := sbtr BB.out hh
              refine hK.out _ _ (HKS.out _ BB2) (fun hHeld => ?_)
              clear hK K
              try simp only [Act.put, List.setIfInBounds_toArray, List.set_cons_zero, List.set_cons_succ]
              replace X0 := X0.via hh
              replace X1 := X1.via hh
              replace X2 := X2.via hh
              replace P0 := P0.via hh
              have X3 : Fd y14 2 bh 1099511627776 z3 A3 n3 c3 G3 m3 d3 := ⟨p3, q3, hz3, hf3, hL3, hM3⟩
              replace BB := Lib.hid BB2
              clear BB2 hh
              refine wpAnyH_take (i := 12) (oi := { dst := some 80, op := _, type := _, pos := _, after := _, guard := _ }) (v := ?_) rfl (by decide +kernel) (by decide +kernel) (by decide +kernel) (fun _ _ _ h => h) (Or.inl ⟨by rfl, ?_⟩) (by assumption) ?_
              rotate_left
              · (intro w hSw; clear hSw; go_simp; try with_reducible rfl)
              try simp only [Act.put, List.setIfInBounds_toArray, List.set_cons_zero, List.set_cons_succ]
              refine wpAnyH_ready (rs := [14]) (by decide +kernel) (by simp) ?_
              refine AllReadyH.cons rfl (fun K hK => ?_) AllReadyH.nil
              clear hHeld
              rw [if_pos (by rfl)]
              refine wp_store_d16 P0 _ _ rfl z0 z1 z2 z3 A0 A1 A2 A3 G0 G1 G2 G3 n0 n1 n2 n3 c0 c1 c2 c3 m0 m1 m2 m3 d0 d1 d2 d3 rfl rfl ?_
              have BB2 := below_setA BB.out hg0 [.bool z0, .slice A0 n0 c0, .bool false, .slice G0 m0 d0, .bool z1, .slice A1 n1 c1, .bool false, .slice G1 m1 d1, .bool z2, .slice A2 n2 c2, .bool false, .slice G2 m2 d2, .bool z3, .slice A3 n3 c3, .bool false, .slice G3 m3 d3] 0
              refine hK.out _ _ (HKS.out _ BB2) (fun hHeld => ?_)
              clear hK K
              try simp only [Act.put, List.setIfInBounds_toArray]
              refine wpAnyH_done (by decide +kernel) ?_ _
              refine NoPanic.normal ?_
              as_aux_lemma =>
              go_wp2_with fail
              go_meet
              with_reducible exact zfin2 BB.out X0 X1 X2 X3 P0 hg0
    · clear hHeld
      go_simp
      have BB2 := sbal BB.out (.cells #[.bool false, .slice none 0 0, .bool false, .slice none 0 0, .bool false, .slice none 0 0, .bool false, .slice none 0 0, .bool false, .slice none 0 0, .bool false, .slice none 0 0, .bool false, .slice none 0 0, .bool false, .slice none 0 0] 45)
      refine hK.out _ _ (HKS.out _ BB2) (fun hHeld => ?_)
      clear hK K
      try simp only [Act.put, List.setIfInBounds_toArray, List.set_cons_zero, List.set_cons_succ]
      have P0 := D16.new y0 _ rfl (.bool false) (.slice none 0 0) (.bool false) (.slice none 0 0) (.bool false) (.slice none 0 0) (.bool false) (.slice none 0 0) (.bool false) (.slice none 0 0) (.bool false) (.slice none 0 0) (.bool false) (.slice none 0 0) (.bool false) (.slice none 0 0) 45
      have hg0 : VXS.heap.size ≤ y0.heap.size := BB.out.size
      replace BB := Lib.hid BB2
      clear BB2
      generalize y0.heap.size = g0 at *
      generalize hy : y0.alloc (.cells #[.bool false, .slice none 0 0, .bool false, .slice none 0 0, .bool false, .slice none 0 0, .bool false, .slice none 0 0, .bool false, .slice none 0 0, .bool false, .slice none 0 0, .bool false, .slice none 0 0, .bool false, .slice none 0 0] 45) = y15 at *
      clear hy
      refine wpAnyH_ready (rs := [2]) (by decide +kernel) (by simp) ?_
      refine AllReadyH.cons rfl (fun K hK => ?_) (AllReadyH.nil)
      · clear hHeld
        go_simp
        refine (Q0.out _).mono ?_
        rintro e y16 ⟨p0, q0, z0, A0, n0, c0, G0, m0, d0, hz0, hf0, rfl, hL0, hM0, hh⟩
        go_wp2_with fail
        have BB2 := sbtr BB.out hh
        refine hK.out _ _ (HKS.out _ BB2) (fun hHeld => ?_)
        clear hK K
        try simp only [Act.put, List.setIfInBounds_toArray, List.set_cons_zero, List.set_cons_succ]
        replace P0 := P0.via hh
        have X0 : Fd y16 2 al 1099511627776 z0 A0 n0 c0 G0 m0 d0 := ⟨p0, q0, hz0, hf0, hL0, hM0⟩
        replace BB := Lib.hid BB2
        clear BB2 hh
        refine wpAnyH_ready (rs := [5]) (by decide +kernel) (by simp) ?_
        refine AllReadyH.cons rfl (fun K hK => ?_) (AllReadyH.nil)
        · clear hHeld
          go_simp
          refine (Q1.out _).mono ?_
          rintro e y17 ⟨p1, q1, z1, A1, n1, c1, G1, m1, d1, hz1, hf1, rfl, hL1, hM1, hh⟩
          go_wp2_with fail
          have BB2 := sbtr BB.out hh
          refine hK.out _ _ (HKS.out _ BB2) (fun hHeld => ?_)
          clear hK K
          try simp only [Act.put, List.setIfInBounds_toArray, List.set_cons_zero, List.set_cons_succ]
          replace X0 := X0.via hh
          replace P0 := P0.via hh
          have X1 : Fd y17 2 ah 1099511627776 z1 A1 n1 c1 G1 m1 d1 := ⟨p1, q1, hz1, hf1, hL1, hM1⟩
          replace BB := Lib.hid BB2
          clear BB2 hh
          refine wpAnyH_ready (rs := [8]) (by decide +kernel) (by simp) ?_
          refine AllReadyH.cons rfl (fun K hK => ?_) (AllReadyH.nil)
          · clear hHeld
            go_simp
            refine (Q2.out _).mono ?_
            rintro e y18 ⟨p2, q2, z2, A2, n2, c2, G2, m2, d2, hz2, hf2, rfl, hL2, hM2, hh⟩
            go_wp2_with fail
            have BB2 := sbtr BB.out hh
            refine hK.out _ _ (HKS.out _ BB2) (fun hHeld => ?_)
            clear hK K
            try simp only [Act.put, List.setIfInBounds_toArray, List.set_cons_zero, List.set_cons_succ]
            replace X0 := X0.via hh
            replace X1 := X1.via hh
            replace P0 := P0.via hh
            have X2 : Fd y18 2 bl 1099511627776 z2 A2 n2 c2 G2 m2 d2 := ⟨p2, q2, hz2, hf2, hL2, hM2⟩
            replace BB := Lib.hid BB2
            clear BB2 hh
            refine wpAnyH_ready (rs := [11]) (by decide +kernel) (by simp) ?_
            refine AllReadyH.cons rfl (fun K hK => ?_) (AllReadyH.nil)
            · clear hHeld
              go_simp
              refine (Q3.out _).mono ?_
              rintro e y19 ⟨p3, q3, z3, A3, n3, c3, G3, m3, d3, hz3, hf3, rfl, hL3, hM3, hh⟩
              go_wp2_with fail
              have BB2 := sbtr BB.out hh
              refine hK.out _ _ (HKS.out _ BB2) (fun hHeld => ?_)
              clear hK K
              try simp only [Act.put, List.setIfInBounds_toArray, List.set_cons_zero, List.set_cons_succ]
              replace X0 := X0.via hh
              replace X1 := X1.via hh
              replace X2 := X2.via hh
              replace P0 := P0.via hh
              have X3 : Fd y19 2 bh 1099511627776 z3 A3 n3 c3 G3 m3 d3 := ⟨p3, q3, hz3, hf3, hL3, hM3⟩
              replace BB := Lib.hid BB2
              clear BB2 hh
              refine wpAnyH_take (i := 12) (oi := { dst := some 80, op := _, type := _, pos := _, after := _, guard := _ }) (v := ?_) rfl (by decide +kernel) (by decide +kernel) (by decide +kernel) (fun _ _ _ h => h) (Or.inl ⟨by rfl, ?_⟩) (by assumption) ?_
              rotate_left
              · (intro w hSw; clear hSw; go_simp; try with_reducible rfl)
              try simp only [Act.put, List.setIfInBounds_toArray, List.set_cons_zero, List.set_cons_succ]
              refine wpAnyH_ready (rs := [14]) (by decide +kernel) (by simp) ?_
              refine AllReadyH.cons rfl (fun K hK => ?_) AllReadyH.nil
              clear hHeld
              rw [if_pos (by rfl)]
              refine wp_store_d16 P0 _ _ rfl z0 z1 z2 z3 A0 A1 A2 A3 G0 G1 G2 G3 n0 n1 n2 n3 c0 c1 c2 c3 m0 m1 m2 m3 d0 d1 d2 d3 rfl rfl ?_
              have BB2 := below_setA BB.out hg0 [.bool z0, .slice A0 n0 c0, .bool false, .slice G0 m0 d0, .bool z1, .slice A1 n1 c1, .bool false, .slice G1 m1 d1, .bool z2, .slice A2 n2 c2, .bool false, .slice G2 m2 d2, .bool z3, .slice A3 n3 c3, .bool false, .slice G3 m3 d3] 0
              refine hK.out _ _ (HKS.out _ BB2) (fun hHeld => ?_)
              clear hK K
              try simp only [Act.put, List.setIfInBounds_toArray]
              refine wpAnyH_done (by decide +kernel) ?_ _
              refine NoPanic.normal ?_
              as_aux_lemma =>
              go_wp2_with fail
              go_meet
              with_reducible exact zfin2 BB.out X0 X1 X2 X3 P0 hg0
  case rest =>
    as_aux_lemma =>
    obtain ⟨gl, rfl, f0, f1, f2, f3, hgl, hb⟩ := hcut
    have ST : Hid (St w wc gl gXP gXQ gXS al ah bl bh pl ph ql qh sl sh) := ⟨f0, f1, f2, f3, XP.out.via hb, XQ.out.via hb, XS.out.via hb, sbtr BX.out hb⟩
    clear f0 f1 f2 f3 hgl hb HKS QA QB XP XQ XS BX Q0 Q1 Q2 Q3
    go_wp2_with fail
    generalize wc = WA at *
    go_loopg [21, 17, 18, 19, 20] 2 (fun gn si s17 s18 s19 s20 wr => RelL 0 1 2 0 2 4 w gl gXP gXQ gXS al ah bl bh pl ph ql qh sl sh gn si s17 s18 s19 s20 wr)
    case atStart => exact ⟨false, false, false, false, rfl, rfl, rfl, rfl, .inl ⟨rfl, rfl, JN.zero⟩, ST.out⟩
    case round =>
      clear ST
      obtain ⟨lw, hg, ls, mr, rfl, rfl, rfl, rfl, hk, st⟩ := hrel
      rcases hk with ⟨rfl, rfl, hj⟩ | ⟨rfl, rfl, hj⟩ | ⟨rfl, rfl, hj⟩
      · as_aux_lemma =>
        go_wp2_with fail
        go_loopg [22, 17, 18, 19, 20] 2 (fun gn si s17 s18 s19 s20 wr => RelL 2 3 4 0 1 2 w gl gXP gXQ gXS al ah bl bh pl ph ql qh sl sh gn si s17 s18 s19 s20 wr)
        case atStart => exact ⟨lw, hg, ls, mr, rfl, rfl, rfl, rfl, .inl ⟨rfl, rfl, hj⟩, st⟩
        case round =>
          clear st hj
          obtain ⟨lw, hg, ls, mr, rfl, rfl, rfl, rfl, hk, st⟩ := hrel
          rcases hk with ⟨rfl, rfl, hj⟩ | ⟨rfl, rfl, hj⟩ | ⟨rfl, rfl, hj⟩
          · as_aux_lemma =>
            as_aux_lemma =>
            have ST := Lib.hid st
            have HJ := Lib.hid hj
            clear st hj
            have ⟨px, qx, zx, Ax, nx, cx, Gx, mx, dx, hzx, hfx, x0, x1, x2, x3, xl, hax, hbx⟩ := ST.out.a0
            have ⟨py, qy, zy, Ay, ny, cy, Gy, my, dy, hzy, hfy, y0, y1, y2, y3, yl, hay, hby⟩ := ST.out.a2
            have HKS : Hid (∀ X : World, Below wr.heap.size wr X → X.cell? ⟨gl, 0, none⟩ = some (.bool zx) ∧ X.cell? ⟨gl, 1, none⟩ = some (.slice Ax nx cx) ∧ X.cell? ⟨gl, 2, none⟩ = some (.bool false) ∧ X.cell? ⟨gl, 3, none⟩ = some (.slice Gx mx dx) ∧ X.cell? ⟨gl, 8, none⟩ = some (.bool zy) ∧ X.cell? ⟨gl, 9, none⟩ = some (.slice Ay ny cy) ∧ X.cell? ⟨gl, 10, none⟩ = some (.bool false) ∧ X.cell? ⟨gl, 11, none⟩ = some (.slice Gy my dy)) := fun X h => ⟨(h.cell (p := ⟨gl, 0, none⟩) xl).trans x0, (h.cell (p := ⟨gl, 1, none⟩) xl).trans x1, (h.cell (p := ⟨gl, 2, none⟩) xl).trans x2, (h.cell (p := ⟨gl, 3, none⟩) xl).trans x3, (h.cell (p := ⟨gl, 8, none⟩) xl).trans y0, (h.cell (p := ⟨gl, 9, none⟩) xl).trans y1, (h.cell (p := ⟨gl, 10, none⟩) xl).trans y2, (h.cell (p := ⟨gl, 11, none⟩) xl).trans y3⟩
            have HFX := Lib.hid (And.intro hzx hfx)
            have HFY := Lib.hid (And.intro hzy hfy)
            have LX := Lib.hid hax
            have MX := Lib.hid hbx
            have LY := Lib.hid hay
            have MY := Lib.hid hby
            clear hzx hfx hzy hfy hax hbx hay hby x0 x1 x2 x3 y0 y1 y2 y3 xl yl
            go_wp2_with fail
            generalize wr = W1 at *
            go_cut [23] from 85 to 143 (fun sx wx => FxO W1 4 (al * bl) (1099511627776 * 1099511627776) sx wx)
            case first =>
              go_region_held3 (fun X => X.cell? ⟨gl, 0, none⟩ = some (.bool zx) ∧ X.cell? ⟨gl, 1, none⟩ = some (.slice Ax nx cx) ∧ X.cell? ⟨gl, 2, none⟩ = some (.bool false) ∧ X.cell? ⟨gl, 3, none⟩ = some (.slice Gx mx dx) ∧ X.cell? ⟨gl, 8, none⟩ = some (.bool zy) ∧ X.cell? ⟨gl, 9, none⟩ = some (.slice Ay ny cy) ∧ X.cell? ⟨gl, 10, none⟩ = some (.bool false) ∧ X.cell? ⟨gl, 11, none⟩ = some (.slice Gy my dy))
                (first | (refine HKS.out _ ?_; (repeat' (first | with_reducible exact BB1 | with_reducible exact (Below.refl _ _).drew | with_reducible exact Below.refl _ _ | with_reducible refine Below.drew ?_ | with_reducible refine Below.setCell ?_ ?_ _ | with_reducible refine Below.alloc ?_ ?_ _)); all_goals (first | omega | (simp; done) | (simp [World.size_setCell]; omega))))
                (first
                 | (go_at_call 14; refine (rtimes_f _ zx zy Ax Gx Ay Gy nx mx ny my cx dx cy dy 2 px qx py qy al 1099511627776 bl 1099511627776 HFX.out.1 HFY.out.1 (by first | with_reducible exact LX.out.drew | with_reducible exact (LX.out.box _).drew | with_reducible exact LX.out) (by first | with_reducible exact MX.out.drew | with_reducible exact (MX.out.box _).drew | with_reducible exact MX.out) (by first | with_reducible exact LY.out.drew | with_reducible exact (LY.out.box _).drew | with_reducible exact LY.out) (by first | with_reducible exact MY.out.drew | with_reducible exact (MY.out.box _).drew | with_reducible exact MY.out) HFX.out.2 HFY.out.2 (by omega)).mono ?_; rintro e u1 ⟨p1, q1, z1, A1, n1, c1, G1, m1, d1, hz1, hf1, rfl, hL1, hM1, hh⟩; have BB1 : Below W1.heap.size W1 u1 := (by first | with_reducible exact b_two_d hh | with_reducible exact b_one_d hh | exact (Below.refl _ _).drew.trans hh); have S1 := BB1.size; have T1 := BB1.size; have X1 : Fd u1 (4) (al * bl) (1099511627776 * 1099511627776) z1 A1 n1 c1 G1 m1 d1 := ⟨p1, q1, hz1, hf1, hL1, hM1⟩; (try (have P0 : (Qd u1 (W1.heap.size) (.bool false) (.slice none 0 0) (.bool false) (.slice none 0 0)) := (by with_reducible exact (Qd.new W1 (W1.heap.size) rfl (.bool false) (.slice none 0 0) (.bool false) (.slice none 0 0) 31).drew.via hh); have l0 := P0.lt)); (try (have D0a : (Qd u1 (W1.heap.size) (.bool false) (.slice none 0 0) (.bool false) (.slice none 0 0)) := (by with_reducible exact ((Qd.new W1 (W1.heap.size) rfl (.bool false) (.slice none 0 0) (.bool false) (.slice none 0 0) 31).alloc (.cells #[.bool false, .slice none 0 0, .bool false, .slice none 0 0] 31)).drew.via hh); have D0b : (Qd u1 (W1.heap.size + 1) (.bool false) (.slice none 0 0) (.bool false) (.slice none 0 0)) := (by with_reducible exact (Qd.new (W1.alloc (.cells #[.bool false, .slice none 0 0, .bool false, .slice none 0 0] 31)) (W1.heap.size + 1) (by simp) (.bool false) (.slice none 0 0) (.bool false) (.slice none 0 0) 31).drew.via hh); have l0 := D0a.lt)); (try (have ⟨p00, p01, p02, p03, p04, p05, p06, p07, p0l⟩ := P0; have p0a0 := fun o => (P0.alloc o).c0; have p0a1 := fun o => (P0.alloc o).c1; have p0a2 := fun o => (P0.alloc o).c2; have p0a3 := fun o => (P0.alloc o).c3; have p0a4 := fun o => (P0.alloc o).f0; have p0a5 := fun o => (P0.alloc o).f1; have p0a6 := fun o => (P0.alloc o).f2; have p0a7 := fun o => (P0.alloc o).f3; have p0n1 := Nat.ne_of_lt p0l; have p0n2 := Nat.ne_of_gt p0l)); (try (have ⟨da0_0, da0_1, da0_2, da0_3, da0_4, da0_5, da0_6, da0_7, da0_l⟩ := D0a; have ⟨db0_0, db0_1, db0_2, db0_3, db0_4, db0_5, db0_6, db0_7, db0_l⟩ := D0b)))
                 | fail)
              all_goals
                go_wp2_with fail
                go_meet
                (try rw [put4_eq])
                first
                | with_reducible exact yfin1 BB1 X1
                | with_reducible exact yfin2 BB1 X1 P0 (Nat.le_refl _)
            case rest =>
              as_aux_lemma =>
              obtain ⟨gF, rfl, hF, hgF, hb⟩ := hcut
              clear hgF HKS
              have FX := Lib.hid hF
              clear hF
              replace LX := Lib.hid (LX.out.via hb)
              replace MX := Lib.hid (MX.out.via hb)
              replace LY := Lib.hid (LY.out.via hb)
              replace MY := Lib.hid (MY.out.via hb)
              clear LX MX LY MY
              replace ST := Lib.hid (ST.out.via hb)
              clear hb
              generalize wc = W2 at *
              go_upto_region 16 with (fail)
              go_cut [17] from 85 to 143 (fun s wx => OrB W2 lw (NB pl (al * bl) (1099511627776 * 1099511627776) false) s wx)
              case first =>
                as_aux_lemma =>
                cases lw with
                | true =>
                  go_wp2_with fail
                  go_meet
                  exact ⟨true, rfl, fun _ => rfl, fun _ => rfl, Below.refl _ _⟩
                | false =>
                  have ⟨p0, p1, _, _, _⟩ := ST.out.p
                  have ⟨pF, qF, zF, AF, nF, cF, GF, mF, dF, hzF, hfF, hqF, haF, hbF⟩ := FX.out
                  have ⟨kF0, kF1, kF2, kF3, kF4, kF5, kF6, kF7, kFl⟩ := hqF
                  go_wp2_with fail
                  clear p0 p1 kF0 kF1 kF2 kF3 kF4 kF5 kF6 kF7 kFl hqF
                  refine (lnear_any _ pl zF AF GF nF mF cF dF 4 pF qF (al * bl) (1099511627776 * 1099511627776) false hzF haF hbF hfF (by omega) (by omega) (by have := Rp.out.1; omega) (by have := Rp.out.2.1; omega) (by decide)).mono ?_
                  rintro e y1 ⟨b, rfl, hbi, hb⟩
                  clear hzF hfF haF hbF
                  go_wp2_with fail
                  go_meet
                  exact ⟨b, rfl, (fun h => by cases h), hbi.2, hb⟩
              case rest =>
                as_aux_lemma =>
                obtain ⟨lw1, rfl, hlw1a, hlw1b, hb⟩ := hcut
                have Hlw1 := Lib.hid (And.intro hlw1a hlw1b)
                clear hlw1a hlw1b
                replace ST := Lib.hid (ST.out.via hb)
                replace FX := Lib.hid (FX.out.via hb)
                clear hb
                generalize wc = Wx1 at *
                go_upto_region 17 with (fail)
                go_cut [18] from 85 to 143 (fun s wx => OrB Wx1 hg (NB ph (al * bl) (1099511627776 * 1099511627776) true) s wx)
                case first =>
                  as_aux_lemma =>
                  cases hg with
                  | true =>
                    go_wp2_with fail
                    go_meet
                    exact ⟨true, rfl, fun _ => rfl, fun _ => rfl, Below.refl _ _⟩
                  | false =>
                    have ⟨p0, p1, _, _, _⟩ := ST.out.p
                    have ⟨pF, qF, zF, AF, nF, cF, GF, mF, dF, hzF, hfF, hqF, haF, hbF⟩ := FX.out
                    have ⟨kF0, kF1, kF2, kF3, kF4, kF5, kF6, kF7, kFl⟩ := hqF
                    go_wp2_with fail
                    clear p0 p1 kF0 kF1 kF2 kF3 kF4 kF5 kF6 kF7 kFl hqF
                    refine (lnear_any _ ph zF AF GF nF mF cF dF 4 pF qF (al * bl) (1099511627776 * 1099511627776) true hzF haF hbF hfF (by omega) (by omega) (by have := Rp.out.2.2.1; omega) (by have := Rp.out.2.2.2; omega) (by decide)).mono ?_
                    rintro e y1 ⟨b, rfl, hbi, hb⟩
                    clear hzF hfF haF hbF
                    go_wp2_with fail
                    go_meet
                    exact ⟨b, rfl, (fun h => by cases h), hbi.2, hb⟩
                case rest =>
                  as_aux_lemma =>
                  obtain ⟨hg1, rfl, hhg1a, hhg1b, hb⟩ := hcut
                  have Hhg1 := Lib.hid (And.intro hhg1a hhg1b)
                  clear hhg1a hhg1b
                  replace ST := Lib.hid (ST.out.via hb)
                  replace FX := Lib.hid (FX.out.via hb)
                  clear hb
                  generalize wc = Wx2 at *
                  clear FX HFX HFY
                  go_upto_region 18 with (fail)
                  have ⟨px, qx, zx, Ax, nx, cx, Gx, mx, dx, hzx, hfx, x0, x1, x2, x3, xl, hax, hbx⟩ := ST.out.a0
                  have ⟨py, qy, zy, Ay, ny, cy, Gy, my, dy, hzy, hfy, y0, y1, y2, y3, yl, hay, hby⟩ := ST.out.a2
                  have HFX := Lib.hid (And.intro hzx hfx)
                  have HFY := Lib.hid (And.intro hzy hfy)
                  have LX := Lib.hid hax
                  have MX := Lib.hid hbx
                  have LY := Lib.hid hay
                  have MY := Lib.hid hby
                  have HKS : Hid (∀ X : World, Below Wx2.heap.size Wx2 X → X.cell? ⟨gl, 0, none⟩ = some (.bool zx) ∧ X.cell? ⟨gl, 1, none⟩ = some (.slice Ax nx cx) ∧ X.cell? ⟨gl, 2, none⟩ = some (.bool false) ∧ X.cell? ⟨gl, 3, none⟩ = some (.slice Gx mx dx) ∧ X.cell? ⟨gl, 8, none⟩ = some (.bool zy) ∧ X.cell? ⟨gl, 9, none⟩ = some (.slice Ay ny cy) ∧ X.cell? ⟨gl, 10, none⟩ = some (.bool false) ∧ X.cell? ⟨gl, 11, none⟩ = some (.slice Gy my dy)) := fun X h => ⟨(h.cell (p := ⟨gl, 0, none⟩) xl).trans x0, (h.cell (p := ⟨gl, 1, none⟩) xl).trans x1, (h.cell (p := ⟨gl, 2, none⟩) xl).trans x2, (h.cell (p := ⟨gl, 3, none⟩) xl).trans x3, (h.cell (p := ⟨gl, 8, none⟩) xl).trans y0, (h.cell (p := ⟨gl, 9, none⟩) xl).trans y1, (h.cell (p := ⟨gl, 10, none⟩) xl).trans y2, (h.cell (p := ⟨gl, 11, none⟩) xl).trans y3⟩
                  have hln := hay.len
                  have heq := hfy.eq
                  have hqp := hfy.pos
                  clear hzx hfx hzy hfy hax hbx hay hby
                  by_cases hy : bl = 0
                  · as_aux_lemma =>
                    have hp0 : py = 0 := by rw [hy] at heq; omega
                    have hn0 : ny = 0 := by rw [← hln, hp0]; rfl
                    subst hn0
                    clear hln heq hqp HFX HFY LX MX LY MY HKS
                    go_wp2_with fail
                    go_roundg 1
                    case measure => omega
                    case rel => exact ⟨lw1, hg1, ls, mr, rfl, rfl, rfl, rfl, .inr (.inl ⟨rfl, rfl, HJ.out.step (show CX al ah 0 = al from rfl) (show CY bl bh 0 = bl from rfl) Hlw1.out.1 Hlw1.out.2 Hhg1.out.1 Hhg1.out.2 id (fun h => absurd hy h) id (fun h => absurd hy h)⟩), ST.out⟩
                  · as_aux_lemma =>
                    have hp0 : py ≠ 0 := fun h => hy (by rw [h, Int.zero_mul] at heq; rcases Int.mul_eq_zero.1 heq.symm with h' | h'; exact h'; omega)
                    have hn0 : 0 < ny := by rw [← hln]; exact digs_pos.2 (by omega)
                    have hn1 : (0 : Int) < (ny : Int) := by omega
                    have hn2 : decide (0 < ny) = true := decide_eq_true hn0
                    have HP0 := Lib.hid hp0
                    have HY := Lib.hid hy
                    clear hln heq hqp hp0 hy
                    go_wp2_with fail
                    clear hn0 hn1 hn2 x0 x1 x2 x3 y0 y1 y2 y3 xl yl
                    go_cut [25] from 85 to 143 (fun sx wx => FxO Wx2 4 (qU al bl) (qV bl) sx wx)
                    case first =>
                      go_region_held3 (fun X => X.cell? ⟨gl, 0, none⟩ = some (.bool zx) ∧ X.cell? ⟨gl, 1, none⟩ = some (.slice Ax nx cx) ∧ X.cell? ⟨gl, 2, none⟩ = some (.bool false) ∧ X.cell? ⟨gl, 3, none⟩ = some (.slice Gx mx dx) ∧ X.cell? ⟨gl, 8, none⟩ = some (.bool zy) ∧ X.cell? ⟨gl, 9, none⟩ = some (.slice Ay ny cy) ∧ X.cell? ⟨gl, 10, none⟩ = some (.bool false) ∧ X.cell? ⟨gl, 11, none⟩ = some (.slice Gy my dy))
                        (first | (refine HKS.out _ ?_; (repeat' (first | with_reducible exact BB1 | with_reducible exact (Below.refl _ _).drew | with_reducible exact Below.refl _ _ | with_reducible refine Below.drew ?_ | with_reducible refine Below.setCell ?_ ?_ _ | with_reducible refine Below.alloc ?_ ?_ _)); all_goals (first | omega | (simp; done) | (simp [World.size_setCell]; omega))))
                        (first
                         | (go_at_call 18; refine (rover_f _ zx zy Ax Gx Ay Gy nx mx ny my cx dx cy dy 2 px qx py qy al 1099511627776 bl 1099511627776 HFX.out.1 HFY.out.1 (by first | with_reducible exact LX.out.drew | with_reducible exact (LX.out.box _).drew | with_reducible exact LX.out) (by first | with_reducible exact MX.out.drew | with_reducible exact (MX.out.box _).drew | with_reducible exact MX.out) (by first | with_reducible exact LY.out.drew | with_reducible exact (LY.out.box _).drew | with_reducible exact LY.out) (by first | with_reducible exact MY.out.drew | with_reducible exact (MY.out.box _).drew | with_reducible exact MY.out) HFX.out.2 HFY.out.2 (by omega) HP0.out).mono ?_; rintro e u1 ⟨p1, q1, z1, A1, n1, c1, G1, m1, d1, hz1, hf1, rfl, hL1, hM1, hh⟩; have BB1 : Below Wx2.heap.size Wx2 u1 := (by first | with_reducible exact b_two_d hh | with_reducible exact b_one_d hh | exact (Below.refl _ _).drew.trans hh); have S1 := BB1.size; have T1 := BB1.size; have X1 : Fd u1 (4) (qU al bl) (qV bl) z1 A1 n1 c1 G1 m1 d1 := ⟨p1, q1, hz1, q_fr HY.out hf1, hL1, hM1⟩; (try (have P0 : (Qd u1 (Wx2.heap.size) (.bool false) (.slice none 0 0) (.bool false) (.slice none 0 0)) := (by with_reducible exact (Qd.new Wx2 (Wx2.heap.size) rfl (.bool false) (.slice none 0 0) (.bool false) (.slice none 0 0) 31).drew.via hh); have l0 := P0.lt)); (try (have D0a : (Qd u1 (Wx2.heap.size) (.bool false) (.slice none 0 0) (.bool false) (.slice none 0 0)) := (by with_reducible exact ((Qd.new Wx2 (Wx2.heap.size) rfl (.bool false) (.slice none 0 0) (.bool false) (.slice none 0 0) 31).alloc (.cells #[.bool false, .slice none 0 0, .bool false, .slice none 0 0] 31)).drew.via hh); have D0b : (Qd u1 (Wx2.heap.size + 1) (.bool false) (.slice none 0 0) (.bool false) (.slice none 0 0)) := (by with_reducible exact (Qd.new (Wx2.alloc (.cells #[.bool false, .slice none 0 0, .bool false, .slice none 0 0] 31)) (Wx2.heap.size + 1) (by simp) (.bool false) (.slice none 0 0) (.bool false) (.slice none 0 0) 31).drew.via hh); have l0 := D0a.lt)); (try (have ⟨p00, p01, p02, p03, p04, p05, p06, p07, p0l⟩ := P0; have p0a0 := fun o => (P0.alloc o).c0; have p0a1 := fun o => (P0.alloc o).c1; have p0a2 := fun o => (P0.alloc o).c2; have p0a3 := fun o => (P0.alloc o).c3; have p0a4 := fun o => (P0.alloc o).f0; have p0a5 := fun o => (P0.alloc o).f1; have p0a6 := fun o => (P0.alloc o).f2; have p0a7 := fun o => (P0.alloc o).f3; have p0n1 := Nat.ne_of_lt p0l; have p0n2 := Nat.ne_of_gt p0l)); (try (have ⟨da0_0, da0_1, da0_2, da0_3, da0_4, da0_5, da0_6, da0_7, da0_l⟩ := D0a; have ⟨db0_0, db0_1, db0_2, db0_3, db0_4, db0_5, db0_6, db0_7, db0_l⟩ := D0b)))
                         | fail)
                      all_goals
                        go_wp2_with fail
                        go_meet
                        (try rw [put4_eq])
                        first
                        | with_reducible exact yfin1 BB1 X1
                        | with_reducible exact yfin2 BB1 X1 P0 (Nat.le_refl _)
                    case rest =>
                      as_aux_lemma =>
                      obtain ⟨gF, rfl, hF, hgF, hb⟩ := hcut
                      clear hgF HKS HFX HFY LX MX LY MY HP0
                      have FX := Lib.hid hF
                      clear hF
                      replace ST := Lib.hid (ST.out.via hb)
                      clear hb
                      generalize wc = W5 at *
                      go_upto_region 20 with (fail)
                      go_cut [19] from 85 to 143 (fun s wx => OrB W5 ls (NB ql (qU al bl) (qV bl) false) s wx)
                      case first =>
                        as_aux_lemma =>
                        cases ls with
                        | true =>
                          go_wp2_with fail
                          go_meet
                          exact ⟨true, rfl, fun _ => rfl, fun _ => rfl, Below.refl _ _⟩
                        | false =>
                          have ⟨p0, p1, _, _, _⟩ := ST.out.q
                          have ⟨pF, qF, zF, AF, nF, cF, GF, mF, dF, hzF, hfF, hqF, haF, hbF⟩ := FX.out
                          have ⟨kF0, kF1, kF2, kF3, kF4, kF5, kF6, kF7, kFl⟩ := hqF
                          go_wp2_with fail
                          clear p0 p1 kF0 kF1 kF2 kF3 kF4 kF5 kF6 kF7 kFl hqF
                          refine (lnear_any _ ql zF AF GF nF mF cF dF 4 pF qF (qU al bl) (qV bl) false hzF haF hbF hfF (by omega) (by omega) (by have := Rq.out.1; omega) (by have := Rq.out.2.1; omega) (qV_pos HY.out)).mono ?_
                          rintro e y1 ⟨b, rfl, hbi, hb⟩
                          clear hzF hfF haF hbF
                          go_wp2_with fail
                          go_meet
                          exact ⟨b, rfl, (fun h => by cases h), hbi.2, hb⟩
                      case rest =>
                        as_aux_lemma =>
                        obtain ⟨ls1, rfl, hls1a, hls1b, hb⟩ := hcut
                        have Hls1 := Lib.hid (And.intro hls1a hls1b)
                        clear hls1a hls1b
                        replace ST := Lib.hid (ST.out.via hb)
                        replace FX := Lib.hid (FX.out.via hb)
                        clear hb
                        generalize wc = Wx3 at *
                        cases mr with
                        | true =>
                          as_aux_lemma =>
                          go_wp2_with fail
                          go_roundg 1
                          case measure => omega
                          case rel => exact ⟨lw1, hg1, ls1, true, rfl, rfl, rfl, rfl, .inr (.inl ⟨rfl, rfl, HJ.out.step (show CX al ah 0 = al from rfl) (show CY bl bh 0 = bl from rfl) Hlw1.out.1 Hlw1.out.2 Hhg1.out.1 Hhg1.out.2 Hls1.out.1 (fun _ => Hls1.out.2) (fun _ => rfl) (fun _ _ => rfl)⟩), ST.out⟩
                        | false =>
                          as_aux_lemma =>
                          have ⟨p0, p1, _, _, _⟩ := ST.out.q
                          have ⟨pF, qF, zF, AF, nF, cF, GF, mF, dF, hzF, hfF, hqF, haF, hbF⟩ := FX.out
                          have ⟨kF0, kF1, kF2, kF3, kF4, kF5, kF6, kF7, kFl⟩ := hqF
                          go_wp2_with fail
                          clear p0 p1 kF0 kF1 kF2 kF3 kF4 kF5 kF6 kF7 kFl hqF
                          refine (lnear_any _ qh zF AF GF nF mF cF dF 4 pF qF (qU al bl) (qV bl) true hzF haF hbF hfF (by omega) (by omega) (by have := Rq.out.2.2.1; omega) (by have := Rq.out.2.2.2; omega) (qV_pos HY.out)).mono ?_
                          rintro e y1 ⟨b, rfl, hbi, hb⟩
                          clear hzF hfF haF hbF FX
                          replace ST := Lib.hid (ST.out.via hb)
                          have HB := Lib.hid hbi.2
                          clear hb hbi
                          go_wp2_with fail
                          go_roundg 1
                          case measure => omega
                          case rel => exact ⟨lw1, hg1, ls1, b, rfl, rfl, rfl, rfl, .inr (.inl ⟨rfl, rfl, HJ.out.step (show CX al ah 0 = al from rfl) (show CY bl bh 0 = bl from rfl) Hlw1.out.1 Hlw1.out.2 Hhg1.out.1 Hhg1.out.2 Hls1.out.1 (fun _ => Hls1.out.2) (fun h => by cases h) (fun _ => HB.out)⟩), ST.out⟩
          · as_aux_lemma =>
            as_aux_lemma =>
            have ST := Lib.hid st
            have HJ := Lib.hid hj
            clear st hj
            have ⟨px, qx, zx, Ax, nx, cx, Gx, mx, dx, hzx, hfx, x0, x1, x2, x3, xl, hax, hbx⟩ := ST.out.a0
            have ⟨py, qy, zy, Ay, ny, cy, Gy, my, dy, hzy, hfy, y0, y1, y2, y3, yl, hay, hby⟩ := ST.out.a3
            have HKS : Hid (∀ X : World, Below wr.heap.size wr X → X.cell? ⟨gl, 0, none⟩ = some (.bool zx) ∧ X.cell? ⟨gl, 1, none⟩ = some (.slice Ax nx cx) ∧ X.cell? ⟨gl, 2, none⟩ = some (.bool false) ∧ X.cell? ⟨gl, 3, none⟩ = some (.slice Gx mx dx) ∧ X.cell? ⟨gl, 12, none⟩ = some (.bool zy) ∧ X.cell? ⟨gl, 13, none⟩ = some (.slice Ay ny cy) ∧ X.cell? ⟨gl, 14, none⟩ = some (.bool false) ∧ X.cell? ⟨gl, 15, none⟩ = some (.slice Gy my dy)) := fun X h => ⟨(h.cell (p := ⟨gl, 0, none⟩) xl).trans x0, (h.cell (p := ⟨gl, 1, none⟩) xl).trans x1, (h.cell (p := ⟨gl, 2, none⟩) xl).trans x2, (h.cell (p := ⟨gl, 3, none⟩) xl).trans x3, (h.cell (p := ⟨gl, 12, none⟩) xl).trans y0, (h.cell (p := ⟨gl, 13, none⟩) xl).trans y1, (h.cell (p := ⟨gl, 14, none⟩) xl).trans y2, (h.cell (p := ⟨gl, 15, none⟩) xl).trans y3⟩
            have HFX := Lib.hid (And.intro hzx hfx)
            have HFY := Lib.hid (And.intro hzy hfy)
            have LX := Lib.hid hax
            have MX := Lib.hid hbx
            have LY := Lib.hid hay
            have MY := Lib.hid hby
            clear hzx hfx hzy hfy hax hbx hay hby x0 x1 x2 x3 y0 y1 y2 y3 xl yl
            go_wp2_with fail
            generalize wr = W1 at *
            go_cut [23] from 85 to 143 (fun sx wx => FxO W1 4 (al * bh) (1099511627776 * 1099511627776) sx wx)
            case first =>
              go_region_held3 (fun X => X.cell? ⟨gl, 0, none⟩ = some (.bool zx) ∧ X.cell? ⟨gl, 1, none⟩ = some (.slice Ax nx cx) ∧ X.cell? ⟨gl, 2, none⟩ = some (.bool false) ∧ X.cell? ⟨gl, 3, none⟩ = some (.slice Gx mx dx) ∧ X.cell? ⟨gl, 12, none⟩ = some (.bool zy) ∧ X.cell? ⟨gl, 13, none⟩ = some (.slice Ay ny cy) ∧ X.cell? ⟨gl, 14, none⟩ = some (.bool false) ∧ X.cell? ⟨gl, 15, none⟩ = some (.slice Gy my dy))
                (first | (refine HKS.out _ ?_; (repeat' (first | with_reducible exact BB1 | with_reducible exact (Below.refl _ _).drew | with_reducible exact Below.refl _ _ | with_reducible refine Below.drew ?_ | with_reducible refine Below.setCell ?_ ?_ _ | with_reducible refine Below.alloc ?_ ?_ _)); all_goals (first | omega | (simp; done) | (simp [World.size_setCell]; omega))))
                (first
                 | (go_at_call 14; refine (rtimes_f _ zx zy Ax Gx Ay Gy nx mx ny my cx dx cy dy 2 px qx py qy al 1099511627776 bh 1099511627776 HFX.out.1 HFY.out.1 (by first | with_reducible exact LX.out.drew | with_reducible exact (LX.out.box _).drew | with_reducible exact LX.out) (by first | with_reducible exact MX.out.drew | with_reducible exact (MX.out.box _).drew | with_reducible exact MX.out) (by first | with_reducible exact LY.out.drew | with_reducible exact (LY.out.box _).drew | with_reducible exact LY.out) (by first | with_reducible exact MY.out.drew | with_reducible exact (MY.out.box _).drew | with_reducible exact MY.out) HFX.out.2 HFY.out.2 (by omega)).mono ?_; rintro e u1 ⟨p1, q1, z1, A1, n1, c1, G1, m1, d1, hz1, hf1, rfl, hL1, hM1, hh⟩; have BB1 : Below W1.heap.size W1 u1 := (by first | with_reducible exact b_two_d hh | with_reducible exact b_one_d hh | exact (Below.refl _ _).drew.trans hh); have S1 := BB1.size; have T1 := BB1.size; have X1 : Fd u1 (4) (al * bh) (1099511627776 * 1099511627776) z1 A1 n1 c1 G1 m1 d1 := ⟨p1, q1, hz1, hf1, hL1, hM1⟩; (try (have P0 : (Qd u1 (W1.heap.size) (.bool false) (.slice none 0 0) (.bool false) (.slice none 0 0)) := (by with_reducible exact (Qd.new W1 (W1.heap.size) rfl (.bool false) (.slice none 0 0) (.bool false) (.slice none 0 0) 31).drew.via hh); have l0 := P0.lt)); (try (have D0a : (Qd u1 (W1.heap.size) (.bool false) (.slice none 0 0) (.bool false) (.slice none 0 0)) := (by with_reducible exact ((Qd.new W1 (W1.heap.size) rfl (.bool false) (.slice none 0 0) (.bool false) (.slice none 0 0) 31).alloc (.cells #[.bool false, .slice none 0 0, .bool false, .slice none 0 0] 31)).drew.via hh); have D0b : (Qd u1 (W1.heap.size + 1) (.bool false) (.slice none 0 0) (.bool false) (.slice none 0 0)) := (by with_reducible exact (Qd.new (W1.alloc (.cells #[.bool false, .slice none 0 0, .bool false, .slice none 0 0] 31)) (W1.heap.size + 1) (by simp) (.bool false) (.slice none 0 0) (.bool false) (.slice none 0 0) 31).drew.via hh); have l0 := D0a.lt)); (try (have ⟨p00, p01, p02, p03, p04, p05, p06, p07, p0l⟩ := P0; have p0a0 := fun o => (P0.alloc o).c0; have p0a1 := fun o => (P0.alloc o).c1; have p0a2 := fun o => (P0.alloc o).c2; have p0a3 := fun o => (P0.alloc o).c3; have p0a4 := fun o => (P0.alloc o).f0; have p0a5 := fun o => (P0.alloc o).f1; have p0a6 := fun o => (P0.alloc o).f2; have p0a7 := fun o => (P0.alloc o).f3; have p0n1 := Nat.ne_of_lt p0l; have p0n2 := Nat.ne_of_gt p0l)); (try (have ⟨da0_0, da0_1, da0_2, da0_3, da0_4, da0_5, da0_6, da0_7, da0_l⟩ := D0a; have ⟨db0_0, db0_1, db0_2, db0_3, db0_4, db0_5, db0_6, db0_7, db0_l⟩ := D0b)))
                 | fail)
              all_goals
                go_wp2_with fail
                go_meet
                (try rw [put4_eq])
                first
                | with_reducible exact yfin1 BB1 X1
                | with_reducible exact yfin2 BB1 X1 P0 (Nat.le_refl _)
            case rest =>
              as_aux_lemma =>
              obtain ⟨gF, rfl, hF, hgF, hb⟩ := hcut
              clear hgF HKS
              have FX := Lib.hid hF
              clear hF
              replace LX := Lib.hid (LX.out.via hb)
              replace MX := Lib.hid (MX.out.via hb)
              replace LY := Lib.hid (LY.out.via hb)
              replace MY := Lib.hid (MY.out.via hb)
              clear LX MX LY MY
              replace ST := Lib.hid (ST.out.via hb)
              clear hb
              generalize wc = W2 at *
              go_upto_region 16 with (fail)
              go_cut [17] from 85 to 143 (fun s wx => OrB W2 lw (NB pl (al * bh) (1099511627776 * 1099511627776) false) s wx)
              case first =>
                as_aux_lemma =>
                cases lw with
                | true =>
                  go_wp2_with fail
                  go_meet
                  exact ⟨true, rfl, fun _ => rfl, fun _ => rfl, Below.refl _ _⟩
                | false =>
                  have ⟨p0, p1, _, _, _⟩ := ST.out.p
                  have ⟨pF, qF, zF, AF, nF, cF, GF, mF, dF, hzF, hfF, hqF, haF, hbF⟩ := FX.out
                  have ⟨kF0, kF1, kF2, kF3, kF4, kF5, kF6, kF7, kFl⟩ := hqF
                  go_wp2_with fail
                  clear p0 p1 kF0 kF1 kF2 kF3 kF4 kF5 kF6 kF7 kFl hqF
                  refine (lnear_any _ pl zF AF GF nF mF cF dF 4 pF qF (al * bh) (1099511627776 * 1099511627776) false hzF haF hbF hfF (by omega) (by omega) (by have := Rp.out.1; omega) (by have := Rp.out.2.1; omega) (by decide)).mono ?_
                  rintro e y1 ⟨b, rfl, hbi, hb⟩
                  clear hzF hfF haF hbF
                  go_wp2_with fail
                  go_meet
                  exact ⟨b, rfl, (fun h => by cases h), hbi.2, hb⟩
              case rest =>
                as_aux_lemma =>
                obtain ⟨lw1, rfl, hlw1a, hlw1b, hb⟩ := hcut
                have Hlw1 := Lib.hid (And.intro hlw1a hlw1b)
                clear hlw1a hlw1b
                replace ST := Lib.hid (ST.out.via hb)
                replace FX := Lib.hid (FX.out.via hb)
                clear hb
                generalize wc = Wx4 at *
                go_upto_region 17 with (fail)
                go_cut [18] from 85 to 143 (fun s wx => OrB Wx4 hg (NB ph (al * bh) (1099511627776 * 1099511627776) true) s wx)
                case first =>
                  as_aux_lemma =>
                  cases hg with
                  | true =>
                    go_wp2_with fail
                    go_meet
                    exact ⟨true, rfl, fun _ => rfl, fun _ => rfl, Below.refl _ _⟩
                  | false =>
                    have ⟨p0, p1, _, _, _⟩ := ST.out.p
                    have ⟨pF, qF, zF, AF, nF, cF, GF, mF, dF, hzF, hfF, hqF, haF, hbF⟩ := FX.out
                    have ⟨kF0, kF1, kF2, kF3, kF4, kF5, kF6, kF7, kFl⟩ := hqF
                    go_wp2_with fail
                    clear p0 p1 kF0 kF1 kF2 kF3 kF4 kF5 kF6 kF7 kFl hqF
                    refine (lnear_any _ ph zF AF GF nF mF cF dF 4 pF qF (al * bh) (1099511627776 * 1099511627776) true hzF haF hbF hfF (by omega) (by omega) (by have := Rp.out.2.2.1; omega) (by have := Rp.out.2.2.2; omega) (by decide)).mono ?_
                    rintro e y1 ⟨b, rfl, hbi, hb⟩
                    clear hzF hfF haF hbF
                    go_wp2_with fail
                    go_meet
                    exact ⟨b, rfl, (fun h => by cases h), hbi.2, hb⟩
                case rest =>
                  as_aux_lemma =>
                  obtain ⟨hg1, rfl, hhg1a, hhg1b, hb⟩ := hcut
                  have Hhg1 := Lib.hid (And.intro hhg1a hhg1b)
                  clear hhg1a hhg1b
                  replace ST := Lib.hid (ST.out.via hb)
                  replace FX := Lib.hid (FX.out.via hb)
                  clear hb
                  generalize wc = Wx5 at *
                  clear FX HFX HFY
                  go_upto_region 18 with (fail)
                  have ⟨px, qx, zx, Ax, nx, cx, Gx, mx, dx, hzx, hfx, x0, x1, x2, x3, xl, hax, hbx⟩ := ST.out.a0
                  have ⟨py, qy, zy, Ay, ny, cy, Gy, my, dy, hzy, hfy, y0, y1, y2, y3, yl, hay, hby⟩ := ST.out.a3
                  have HFX := Lib.hid (And.intro hzx hfx)
                  have HFY := Lib.hid (And.intro hzy hfy)
                  have LX := Lib.hid hax
                  have MX := Lib.hid hbx
                  have LY := Lib.hid hay
                  have MY := Lib.hid hby
                  have HKS : Hid (∀ X : World, Below Wx5.heap.size Wx5 X → X.cell? ⟨gl, 0, none⟩ = some (.bool zx) ∧ X.cell? ⟨gl, 1, none⟩ = some (.slice Ax nx cx) ∧ X.cell? ⟨gl, 2, none⟩ = some (.bool false) ∧ X.cell? ⟨gl, 3, none⟩ = some (.slice Gx mx dx) ∧ X.cell? ⟨gl, 12, none⟩ = some (.bool zy) ∧ X.cell? ⟨gl, 13, none⟩ = some (.slice Ay ny cy) ∧ X.cell? ⟨gl, 14, none⟩ = some (.bool false) ∧ X.cell? ⟨gl, 15, none⟩ = some (.slice Gy my dy)) := fun X h => ⟨(h.cell (p := ⟨gl, 0, none⟩) xl).trans x0, (h.cell (p := ⟨gl, 1, none⟩) xl).trans x1, (h.cell (p := ⟨gl, 2, none⟩) xl).trans x2, (h.cell (p := ⟨gl, 3, none⟩) xl).trans x3, (h.cell (p := ⟨gl, 12, none⟩) xl).trans y0, (h.cell (p := ⟨gl, 13, none⟩) xl).trans y1, (h.cell (p := ⟨gl, 14, none⟩) xl).trans y2, (h.cell (p := ⟨gl, 15, none⟩) xl).trans y3⟩
                  have hln := hay.len
                  have heq := hfy.eq
                  have hqp := hfy.pos
                  clear hzx hfx hzy hfy hax hbx hay hby
                  by_cases hy : bh = 0
                  · as_aux_lemma =>
                    have hp0 : py = 0 := by rw [hy] at heq; omega
                    have hn0 : ny = 0 := by rw [← hln, hp0]; rfl
                    subst hn0
                    clear hln heq hqp HFX HFY LX MX LY MY HKS
                    go_wp2_with fail
                    go_roundg 0
                    case measure => omega
                    case rel => exact ⟨lw1, hg1, ls, mr, rfl, rfl, rfl, rfl, .inr (.inr ⟨rfl, rfl, HJ.out.step (show CX al ah 1 = al from rfl) (show CY bl bh 1 = bh from rfl) Hlw1.out.1 Hlw1.out.2 Hhg1.out.1 Hhg1.out.2 id (fun h => absurd hy h) id (fun h => absurd hy h)⟩), ST.out⟩
                  · as_aux_lemma =>
                    have hp0 : py ≠ 0 := fun h => hy (by rw [h, Int.zero_mul] at heq; rcases Int.mul_eq_zero.1 heq.symm with h' | h'; exact h'; omega)
                    have hn0 : 0 < ny := by rw [← hln]; exact digs_pos.2 (by omega)
                    have hn1 : (0 : Int) < (ny : Int) := by omega
                    have hn2 : decide (0 < ny) = true := decide_eq_true hn0
                    have HP0 := Lib.hid hp0
                    have HY := Lib.hid hy
                    clear hln heq hqp hp0 hy
                    go_wp2_with fail
                    clear hn0 hn1 hn2 x0 x1 x2 x3 y0 y1 y2 y3 xl yl
                    go_cut [25] from 85 to 143 (fun sx wx => FxO Wx5 4 (qU al bh) (qV bh) sx wx)
                    case first =>
                      go_region_held3 (fun X => X.cell? ⟨gl, 0, none⟩ = some (.bool zx) ∧ X.cell? ⟨gl, 1, none⟩ = some (.slice Ax nx cx) ∧ X.cell? ⟨gl, 2, none⟩ = some (.bool false) ∧ X.cell? ⟨gl, 3, none⟩ = some (.slice Gx mx dx) ∧ X.cell? ⟨gl, 12, none⟩ = some (.bool zy) ∧ X.cell? ⟨gl, 13, none⟩ = some (.slice Ay ny cy) ∧ X.cell? ⟨gl, 14, none⟩ = some (.bool false) ∧ X.cell? ⟨gl, 15, none⟩ = some (.slice Gy my dy))
                        (first | (refine HKS.out _ ?_; (repeat' (first | with_reducible exact BB1 | with_reducible exact (Below.refl _ _).drew | with_reducible exact Below.refl _ _ | with_reducible refine Below.drew ?_ | with_reducible refine Below.setCell ?_ ?_ _ | with_reducible refine Below.alloc ?_ ?_ _)); all_goals (first | omega | (simp; done) | (simp [World.size_setCell]; omega))))
                        (first
                         | (go_at_call 18; refine (rover_f _ zx zy Ax Gx Ay Gy nx mx ny my cx dx cy dy 2 px qx py qy al 1099511627776 bh 1099511627776 HFX.out.1 HFY.out.1 (by first | with_reducible exact LX.out.drew | with_reducible exact (LX.out.box _).drew | with_reducible exact LX.out) (by first | with_reducible exact MX.out.drew | with_reducible exact (MX.out.box _).drew | with_reducible exact MX.out) (by first | with_reducible exact LY.out.drew | with_reducible exact (LY.out.box _).drew | with_reducible exact LY.out) (by first | with_reducible exact MY.out.drew | with_reducible exact (MY.out.box _).drew | with_reducible exact MY.out) HFX.out.2 HFY.out.2 (by omega) HP0.out).mono ?_; rintro e u1 ⟨p1, q1, z1, A1, n1, c1, G1, m1, d1, hz1, hf1, rfl, hL1, hM1, hh⟩; have BB1 : Below Wx5.heap.size Wx5 u1 := (by first | with_reducible exact b_two_d hh | with_reducible exact b_one_d hh | exact (Below.refl _ _).drew.trans hh); have S1 := BB1.size; have T1 := BB1.size; have X1 : Fd u1 (4) (qU al bh) (qV bh) z1 A1 n1 c1 G1 m1 d1 := ⟨p1, q1, hz1, q_fr HY.out hf1, hL1, hM1⟩; (try (have P0 : (Qd u1 (Wx5.heap.size) (.bool false) (.slice none 0 0) (.bool false) (.slice none 0 0)) := (by with_reducible exact (Qd.new Wx5 (Wx5.heap.size) rfl (.bool false) (.slice none 0 0) (.bool false) (.slice none 0 0) 31).drew.via hh); have l0 := P0.lt)); (try (have D0a : (Qd u1 (Wx5.heap.size) (.bool false) (.slice none 0 0) (.bool false) (.slice none 0 0)) := (by with_reducible exact ((Qd.new Wx5 (Wx5.heap.size) rfl (.bool false) (.slice none 0 0) (.bool false) (.slice none 0 0) 31).alloc (.cells #[.bool false, .slice none 0 0, .bool false, .slice none 0 0] 31)).drew.via hh); have D0b : (Qd u1 (Wx5.heap.size + 1) (.bool false) (.slice none 0 0) (.bool false) (.slice none 0 0)) := (by with_reducible exact (Qd.new (Wx5.alloc (.cells #[.bool false, .slice none 0 0, .bool false, .slice none 0 0] 31)) (Wx5.heap.size + 1) (by simp) (.bool false) (.slice none 0 0) (.bool false) (.slice none 0 0) 31).drew.via hh); have l0 := D0a.lt)); (try (have ⟨p00, p01, p02, p03, p04, p05, p06, p07, p0l⟩ := P0; have p0a0 := fun o => (P0.alloc o).c0; have p0a1 := fun o => (P0.alloc o).c1; have p0a2 := fun o => (P0.alloc o).c2; have p0a3 := fun o => (P0.alloc o).c3; have p0a4 := fun o => (P0.alloc o).f0; have p0a5 := fun o => (P0.alloc o).f1; have p0a6 := fun o => (P0.alloc o).f2; have p0a7 := fun o => (P0.alloc o).f3; have p0n1 := Nat.ne_of_lt p0l; have p0n2 := Nat.ne_of_gt p0l)); (try (have ⟨da0_0, da0_1, da0_2, da0_3, da0_4, da0_5, da0_6, da0_7, da0_l⟩ := D0a; have ⟨db0_0, db0_1, db0_2, db0_3, db0_4, db0_5, db0_6, db0_7, db0_l⟩ := D0b)))
                         | fail)
                      all_goals
                        go_wp2_with fail
                        go_meet
                        (try rw [put4_eq])
                        first
                        | with_reducible exact yfin1 BB1 X1
                        | with_reducible exact yfin2 BB1 X1 P0 (Nat.le_refl _)
                    case rest =>
                      as_aux_lemma =>
                      obtain ⟨gF, rfl, hF, hgF, hb⟩ := hcut
                      clear hgF HKS HFX HFY LX MX LY MY HP0
                      have FX := Lib.hid hF
                      clear hF
                      replace ST := Lib.hid (ST.out.via hb)
                      clear hb
                      generalize wc = W5 at *
                      go_upto_region 20 with (fail)
                      go_cut [19] from 85 to 143 (fun s wx => OrB W5 ls (NB ql (qU al bh) (qV bh) false) s wx)
                      case first =>
                        as_aux_lemma =>
                        cases ls with
                        | true =>
                          go_wp2_with fail
                          go_meet
                          exact ⟨true, rfl, fun _ => rfl, fun _ => rfl, Below.refl _ _⟩
                        | false =>
                          have ⟨p0, p1, _, _, _⟩ := ST.out.q
                          have ⟨pF, qF, zF, AF, nF, cF, GF, mF, dF, hzF, hfF, hqF, haF, hbF⟩ := FX.out
                          have ⟨kF0, kF1, kF2, kF3, kF4, kF5, kF6, kF7, kFl⟩ := hqF
                          go_wp2_with fail
                          clear p0 p1 kF0 kF1 kF2 kF3 kF4 kF5 kF6 kF7 kFl hqF
                          refine (lnear_any _ ql zF AF GF nF mF cF dF 4 pF qF (qU al bh) (qV bh) false hzF haF hbF hfF (by omega) (by omega) (by have := Rq.out.1; omega) (by have := Rq.out.2.1; omega) (qV_pos HY.out)).mono ?_
                          rintro e y1 ⟨b, rfl, hbi, hb⟩
                          clear hzF hfF haF hbF
                          go_wp2_with fail
                          go_meet
                          exact ⟨b, rfl, (fun h => by cases h), hbi.2, hb⟩
                      case rest =>
                        as_aux_lemma =>
                        obtain ⟨ls1, rfl, hls1a, hls1b, hb⟩ := hcut
                        have Hls1 := Lib.hid (And.intro hls1a hls1b)
                        clear hls1a hls1b
                        replace ST := Lib.hid (ST.out.via hb)
                        replace FX := Lib.hid (FX.out.via hb)
                        clear hb
                        generalize wc = Wx6 at *
                        cases mr with
                        | true =>
                          as_aux_lemma =>
                          go_wp2_with fail
                          go_roundg 0
                          case measure => omega
                          case rel => exact ⟨lw1, hg1, ls1, true, rfl, rfl, rfl, rfl, .inr (.inr ⟨rfl, rfl, HJ.out.step (show CX al ah 1 = al from rfl) (show CY bl bh 1 = bh from rfl) Hlw1.out.1 Hlw1.out.2 Hhg1.out.1 Hhg1.out.2 Hls1.out.1 (fun _ => Hls1.out.2) (fun _ => rfl) (fun _ _ => rfl)⟩), ST.out⟩
                        | false =>
                          as_aux_lemma =>
                          have ⟨p0, p1, _, _, _⟩ := ST.out.q
                          have ⟨pF, qF, zF, AF, nF, cF, GF, mF, dF, hzF, hfF, hqF, haF, hbF⟩ := FX.out
                          have ⟨kF0, kF1, kF2, kF3, kF4, kF5, kF6, kF7, kFl⟩ := hqF
                          go_wp2_with fail
                          clear p0 p1 kF0 kF1 kF2 kF3 kF4 kF5 kF6 kF7 kFl hqF
                          refine (lnear_any _ qh zF AF GF nF mF cF dF 4 pF qF (qU al bh) (qV bh) true hzF haF hbF hfF (by omega) (by omega) (by have := Rq.out.2.2.1; omega) (by have := Rq.out.2.2.2; omega) (qV_pos HY.out)).mono ?_
                          rintro e y1 ⟨b, rfl, hbi, hb⟩
                          clear hzF hfF haF hbF FX
                          replace ST := Lib.hid (ST.out.via hb)
                          have HB := Lib.hid hbi.2
                          clear hb hbi
                          go_wp2_with fail
                          go_roundg 0
                          case measure => omega
                          case rel => exact ⟨lw1, hg1, ls1, b, rfl, rfl, rfl, rfl, .inr (.inr ⟨rfl, rfl, HJ.out.step (show CX al ah 1 = al from rfl) (show CY bl bh 1 = bh from rfl) Hlw1.out.1 Hlw1.out.2 Hhg1.out.1 Hhg1.out.2 Hls1.out.1 (fun _ => Hls1.out.2) (fun h => by cases h) (fun _ => HB.out)⟩), ST.out⟩
          · as_aux_lemma =>
            go_wp2_with fail
            go_roundg 1
            case measure => omega
            case rel => exact ⟨lw, hg, ls, mr, rfl, rfl, rfl, rfl, .inr (.inl ⟨rfl, rfl, hj⟩), st⟩
      · as_aux_lemma =>
        go_wp2_with fail
        go_loopg [22, 17, 18, 19, 20] 2 (fun gn si s17 s18 s19 s20 wr => RelL 2 3 4 2 3 4 w gl gXP gXQ gXS al ah bl bh pl ph ql qh sl sh gn si s17 s18 s19 s20 wr)
        case atStart => exact ⟨lw, hg, ls, mr, rfl, rfl, rfl, rfl, .inl ⟨rfl, rfl, hj⟩, st⟩
        case round =>
          clear st hj
          obtain ⟨lw, hg, ls, mr, rfl, rfl, rfl, rfl, hk, st⟩ := hrel
          rcases hk with ⟨rfl, rfl, hj⟩ | ⟨rfl, rfl, hj⟩ | ⟨rfl, rfl, hj⟩
          · as_aux_lemma =>
            as_aux_lemma =>
            have ST := Lib.hid st
            have HJ := Lib.hid hj
            clear st hj
            have ⟨px, qx, zx, Ax, nx, cx, Gx, mx, dx, hzx, hfx, x0, x1, x2, x3, xl, hax, hbx⟩ := ST.out.a1
            have ⟨py, qy, zy, Ay, ny, cy, Gy, my, dy, hzy, hfy, y0, y1, y2, y3, yl, hay, hby⟩ := ST.out.a2
            have HKS : Hid (∀ X : World, Below wr.heap.size wr X → X.cell? ⟨gl, 4, none⟩ = some (.bool zx) ∧ X.cell? ⟨gl, 5, none⟩ = some (.slice Ax nx cx) ∧ X.cell? ⟨gl, 6, none⟩ = some (.bool false) ∧ X.cell? ⟨gl, 7, none⟩ = some (.slice Gx mx dx) ∧ X.cell? ⟨gl, 8, none⟩ = some (.bool zy) ∧ X.cell? ⟨gl, 9, none⟩ = some (.slice Ay ny cy) ∧ X.cell? ⟨gl, 10, none⟩ = some (.bool false) ∧ X.cell? ⟨gl, 11, none⟩ = some (.slice Gy my dy)) := fun X h => ⟨(h.cell (p := ⟨gl, 4, none⟩) xl).trans x0, (h.cell (p := ⟨gl, 5, none⟩) xl).trans x1, (h.cell (p := ⟨gl, 6, none⟩) xl).trans x2, (h.cell (p := ⟨gl, 7, none⟩) xl).trans x3, (h.cell (p := ⟨gl, 8, none⟩) xl).trans y0, (h.cell (p := ⟨gl, 9, none⟩) xl).trans y1, (h.cell (p := ⟨gl, 10, none⟩) xl).trans y2, (h.cell (p := ⟨gl, 11, none⟩) xl).trans y3⟩
            have HFX := Lib.hid (And.intro hzx hfx)
            have HFY := Lib.hid (And.intro hzy hfy)
            have LX := Lib.hid hax
            have MX := Lib.hid hbx
            have LY := Lib.hid hay
            have MY := Lib.hid hby
            clear hzx hfx hzy hfy hax hbx hay hby x0 x1 x2 x3 y0 y1 y2 y3 xl yl
            go_wp2_with fail
            generalize wr = W1 at *
            go_cut [23] from 85 to 143 (fun sx wx => FxO W1 4 (ah * bl) (1099511627776 * 1099511627776) sx wx)
            case first =>
              go_region_held3 (fun X => X.cell? ⟨gl, 4, none⟩ = some (.bool zx) ∧ X.cell? ⟨gl, 5, none⟩ = some (.slice Ax nx cx) ∧ X.cell? ⟨gl, 6, none⟩ = some (.bool false) ∧ X.cell? ⟨gl, 7, none⟩ = some (.slice Gx mx dx) ∧ X.cell? ⟨gl, 8, none⟩ = some (.bool zy) ∧ X.cell? ⟨gl, 9, none⟩ = some (.slice Ay ny cy) ∧ X.cell? ⟨gl, 10, none⟩ = some (.bool false) ∧ X.cell? ⟨gl, 11, none⟩ = some (.slice Gy my dy))
                (first | (refine HKS.out _ ?_; (repeat' (first | with_reducible exact BB1 | with_reducible exact (Below.refl _ _).drew | with_reducible exact Below.refl _ _ | with_reducible refine Below.drew ?_ | with_reducible refine Below.setCell ?_ ?_ _ | with_reducible refine Below.alloc ?_ ?_ _)); all_goals (first | omega | (simp; done) | (simp [World.size_setCell]; omega))))
                (first
                 | (go_at_call 14; refine (rtimes_f _ zx zy Ax Gx Ay Gy nx mx ny my cx dx cy dy 2 px qx py qy ah 1099511627776 bl 1099511627776 HFX.out.1 HFY.out.1 (by first | with_reducible exact LX.out.drew | with_reducible exact (LX.out.box _).drew | with_reducible exact LX.out) (by first | with_reducible exact MX.out.drew | with_reducible exact (MX.out.box _).drew | with_reducible exact MX.out) (by first | with_reducible exact LY.out.drew | with_reducible exact (LY.out.box _).drew | with_reducible exact LY.out) (by first | with_reducible exact MY.out.drew | with_reducible exact (MY.out.box _).drew | with_reducible exact MY.out) HFX.out.2 HFY.out.2 (by omega)).mono ?_; rintro e u1 ⟨p1, q1, z1, A1, n1, c1, G1, m1, d1, hz1, hf1, rfl, hL1, hM1, hh⟩; have BB1 : Below W1.heap.size W1 u1 := (by first | with_reducible exact b_two_d hh | with_reducible exact b_one_d hh | exact (Below.refl _ _).drew.trans hh); have S1 := BB1.size; have T1 := BB1.size; have X1 : Fd u1 (4) (ah * bl) (1099511627776 * 1099511627776) z1 A1 n1 c1 G1 m1 d1 := ⟨p1, q1, hz1, hf1, hL1, hM1⟩; (try (have P0 : (Qd u1 (W1.heap.size) (.bool false) (.slice none 0 0) (.bool false) (.slice none 0 0)) := (by with_reducible exact (Qd.new W1 (W1.heap.size) rfl (.bool false) (.slice none 0 0) (.bool false) (.slice none 0 0) 31).drew.via hh); have l0 := P0.lt)); (try (have D0a : (Qd u1 (W1.heap.size) (.bool false) (.slice none 0 0) (.bool false) (.slice none 0 0)) := (by with_reducible exact ((Qd.new W1 (W1.heap.size) rfl (.bool false) (.slice none 0 0) (.bool false) (.slice none 0 0) 31).alloc (.cells #[.bool false, .slice none 0 0, .bool false, .slice none 0 0] 31)).drew.via hh); have D0b : (Qd u1 (W1.heap.size + 1) (.bool false) (.slice none 0 0) (.bool false) (.slice none 0 0)) := (by with_reducible exact (Qd.new (W1.alloc (.cells #[.bool false, .slice none 0 0, .bool false, .slice none 0 0] 31)) (W1.heap.size + 1) (by simp) (.bool false) (.slice none 0 0) (.bool false) (.slice none 0 0) 31).drew.via hh); have l0 := D0a.lt)); (try (have ⟨p00, p01, p02, p03, p04, p05, p06, p07, p0l⟩ := P0; have p0a0 := fun o => (P0.alloc o).c0; have p0a1 := fun o => (P0.alloc o).c1; have p0a2 := fun o => (P0.alloc o).c2; have p0a3 := fun o => (P0.alloc o).c3; have p0a4 := fun o => (P0.alloc o).f0; have p0a5 := fun o => (P0.alloc o).f1; have p0a6 := fun o => (P0.alloc o).f2; have p0a7 := fun o => (P0.alloc o).f3; have p0n1 := Nat.ne_of_lt p0l; have p0n2 := Nat.ne_of_gt p0l)); (try (have ⟨da0_0, da0_1, da0_2, da0_3, da0_4, da0_5, da0_6, da0_7, da0_l⟩ := D0a; have ⟨db0_0, db0_1, db0_2, db0_3, db0_4, db0_5, db0_6, db0_7, db0_l⟩ := D0b)))
                 | fail)
              all_goals
                go_wp2_with fail
                go_meet
                (try rw [put4_eq])
                first
                | with_reducible exact yfin1 BB1 X1
                | with_reducible exact yfin2 BB1 X1 P0 (Nat.le_refl _)
            case rest =>
              as_aux_lemma =>
              obtain ⟨gF, rfl, hF, hgF, hb⟩ := hcut
              clear hgF HKS
              have FX := Lib.hid hF
              clear hF
              replace LX := Lib.hid (LX.out.via hb)
              replace MX := Lib.hid (MX.out.via hb)
              replace LY := Lib.hid (LY.out.via hb)
              replace MY := Lib.hid (MY.out.via hb)
              clear LX MX LY MY
              replace ST := Lib.hid (ST.out.via hb)
              clear hb
              generalize wc = W2 at *
              go_upto_region 16 with (fail)
              go_cut [17] from 85 to 143 (fun s wx => OrB W2 lw (NB pl (ah * bl) (1099511627776 * 1099511627776) false) s wx)
              case first =>
                as_aux_lemma =>
                cases lw with
                | true =>
                  go_wp2_with fail
                  go_meet
                  exact ⟨true, rfl, fun _ => rfl, fun _ => rfl, Below.refl _ _⟩
                | false =>
                  have ⟨p0, p1, _, _, _⟩ := ST.out.p
                  have ⟨pF, qF, zF, AF, nF, cF, GF, mF, dF, hzF, hfF, hqF, haF, hbF⟩ := FX.out
                  have ⟨kF0, kF1, kF2, kF3, kF4, kF5, kF6, kF7, kFl⟩ := hqF
                  go_wp2_with fail
                  clear p0 p1 kF0 kF1 kF2 kF3 kF4 kF5 kF6 kF7 kFl hqF
                  refine (lnear_any _ pl zF AF GF nF mF cF dF 4 pF qF (ah * bl) (1099511627776 * 1099511627776) false hzF haF hbF hfF (by omega) (by omega) (by have := Rp.out.1; omega) (by have := Rp.out.2.1; omega) (by decide)).mono ?_
                  rintro e y1 ⟨b, rfl, hbi, hb⟩
                  clear hzF hfF haF hbF
                  go_wp2_with fail
                  go_meet
                  exact ⟨b, rfl, (fun h => by cases h), hbi.2, hb⟩
              case rest =>
                as_aux_lemma =>
                obtain ⟨lw1, rfl, hlw1a, hlw1b, hb⟩ := hcut
                have Hlw1 := Lib.hid (And.intro hlw1a hlw1b)
                clear hlw1a hlw1b
                replace ST := Lib.hid (ST.out.via hb)
                replace FX := Lib.hid (FX.out.via hb)
                clear hb
                generalize wc = Wx7 at *
                go_upto_region 17 with (fail)
                go_cut [18] from 85 to 143 (fun s wx => OrB Wx7 hg (NB ph (ah * bl) (1099511627776 * 1099511627776) true) s wx)
                case first =>
                  as_aux_lemma =>
                  cases hg with
                  | true =>
                    go_wp2_with fail
                    go_meet
                    exact ⟨true, rfl, fun _ => rfl, fun _ => rfl, Below.refl _ _⟩
                  | false =>
                    have ⟨p0, p1, _, _, _⟩ := ST.out.p
                    have ⟨pF, qF, zF, AF, nF, cF, GF, mF, dF, hzF, hfF, hqF, haF, hbF⟩ := FX.out
                    have ⟨kF0, kF1, kF2, kF3, kF4, kF5, kF6, kF7, kFl⟩ := hqF
                    go_wp2_with fail
                    clear p0 p1 kF0 kF1 kF2 kF3 kF4 kF5 kF6 kF7 kFl hqF
                    refine (lnear_any _ ph zF AF GF nF mF cF dF 4 pF qF (ah * bl) (1099511627776 * 1099511627776) true hzF haF hbF hfF (by omega) (by omega) (by have := Rp.out.2.2.1; omega) (by have := Rp.out.2.2.2; omega) (by decide)).mono ?_
                    rintro e y1 ⟨b, rfl, hbi, hb⟩
                    clear hzF hfF haF hbF
                    go_wp2_with fail
                    go_meet
                    exact ⟨b, rfl, (fun h => by cases h), hbi.2, hb⟩
                case rest =>
                  as_aux_lemma =>
                  obtain ⟨hg1, rfl, hhg1a, hhg1b, hb⟩ := hcut
                  have Hhg1 := Lib.hid (And.intro hhg1a hhg1b)
                  clear hhg1a hhg1b
                  replace ST := Lib.hid (ST.out.via hb)
                  replace FX := Lib.hid (FX.out.via hb)
                  clear hb
                  generalize wc = Wx8 at *
                  clear FX HFX HFY
                  go_upto_region 18 with (fail)
                  have ⟨px, qx, zx, Ax, nx, cx, Gx, mx, dx, hzx, hfx, x0, x1, x2, x3, xl, hax, hbx⟩ := ST.out.a1
                  have ⟨py, qy, zy, Ay, ny, cy, Gy, my, dy, hzy, hfy, y0, y1, y2, y3, yl, hay, hby⟩ := ST.out.a2
                  have HFX := Lib.hid (And.intro hzx hfx)
                  have HFY := Lib.hid (And.intro hzy hfy)
                  have LX := Lib.hid hax
                  have MX := Lib.hid hbx
                  have LY := Lib.hid hay
                  have MY := Lib.hid hby
                  have HKS : Hid (∀ X : World, Below Wx8.heap.size Wx8 X → X.cell? ⟨gl, 4, none⟩ = some (.bool zx) ∧ X.cell? ⟨gl, 5, none⟩ = some (.slice Ax nx cx) ∧ X.cell? ⟨gl, 6, none⟩ = some (.bool false) ∧ X.cell? ⟨gl, 7, none⟩ = some (.slice Gx mx dx) ∧ X.cell? ⟨gl, 8, none⟩ = some (.bool zy) ∧ X.cell? ⟨gl, 9, none⟩ = some (.slice Ay ny cy) ∧ X.cell? ⟨gl, 10, none⟩ = some (.bool false) ∧ X.cell? ⟨gl, 11, none⟩ = some (.slice Gy my dy)) := fun X h => ⟨(h.cell (p := ⟨gl, 4, none⟩) xl).trans x0, (h.cell (p := ⟨gl, 5, none⟩) xl).trans x1, (h.cell (p := ⟨gl, 6, none⟩) xl).trans x2, (h.cell (p := ⟨gl, 7, none⟩) xl).trans x3, (h.cell (p := ⟨gl, 8, none⟩) xl).trans y0, (h.cell (p := ⟨gl, 9, none⟩) xl).trans y1, (h.cell (p := ⟨gl, 10, none⟩) xl).trans y2, (h.cell (p := ⟨gl, 11, none⟩) xl).trans y3⟩
                  have hln := hay.len
                  have heq := hfy.eq
                  have hqp := hfy.pos
                  clear hzx hfx hzy hfy hax hbx hay hby
                  by_cases hy : bl = 0
                  · as_aux_lemma =>
                    have hp0 : py = 0 := by rw [hy] at heq; omega
                    have hn0 : ny = 0 := by rw [← hln, hp0]; rfl
                    subst hn0
                    clear hln heq hqp HFX HFY LX MX LY MY HKS
                    go_wp2_with fail
                    go_roundg 1
                    case measure => omega
                    case rel => exact ⟨lw1, hg1, ls, mr, rfl, rfl, rfl, rfl, .inr (.inl ⟨rfl, rfl, HJ.out.step (show CX al ah 2 = ah from rfl) (show CY bl bh 2 = bl from rfl) Hlw1.out.1 Hlw1.out.2 Hhg1.out.1 Hhg1.out.2 id (fun h => absurd hy h) id (fun h => absurd hy h)⟩), ST.out⟩
                  · as_aux_lemma =>
                    have hp0 : py ≠ 0 := fun h => hy (by rw [h, Int.zero_mul] at heq; rcases Int.mul_eq_zero.1 heq.symm with h' | h'; exact h'; omega)
                    have hn0 : 0 < ny := by rw [← hln]; exact digs_pos.2 (by omega)
                    have hn1 : (0 : Int) < (ny : Int) := by omega
                    have hn2 : decide (0 < ny) = true := decide_eq_true hn0
                    have HP0 := Lib.hid hp0
                    have HY := Lib.hid hy
                    clear hln heq hqp hp0 hy
                    go_wp2_with fail
                    clear hn0 hn1 hn2 x0 x1 x2 x3 y0 y1 y2 y3 xl yl
                    go_cut [25] from 85 to 143 (fun sx wx => FxO Wx8 4 (qU ah bl) (qV bl) sx wx)
                    case first =>
                      go_region_held3 (fun X => X.cell? ⟨gl, 4, none⟩ = some (.bool zx) ∧ X.cell? ⟨gl, 5, none⟩ = some (.slice Ax nx cx) ∧ X.cell? ⟨gl, 6, none⟩ = some (.bool false) ∧ X.cell? ⟨gl, 7, none⟩ = some (.slice Gx mx dx) ∧ X.cell? ⟨gl, 8, none⟩ = some (.bool zy) ∧ X.cell? ⟨gl, 9, none⟩ = some (.slice Ay ny cy) ∧ X.cell? ⟨gl, 10, none⟩ = some (.bool false) ∧ X.cell? ⟨gl, 11, none⟩ = some (.slice Gy my dy))
                        (first | (refine HKS.out _ ?_; (repeat' (first | with_reducible exact BB1 | with_reducible exact (Below.refl _ _).drew | with_reducible exact Below.refl _ _ | with_reducible refine Below.drew ?_ | with_reducible refine Below.setCell ?_ ?_ _ | with_reducible refine Below.alloc ?_ ?_ _)); all_goals (first | omega | (simp; done) | (simp [World.size_setCell]; omega))))
                        (first
                         | (go_at_call 18; refine (rover_f _ zx zy Ax Gx Ay Gy nx mx ny my cx dx cy dy 2 px qx py qy ah 1099511627776 bl 1099511627776 HFX.out.1 HFY.out.1 (by first | with_reducible exact LX.out.drew | with_reducible exact (LX.out.box _).drew | with_reducible exact LX.out) (by first | with_reducible exact MX.out.drew | with_reducible exact (MX.out.box _).drew | with_reducible exact MX.out) (by first | with_reducible exact LY.out.drew | with_reducible exact (LY.out.box _).drew | with_reducible exact LY.out) (by first | with_reducible exact MY.out.drew | with_reducible exact (MY.out.box _).drew | with_reducible exact MY.out) HFX.out.2 HFY.out.2 (by omega) HP0.out).mono ?_; rintro e u1 ⟨p1, q1, z1, A1, n1, c1, G1, m1, d1, hz1, hf1, rfl, hL1, hM1, hh⟩; have BB1 : Below Wx8.heap.size Wx8 u1 := (by first | with_reducible exact b_two_d hh | with_reducible exact b_one_d hh | exact (Below.refl _ _).drew.trans hh); have S1 := BB1.size; have T1 := BB1.size; have X1 : Fd u1 (4) (qU ah bl) (qV bl) z1 A1 n1 c1 G1 m1 d1 := ⟨p1, q1, hz1, q_fr HY.out hf1, hL1, hM1⟩; (try (have P0 : (Qd u1 (Wx8.heap.size) (.bool false) (.slice none 0 0) (.bool false) (.slice none 0 0)) := (by with_reducible exact (Qd.new Wx8 (Wx8.heap.size) rfl (.bool false) (.slice none 0 0) (.bool false) (.slice none 0 0) 31).drew.via hh); have l0 := P0.lt)); (try (have D0a : (Qd u1 (Wx8.heap.size) (.bool false) (.slice none 0 0) (.bool false) (.slice none 0 0)) := (by with_reducible exact ((Qd.new Wx8 (Wx8.heap.size) rfl (.bool false) (.slice none 0 0) (.bool false) (.slice none 0 0) 31).alloc (.cells #[.bool false, .slice none 0 0, .bool false, .slice none 0 0] 31)).drew.via hh); have D0b : (Qd u1 (Wx8.heap.size + 1) (.bool false) (.slice none 0 0) (.bool false) (.slice none 0 0)) := (by with_reducible exact (Qd.new (Wx8.alloc (.cells #[.bool false, .slice none 0 0, .bool false, .slice none 0 0] 31)) (Wx8.heap.size + 1) (by simp) (.bool false) (.slice none 0 0) (.bool false) (.slice none 0 0) 31).drew.via hh); have l0 := D0a.lt)); (try (have ⟨p00, p01, p02, p03, p04, p05, p06, p07, p0l⟩ := P0; have p0a0 := fun o => (P0.alloc o).c0; have p0a1 := fun o => (P0.alloc o).c1; have p0a2 := fun o => (P0.alloc o).c2; have p0a3 := fun o => (P0.alloc o).c3; have p0a4 := fun o => (P0.alloc o).f0; have p0a5 := fun o => (P0.alloc o).f1; have p0a6 := fun o => (P0.alloc o).f2; have p0a7 := fun o => (P0.alloc o).f3; have p0n1 := Nat.ne_of_lt p0l; have p0n2 := Nat.ne_of_gt p0l)); (try (have ⟨da0_0, da0_1, da0_2, da0_3, da0_4, da0_5, da0_6, da0_7, da0_l⟩ := D0a; have ⟨db0_0, db0_1, db0_2, db0_3, db0_4, db0_5, db0_6, db0_7, db0_l⟩ := D0b)))
                         | fail)
                      all_goals
                        go_wp2_with fail
                        go_meet
                        (try rw [put4_eq])
                        first
                        | with_reducible exact yfin1 BB1 X1
                        | with_reducible exact yfin2 BB1 X1 P0 (Nat.le_refl _)
                    case rest =>
                      as_aux_lemma =>
                      obtain ⟨gF, rfl, hF, hgF, hb⟩ := hcut
                      clear hgF HKS HFX HFY LX MX LY MY HP0
                      have FX := Lib.hid hF
                      clear hF
                      replace ST := Lib.hid (ST.out.via hb)
                      clear hb
                      generalize wc = W5 at *
                      go_upto_region 20 with (fail)
                      go_cut [19] from 85 to 143 (fun s wx => OrB W5 ls (NB ql (qU ah bl) (qV bl) false) s wx)
                      case first =>
                        as_aux_lemma =>
                        cases ls with
                        | true =>
                          go_wp2_with fail
                          go_meet
                          exact ⟨true, rfl, fun _ => rfl, fun _ => rfl, Below.refl _ _⟩
                        | false =>
                          have ⟨p0, p1, _, _, _⟩ := ST.out.q
                          have ⟨pF, qF, zF, AF, nF, cF, GF, mF, dF, hzF, hfF, hqF, haF, hbF⟩ := FX.out
                          have ⟨kF0, kF1, kF2, kF3, kF4, kF5, kF6, kF7, kFl⟩ := hqF
                          go_wp2_with fail
                          clear p0 p1 kF0 kF1 kF2 kF3 kF4 kF5 kF6 kF7 kFl hqF
                          refine (lnear_any _ ql zF AF GF nF mF cF dF 4 pF qF (qU ah bl) (qV bl) false hzF haF hbF hfF (by omega) (by omega) (by have := Rq.out.1; omega) (by have := Rq.out.2.1; omega) (qV_pos HY.out)).mono ?_
                          rintro e y1 ⟨b, rfl, hbi, hb⟩
                          clear hzF hfF haF hbF
                          go_wp2_with fail
                          go_meet
                          exact ⟨b, rfl, (fun h => by cases h), hbi.2, hb⟩
                      case rest =>
                        as_aux_lemma =>
                        obtain ⟨ls1, rfl, hls1a, hls1b, hb⟩ := hcut
                        have Hls1 := Lib.hid (And.intro hls1a hls1b)
                        clear hls1a hls1b
                        replace ST := Lib.hid (ST.out.via hb)
                        replace FX := Lib.hid (FX.out.via hb)
                        clear hb
                        generalize wc = Wx9 at *
                        cases mr with
                        | true =>
                          as_aux_lemma =>
                          go_wp2_with fail
                          go_roundg 1
                          case measure => omega
                          case rel => exact ⟨lw1, hg1, ls1, true, rfl, rfl, rfl, rfl, .inr (.inl ⟨rfl, rfl, HJ.out.step (show CX al ah 2 = ah from rfl) (show CY bl bh 2 = bl from rfl) Hlw1.out.1 Hlw1.out.2 Hhg1.out.1 Hhg1.out.2 Hls1.out.1 (fun _ => Hls1.out.2) (fun _ => rfl) (fun _ _ => rfl)⟩), ST.out⟩
                        | false =>
                          as_aux_lemma =>
                          have ⟨p0, p1, _, _, _⟩ := ST.out.q
                          have ⟨pF, qF, zF, AF, nF, cF, GF, mF, dF, hzF, hfF, hqF, haF, hbF⟩ := FX.out
                          have ⟨kF0, kF1, kF2, kF3, kF4, kF5, kF6, kF7, kFl⟩ := hqF
                          go_wp2_with fail
                          clear p0 p1 kF0 kF1 kF2 kF3 kF4 kF5 kF6 kF7 kFl hqF
                          refine (lnear_any _ qh zF AF GF nF mF cF dF 4 pF qF (qU ah bl) (qV bl) true hzF haF hbF hfF (by omega) (by omega) (by have := Rq.out.2.2.1; omega) (by have := Rq.out.2.2.2; omega) (qV_pos HY.out)).mono ?_
                          rintro e y1 ⟨b, rfl, hbi, hb⟩
                          clear hzF hfF haF hbF FX
                          replace ST := Lib.hid (ST.out.via hb)
                          have HB := Lib.hid hbi.2
                          clear hb hbi
                          go_wp2_with fail
                          go_roundg 1
                          case measure => omega
                          case rel => exact ⟨lw1, hg1, ls1, b, rfl, rfl, rfl, rfl, .inr (.inl ⟨rfl, rfl, HJ.out.step (show CX al ah 2 = ah from rfl) (show CY bl bh 2 = bl from rfl) Hlw1.out.1 Hlw1.out.2 Hhg1.out.1 Hhg1.out.2 Hls1.out.1 (fun _ => Hls1.out.2) (fun h => by cases h) (fun _ => HB.out)⟩), ST.out⟩
          · as_aux_lemma =>
            as_aux_lemma =>
            have ST := Lib.hid st
            have HJ := Lib.hid hj
            clear st hj
            have ⟨px, qx, zx, Ax, nx, cx, Gx, mx, dx, hzx, hfx, x0, x1, x2, x3, xl, hax, hbx⟩ := ST.out.a1
            have ⟨py, qy, zy, Ay, ny, cy, Gy, my, dy, hzy, hfy, y0, y1, y2, y3, yl, hay, hby⟩ := ST.out.a3
            have HKS : Hid (∀ X : World, Below wr.heap.size wr X → X.cell? ⟨gl, 4, none⟩ = some (.bool zx) ∧ X.cell? ⟨gl, 5, none⟩ = some (.slice Ax nx cx) ∧ X.cell? ⟨gl, 6, none⟩ = some (.bool false) ∧ X.cell? ⟨gl, 7, none⟩ = some (.slice Gx mx dx) ∧ X.cell? ⟨gl, 12, none⟩ = some (.bool zy) ∧ X.cell? ⟨gl, 13, none⟩ = some (.slice Ay ny cy) ∧ X.cell? ⟨gl, 14, none⟩ = some (.bool false) ∧ X.cell? ⟨gl, 15, none⟩ = some (.slice Gy my dy)) := fun X h => ⟨(h.cell (p := ⟨gl, 4, none⟩) xl).trans x0, (h.cell (p := ⟨gl, 5, none⟩) xl).trans x1, (h.cell (p := ⟨gl, 6, none⟩) xl).trans x2, (h.cell (p := ⟨gl, 7, none⟩) xl).trans x3, (h.cell (p := ⟨gl, 12, none⟩) xl).trans y0, (h.cell (p := ⟨gl, 13, none⟩) xl).trans y1, (h.cell (p := ⟨gl, 14, none⟩) xl).trans y2, (h.cell (p := ⟨gl, 15, none⟩) xl).trans y3⟩
            have HFX := Lib.hid (And.intro hzx hfx)
            have HFY := Lib.hid (And.intro hzy hfy)
            have LX := Lib.hid hax
            have MX := Lib.hid hbx
            have LY := Lib.hid hay
            have MY := Lib.hid hby
            clear hzx hfx hzy hfy hax hbx hay hby x0 x1 x2 x3 y0 y1 y2 y3 xl yl
            go_wp2_with fail
            generalize wr = W1 at *
            go_cut [23] from 85 to 143 (fun sx wx => FxO W1 4 (ah * bh) (1099511627776 * 1099511627776) sx wx)
            case first =>
              go_region_held3 (fun X => X.cell? ⟨gl, 4, none⟩ = some (.bool zx) ∧ X.cell? ⟨gl, 5, none⟩ = some (.slice Ax nx cx) ∧ X.cell? ⟨gl, 6, none⟩ = some (.bool false) ∧ X.cell? ⟨gl, 7, none⟩ = some (.slice Gx mx dx) ∧ X.cell? ⟨gl, 12, none⟩ = some (.bool zy) ∧ X.cell? ⟨gl, 13, none⟩ = some (.slice Ay ny cy) ∧ X.cell? ⟨gl, 14, none⟩ = some (.bool false) ∧ X.cell? ⟨gl, 15, none⟩ = some (.slice Gy my dy))
                (first | (refine HKS.out _ ?_; (repeat' (first | with_reducible exact BB1 | with_reducible exact (Below.refl _ _).drew | with_reducible exact Below.refl _ _ | with_reducible refine Below.drew ?_ | with_reducible refine Below.setCell ?_ ?_ _ | with_reducible refine Below.alloc ?_ ?_ _)); all_goals (first | omega | (simp; done) | (simp [World.size_setCell]; omega))))
                (first
                 | (go_at_call 14; refine (rtimes_f _ zx zy Ax Gx Ay Gy nx mx ny my cx dx cy dy 2 px qx py qy ah 1099511627776 bh 1099511627776 HFX.out.1 HFY.out.1 (by first | with_reducible exact LX.out.drew | with_reducible exact (LX.out.box _).drew | with_reducible exact LX.out) (by first | with_reducible exact MX.out.drew | with_reducible exact (MX.out.box _).drew | with_reducible exact MX.out) (by first | with_reducible exact LY.out.drew | with_reducible exact (LY.out.box _).drew | with_reducible exact LY.out) (by first | with_reducible exact MY.out.drew | with_reducible exact (MY.out.box _).drew | with_reducible exact MY.out) HFX.out.2 HFY.out.2 (by omega)).mono ?_; rintro e u1 ⟨p1, q1, z1, A1, n1, c1, G1, m1, d1, hz1, hf1, rfl, hL1, hM1, hh⟩; have BB1 : Below W1.heap.size W1 u1 := (by first | with_reducible exact b_two_d hh | with_reducible exact b_one_d hh | exact (Below.refl _ _).drew.trans hh); have S1 := BB1.size; have T1 := BB1.size; have X1 : Fd u1 (4) (ah * bh) (1099511627776 * 1099511627776) z1 A1 n1 c1 G1 m1 d1 := ⟨p1, q1, hz1, hf1, hL1, hM1⟩; (try (have P0 : (Qd u1 (W1.heap.size) (.bool false) (.slice none 0 0) (.bool false) (.slice none 0 0)) := (by with_reducible exact (Qd.new W1 (W1.heap.size) rfl (.bool false) (.slice none 0 0) (.bool false) (.slice none 0 0) 31).drew.via hh); have l0 := P0.lt)); (try (have D0a : (Qd u1 (W1.heap.size) (.bool false) (.slice none 0 0) (.bool false) (.slice none 0 0)) := (by with_reducible exact ((Qd.new W1 (W1.heap.size) rfl (.bool false) (.slice none 0 0) (.bool false) (.slice none 0 0) 31).alloc (.cells #[.bool false, .slice none 0 0, .bool false, .slice none 0 0] 31)).drew.via hh); have D0b : (Qd u1 (W1.heap.size + 1) (.bool false) (.slice none 0 0) (.bool false) (.slice none 0 0)) := (by with_reducible exact (Qd.new (W1.alloc (.cells #[.bool false, .slice none 0 0, .bool false, .slice none 0 0] 31)) (W1.heap.size + 1) (by simp) (.bool false) (.slice none 0 0) (.bool false) (.slice none 0 0) 31).drew.via hh); have l0 := D0a.lt)); (try (have ⟨p00, p01, p02, p03, p04, p05, p06, p07, p0l⟩ := P0; have p0a0 := fun o => (P0.alloc o).c0; have p0a1 := fun o => (P0.alloc o).c1; have p0a2 := fun o => (P0.alloc o).c2; have p0a3 := fun o => (P0.alloc o).c3; have p0a4 := fun o => (P0.alloc o).f0; have p0a5 := fun o => (P0.alloc o).f1; have p0a6 := fun o => (P0.alloc o).f2; have p0a7 := fun o => (P0.alloc o).f3; have p0n1 := Nat.ne_of_lt p0l; have p0n2 := Nat.ne_of_gt p0l)); (try (have ⟨da0_0, da0_1, da0_2, da0_3, da0_4, da0_5, da0_6, da0_7, da0_l⟩ := D0a; have ⟨db0_0, db0_1, db0_2, db0_3, db0_4, db0_5, db0_6, db0_7, db0_l⟩ := D0b)))
                 | fail)
              all_goals
                go_wp2_with fail
                go_meet
                (try rw [put4_eq])
                first
                | with_reducible exact yfin1 BB1 X1
                | with_reducible exact yfin2 BB1 X1 P0 (Nat.le_refl _)
            case rest =>
              as_aux_lemma =>
              obtain ⟨gF, rfl, hF, hgF, hb⟩ := hcut
              clear hgF HKS
              have FX := Lib.hid hF
              clear hF
              replace LX := Lib.hid (LX.out.via hb)
              replace MX := Lib.hid (MX.out.via hb)
              replace LY := Lib.hid (LY.out.via hb)
              replace MY := Lib.hid (MY.out.via hb)
              clear LX MX LY MY
              replace ST := Lib.hid (ST.out.via hb)
              clear hb
              generalize wc = W2 at *
              go_upto_region 16 with (fail)
              go_cut [17] from 85 to 143 (fun s wx => OrB W2 lw (NB pl (ah * bh) (1099511627776 * 1099511627776) false) s wx)
              case first =>
                as_aux_lemma =>
                cases lw with
                | true =>
                  go_wp2_with fail
                  go_meet
                  exact ⟨true, rfl, fun _ => rfl, fun _ => rfl, Below.refl _ _⟩
                | false =>
                  have ⟨p0, p1, _, _, _⟩ := ST.out.p
                  have ⟨pF, qF, zF, AF, nF, cF, GF, mF, dF, hzF, hfF, hqF, haF, hbF⟩ := FX.out
                  have ⟨kF0, kF1, kF2, kF3, kF4, kF5, kF6, kF7, kFl⟩ := hqF
                  go_wp2_with fail
                  clear p0 p1 kF0 kF1 kF2 kF3 kF4 kF5 kF6 kF7 kFl hqF
                  refine (lnear_any _ pl zF AF GF nF mF cF dF 4 pF qF (ah * bh) (1099511627776 * 1099511627776) false hzF haF hbF hfF (by omega) (by omega) (by have := Rp.out.1; omega) (by have := Rp.out.2.1; omega) (by decide)).mono ?_
                  rintro e y1 ⟨b, rfl, hbi, hb⟩
                  clear hzF hfF haF hbF
                  go_wp2_with fail
                  go_meet
                  exact ⟨b, rfl, (fun h => by cases h), hbi.2, hb⟩
              case rest =>
                as_aux_lemma =>
                obtain ⟨lw1, rfl, hlw1a, hlw1b, hb⟩ := hcut
                have Hlw1 := Lib.hid (And.intro hlw1a hlw1b)
                clear hlw1a hlw1b
                replace ST := Lib.hid (ST.out.via hb)
                replace FX := Lib.hid (FX.out.via hb)
                clear hb
                generalize wc = Wx10 at *
                go_upto_region 17 with (fail)
                go_cut [18] from 85 to 143 (fun s wx => OrB Wx10 hg (NB ph (ah * bh) (1099511627776 * 1099511627776) true) s wx)
                case first =>
                  as_aux_lemma =>
                  cases hg with
                  | true =>
                    go_wp2_with fail
                    go_meet
                    exact ⟨true, rfl, fun _ => rfl, fun _ => rfl, Below.refl _ _⟩
                  | false =>
                    have ⟨p0, p1, _, _, _⟩ := ST.out.p
                    have ⟨pF, qF, zF, AF, nF, cF, GF, mF, dF, hzF, hfF, hqF, haF, hbF⟩ := FX.out
                    have ⟨kF0, kF1, kF2, kF3, kF4, kF5, kF6, kF7, kFl⟩ := hqF
                    go_wp2_with fail
                    clear p0 p1 kF0 kF1 kF2 kF3 kF4 kF5 kF6 kF7 kFl hqF
                    refine (lnear_any _ ph zF AF GF nF mF cF dF 4 pF qF (ah * bh) (1099511627776 * 1099511627776) true hzF haF hbF hfF (by omega) (by omega) (by have := Rp.out.2.2.1; omega) (by have := Rp.out.2.2.2; omega) (by decide)).mono ?_
                    rintro e y1 ⟨b, rfl, hbi, hb⟩
                    clear hzF hfF haF hbF
                    go_wp2_with fail
                    go_meet
                    exact ⟨b, rfl, (fun h => by cases h), hbi.2, hb⟩
                case rest =>
                  as_aux_lemma =>
                  obtain ⟨hg1, rfl, hhg1a, hhg1b, hb⟩ := hcut
                  have Hhg1 := Lib.hid (And.intro hhg1a hhg1b)
                  clear hhg1a hhg1b
                  replace ST := Lib.hid (ST.out.via hb)
                  replace FX := Lib.hid (FX.out.via hb)
                  clear hb
                  generalize wc = Wx11 at *
                  clear FX HFX HFY
                  go_upto_region 18 with (fail)
                  have ⟨px, qx, zx, Ax, nx, cx, Gx, mx, dx, hzx, hfx, x0, x1, x2, x3, xl, hax, hbx⟩ := ST.out.a1
                  have ⟨py, qy, zy, Ay, ny, cy, Gy, my, dy, hzy, hfy, y0, y1, y2, y3, yl, hay, hby⟩ := ST.out.a3
                  have HFX := Lib.hid (And.intro hzx hfx)
                  have HFY := Lib.hid (And.intro hzy hfy)
                  have LX := Lib.hid hax
                  have MX := Lib.hid hbx
                  have LY := Lib.hid hay
                  have MY := Lib.hid hby
                  have HKS : Hid (∀ X : World, Below Wx11.heap.size Wx11 X → X.cell? ⟨gl, 4, none⟩ = some (.bool zx) ∧ X.cell? ⟨gl, 5, none⟩ = some (.slice Ax nx cx) ∧ X.cell? ⟨gl, 6, none⟩ = some (.bool false) ∧ X.cell? ⟨gl, 7, none⟩ = some (.slice Gx mx dx) ∧ X.cell? ⟨gl, 12, none⟩ = some (.bool zy) ∧ X.cell? ⟨gl, 13, none⟩ = some (.slice Ay ny cy) ∧ X.cell? ⟨gl, 14, none⟩ = some (.bool false) ∧ X.cell? ⟨gl, 15, none⟩ = some (.slice Gy my dy)) := fun X h => ⟨(h.cell (p := ⟨gl, 4, none⟩) xl).trans x0, (h.cell (p := ⟨gl, 5, none⟩) xl).trans x1, (h.cell (p := ⟨gl, 6, none⟩) xl).trans x2, (h.cell (p := ⟨gl, 7, none⟩) xl).trans x3, (h.cell (p := ⟨gl, 12, none⟩) xl).trans y0, (h.cell (p := ⟨gl, 13, none⟩) xl).trans y1, (h.cell (p := ⟨gl, 14, none⟩) xl).trans y2, (h.cell (p := ⟨gl, 15, none⟩) xl).trans y3⟩
                  have hln := hay.len
                  have heq := hfy.eq
                  have hqp := hfy.pos
                  clear hzx hfx hzy hfy hax hbx hay hby
                  by_cases hy : bh = 0
                  · as_aux_lemma =>
                    have hp0 : py = 0 := by rw [hy] at heq; omega
                    have hn0 : ny = 0 := by rw [← hln, hp0]; rfl
                    subst hn0
                    clear hln heq hqp HFX HFY LX MX LY MY HKS
                    go_wp2_with fail
                    go_roundg 0
                    case measure => omega
                    case rel => exact ⟨lw1, hg1, ls, mr, rfl, rfl, rfl, rfl, .inr (.inr ⟨rfl, rfl, HJ.out.step (show CX al ah 3 = ah from rfl) (show CY bl bh 3 = bh from rfl) Hlw1.out.1 Hlw1.out.2 Hhg1.out.1 Hhg1.out.2 id (fun h => absurd hy h) id (fun h => absurd hy h)⟩), ST.out⟩
                  · as_aux_lemma =>
                    have hp0 : py ≠ 0 := fun h => hy (by rw [h, Int.zero_mul] at heq; rcases Int.mul_eq_zero.1 heq.symm with h' | h'; exact h'; omega)
                    have hn0 : 0 < ny := by rw [← hln]; exact digs_pos.2 (by omega)
                    have hn1 : (0 : Int) < (ny : Int) := by omega
                    have hn2 : decide (0 < ny) = true := decide_eq_true hn0
                    have HP0 := Lib.hid hp0
                    have HY := Lib.hid hy
                    clear hln heq hqp hp0 hy
                    go_wp2_with fail
                    clear hn0 hn1 hn2 x0 x1 x2 x3 y0 y1 y2 y3 xl yl
                    go_cut [25] from 85 to 143 (fun sx wx => FxO Wx11 4 (qU ah bh) (qV bh) sx wx)
                    case first =>
                      go_region_held3 (fun X => X.cell? ⟨gl, 4, none⟩ = some (.bool zx) ∧ X.cell? ⟨gl, 5, none⟩ = some (.slice Ax nx cx) ∧ X.cell? ⟨gl, 6, none⟩ = some (.bool false) ∧ X.cell? ⟨gl, 7, none⟩ = some (.slice Gx mx dx) ∧ X.cell? ⟨gl, 12, none⟩ = some (.bool zy) ∧ X.cell? ⟨gl, 13, none⟩ = some (.slice Ay ny cy) ∧ X.cell? ⟨gl, 14, none⟩ = some (.bool false) ∧ X.cell? ⟨gl, 15, none⟩ = some (.slice Gy my dy))
                        (first | (refine HKS.out _ ?_; (repeat' (first | with_reducible exact BB1 | with_reducible exact (Below.refl _ _).drew | with_reducible exact Below.refl _ _ | with_reducible refine Below.drew ?_ | with_reducible refine Below.setCell ?_ ?_ _ | with_reducible refine Below.alloc ?_ ?_ _)); all_goals (first | omega | (simp; done) | (simp [World.size_setCell]; omega))))
                        (first
                         | (go_at_call 18; refine (rover_f _ zx zy Ax Gx Ay Gy nx mx ny my cx dx cy dy 2 px qx py qy ah 1099511627776 bh 1099511627776 HFX.out.1 HFY.out.1 (by first | with_reducible exact LX.out.drew | with_reducible exact (LX.out.box _).drew | with_reducible exact LX.out) (by first | with_reducible exact MX.out.drew | with_reducible exact (MX.out.box _).drew | with_reducible exact MX.out) (by first | with_reducible exact LY.out.drew | with_reducible exact (LY.out.box _).drew | with_reducible exact LY.out) (by first | with_reducible exact MY.out.drew | with_reducible exact (MY.out.box _).drew | with_reducible exact MY.out) HFX.out.2 HFY.out.2 (by omega) HP0.out).mono ?_; rintro e u1 ⟨p1, q1, z1, A1, n1, c1, G1, m1, d1, hz1, hf1, rfl, hL1, hM1, hh⟩; have BB1 : Below Wx11.heap.size Wx11 u1 := (by first | with_reducible exact b_two_d hh | with_reducible exact b_one_d hh | exact (Below.refl _ _).drew.trans hh); have S1 := BB1.size; have T1 := BB1.size; have X1 : Fd u1 (4) (qU ah bh) (qV bh) z1 A1 n1 c1 G1 m1 d1 := ⟨p1, q1, hz1, q_fr HY.out hf1, hL1, hM1⟩; (try (have P0 : (Qd u1 (Wx11.heap.size) (.bool false) (.slice none 0 0) (.bool false) (.slice none 0 0)) := (by with_reducible exact (Qd.new Wx11 (Wx11.heap.size) rfl (.bool false) (.slice none 0 0) (.bool false) (.slice none 0 0) 31).drew.via hh); have l0 := P0.lt)); (try (have D0a : (Qd u1 (Wx11.heap.size) (.bool false) (.slice none 0 0) (.bool false) (.slice none 0 0)) := (by with_reducible exact ((Qd.new Wx11 (Wx11.heap.size) rfl (.bool false) (.slice none 0 0) (.bool false) (.slice none 0 0) 31).alloc (.cells #[.bool false, .slice none 0 0, .bool false, .slice none 0 0] 31)).drew.via hh); have D0b : (Qd u1 (Wx11.heap.size + 1) (.bool false) (.slice none 0 0) (.bool false) (.slice none 0 0)) := (by with_reducible exact (Qd.new (Wx11.alloc (.cells #[.bool false, .slice none 0 0, .bool false, .slice none 0 0] 31)) (Wx11.heap.size + 1) (by simp) (.bool false) (.slice none 0 0) (.bool false) (.slice none 0 0) 31).drew.via hh); have l0 := D0a.lt)); (try (have ⟨p00, p01, p02, p03, p04, p05, p06, p07, p0l⟩ := P0; have p0a0 := fun o => (P0.alloc o).c0; have p0a1 := fun o => (P0.alloc o).c1; have p0a2 := fun o => (P0.alloc o).c2; have p0a3 := fun o => (P0.alloc o).c3; have p0a4 := fun o => (P0.alloc o).f0; have p0a5 := fun o => (P0.alloc o).f1; have p0a6 := fun o => (P0.alloc o).f2; have p0a7 := fun o => (P0.alloc o).f3; have p0n1 := Nat.ne_of_lt p0l; have p0n2 := Nat.ne_of_gt p0l)); (try (have ⟨da0_0, da0_1, da0_2, da0_3, da0_4, da0_5, da0_6, da0_7, da0_l⟩ := D0a; have ⟨db0_0, db0_1, db0_2, db0_3, db0_4, db0_5, db0_6, db0_7, db0_l⟩ := D0b)))
                         | fail)
                      all_goals
                        go_wp2_with fail
                        go_meet
                        (try rw [put4_eq])
                        first
                        | with_reducible exact yfin1 BB1 X1
                        | with_reducible exact yfin2 BB1 X1 P0 (Nat.le_refl _)
                    case rest =>
                      as_aux_lemma =>
                      obtain ⟨gF, rfl, hF, hgF, hb⟩ := hcut
                      clear hgF HKS HFX HFY LX MX LY MY HP0
                      have FX := Lib.hid hF
                      clear hF
                      replace ST := Lib.hid (ST.out.via hb)
                      clear hb
                      generalize wc = W5 at *
                      go_upto_region 20 with (fail)
                      go_cut [19] from 85 to 143 (fun s wx => OrB W5 ls (NB ql (qU ah bh) (qV bh) false) s wx)
                      case first =>
                        as_aux_lemma =>
                        cases ls with
                        | true =>
                          go_wp2_with fail
                          go_meet
                          exact ⟨true, rfl, fun _ => rfl, fun _ => rfl, Below.refl _ _⟩
                        | false =>
                          have ⟨p0, p1, _, _, _⟩ := ST.out.q
                          have ⟨pF, qF, zF, AF, nF, cF, GF, mF, dF, hzF, hfF, hqF, haF, hbF⟩ := FX.out
                          have ⟨kF0, kF1, kF2, kF3, kF4, kF5, kF6, kF7, kFl⟩ := hqF
                          go_wp2_with fail
                          clear p0 p1 kF0 kF1 kF2 kF3 kF4 kF5 kF6 kF7 kFl hqF
                          refine (lnear_any _ ql zF AF GF nF mF cF dF 4 pF qF (qU ah bh) (qV bh) false hzF haF hbF hfF (by omega) (by omega) (by have := Rq.out.1; omega) (by have := Rq.out.2.1; omega) (qV_pos HY.out)).mono ?_
                          rintro e y1 ⟨b, rfl, hbi, hb⟩
                          clear hzF hfF haF hbF
                          go_wp2_with fail
                          go_meet
                          exact ⟨b, rfl, (fun h => by cases h), hbi.2, hb⟩
                      case rest =>
                        as_aux_lemma =>
                        obtain ⟨ls1, rfl, hls1a, hls1b, hb⟩ := hcut
                        have Hls1 := Lib.hid (And.intro hls1a hls1b)
                        clear hls1a hls1b
                        replace ST := Lib.hid (ST.out.via hb)
                        replace FX := Lib.hid (FX.out.via hb)
                        clear hb
                        generalize wc = Wx12 at *
                        cases mr with
                        | true =>
                          as_aux_lemma =>
                          go_wp2_with fail
                          go_roundg 0
                          case measure => omega
                          case rel => exact ⟨lw1, hg1, ls1, true, rfl, rfl, rfl, rfl, .inr (.inr ⟨rfl, rfl, HJ.out.step (show CX al ah 3 = ah from rfl) (show CY bl bh 3 = bh from rfl) Hlw1.out.1 Hlw1.out.2 Hhg1.out.1 Hhg1.out.2 Hls1.out.1 (fun _ => Hls1.out.2) (fun _ => rfl) (fun _ _ => rfl)⟩), ST.out⟩
                        | false =>
                          as_aux_lemma =>
                          have ⟨p0, p1, _, _, _⟩ := ST.out.q
                          have ⟨pF, qF, zF, AF, nF, cF, GF, mF, dF, hzF, hfF, hqF, haF, hbF⟩ := FX.out
                          have ⟨kF0, kF1, kF2, kF3, kF4, kF5, kF6, kF7, kFl⟩ := hqF
                          go_wp2_with fail
                          clear p0 p1 kF0 kF1 kF2 kF3 kF4 kF5 kF6 kF7 kFl hqF
                          refine (lnear_any _ qh zF AF GF nF mF cF dF 4 pF qF (qU ah bh) (qV bh) true hzF haF hbF hfF (by omega) (by omega) (by have := Rq.out.2.2.1; omega) (by have := Rq.out.2.2.2; omega) (qV_pos HY.out)).mono ?_
                          rintro e y1 ⟨b, rfl, hbi, hb⟩
                          clear hzF hfF haF hbF FX
                          replace ST := Lib.hid (ST.out.via hb)
                          have HB := Lib.hid hbi.2
                          clear hb hbi
                          go_wp2_with fail
                          go_roundg 0
                          case measure => omega
                          case rel => exact ⟨lw1, hg1, ls1, b, rfl, rfl, rfl, rfl, .inr (.inr ⟨rfl, rfl, HJ.out.step (show CX al ah 3 = ah from rfl) (show CY bl bh 3 = bh from rfl) Hlw1.out.1 Hlw1.out.2 Hhg1.out.1 Hhg1.out.2 Hls1.out.1 (fun _ => Hls1.out.2) (fun h => by cases h) (fun _ => HB.out)⟩), ST.out⟩
          · as_aux_lemma =>
            go_wp2_with fail
            go_roundg 0
            case measure => omega
            case rel => exact ⟨lw, hg, ls, mr, rfl, rfl, rfl, rfl, .inr (.inr ⟨rfl, rfl, hj⟩), st⟩
      · as_aux_lemma =>
        obtain ⟨x1, x2, x3, y1, y2, y3⟩ := HX.out
        obtain ⟨d1, d2, d3, d4⟩ := HD.out
        have HE0 : Hid (pe = 0 → lw = true ∧ hg = true) := fun h => hj.mul ⟨pl, ph, pe⟩ Op.out rfl rfl h
        have HE1 : Hid (qe = 0 → ls = true ∧ mr = true) := fun h => hj.div y2 ⟨ql, qh, qe⟩ Oq.out rfl rfl h
        have HE2 : Hid (se = 0 → den ≠ 0) := fun h hd => by
          have hs := Os.out
          unfold scO at hs
          rw [if_pos hd] at hs
          have : se = 18 := by injection hs
          omega
        have HE3 : Hid (se = 0 → NearLo sl (min (sN al num den) (sN ah num den)) (den.natAbs : Int) ∧ NearHi sh (max (sN al num den) (sN ah num den)) (den.natAbs : Int)) := fun h => by
          have hz := HE2.out h
          have hs := Os.out
          have he : (scO al ah num den).err = 0 := by rw [← hs]; exact h
          have k := least_scale hz he
          rw [← hs] at k
          exact k
        have ST := Lib.hid st
        clear st hj x1 x2 x3 y1 y2 y3 d1 d2 d3 d4
        go_upto_region 22 with (fail)
        generalize wr = WB at *
        go_cut [173] (fun s wx => s = .bool false ∧ wx = WB)
        case first =>
          as_aux_lemma =>
          by_cases h0 : pe = 0
          · obtain ⟨e1, e2⟩ := HE0.out h0
            subst e1
            subst e2
            subst h0
            by_cases h1 : qe = 0
            · obtain ⟨e1, e2⟩ := HE1.out h1
              subst e1
              subst e2
              subst h1
              by_cases h2 : se = 0
              · have hd := HE2.out h2
                have kd1 : decide (den = 0) = false := decide_eq_false hd
                have kd2 : (den == 0) = false := by simp [hd]
                subst h2
                clear HE0 HE1 HE2 HE3
                go_wp2_with fail
                go_meet
                exact ⟨rfl, rfl⟩
              · have k2a : decide (se = 0) = false := decide_eq_false h2
                have k2b : (se == 0) = false := by simp [h2]
                clear HE0 HE1 HE2 HE3
                go_wp2_with fail
                go_meet
                exact ⟨rfl, rfl⟩
            · have k1a : decide (qe = 0) = false := decide_eq_false h1
              have k1b : (qe == 0) = false := by simp [h1]
              by_cases h2 : se = 0
              · have hd := HE2.out h2
                have kd1 : decide (den = 0) = false := decide_eq_false hd
                have kd2 : (den == 0) = false := by simp [hd]
                subst h2
                clear HE0 HE1 HE2 HE3
                go_wp2_with fail
                go_meet
                exact ⟨rfl, rfl⟩
              · have k2a : decide (se = 0) = false := decide_eq_false h2
                have k2b : (se == 0) = false := by simp [h2]
                clear HE0 HE1 HE2 HE3
                go_wp2_with fail
                go_meet
                exact ⟨rfl, rfl⟩
          · have k0a : decide (pe = 0) = false := decide_eq_false h0
            have k0b : (pe == 0) = false := by simp [h0]
            by_cases h1 : qe = 0
            · obtain ⟨e1, e2⟩ := HE1.out h1
              subst e1
              subst e2
              subst h1
              by_cases h2 : se = 0
              · have hd := HE2.out h2
                have kd1 : decide (den = 0) = false := decide_eq_false hd
                have kd2 : (den == 0) = false := by simp [hd]
                subst h2
                clear HE0 HE1 HE2 HE3
                go_wp2_with fail
                go_meet
                exact ⟨rfl, rfl⟩
              · have k2a : decide (se = 0) = false := decide_eq_false h2
                have k2b : (se == 0) = false := by simp [h2]
                clear HE0 HE1 HE2 HE3
                go_wp2_with fail
                go_meet
                exact ⟨rfl, rfl⟩
            · have k1a : decide (qe = 0) = false := decide_eq_false h1
              have k1b : (qe == 0) = false := by simp [h1]
              by_cases h2 : se = 0
              · have hd := HE2.out h2
                have kd1 : decide (den = 0) = false := decide_eq_false hd
                have kd2 : (den == 0) = false := by simp [hd]
                subst h2
                clear HE0 HE1 HE2 HE3
                go_wp2_with fail
                go_meet
                exact ⟨rfl, rfl⟩
              · have k2a : decide (se = 0) = false := decide_eq_false h2
                have k2b : (se == 0) = false := by simp [h2]
                clear HE0 HE1 HE2 HE3
                go_wp2_with fail
                go_meet
                exact ⟨rfl, rfl⟩
        case rest =>
          as_aux_lemma =>
          obtain ⟨rfl, rfl⟩ := hcut
          generalize wc = WB at *
          clear HE0 HE1 Op Oq Os
          by_cases hs : se = 0
          · as_aux_lemma =>
            have hz := HE2.out hs
            have HZ := Lib.hid hz
            obtain ⟨k1, k2⟩ := HE3.out hs
            subst hs
            have HN : Hid (NearLo sl (min (sN al num den) (sN ah num den)) (den.natAbs : Int) ∧ NearHi sh (max (sN al num den) (sN ah num den)) (den.natAbs : Int)) := ⟨k1, k2⟩
            clear hz k1 k2 HE2 HE3
            obtain ⟨d1, d2, d3, d4⟩ := HD.out
            have hD : 0 < (den.natAbs : Int) := by have := HZ.out; omega
            have cO := fun W => rof_f W num den d1 d2 d3 d4 HZ.out
            have e1 : sN al num den = al * (if den < 0 then -num else num) := by unfold sN; split <;> (first | rw [Int.mul_neg] | rfl)
            have e2 : sN ah num den = ah * (if den < 0 then -num else num) := by unfold sN; split <;> (first | rw [Int.mul_neg] | rfl)
            rw [e1, e2] at HN
            clear e1 e2 d1 d2 d3 d4
            generalize (if den < 0 then -num else num) = NN at *
            generalize (den.natAbs : Int) = DD at *
            have CO := Lib.hid cO
            have HDD := Lib.hid hD
            clear cO hD
            go_wp2_with fail
            refine (CO.out _).mono ?_
            rintro e v1 ⟨pb, qb, zb, Ab, nb, cb, Gb, mb, db, hzb, hfb, rfl, hL, hM, hb⟩
            replace ST := Lib.hid (ST.out.via hb)
            clear hb
            go_upto_region 27 with (fail)
            replace ST := Lib.hid (ST.out.alloc (.cells #[.bool zb, .slice Ab nb cb, .bool false, .slice Gb mb db] 31))
            have BB := Lib.hid (Fx.new 31 hzb hfb hL hM)
            clear hzb hfb hL hM CO
            generalize v1.heap.size = gB at *
            generalize v1.alloc (.cells #[.bool zb, .slice Ab nb cb, .bool false, .slice Gb mb db] 31) = V1 at *
            as_aux_lemma =>
            have ⟨px, qx, zx, Ax, nx, cx, Gx, mx, dx, hzx, hfx, x0, x1, x2, x3, xl, hax, hbx⟩ := ST.out.a0
            have ⟨pb, qb, zb, Ab, nb, cb, Gb, mb, db, hzb, hfb, hqb, hab, hbb⟩ := BB.out
            have ⟨kb0, kb1, kb2, kb3, kb4, kb5, kb6, kb7, kbl⟩ := hqb
            go_wp2_with fail
            clear x0 x1 x2 x3 xl kb0 kb1 kb2 kb3 kb4 kb5 kb6 kb7 kbl hqb
            refine (rtimes_f _ zx zb Ax Gx Ab Gb nx mx nb mb cx dx cb db 2 px qx pb qb al 1099511627776 NN DD hzx hzb hax hbx hab hbb hfx hfb (by omega)).mono ?_
            rintro e v2 ⟨pX, qX, zX, AX, nX, cX, GX, mX, dX, hzX, hfX, rfl, hL, hM, hb⟩
            clear hzx hfx hax hbx hzb hfb hab hbb
            replace ST := Lib.hid (ST.out.via hb)
            replace BB := Lib.hid (BB.out.via hb)
            clear hb
            go_upto_region 28 with (fail)
            have hlX : gXS < v2.heap.size := ST.out.s.lt
            have HWX : w.heap.size ≤ v2.heap.size := ST.out.below.size
            replace ST := Lib.hid (ST.out.alloc (.cells #[.bool zX, .slice AX nX cX, .bool false, .slice GX mX dX] 31))
            replace BB := Lib.hid (BB.out.alloc (.cells #[.bool zX, .slice AX nX cX, .bool false, .slice GX mX dX] 31))
            have FX := Lib.hid (Fx.new 31 hzX hfX hL hM)
            clear hzX hfX hL hM
            generalize v2.heap.size = gX at *
            generalize v2.alloc (.cells #[.bool zX, .slice AX nX cX, .bool false, .slice GX mX dX] 31) = V2 at *
            as_aux_lemma =>
            have ⟨px, qx, zx, Ax, nx, cx, Gx, mx, dx, hzx, hfx, x0, x1, x2, x3, xl, hax, hbx⟩ := ST.out.a1
            have ⟨pb, qb, zb, Ab, nb, cb, Gb, mb, db, hzb, hfb, hqb, hab, hbb⟩ := BB.out
            have ⟨kb0, kb1, kb2, kb3, kb4, kb5, kb6, kb7, kbl⟩ := hqb
            go_wp2_with fail
            clear x0 x1 x2 x3 xl kb0 kb1 kb2 kb3 kb4 kb5 kb6 kb7 kbl hqb
            refine (rtimes_f _ zx zb Ax Gx Ab Gb nx mx nb mb cx dx cb db 2 px qx pb qb ah 1099511627776 NN DD hzx hzb hax hbx hab hbb hfx hfb (by omega)).mono ?_
            rintro e v3 ⟨pY, qY, zY, AY, nY, cY, GY, mY, dY, hzY, hfY, rfl, hL, hM, hb⟩
            clear hzx hfx hax hbx hzb hfb hab hbb
            replace ST := Lib.hid (ST.out.via hb)
            replace BB := Lib.hid (BB.out.via hb)
            replace FX := Lib.hid (FX.out.via hb)
            clear hb
            go_upto_region 29 with (fail)
            have hlY : gXS < v3.heap.size := ST.out.s.lt
            have hlXY : gX < v3.heap.size := FX.out.lt
            replace ST := Lib.hid (ST.out.alloc (.cells #[.bool zY, .slice AY nY cY, .bool false, .slice GY mY dY] 31))
            replace BB := Lib.hid (BB.out.alloc (.cells #[.bool zY, .slice AY nY cY, .bool false, .slice GY mY dY] 31))
            replace FX := Lib.hid (FX.out.alloc (.cells #[.bool zY, .slice AY nY cY, .bool false, .slice GY mY dY] 31))
            have FY := Lib.hid (Fx.new 31 hzY hfY hL hM)
            clear hzY hfY hL hM
            generalize v3.heap.size = gY at *
            generalize v3.alloc (.cells #[.bool zY, .slice AY nY cY, .bool false, .slice GY mY dY] 31) = V3 at *
            as_aux_lemma =>
            have XS := Lib.hid ST.out.s
            have BX := Lib.hid ST.out.below
            clear ST BB
            have ⟨pf, qf, zf, Af, nf, cf, Gf, mf, df, hzf, hff, hqf, haf, hbf⟩ := FX.out
            have ⟨kf0, kf1, kf2, kf3, kf4, kf5, kf6, kf7, kfl⟩ := hqf
            have ⟨pg, qg, zg, Ag, ng, cg, Gg, mg, dg, hzg, hfg, hqg, hag, hbg⟩ := FY.out
            have ⟨kg0, kg1, kg2, kg3, kg4, kg5, kg6, kg7, kgl⟩ := hqg
            go_wp2_with fail
            clear kf0 kf1 kf2 kf3 kf4 kf5 kf6 kf7 kfl hqf kg0 kg1 kg2 kg3 kg4 kg5 kg6 kg7 kgl hqg
            refine (rcmp_f _ zf zg Af Gf Ag Gg nf mf ng mg cf df cg dg 4 pf qf pg qg (al * NN) (1099511627776 * DD) (ah * NN) (1099511627776 * DD) hzf hzg haf hbf hag hbg hff hfg (by omega) (by have := HDD.out; omega) (by have := HDD.out; omega)).mono ?_
            rintro e v4 ⟨c, rfl, hc, _, hb⟩
            clear hzf hff haf hbf hzg hfg hag hbg
            replace FX := Lib.hid (FX.out.via hb)
            replace FY := Lib.hid (FY.out.via hb)
            replace XS := Lib.hid (XS.out.via hb)
            replace BX := Lib.hid (sbtr BX.out hb)
            have HC := Lib.hid hc
            clear hb hc
            go_upto_region 30 with (fail)
            have hle : c ≤ 0 ↔ al * NN ≤ ah * NN := by
              have hD := HDD.out
              have hkD : 0 < 1099511627776 * DD := by omega
              rw [HC.out]
              exact ⟨fun h => Int.le_of_mul_le_mul_right h hkD, fun h => Int.mul_le_mul_of_nonneg_right h (by omega)⟩
            have HL := Lib.hid hle
            clear hle HC
            obtain ⟨U1, hU1⟩ : ∃ U, min (al * NN) (ah * NN) = U := ⟨_, rfl⟩
            obtain ⟨U2, hU2⟩ : ∃ U, max (al * NN) (ah * NN) = U := ⟨_, rfl⟩
            rw [hU1, hU2] at HN
            have HU := Lib.hid (And.intro hU1 hU2)
            clear hU1 hU2
            go_upto_if 204 with (fail)
            go_cut [] from 203 to 206 (fun wx => Fx wx gX 4 U1 (1099511627776 * DD) ∧ Fx wx gY 4 U2 (1099511627776 * DD) ∧ Pr wx gXS (.int .i64 sl) (.int .i64 sh) ∧ Below w.heap.size w wx)
            case first =>
              as_aux_lemma =>
              by_cases hcc : c ≤ 0
              · have k1 : decide (0 < c) = false := decide_eq_false (by omega)
                have hle := HL.out.1 hcc
                have e1 : U1 = al * NN := by rw [← HU.out.1]; omega
                have e2 : U2 = ah * NN := by rw [← HU.out.2]; omega
                subst e1
                subst e2
                clear hle HU HN HL
                go_wp2_with fail
                go_meet
                exact ⟨FX.out, FY.out, XS.out, BX.out⟩
              · have k1 : 0 < c := by omega
                have hle : ¬ al * NN ≤ ah * NN := fun h => hcc (HL.out.2 h)
                have e1 : U1 = ah * NN := by rw [← HU.out.1]; omega
                have e2 : U2 = al * NN := by rw [← HU.out.2]; omega
                subst e1
                subst e2
                clear hle HU HN HL
                have ⟨pf, qf, zf, Af, nf, cf, Gf, mf, df, hzf, hff, hqf, haf, hbf⟩ := FX.out
                have ⟨kf0, kf1, kf2, kf3, kf4, kf5, kf6, kf7, kfl⟩ := hqf
                have ⟨pg, qg, zg, Ag, ng, cg, Gg, mg, dg, hzg, hfg, hqg, hag, hbg⟩ := FY.out
                have ⟨kg0, kg1, kg2, kg3, kg4, kg5, kg6, kg7, kgl⟩ := hqg
                have HQf := Lib.hid (Qd.mk kf0 kf1 kf2 kf3 kf4 kf5 kf6 kf7 kfl)
                have HQg := Lib.hid (Qd.mk kg0 kg1 kg2 kg3 kg4 kg5 kg6 kg7 kgl)
                have Xf : Hid (Fd v4 4 (al * NN) (1099511627776 * DD) zf Af nf cf Gf mf df) := ⟨pf, qf, hzf, hff, haf, hbf⟩
                have Xg : Hid (Fd v4 4 (ah * NN) (1099511627776 * DD) zg Ag ng cg Gg mg dg) := ⟨pg, qg, hzg, hfg, hag, hbg⟩
                have hne : gX ≠ gY := by omega
                have hne1 : ¬ gX = gY := hne
                have hne2 : ¬ gY = gX := fun e => hne e.symm
                have hs1 : gXS ≠ gX := by omega
                have hs2 : gXS ≠ gY := by omega
                have hw1 : w.heap.size ≤ gX := HWX
                have hw2 : w.heap.size ≤ gY := by omega
                clear hzf hff haf hbf hzg hfg hag hbg FX FY
                have HQ2 := HQg.out.far (h := gX) hne2 (.bool zg) (.slice Ag ng cg) (.bool false) (.slice Gg mg dg)
                go_wp2_with (first
                  | (refine wpList_store_qd HQf.out rfl _ _ rfl zg false Ag Gg ng cg mg dg rfl rfl ?_)
                  | (refine wpList_store_qd HQ2 rfl _ _ rfl zf false Af Gf nf cf mf df rfl rfl ?_)
                  | (refine wpList_load_qd HQg.out rfl _ rfl rfl ?_)
                  | (refine wpList_load_qd HQf.out rfl _ rfl rfl ?_))
                go_meet
                with_reducible exact ⟨((Xg.out.put4 HQf.out _ _ _ _).put4 HQ2 _ _ _ _).fx ((HQf.out.set _ _ _ _).far hne _ _ _ _), ((Xf.out.put4 HQf.out _ _ _ _).put4 HQ2 _ _ _ _).fx (HQ2.set _ _ _ _), (XS.out.far4 hs1 _ _ _ _).far4 hs2 _ _ _ _, below_put4 (below_put4 BX.out hw1 _ _ _ _) hw2 _ _ _ _⟩
            case rest =>
              as_aux_lemma =>
              obtain ⟨hX, hY, hS, hB⟩ := hcut
              clear FX FY XS BX HL
              have FX := Lib.hid hX
              have FY := Lib.hid hY
              have XS := Lib.hid hS
              have BX := Lib.hid hB
              clear hX hY hS hB
              generalize wc = V8 at *
              as_aux_lemma =>
              have ⟨s0, s1, _, _, _⟩ := XS.out
              have ⟨pF, qF, zF, AF, nF, cF, GF, mF, dF, hzF, hfF, hqF, haF, hbF⟩ := FX.out
              have ⟨kF0, kF1, kF2, kF3, kF4, kF5, kF6, kF7, kFl⟩ := hqF
              go_wp2_with fail
              clear s0 s1 kF0 kF1 kF2 kF3 kF4 kF5 kF6 kF7 kFl hqF
              refine (lnear_any _ sl zF AF GF nF mF cF dF 4 pF qF (U1) (1099511627776 * DD) false hzF haF hbF hfF (by omega) (by omega) (by have := Rs.out.1; omega) (by have := Rs.out.2.1; omega) (by have := HDD.out; omega)).mono ?_
              rintro e y1 ⟨b, rfl, hbi, hb⟩
              clear hzF hfF haF hbF
              obtain rfl : b = true := hbi.2 (by
                have hn := HN.out.1
                have hD := HDD.out
                unfold NB
                unfold NearLo at hn
                rw [if_neg (by decide)]
                have e5 : sl * (1099511627776 * DD) = sl * DD * 1099511627776 := by rw [Int.mul_comm 1099511627776, ← Int.mul_assoc]
                rw [e5]
                omega)
              replace FY := Lib.hid (FY.out.via hb)
              replace XS := Lib.hid (XS.out.via hb)
              replace BX := Lib.hid (sbtr BX.out hb)
              clear hb hbi
              as_aux_lemma =>
              have ⟨s0, s1, _, _, _⟩ := XS.out
              have ⟨pF, qF, zF, AF, nF, cF, GF, mF, dF, hzF, hfF, hqF, haF, hbF⟩ := FY.out
              have ⟨kF0, kF1, kF2, kF3, kF4, kF5, kF6, kF7, kFl⟩ := hqF
              go_wp2_with fail
              clear s0 s1 kF0 kF1 kF2 kF3 kF4 kF5 kF6 kF7 kFl hqF
              refine (lnear_any _ sh zF AF GF nF mF cF dF 4 pF qF (U2) (1099511627776 * DD) true hzF haF hbF hfF (by omega) (by omega) (by have := Rs.out.2.2.1; omega) (by have := Rs.out.2.2.2; omega) (by have := HDD.out; omega)).mono ?_
              rintro e y2 ⟨b, rfl, hbi, hb⟩
              clear hzF hfF haF hbF
              obtain rfl : b = true := hbi.2 (by
                have hn := HN.out.2
                have hD := HDD.out
                unfold NB
                unfold NearHi at hn
                rw [if_pos rfl]
                have e5 : sh * (1099511627776 * DD) = sh * DD * 1099511627776 := by rw [Int.mul_comm 1099511627776, ← Int.mul_assoc]
                rw [e5]
                omega)
              replace XS := Lib.hid (XS.out.via hb)
              replace BX := Lib.hid (sbtr BX.out hb)
              clear hb hbi
              go_wp2
              go_ret
              exact ⟨rfl, BX.out⟩
          · have k1 : decide (se = 0) = false := decide_eq_false hs
            have k2 : (se == 0) = false := by simp [hs]
            clear HE2 HE3
            go_wp2
            go_ret
            exact ⟨rfl, ST.out.below⟩
theorem least_any (w : World) (al ah bl bh num den : Int) (d1 : -9223372036854775808 ≤ num) (d2 : num ≤ 9223372036854775807) (d3 : -9223372036854775808 ≤ den) (d4 : den ≤ 9223372036854775807) : Calls Tryz.prog 4 #[iv al ah, iv bl bh, .int .i64 num, .int .i64 den] w (RB1 w true) := by
  rcases ivC_cases al ah with ⟨h1, x1, x2, x3⟩ | ⟨h1, _⟩
  · rcases ivC_cases bl bh with ⟨h2, y1, y2, y3⟩ | ⟨h2, _⟩
    · exact least_main w al ah bl bh num den d1 d2 d3 d4 h1 h2 x1 x2 x3 y1 y2 y3
    · exact least_bad2 w al ah bl bh num den h1 h2
  · exact least_bad1 w al ah bl bh num den h1
end Go.Proofs.YtffblodpgcifcaaGreatDoor

namespace Go.Proofs.YtffblodpgcifcaaGreatDoor
open Go.ChangeShapes Go.WideShapes Go.ChangeAt Go.RowKit

theorem own : ownKnob Tryz.prog.godebug = none := by kernel_rfl
section
variable {H : Type} {enc : TypeId × Value → H} {P : Program} {w : World} {base : Nat} {spare : TypeId → Bool} {held : Bool}
theorem trodAll_four {t t' t'' t3 : TypeId} {args : Array Value} {ds : List (DataW H)} {ps : List MemPlace} (h : DataW.TrodAll enc P w base spare held [t, t', t'', t3] args.toList ds ps) :
    ∃ v v' v'' v3 d d' d'' d3 p p' p'' p3, args = #[v, v', v'', v3] ∧ ds = [d, d', d'', d3] ∧ ps = p ++ p' ++ p'' ++ p3 ∧ DataW.Trod enc P w base spare held t v d p ∧ DataW.Trod enc P w base spare held t' v' d' p' ∧ DataW.Trod enc P w base spare held t'' v'' d'' p'' ∧ DataW.Trod enc P w base spare held t3 v3 d3 p3 := by
  obtain ⟨v, vs, d, ds', p, q, hargs, rfl, rfl, hd, hrest⟩ := trodAll_cons h
  obtain ⟨v', vs', d', ds'', p', q', rfl, rfl, rfl, hd', hrest'⟩ := trodAll_cons hrest
  obtain ⟨v'', vs'', d'', dsc, p'', q'', rfl, rfl, rfl, hd'', hrest''⟩ := trodAll_cons hrest'
  obtain ⟨v3, vs3, d3, ds3, p3, q3, rfl, rfl, rfl, hd3, hrest3⟩ := trodAll_cons hrest''
  obtain ⟨rfl, rfl, rfl⟩ := trodAll_nil hrest3
  exact ⟨v, v', v'', v3, d, d', d'', d3, p, p', p'', p3, by cases args; simp_all, rfl, by simp, hd, hd', hd'', hd3⟩
end
/-- The one table that this law reads. -/
def laid1 : List (String × DataW Unit) := [("math/bits.deBruijn32tab", Rows.laid_math_bits_deBruijn32tab)]
theorem door_met1 (os : Os) (args : Array Value) : laidMetH Tryz.prog laid1 ((World.doorLaid Tryz.prog 24 os).forCall (fun _ _ => 0) ⟨#[], args, []⟩).memory :=
  laidMetH_of_parts3 (fuel := 8) (laidMet_of_run' 8 (by kernel_rfl) (by kernel_rfl)) (by kernel_rfl) (by kernel_rfl)

set_option maxRecDepth 100000 in
theorem spanLeast_lifted (os : Os) (started : os.Started) (H : Type) (enc : TypeId × Value → H) :
    ReturnsInHanded {} Tryz.checked os 4 .any (fun w args => (Rows.spanLeastSpec.pre enc Tryz.prog Tryz.f4 [] false w args ∧ laidMetH Tryz.prog laid1 w) ∧ sizedMet enc Tryz.prog Tryz.f4 (OpenSpec.ofChange Rows.spanLeastSpec) false w args)
      (Rows.spanLeastSpec.post enc Tryz.prog Tryz.f4 false true false false) := by
  refine returnsInHanded_of_change_and (C := Tryz.checked) (X := fun w _ => laidMetH Tryz.prog laid1 w) (fun _ _ _ hh h => h.of_heap hh) own started (by kernel_rfl) Tryz.func4
    (ChangeSpec.witness_shaped (enc := enc) (C := Tryz.checked) (os := os) (X := fun w _ => laidMetH Tryz.prog laid1 w) false (World.doorLaid Tryz.prog 24 os) #[.agg #[.int .i64 0, .int .i64 0], .agg #[.int .i64 0, .int .i64 0], .int .i64 0, .int .i64 0] 8 rfl (World.shaped_of_RefB (by kernel_rfl) (by kernel_rfl)) (by kernel_rfl) (by kernel_rfl) (by kernel_rfl) (door_met1 os _)) ?_
  intro W base args ds gs before hval0 hW _ _ hL _
  have hval : ∀ (j : Nat) t v, Tryz.f4.params[j]? = some t → args[j]? = some v → Value.okWide Tryz.prog W .any base t v := hval0
  have hW' := hW
  obtain ⟨p, q, hA0, hV, rfl, hfz, hnd⟩ := hW
  have hA : DataW.TrodAll enc Tryz.prog W 0 (fun _ => true) true Tryz.f4.params.toList args.toList ds p := hA0
  rw [Tryz.params4] at hA hval
  obtain ⟨v0, v1, v2, v3, d0, d1, d2, d3, p0, p1, p2, p3, rfl, rfl, rfl, h0, h1, h2, h3⟩ := trodAll_four hA
  obtain ⟨rfl, rfl⟩ := trodVars_none hV
  obtain ⟨i2, rfl, rfl, rfl, wi2⟩ := open_int Tryz.underlying2 (hval 2 2 v2 rfl rfl) h2
  obtain ⟨i3, rfl, rfl, rfl, wi3⟩ := open_int Tryz.underlying2 (hval 3 2 v3 rfl rfl) h3
  clear hA0 hval0
  try (simp only [List.append_nil] at hW')
  have hlt : ∀ x ∈ p0 ++ p1, x.block < W.heap.size := fun x hx => by simpa using hW'.lt x hx
  have hlt0 : ∀ x ∈ p0, x.block < W.heap.size := fun x hx => hlt x (List.mem_append_left _ hx)
  have hlt1 : ∀ x ∈ p1, x.block < W.heap.size := fun x hx => hlt x (List.mem_append_right _ hx)
  obtain ⟨al, ah, rfl, _, _, _, _⟩ := open_iv (hval 0 23 v0 rfl rfl) h0
  obtain ⟨bl, bh, rfl, _, _, _, _⟩ := open_iv (hval 1 23 v1 rfl rfl) h1
  have hk : ∀ z : Int, (Lit.int .i64 z).wf = true → -9223372036854775808 ≤ z ∧ z ≤ 9223372036854775807 := by
    intro z wz
    have e1 : IntKind.i64.min = -9223372036854775808 := rfl
    have e2 : IntKind.i64.max = 9223372036854775807 := rfl
    simp only [Lit.wf, Bool.and_eq_true, decide_eq_true_eq] at wz
    omega
  refine (least_any W al ah bl bh i2 i3 (hk _ wi2).1 (hk _ wi2).2 (hk _ wi3).1 (hk _ wi3).2).mono fun e W' ⟨he, hb⟩ => ?_
  subst he
  exact ⟨_, rfl, _, _, _, [], p0 ++ p1, [], hW', trodAll_mk1 (shut_bool Tryz.underlying4 _),
    (by have e := trodAll_mk4 (Below.trod laidOutS (by kernel_rfl) (of_decide_eq_true (by kernel_rfl)) h0 hb hlt0) (Below.trod laidOutS (by kernel_rfl) (of_decide_eq_true (by kernel_rfl)) h1 hb hlt1) (shut_int Tryz.underlying2 wi2) (shut_int Tryz.underlying2 wi3); (try (simp only [List.append_nil] at e)); (try (simp only [List.nil_append] at e)); exact e), rfl, hb.frame _, fun h => by cases h⟩

theorem spanLeast_row : Rows.SpanLeastSaid :=
  OpenClaim.holds_of_wide 4 Tryz.f4 rfl rfl rfl rfl rfl rfl rfl ⟨rfl, rfl, rfl, rfl, rfl⟩ rfl rfl rfl rfl rfl (by kernel_rfl) Tryz.func4 (by kernel_rfl)
    (of_decide_eq_true (by kernel_rfl)) (by unfold Func.isWrapper; first | (rw [if_pos (by decide +kernel)]; kernel_rfl) | (rw [if_neg (by decide +kernel)]; exact ⟨rfl, rfl⟩))
    (fun os started H enc _ => spanLeast_lifted os started H enc)

theorem spanLeast_holds : Rows.SpanLeastCardSaid :=
  Claim7.holds_tied_plain_at .later [] [.data] true (Rows.spanLeastCard.stood.harness) false
    spanLeast_row (fun _ h => by cases h) (by kernel_rfl) (fun _ h => by cases h) spanLeast_row_tie rfl ⟨rfl, rfl⟩ (by kernel_rfl) rfl
    (fun f fn hf hfn => by
      obtain rfl : f = 4 := Option.some.inj ((show Tryz.prog.funcNamed "planisphere/planispherelaw03.SpanLeast" = some 4 by kernel_rfl).symm.trans hf) |>.symm
      obtain rfl : fn = Tryz.f4 := (Option.some.inj (Tryz.func4.symm.trans hfn)).symm
      exact ⟨by kernel_rfl, fun j t ht => by
        rw [Tryz.params4] at ht
        have hm : t ∈ [23, 23, 2, 2] := by simpa using Array.mem_of_getElem? ht
        have hall : ([23, 23, 2, 2].all fun u => !Tryz.prog.wantsStandIn u) = true := by kernel_rfl
        exact (show Tryz.prog.wantsStandIn t = false by simpa using List.all_eq_true.1 hall t hm)⟩)
    (by kernel_rfl)
end Go.Proofs.YtffblodpgcifcaaGreatDoor

