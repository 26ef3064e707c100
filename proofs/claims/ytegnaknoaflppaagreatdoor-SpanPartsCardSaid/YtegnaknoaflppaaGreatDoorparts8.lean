
/-
  For any two intervals a and b and any four indices the law SpanParts returns true: the chapter's examples hold, and if both intervals are valid, the parts of a and of b that the indices name have parts of the results of Mul, Div, Sq and Sub, In reports that the part of a is in a, Meet of both is the part and Hull of both is a. Condition: none.
-/
import Derived.Test.YtegnaknoaflppaaGreatDoorRows
import Derived.Test.YtegnaknoaflppaaGreatDoorTie
import Derived.Test.YtegnaknoaflppaaGreatDoorCards
import Derived.Carry
import Derived.LaidMore
import Derived.OpenShut
import Derived.Stop.LaidErr
import Derived.MakeChecks
import Derived.SevenTiedAt
import Derived.Test.YtegnaknoaflppaaGreatDoorparts7
/- The walk of the law SpanParts. -/
namespace Go.Proofs.YtegnaknoaflppaaGreatDoor
open Go.RowKit

def ptV (lo hi k : Int) : Int := lo + k % (hi - lo + 1)
theorem ptV_in {lo hi k : Int} (h : lo ≤ hi) : lo ≤ ptV lo hi k ∧ ptV lo hi k ≤ hi := by
  have h1 := Int.emod_nonneg k (show hi - lo + 1 ≠ 0 by omega)
  have h2 := Int.emod_lt_of_pos k (show 0 < hi - lo + 1 by omega)
  unfold ptV; omega
set_option maxRecDepth 100000 in
set_option maxHeartbeats 1000000 in
theorem lpoint_any (w : World) (lo hi k : Int) (h1 : -2305843009213693952 ≤ lo) (h2 : lo ≤ hi) (h3 : hi ≤ 2305843009213693952) (k0 : 0 ≤ k) (_k1 : k ≤ 18446744073709551615) :
    Calls Tryz.prog 20 #[iv lo hi, .int .u64 k] w (RN1 w (ptV lo hi k)) := by
  have hm1 := Int.emod_nonneg k (show hi - lo + 1 ≠ 0 by omega)
  have hm2 := Int.emod_lt_of_pos k (show 0 < hi - lo + 1 by omega)
  have ht : k.tmod (hi - lo + 1) = k % (hi - lo + 1) := Int.tmod_eq_emod_of_nonneg k0
  obtain ⟨t, htt⟩ : ∃ t, k % (hi - lo + 1) = t := ⟨_, rfl⟩
  have HV : Hid (ptV lo hi k = lo + t) := by show _ = _; unfold ptV; rw [htt]
  rw [htt] at hm1 hm2 ht
  have e1 : IntKind.i64.wrap (hi - lo) = hi - lo := IntWalk.i64_in _ (by omega)
  have e2 : IntKind.u64.wrap (hi - lo) = hi - lo := by rw [IntKind.wrap_u64]; omega
  have e3 : IntKind.u64.wrap (hi - lo + 1) = hi - lo + 1 := by rw [IntKind.wrap_u64]; omega
  have e4 : IntKind.i64.wrap t = t := IntWalk.i64_in _ (by omega)
  have e5 : IntKind.i64.wrap (lo + t) = lo + t := IntWalk.i64_in _ (by omega)
  have e6 : (hi - lo + 1 == 0) = false := by simp; omega
  have e7 : ¬ hi - lo + 1 = 0 := by omega
  have e8 : IntKind.u64.wrap t = t := by rw [IntKind.wrap_u64]; omega
  have QA := Lib.hid (Pr.new w w.heap.size rfl (.int .i64 lo) (.int .i64 hi) 23)
  have BW : Hid (Below w.heap.size w (w.alloc (ivB lo hi))) := sbal (Below.refl _ _) _
  clear h1 h2 h3 k0 hm1 hm2
  go_enter Tryz.func20, Tryz.ntmps20
  go_upto_region 2 with (fail)
  generalize w.alloc (ivB lo hi) = W0 at *
  have ⟨a0, a1, _, _, _⟩ := QA.out
  go_region
  all_goals
    go_wp2
    go_ret
    exact ⟨ret_int HV.out.symm, bdrewN BW.out 1⟩
set_option maxRecDepth 100000 in
set_option maxHeartbeats 16000000 in
theorem parts_bad1 (w : World) (al ah bl bh k l m n : Int) (h1 : ivC al ah = 8) : Calls Tryz.prog 4 #[iv al ah, iv bl bh, .int .u64 k, .int .u64 l, .int .u64 m, .int .u64 n] w (RB1 w true) := by
  have QA := Lib.hid ((Pr.new w w.heap.size rfl (.int .i64 al) (.int .i64 ah) 23).alloc (ivB bl bh))
  have QB := Lib.hid (Pr.new (w.alloc (ivB al ah)) (w.heap.size + 1) (by simp) (.int .i64 bl) (.int .i64 bh) 23)
  have BX : Hid (Below w.heap.size w ((w.alloc (ivB al ah)).alloc (ivB bl bh))) := sbal (sbal (Below.refl _ _) _) _
  go_enter Tryz.func4, Tryz.ntmps4
  go_upto_region 1 with (fail)
  generalize (w.alloc (ivB al ah)).alloc (ivB bl bh) = W0 at *
  have hz0 : w.heap.size < w.heap.size + 1 := by omega
  generalize w.heap.size + 1 = gb at *
  go_wp2_with fail
  refine (lalive_any _).mono ?_
  rintro e w1 ⟨rfl, hb⟩
  replace QA := Lib.hid (QA.out.via hb)
  replace QB := Lib.hid (QB.out.via hb)
  replace BX := Lib.hid (sbtr BX.out hb)
  clear hb
  have hc1 := fun W => rscheck_any W al ah
  rw [h1] at hc1
  have HC1 := Lib.hid hc1
  clear hc1 h1
  have ⟨rQA0, rQA1, rQA2, rQA3, rQA4⟩ := QA.out
  go_wp2_with fail
  clear rQA0 rQA1 rQA2 rQA3 rQA4
  refine (HC1.out _).mono ?_
  rintro e w2 ⟨rfl, hb⟩
  replace QA := Lib.hid (QA.out.via hb)
  replace QB := Lib.hid (QB.out.via hb)
  replace BX := Lib.hid (sbtr BX.out hb)
  clear hb
  go_wp2
  go_ret
  exact ⟨rfl, BX.out⟩
set_option maxRecDepth 100000 in
set_option maxHeartbeats 16000000 in
theorem parts_bad2 (w : World) (al ah bl bh k l m n : Int) (h1 : ivC al ah = 0) (h2 : ivC bl bh = 8) : Calls Tryz.prog 4 #[iv al ah, iv bl bh, .int .u64 k, .int .u64 l, .int .u64 m, .int .u64 n] w (RB1 w true) := by
  have QA := Lib.hid ((Pr.new w w.heap.size rfl (.int .i64 al) (.int .i64 ah) 23).alloc (ivB bl bh))
  have QB := Lib.hid (Pr.new (w.alloc (ivB al ah)) (w.heap.size + 1) (by simp) (.int .i64 bl) (.int .i64 bh) 23)
  have BX : Hid (Below w.heap.size w ((w.alloc (ivB al ah)).alloc (ivB bl bh))) := sbal (sbal (Below.refl _ _) _) _
  go_enter Tryz.func4, Tryz.ntmps4
  go_upto_region 1 with (fail)
  generalize (w.alloc (ivB al ah)).alloc (ivB bl bh) = W0 at *
  have hz0 : w.heap.size < w.heap.size + 1 := by omega
  generalize w.heap.size + 1 = gb at *
  go_wp2_with fail
  refine (lalive_any _).mono ?_
  rintro e w1 ⟨rfl, hb⟩
  replace QA := Lib.hid (QA.out.via hb)
  replace QB := Lib.hid (QB.out.via hb)
  replace BX := Lib.hid (sbtr BX.out hb)
  clear hb
  have hc1 := fun W => rscheck_any W al ah
  rw [h1] at hc1
  have HC1 := Lib.hid hc1
  have hc2 := fun W => rscheck_any W bl bh
  rw [h2] at hc2
  have HC2 := Lib.hid hc2
  clear hc1 h1 hc2 h2
  have ⟨rQA0, rQA1, rQA2, rQA3, rQA4⟩ := QA.out
  go_wp2_with fail
  clear rQA0 rQA1 rQA2 rQA3 rQA4
  refine (HC1.out _).mono ?_
  rintro e w2 ⟨rfl, hb⟩
  replace QA := Lib.hid (QA.out.via hb)
  replace QB := Lib.hid (QB.out.via hb)
  replace BX := Lib.hid (sbtr BX.out hb)
  clear hb
  have ⟨rQB0, rQB1, rQB2, rQB3, rQB4⟩ := QB.out
  go_wp2_with fail
  clear rQB0 rQB1 rQB2 rQB3 rQB4
  refine (HC2.out _).mono ?_
  rintro e w3 ⟨rfl, hb⟩
  replace QA := Lib.hid (QA.out.via hb)
  replace QB := Lib.hid (QB.out.via hb)
  replace BX := Lib.hid (sbtr BX.out hb)
  clear hb
  go_wp2
  go_ret
  exact ⟨rfl, BX.out⟩
set_option maxRecDepth 100000 in
set_option maxHeartbeats 16000000 in
theorem parts_main (w : World) (al ah bl bh k l m n : Int) (hk0 : 0 ≤ k) (hk1 : k ≤ 18446744073709551615) (hl0 : 0 ≤ l) (hl1 : l ≤ 18446744073709551615) (hm0 : 0 ≤ m) (hm1 : m ≤ 18446744073709551615) (hn0 : 0 ≤ n) (hn1 : n ≤ 18446744073709551615) (h1 : ivC al ah = 0) (h2 : ivC bl bh = 0) (x1 : -2305843009213693952 ≤ al) (x2 : al ≤ ah) (x3 : ah ≤ 2305843009213693952) (y1 : -2305843009213693952 ≤ bl) (y2 : bl ≤ bh) (y3 : bh ≤ 2305843009213693952) : Calls Tryz.prog 4 #[iv al ah, iv bl bh, .int .u64 k, .int .u64 l, .int .u64 m, .int .u64 n] w (RB1 w true) := by
  have hc1 := fun W => rscheck_any W al ah
  rw [h1] at hc1
  have HC1 := Lib.hid hc1
  have hc2 := fun W => rscheck_any W bl bh
  rw [h2] at hc2
  have HC2 := Lib.hid hc2
  have q1 := fun W => lpoint_any W al ah k x1 x2 x3 hk0 hk1
  have q2 := fun W => lpoint_any W al ah l x1 x2 x3 hl0 hl1
  have q3 := fun W => lpoint_any W bl bh m y1 y2 y3 hm0 hm1
  have q4 := fun W => lpoint_any W bl bh n y1 y2 y3 hn0 hn1
  have i1 := ptV_in (k := k) x2
  have i2 := ptV_in (k := l) x2
  have i3 := ptV_in (k := m) y2
  have i4 := ptV_in (k := n) y2
  generalize ptV al ah k = t1 at *
  generalize ptV al ah l = t2 at *
  generalize ptV bl bh m = t3 at *
  generalize ptV bl bh n = t4 at *
  have Q1 := Lib.hid q1
  have Q2 := Lib.hid q2
  have Q3 := Lib.hid q3
  have Q4 := Lib.hid q4
  clear hc1 hc2 q1 q2 q3 q4 hk0 hk1 hl0 hl1 hm0 hm1 hn0 hn1 h1 h2
  have HN : Hid (al ≤ min t1 t2 ∧ min t1 t2 ≤ max t1 t2 ∧ max t1 t2 ≤ ah ∧ bl ≤ min t3 t4 ∧ min t3 t4 ≤ max t3 t4 ∧ max t3 t4 ≤ bh) := by show _ ∧ _; omega
  have HX : Hid (-2305843009213693952 ≤ al ∧ al ≤ ah ∧ ah ≤ 2305843009213693952 ∧ -2305843009213693952 ≤ bl ∧ bl ≤ bh ∧ bh ≤ 2305843009213693952) := ⟨x1, x2, x3, y1, y2, y3⟩
  clear i1 i2 i3 i4 x1 x2 x3 y1 y2 y3
  have QA := Lib.hid ((Pr.new w w.heap.size rfl (.int .i64 al) (.int .i64 ah) 23).alloc (ivB bl bh))
  have QB := Lib.hid (Pr.new (w.alloc (ivB al ah)) (w.heap.size + 1) (by simp) (.int .i64 bl) (.int .i64 bh) 23)
  have BX : Hid (Below w.heap.size w ((w.alloc (ivB al ah)).alloc (ivB bl bh))) := sbal (sbal (Below.refl _ _) _) _
  go_enter Tryz.func4, Tryz.ntmps4
  go_upto_region 1 with (fail)
  generalize (w.alloc (ivB al ah)).alloc (ivB bl bh) = W0 at *
  have hz0 : w.heap.size < w.heap.size + 1 := by omega
  generalize w.heap.size + 1 = gb at *
  go_wp2_with fail
  refine (lalive_any _).mono ?_
  rintro e w1 ⟨rfl, hb⟩
  replace QA := Lib.hid (QA.out.via hb)
  replace QB := Lib.hid (QB.out.via hb)
  replace BX := Lib.hid (sbtr BX.out hb)
  clear hb
  have ⟨rQA0, rQA1, rQA2, rQA3, rQA4⟩ := QA.out
  go_wp2_with fail
  clear rQA0 rQA1 rQA2 rQA3 rQA4
  refine (HC1.out _).mono ?_
  rintro e w2 ⟨rfl, hb⟩
  replace QA := Lib.hid (QA.out.via hb)
  replace QB := Lib.hid (QB.out.via hb)
  replace BX := Lib.hid (sbtr BX.out hb)
  clear hb
  have ⟨rQB0, rQB1, rQB2, rQB3, rQB4⟩ := QB.out
  go_wp2_with fail
  clear rQB0 rQB1 rQB2 rQB3 rQB4
  refine (HC2.out _).mono ?_
  rintro e w3 ⟨rfl, hb⟩
  replace QA := Lib.hid (QA.out.via hb)
  replace QB := Lib.hid (QB.out.via hb)
  replace BX := Lib.hid (sbtr BX.out hb)
  clear hb
  go_wp2_with fail
  have HKS : Hid (∀ X : World, Below w3.heap.size w3 X → X.cell? ⟨w.heap.size, 0, none⟩ = some (.int .i64 al) ∧ X.cell? ⟨w.heap.size, 1, none⟩ = some (.int .i64 ah) ∧ X.cell? ⟨gb, 0, none⟩ = some (.int .i64 bl) ∧ X.cell? ⟨gb, 1, none⟩ = some (.int .i64 bh)) := fun X h => ⟨(QA.out.via h).c0, (QA.out.via h).c1, (QB.out.via h).c0, (QB.out.via h).c1⟩
  go_cut [14, 15, 16, 17] from 14 to 57 (fun s1 s2 s3 s4 wx => s1 = .int .i64 t1 ∧ s2 = .int .i64 t2 ∧ s3 = .int .i64 t3 ∧ s4 = .int .i64 t4 ∧ Below w3.heap.size w3 wx)
  case first =>
    go_region_held3 (fun X => X.cell? ⟨w.heap.size, 0, none⟩ = some (.int .i64 al) ∧ X.cell? ⟨w.heap.size, 1, none⟩ = some (.int .i64 ah) ∧ X.cell? ⟨gb, 0, none⟩ = some (.int .i64 bl) ∧ X.cell? ⟨gb, 1, none⟩ = some (.int .i64 bh))
      (first | exact HKS.out _ (Below.refl _ _) | exact HKS.out _ (Below.refl _ _).drew | exact HKS.out _ E3 | exact HKS.out _ E2 | exact HKS.out _ E1 | exact HKS.out _ E0)
      (first
       | (have _t := E2; go_at_call 20; refine (Q4.out _).mono ?_; rintro e u3 ⟨rfl, hh3⟩; have E3 : Below w3.heap.size w3 u3 := sbtr E2 hh3)
       | (have _t := E1; go_at_call 20; refine (Q3.out _).mono ?_; rintro e u2 ⟨rfl, hh2⟩; have E2 : Below w3.heap.size w3 u2 := sbtr E1 hh2)
       | (have _t := E0; go_at_call 20; refine (Q2.out _).mono ?_; rintro e u1 ⟨rfl, hh1⟩; have E1 : Below w3.heap.size w3 u1 := sbtr E0 hh1)
       | (go_at_call 20; refine (Q1.out _).mono ?_; rintro e u0 ⟨rfl, hh0⟩; have E0 : Below w3.heap.size w3 u0 := (by first | exact (bdrewN (Below.refl _ _) 1).trans hh0 | exact hh0))
       | fail)
    all_goals
      go_wp2_with fail
      go_meet
      exact ⟨rfl, rfl, rfl, rfl, E3⟩
  case rest =>
    obtain ⟨rfl, rfl, rfl, rfl, hb⟩ := hcut
    replace QA := Lib.hid (QA.out.via hb)
    replace QB := Lib.hid (QB.out.via hb)
    replace BX := Lib.hid (sbtr BX.out hb)
    clear hb HKS Q1 Q2 Q3 Q4 HC1 HC2
    go_upto_region 5 with (fail)
    go_cut [18, 19] from 18 to 70 (fun s8 s9 wx => ∃ p q c d e f, s8 = .pointer (some ⟨p, 0, none⟩) ∧ s9 = .pointer (some ⟨q, 0, none⟩) ∧ Pr wx p (.int .i64 c) (.int .i64 d) ∧ Pr wx q (.int .i64 e) (.int .i64 f) ∧ p ≠ q ∧ wc.heap.size ≤ p ∧ wc.heap.size ≤ q ∧ Below wc.heap.size wc wx ∧ c = min t1 t2 ∧ d = max t1 t2 ∧ e = min t3 t4 ∧ f = max t3 t4)
    case first =>
      go_wp2_with fail
      refine (liv_any _ _ _).mono ?_
      rintro e u1 ⟨rfl, hb1⟩
      go_wp2_with fail
      refine (liv_any _ _ _).mono ?_
      rintro e u2 ⟨rfl, hb2⟩
      have hb3 := sbtr hb1 hb2
      have hsz := hb3.size
      go_wp2_with fail
      go_meet
      exact ⟨_, _, _, _, _, _, rfl, rfl, (Pr.new u2 _ rfl _ _ _).alloc _, Pr.new (u2.alloc _) _ (by simp) _ _ _, by omega, hsz, by omega, sbal (sbal hb3 _) _, rfl, rfl, rfl, rfl⟩
    case rest =>
      obtain ⟨p, q, sc, sd, te, tf, rfl, rfl, pc, pd, hpq, hgp, hgq, hb, hc, hd, he, hf⟩ := hcut
      have QC := Lib.hid pc
      have QD := Lib.hid pd
      have hzp : gb < p := by have := QB.out.lt; omega
      have hzq : gb < q := by have := QB.out.lt; omega
      replace QA := Lib.hid (QA.out.via hb)
      replace QB := Lib.hid (QB.out.via hb)
      replace BX := Lib.hid (sbtr BX.out hb)
      have hN := HN.out
      rw [← hc, ← hd, ← he, ← hf] at hN
      obtain ⟨n1, n2, n3, n4, n5, n6⟩ := hN
      obtain ⟨x1, x2, x3, y1, y2, y3⟩ := HX.out
      clear hb pc pd hgp hgq hc hd he hf HN HX
      have vA : ivC al ah = 0 := ivC_ok x1 x2 x3
      have vC : ivC sc sd = 0 := ivC_ok (by omega) n2 (by omega)
      have vAB : ivB2 al ah bl bh = 0 := by rw [ivB2_ok vA]; exact ivC_ok y1 y2 y3
      have vCD : ivB2 sc sd te tf = 0 := by rw [ivB2_ok vC]; exact ivC_ok (by omega) n5 (by omega)
      have vCA : ivB2 sc sd al ah = 0 := by rw [ivB2_ok vC]; exact vA
      have cP := fun W => smulp_any W al ah bl bh
      have cQ := fun W => smulp_any W sc sd te tf
      rw [j2_ok vAB] at cP
      rw [j2_ok vCD] at cQ
      have hp := part_mul n1 n2 n3 n4 n5 n6
      revert hp cP cQ
      generalize mkI (mulLo al ah bl bh) (mulHi al ah bl bh) = oP
      generalize mkI (mulLo sc sd te tf) (mulHi sc sd te tf) = oQ
      intro cP cQ hp
      obtain ⟨pl0, ph0, pe0⟩ := oP
      obtain ⟨ql0, qh0, qe0⟩ := oQ
      have CP0 := Lib.hid cP
      have CQ0 := Lib.hid cQ
      have HP0 : Hid (pe0 = 0 → qe0 = 0 ∧ pl0 ≤ ql0 ∧ qh0 ≤ ph0) := hp
      clear cP cQ hp
      have cP := fun W => sdiv_any W al ah bl bh
      have cQ := fun W => sdiv_any W sc sd te tf
      rw [j2_ok vAB] at cP
      rw [j2_ok vCD] at cQ
      have hp := part_div n1 n2 n3 n4 n5 n6
      revert hp cP cQ
      generalize divO al ah bl bh = oP
      generalize divO sc sd te tf = oQ
      intro cP cQ hp
      obtain ⟨pl1, ph1, pe1⟩ := oP
      obtain ⟨ql1, qh1, qe1⟩ := oQ
      have CP1 := Lib.hid cP
      have CQ1 := Lib.hid cQ
      have HP1 : Hid (pe1 = 0 → qe1 = 0 ∧ pl1 ≤ ql1 ∧ qh1 ≤ ph1) := hp
      clear cP cQ hp
      have cP := fun W => ssq_any W al ah
      have cQ := fun W => ssq_any W sc sd
      rw [j1_ok vA] at cP
      rw [j1_ok vC] at cQ
      have hp := part_sq n1 n2 n3
      revert hp cP cQ
      generalize sqO al ah = oP
      generalize sqO sc sd = oQ
      intro cP cQ hp
      obtain ⟨pl2, ph2, pe2⟩ := oP
      obtain ⟨ql2, qh2, qe2⟩ := oQ
      have CP2 := Lib.hid cP
      have CQ2 := Lib.hid cQ
      have HP2 : Hid (pe2 = 0 → qe2 = 0 ∧ pl2 ≤ ql2 ∧ qh2 ≤ ph2) := hp
      clear cP cQ hp
      have cP := fun W => ssub_any W al ah bl bh
      have cQ := fun W => ssub_any W sc sd te tf
      rw [j2_ok vAB] at cP
      rw [j2_ok vCD] at cQ
      have hp := part_sub n1 n3 n4 n6
      revert hp cP cQ
      generalize mkI (al - bh) (ah - bl) = oP
      generalize mkI (sc - tf) (sd - te) = oQ
      intro cP cQ hp
      obtain ⟨pl3, ph3, pe3⟩ := oP
      obtain ⟨ql3, qh3, qe3⟩ := oQ
      have CP3 := Lib.hid cP
      have CQ3 := Lib.hid cQ
      have HP3 : Hid (pe3 = 0 → qe3 = 0 ∧ pl3 ≤ ql3 ∧ qh3 ≤ ph3) := hp
      clear cP cQ hp
      have CIN : Hid (∀ W, Calls Tryz.prog 16 #[iv sc sd, iv al ah] W (RB2 W true 0)) := fun W => by
        have h := sin_any W sc sd al ah
        have e1 : inR sc sd al ah = true := by unfold inR; rw [vCA, decide_eq_true n1, decide_eq_true n3]; rfl
        rwa [e1, vCA] at h
      have CME : Hid (∀ W, Calls Tryz.prog 10 #[iv sc sd, iv al ah] W (RO W ⟨sc, sd, 0⟩)) := fun W => by
        have h := smeet_any W sc sd al ah
        have e1 : meetO sc sd al ah = ⟨sc, sd, 0⟩ := by
          unfold meetO ordI
          rw [if_neg (show ¬ sd < al by omega), if_neg (show ¬ ah < sc by omega), if_pos rfl, mkI_in (by omega) (by omega), Int.max_eq_left n1, Int.min_eq_left n3]
        rwa [j2_ok vCA, e1] at h
      have CHU : Hid (∀ W, Calls Tryz.prog 23 #[iv sc sd, iv al ah] W (RO W ⟨al, ah, 0⟩)) := fun W => by
        have h := shull_any W sc sd al ah
        have e1 : mkI (min sc al) (max sd ah) = ⟨al, ah, 0⟩ := by rw [Int.min_eq_right n1, Int.max_eq_right n3]; exact mkI_in x1 x3
        rwa [j2_ok vCA, e1] at h
      clear vA vC vAB vCD vCA n1 n2 n3 n4 n5 n6 x1 x2 x3 y1 y2 y3
      generalize wc = V0 at *
      have ⟨rQA0, rQA1, rQA2, rQA3, rQA4⟩ := QA.out
      have ⟨rQB0, rQB1, rQB2, rQB3, rQB4⟩ := QB.out
      go_wp2_with fail
      clear rQA0 rQA1 rQA2 rQA3 rQA4 rQB0 rQB1 rQB2 rQB3 rQB4
      refine (CP0.out _).mono ?_
      rintro e w4 ⟨rfl, hb⟩
      replace QA := Lib.hid (QA.out.via hb)
      replace QB := Lib.hid (QB.out.via hb)
      replace QC := Lib.hid (QC.out.via hb)
      replace QD := Lib.hid (QD.out.via hb)
      replace BX := Lib.hid (sbtr BX.out hb)
      clear hb
      go_upto_region 7 with (fail)
      have zXPp : p < w4.heap.size := QC.out.lt
      have zXPq : q < w4.heap.size := QD.out.lt
      replace QA := Lib.hid (QA.out.alloc (ivB pl0 ph0))
      replace QB := Lib.hid (QB.out.alloc (ivB pl0 ph0))
      replace QC := Lib.hid (QC.out.alloc (ivB pl0 ph0))
      replace QD := Lib.hid (QD.out.alloc (ivB pl0 ph0))
      have XP := Lib.hid (Pr.new w4 _ rfl (.int .i64 pl0) (.int .i64 ph0) 23)
      replace BX := Lib.hid (sbal BX.out (ivB pl0 ph0))
      generalize w4.heap.size = gXP at *
      generalize w4.alloc (ivB pl0 ph0) = V4 at *
      have ⟨rQC0, rQC1, rQC2, rQC3, rQC4⟩ := QC.out
      have ⟨rQD0, rQD1, rQD2, rQD3, rQD4⟩ := QD.out
      go_wp2_with fail
      clear rQC0 rQC1 rQC2 rQC3 rQC4 rQD0 rQD1 rQD2 rQD3 rQD4
      refine (CQ0.out _).mono ?_
      rintro e w5 ⟨rfl, hb⟩
      replace QA := Lib.hid (QA.out.via hb)
      replace QB := Lib.hid (QB.out.via hb)
      replace QC := Lib.hid (QC.out.via hb)
      replace QD := Lib.hid (QD.out.via hb)
      replace XP := Lib.hid (XP.out.via hb)
      replace BX := Lib.hid (sbtr BX.out hb)
      clear hb
      go_upto_region 8 with (fail)
      have zXQgXP : gXP < w5.heap.size := XP.out.lt
      replace QA := Lib.hid (QA.out.alloc (ivB ql0 qh0))
      replace QB := Lib.hid (QB.out.alloc (ivB ql0 qh0))
      replace QC := Lib.hid (QC.out.alloc (ivB ql0 qh0))
      replace QD := Lib.hid (QD.out.alloc (ivB ql0 qh0))
      replace XP := Lib.hid (XP.out.alloc (ivB ql0 qh0))
      have XQ := Lib.hid (Pr.new w5 _ rfl (.int .i64 ql0) (.int .i64 qh0) 23)
      replace BX := Lib.hid (sbal BX.out (ivB ql0 qh0))
      generalize w5.heap.size = gXQ at *
      generalize w5.alloc (ivB ql0 qh0) = V5 at *
      go_cut [101] from 82 to 102 (fun sx wx => sx = .bool false ∧ wx = V5)
      case first =>
        have ⟨rp0, rp1, _, _, _⟩ := XP.out
        have ⟨rq0, rq1, _, _, _⟩ := XQ.out
        by_cases h : pe0 = 0
        · obtain ⟨h1, h2, h3⟩ := HP0.out h
          subst h
          subst h1
          have k1 : decide (ql0 < pl0) = false := decide_eq_false (by omega)
          have k2 : decide (ph0 < qh0) = false := decide_eq_false (by omega)
          go_wp2_with fail
          go_meet
          exact ⟨rfl, rfl⟩
        · have k1 : decide (pe0 = 0) = false := decide_eq_false h
          have k2 : (pe0 == 0) = false := by simp [h]
          go_wp2_with fail
          go_meet
          exact ⟨rfl, rfl⟩
      case rest =>
        obtain ⟨rfl, rfl⟩ := hcut
        clear CP0 CQ0 HP0
        have ⟨rQA0, rQA1, rQA2, rQA3, rQA4⟩ := QA.out
        have ⟨rQB0, rQB1, rQB2, rQB3, rQB4⟩ := QB.out
        go_wp2_with fail
        clear rQA0 rQA1 rQA2 rQA3 rQA4 rQB0 rQB1 rQB2 rQB3 rQB4
        refine (CP1.out _).mono ?_
        rintro e w6 ⟨rfl, hb⟩
        replace QA := Lib.hid (QA.out.via hb)
        replace QB := Lib.hid (QB.out.via hb)
        replace QC := Lib.hid (QC.out.via hb)
        replace QD := Lib.hid (QD.out.via hb)
        replace XP := Lib.hid (XP.out.via hb)
        replace XQ := Lib.hid (XQ.out.via hb)
        replace BX := Lib.hid (sbtr BX.out hb)
        clear hb
        have ⟨rXP0, rXP1, rXP2, rXP3, rXP4⟩ := XP.out
        go_upto_region 11 with (fail)
        clear rXP0 rXP1 rXP2 rXP3 rXP4
        replace QA := Lib.hid (QA.out.far (h := gXP) (by omega) (.int .i64 pl1) (.int .i64 ph1))
        replace QB := Lib.hid (QB.out.far (h := gXP) (by omega) (.int .i64 pl1) (.int .i64 ph1))
        replace QC := Lib.hid (QC.out.far (h := gXP) (by omega) (.int .i64 pl1) (.int .i64 ph1))
        replace QD := Lib.hid (QD.out.far (h := gXP) (by omega) (.int .i64 pl1) (.int .i64 ph1))
        replace XP := Lib.hid (XP.out.set (.int .i64 pl1) (.int .i64 ph1))
        replace XQ := Lib.hid (XQ.out.far (h := gXP) (by omega) (.int .i64 pl1) (.int .i64 ph1))
        replace BX := Lib.hid (below_set2 BX.out (g := gXP) (by omega) (.int .i64 pl1) (.int .i64 ph1))
        generalize (w6.setCell ⟨gXP, 0, none⟩ (.int .i64 pl1)).setCell ⟨gXP, 1, none⟩ (.int .i64 ph1) = V6 at *
        have ⟨rQC0, rQC1, rQC2, rQC3, rQC4⟩ := QC.out
        have ⟨rQD0, rQD1, rQD2, rQD3, rQD4⟩ := QD.out
        go_wp2_with fail
        clear rQC0 rQC1 rQC2 rQC3 rQC4 rQD0 rQD1 rQD2 rQD3 rQD4
        refine (CQ1.out _).mono ?_
        rintro e w7 ⟨rfl, hb⟩
        replace QA := Lib.hid (QA.out.via hb)
        replace QB := Lib.hid (QB.out.via hb)
        replace QC := Lib.hid (QC.out.via hb)
        replace QD := Lib.hid (QD.out.via hb)
        replace XP := Lib.hid (XP.out.via hb)
        replace XQ := Lib.hid (XQ.out.via hb)
        replace BX := Lib.hid (sbtr BX.out hb)
        clear hb
        have ⟨rXQ0, rXQ1, rXQ2, rXQ3, rXQ4⟩ := XQ.out
        go_upto_region 12 with (fail)
        clear rXQ0 rXQ1 rXQ2 rXQ3 rXQ4
        replace QA := Lib.hid (QA.out.far (h := gXQ) (by omega) (.int .i64 ql1) (.int .i64 qh1))
        replace QB := Lib.hid (QB.out.far (h := gXQ) (by omega) (.int .i64 ql1) (.int .i64 qh1))
        replace QC := Lib.hid (QC.out.far (h := gXQ) (by omega) (.int .i64 ql1) (.int .i64 qh1))
        replace QD := Lib.hid (QD.out.far (h := gXQ) (by omega) (.int .i64 ql1) (.int .i64 qh1))
        replace XP := Lib.hid (XP.out.far (h := gXQ) (by omega) (.int .i64 ql1) (.int .i64 qh1))
        replace XQ := Lib.hid (XQ.out.set (.int .i64 ql1) (.int .i64 qh1))
        replace BX := Lib.hid (below_set2 BX.out (g := gXQ) (by omega) (.int .i64 ql1) (.int .i64 qh1))
        generalize (w7.setCell ⟨gXQ, 0, none⟩ (.int .i64 ql1)).setCell ⟨gXQ, 1, none⟩ (.int .i64 qh1) = V7 at *
        go_cut [133] from 114 to 134 (fun sx wx => sx = .bool false ∧ wx = V7)
        case first =>
          have ⟨rp0, rp1, _, _, _⟩ := XP.out
          have ⟨rq0, rq1, _, _, _⟩ := XQ.out
          by_cases h : pe1 = 0
          · obtain ⟨h1, h2, h3⟩ := HP1.out h
            subst h
            subst h1
            have k1 : decide (ql1 < pl1) = false := decide_eq_false (by omega)
            have k2 : decide (ph1 < qh1) = false := decide_eq_false (by omega)
            go_wp2_with fail
            go_meet
            exact ⟨rfl, rfl⟩
          · have k1 : decide (pe1 = 0) = false := decide_eq_false h
            have k2 : (pe1 == 0) = false := by simp [h]
            go_wp2_with fail
            go_meet
            exact ⟨rfl, rfl⟩
        case rest =>
          obtain ⟨rfl, rfl⟩ := hcut
          clear CP1 CQ1 HP1
          have ⟨rQA0, rQA1, rQA2, rQA3, rQA4⟩ := QA.out
          go_wp2_with fail
          clear rQA0 rQA1 rQA2 rQA3 rQA4
          refine (CP2.out _).mono ?_
          rintro e w8 ⟨rfl, hb⟩
          replace QA := Lib.hid (QA.out.via hb)
          replace QB := Lib.hid (QB.out.via hb)
          replace QC := Lib.hid (QC.out.via hb)
          replace QD := Lib.hid (QD.out.via hb)
          replace XP := Lib.hid (XP.out.via hb)
          replace XQ := Lib.hid (XQ.out.via hb)
          replace BX := Lib.hid (sbtr BX.out hb)
          clear hb
          have ⟨rXP0, rXP1, rXP2, rXP3, rXP4⟩ := XP.out
          go_upto_region 15 with (fail)
          clear rXP0 rXP1 rXP2 rXP3 rXP4
          replace QA := Lib.hid (QA.out.far (h := gXP) (by omega) (.int .i64 pl2) (.int .i64 ph2))
          replace QB := Lib.hid (QB.out.far (h := gXP) (by omega) (.int .i64 pl2) (.int .i64 ph2))
          replace QC := Lib.hid (QC.out.far (h := gXP) (by omega) (.int .i64 pl2) (.int .i64 ph2))
          replace QD := Lib.hid (QD.out.far (h := gXP) (by omega) (.int .i64 pl2) (.int .i64 ph2))
          replace XP := Lib.hid (XP.out.set (.int .i64 pl2) (.int .i64 ph2))
          replace XQ := Lib.hid (XQ.out.far (h := gXP) (by omega) (.int .i64 pl2) (.int .i64 ph2))
          replace BX := Lib.hid (below_set2 BX.out (g := gXP) (by omega) (.int .i64 pl2) (.int .i64 ph2))
          generalize (w8.setCell ⟨gXP, 0, none⟩ (.int .i64 pl2)).setCell ⟨gXP, 1, none⟩ (.int .i64 ph2) = V8 at *
          have ⟨rQC0, rQC1, rQC2, rQC3, rQC4⟩ := QC.out
          go_wp2_with fail
          clear rQC0 rQC1 rQC2 rQC3 rQC4
          refine (CQ2.out _).mono ?_
          rintro e w9 ⟨rfl, hb⟩
          replace QA := Lib.hid (QA.out.via hb)
          replace QB := Lib.hid (QB.out.via hb)
          replace QC := Lib.hid (QC.out.via hb)
          replace QD := Lib.hid (QD.out.via hb)
          replace XP := Lib.hid (XP.out.via hb)
          replace XQ := Lib.hid (XQ.out.via hb)
          replace BX := Lib.hid (sbtr BX.out hb)
          clear hb
          have ⟨rXQ0, rXQ1, rXQ2, rXQ3, rXQ4⟩ := XQ.out
          go_upto_region 16 with (fail)
          clear rXQ0 rXQ1 rXQ2 rXQ3 rXQ4
          replace QA := Lib.hid (QA.out.far (h := gXQ) (by omega) (.int .i64 ql2) (.int .i64 qh2))
          replace QB := Lib.hid (QB.out.far (h := gXQ) (by omega) (.int .i64 ql2) (.int .i64 qh2))
          replace QC := Lib.hid (QC.out.far (h := gXQ) (by omega) (.int .i64 ql2) (.int .i64 qh2))
          replace QD := Lib.hid (QD.out.far (h := gXQ) (by omega) (.int .i64 ql2) (.int .i64 qh2))
          replace XP := Lib.hid (XP.out.far (h := gXQ) (by omega) (.int .i64 ql2) (.int .i64 qh2))
          replace XQ := Lib.hid (XQ.out.set (.int .i64 ql2) (.int .i64 qh2))
          replace BX := Lib.hid (below_set2 BX.out (g := gXQ) (by omega) (.int .i64 ql2) (.int .i64 qh2))
          generalize (w9.setCell ⟨gXQ, 0, none⟩ (.int .i64 ql2)).setCell ⟨gXQ, 1, none⟩ (.int .i64 qh2) = V9 at *
          go_cut [163] from 144 to 164 (fun sx wx => sx = .bool false ∧ wx = V9)
          case first =>
            have ⟨rp0, rp1, _, _, _⟩ := XP.out
            have ⟨rq0, rq1, _, _, _⟩ := XQ.out
            by_cases h : pe2 = 0
            · obtain ⟨h1, h2, h3⟩ := HP2.out h
              subst h
              subst h1
              have k1 : decide (ql2 < pl2) = false := decide_eq_false (by omega)
              have k2 : decide (ph2 < qh2) = false := decide_eq_false (by omega)
              go_wp2_with fail
              go_meet
              exact ⟨rfl, rfl⟩
            · have k1 : decide (pe2 = 0) = false := decide_eq_false h
              have k2 : (pe2 == 0) = false := by simp [h]
              go_wp2_with fail
              go_meet
              exact ⟨rfl, rfl⟩
          case rest =>
            obtain ⟨rfl, rfl⟩ := hcut
            clear CP2 CQ2 HP2
            have ⟨rQA0, rQA1, rQA2, rQA3, rQA4⟩ := QA.out
            have ⟨rQB0, rQB1, rQB2, rQB3, rQB4⟩ := QB.out
            go_wp2_with fail
            clear rQA0 rQA1 rQA2 rQA3 rQA4 rQB0 rQB1 rQB2 rQB3 rQB4
            refine (CP3.out _).mono ?_
            rintro e w10 ⟨rfl, hb⟩
            replace QA := Lib.hid (QA.out.via hb)
            replace QB := Lib.hid (QB.out.via hb)
            replace QC := Lib.hid (QC.out.via hb)
            replace QD := Lib.hid (QD.out.via hb)
            replace XP := Lib.hid (XP.out.via hb)
            replace XQ := Lib.hid (XQ.out.via hb)
            replace BX := Lib.hid (sbtr BX.out hb)
            clear hb
            have ⟨rXP0, rXP1, rXP2, rXP3, rXP4⟩ := XP.out
            go_upto_region 19 with (fail)
            clear rXP0 rXP1 rXP2 rXP3 rXP4
            replace QA := Lib.hid (QA.out.far (h := gXP) (by omega) (.int .i64 pl3) (.int .i64 ph3))
            replace QB := Lib.hid (QB.out.far (h := gXP) (by omega) (.int .i64 pl3) (.int .i64 ph3))
            replace QC := Lib.hid (QC.out.far (h := gXP) (by omega) (.int .i64 pl3) (.int .i64 ph3))
            replace QD := Lib.hid (QD.out.far (h := gXP) (by omega) (.int .i64 pl3) (.int .i64 ph3))
            replace XP := Lib.hid (XP.out.set (.int .i64 pl3) (.int .i64 ph3))
            replace XQ := Lib.hid (XQ.out.far (h := gXP) (by omega) (.int .i64 pl3) (.int .i64 ph3))
            replace BX := Lib.hid (below_set2 BX.out (g := gXP) (by omega) (.int .i64 pl3) (.int .i64 ph3))
            generalize (w10.setCell ⟨gXP, 0, none⟩ (.int .i64 pl3)).setCell ⟨gXP, 1, none⟩ (.int .i64 ph3) = V10 at *
            have ⟨rQC0, rQC1, rQC2, rQC3, rQC4⟩ := QC.out
            have ⟨rQD0, rQD1, rQD2, rQD3, rQD4⟩ := QD.out
            go_wp2_with fail
            clear rQC0 rQC1 rQC2 rQC3 rQC4 rQD0 rQD1 rQD2 rQD3 rQD4
            refine (CQ3.out _).mono ?_
            rintro e w11 ⟨rfl, hb⟩
            replace QA := Lib.hid (QA.out.via hb)
            replace QB := Lib.hid (QB.out.via hb)
            replace QC := Lib.hid (QC.out.via hb)
            replace QD := Lib.hid (QD.out.via hb)
            replace XP := Lib.hid (XP.out.via hb)
            replace XQ := Lib.hid (XQ.out.via hb)
            replace BX := Lib.hid (sbtr BX.out hb)
            clear hb
            have ⟨rXQ0, rXQ1, rXQ2, rXQ3, rXQ4⟩ := XQ.out
            go_upto_region 20 with (fail)
            clear rXQ0 rXQ1 rXQ2 rXQ3 rXQ4
            replace QA := Lib.hid (QA.out.far (h := gXQ) (by omega) (.int .i64 ql3) (.int .i64 qh3))
            replace QB := Lib.hid (QB.out.far (h := gXQ) (by omega) (.int .i64 ql3) (.int .i64 qh3))
            replace QC := Lib.hid (QC.out.far (h := gXQ) (by omega) (.int .i64 ql3) (.int .i64 qh3))
            replace QD := Lib.hid (QD.out.far (h := gXQ) (by omega) (.int .i64 ql3) (.int .i64 qh3))
            replace XP := Lib.hid (XP.out.far (h := gXQ) (by omega) (.int .i64 ql3) (.int .i64 qh3))
            replace XQ := Lib.hid (XQ.out.set (.int .i64 ql3) (.int .i64 qh3))
            replace BX := Lib.hid (below_set2 BX.out (g := gXQ) (by omega) (.int .i64 ql3) (.int .i64 qh3))
            generalize (w11.setCell ⟨gXQ, 0, none⟩ (.int .i64 ql3)).setCell ⟨gXQ, 1, none⟩ (.int .i64 qh3) = V11 at *
            go_cut [195] from 176 to 196 (fun sx wx => sx = .bool false ∧ wx = V11)
            case first =>
              have ⟨rp0, rp1, _, _, _⟩ := XP.out
              have ⟨rq0, rq1, _, _, _⟩ := XQ.out
              by_cases h : pe3 = 0
              · obtain ⟨h1, h2, h3⟩ := HP3.out h
                subst h
                subst h1
                have k1 : decide (ql3 < pl3) = false := decide_eq_false (by omega)
                have k2 : decide (ph3 < qh3) = false := decide_eq_false (by omega)
                go_wp2_with fail
                go_meet
                exact ⟨rfl, rfl⟩
              · have k1 : decide (pe3 = 0) = false := decide_eq_false h
                have k2 : (pe3 == 0) = false := by simp [h]
                go_wp2_with fail
                go_meet
                exact ⟨rfl, rfl⟩
            case rest =>
              obtain ⟨rfl, rfl⟩ := hcut
              clear CP3 CQ3 HP3
              have ⟨rQC0, rQC1, rQC2, rQC3, rQC4⟩ := QC.out
              have ⟨rQA0, rQA1, rQA2, rQA3, rQA4⟩ := QA.out
              go_wp2_with fail
              clear rQC0 rQC1 rQC2 rQC3 rQC4 rQA0 rQA1 rQA2 rQA3 rQA4
              refine (CIN.out _).mono ?_
              rintro e w12 ⟨rfl, hb⟩
              replace QA := Lib.hid (QA.out.via hb)
              replace QB := Lib.hid (QB.out.via hb)
              replace QC := Lib.hid (QC.out.via hb)
              replace QD := Lib.hid (QD.out.via hb)
              replace XP := Lib.hid (XP.out.via hb)
              replace XQ := Lib.hid (XQ.out.via hb)
              replace BX := Lib.hid (sbtr BX.out hb)
              clear hb
              have ⟨rQC0, rQC1, rQC2, rQC3, rQC4⟩ := QC.out
              have ⟨rQA0, rQA1, rQA2, rQA3, rQA4⟩ := QA.out
              go_wp2_with fail
              clear rQC0 rQC1 rQC2 rQC3 rQC4 rQA0 rQA1 rQA2 rQA3 rQA4
              refine (CME.out _).mono ?_
              rintro e w13 ⟨rfl, hb⟩
              replace QA := Lib.hid (QA.out.via hb)
              replace QB := Lib.hid (QB.out.via hb)
              replace QC := Lib.hid (QC.out.via hb)
              replace QD := Lib.hid (QD.out.via hb)
              replace XP := Lib.hid (XP.out.via hb)
              replace XQ := Lib.hid (XQ.out.via hb)
              replace BX := Lib.hid (sbtr BX.out hb)
              clear hb
              go_upto_region 24 with (fail)
              replace QA := Lib.hid (QA.out.alloc (ivB sc sd))
              replace QB := Lib.hid (QB.out.alloc (ivB sc sd))
              replace QC := Lib.hid (QC.out.alloc (ivB sc sd))
              replace QD := Lib.hid (QD.out.alloc (ivB sc sd))
              replace XP := Lib.hid (XP.out.alloc (ivB sc sd))
              replace XQ := Lib.hid (XQ.out.alloc (ivB sc sd))
              have XM := Lib.hid (Pr.new w13 _ rfl (.int .i64 sc) (.int .i64 sd) 23)
              replace BX := Lib.hid (sbal BX.out (ivB sc sd))
              generalize w13.heap.size = gXM at *
              generalize w13.alloc (ivB sc sd) = V13 at *
              have ⟨rQC0, rQC1, rQC2, rQC3, rQC4⟩ := QC.out
              have ⟨rQA0, rQA1, rQA2, rQA3, rQA4⟩ := QA.out
              go_wp2_with fail
              clear rQC0 rQC1 rQC2 rQC3 rQC4 rQA0 rQA1 rQA2 rQA3 rQA4
              refine (CHU.out _).mono ?_
              rintro e w14 ⟨rfl, hb⟩
              replace QA := Lib.hid (QA.out.via hb)
              replace QB := Lib.hid (QB.out.via hb)
              replace QC := Lib.hid (QC.out.via hb)
              replace QD := Lib.hid (QD.out.via hb)
              replace XP := Lib.hid (XP.out.via hb)
              replace XQ := Lib.hid (XQ.out.via hb)
              replace XM := Lib.hid (XM.out.via hb)
              replace BX := Lib.hid (sbtr BX.out hb)
              clear hb
              have ⟨m0, m1, _, _, _⟩ := XM.out
              have ⟨c0, c1, _, _, _⟩ := QC.out
              have ⟨a0, a1, _, _, _⟩ := QA.out
              go_wp2
              go_ret
              exact ⟨rfl, sbal BX.out _⟩
theorem parts_any (w : World) (al ah bl bh k l m n : Int) (hk0 : 0 ≤ k) (hk1 : k ≤ 18446744073709551615) (hl0 : 0 ≤ l) (hl1 : l ≤ 18446744073709551615) (hm0 : 0 ≤ m) (hm1 : m ≤ 18446744073709551615) (hn0 : 0 ≤ n) (hn1 : n ≤ 18446744073709551615) : Calls Tryz.prog 4 #[iv al ah, iv bl bh, .int .u64 k, .int .u64 l, .int .u64 m, .int .u64 n] w (RB1 w true) := by
  rcases ivC_cases al ah with ⟨h1, x1, x2, x3⟩ | ⟨h1, _⟩
  · rcases ivC_cases bl bh with ⟨h2, y1, y2, y3⟩ | ⟨h2, _⟩
    · exact parts_main w al ah bl bh k l m n hk0 hk1 hl0 hl1 hm0 hm1 hn0 hn1 h1 h2 x1 x2 x3 y1 y2 y3
    · exact parts_bad2 w al ah bl bh k l m n h1 h2
  · exact parts_bad1 w al ah bl bh k l m n h1
end Go.Proofs.YtegnaknoaflppaaGreatDoor

namespace Go.Proofs.YtegnaknoaflppaaGreatDoor
open Go.ChangeShapes Go.WideShapes Go.ChangeAt Go.RowKit

theorem own : ownKnob Tryz.prog.godebug = none := by kernel_rfl
section
variable {H : Type} {enc : TypeId × Value → H} {P : Program} {w : World} {base : Nat} {spare : TypeId → Bool} {held : Bool}
theorem trodAll_six {t t' t'' t3 t4 t5 : TypeId} {args : Array Value} {ds : List (DataW H)} {ps : List MemPlace} (h : DataW.TrodAll enc P w base spare held [t, t', t'', t3, t4, t5] args.toList ds ps) :
    ∃ v v' v'' v3 v4 v5 d d' d'' d3 d4 d5 p p' p'' p3 p4 p5, args = #[v, v', v'', v3, v4, v5] ∧ ds = [d, d', d'', d3, d4, d5] ∧ ps = p ++ p' ++ p'' ++ p3 ++ p4 ++ p5 ∧ DataW.Trod enc P w base spare held t v d p ∧ DataW.Trod enc P w base spare held t' v' d' p' ∧ DataW.Trod enc P w base spare held t'' v'' d'' p'' ∧ DataW.Trod enc P w base spare held t3 v3 d3 p3 ∧ DataW.Trod enc P w base spare held t4 v4 d4 p4 ∧ DataW.Trod enc P w base spare held t5 v5 d5 p5 := by
  obtain ⟨v, vs, d, ds', p, q, hargs, rfl, rfl, hd, hrest⟩ := trodAll_cons h
  obtain ⟨v', vs', d', ds'', p', q', rfl, rfl, rfl, hd', hrest'⟩ := trodAll_cons hrest
  obtain ⟨v'', vs'', d'', dsc, p'', q'', rfl, rfl, rfl, hd'', hrest''⟩ := trodAll_cons hrest'
  obtain ⟨v3, vs3, d3, ds3, p3, q3, rfl, rfl, rfl, hd3, hrest3⟩ := trodAll_cons hrest''
  obtain ⟨v4, vs4, d4, ds4, p4, q4, rfl, rfl, rfl, hd4, hrest4⟩ := trodAll_cons hrest3
  obtain ⟨v5, vs5, d5, ds5, p5, q5, rfl, rfl, rfl, hd5, hrest5⟩ := trodAll_cons hrest4
  obtain ⟨rfl, rfl, rfl⟩ := trodAll_nil hrest5
  exact ⟨v, v', v'', v3, v4, v5, d, d', d'', d3, d4, d5, p, p', p'', p3, p4, p5, by cases args; simp_all, rfl, by simp, hd, hd', hd'', hd3, hd4, hd5⟩
theorem trodAll_mk6 {t t' t'' t3 t4 t5 : TypeId} {v v' v'' v3 v4 v5 : Value} {d d' d'' d3 d4 d5 : DataW H} {p p' p'' p3 p4 p5 : List MemPlace} (h : DataW.Trod enc P w base spare held t v d p) (h' : DataW.Trod enc P w base spare held t' v' d' p')
    (h'' : DataW.Trod enc P w base spare held t'' v'' d'' p'') (h3 : DataW.Trod enc P w base spare held t3 v3 d3 p3) (h4 : DataW.Trod enc P w base spare held t4 v4 d4 p4) (h5 : DataW.Trod enc P w base spare held t5 v5 d5 p5) : DataW.TrodAll enc P w base spare held [t, t', t'', t3, t4, t5] [v, v', v'', v3, v4, v5] [d, d', d'', d3, d4, d5] (p ++ (p' ++ (p'' ++ (p3 ++ (p4 ++ p5))))) := ⟨p, p' ++ (p'' ++ (p3 ++ (p4 ++ p5))), h, ⟨p', p'' ++ (p3 ++ (p4 ++ p5)), h', trodAll_mk4 h'' h3 h4 h5, rfl⟩, rfl⟩
end
/-- The one table that this law reads. -/
def laid1 : List (String × DataW Unit) := [("math/bits.deBruijn32tab", Rows.laid_math_bits_deBruijn32tab)]
theorem door_met1 (os : Os) (args : Array Value) : laidMetH Tryz.prog laid1 ((World.doorLaid Tryz.prog 24 os).forCall (fun _ _ => 0) ⟨#[], args, []⟩).memory :=
  laidMetH_of_parts3 (fuel := 8) (laidMet_of_run' 8 (by kernel_rfl) (by kernel_rfl)) (by kernel_rfl) (by kernel_rfl)

set_option maxRecDepth 100000 in
theorem spanParts_lifted (os : Os) (started : os.Started) (H : Type) (enc : TypeId × Value → H) :
    ReturnsInHanded {} Tryz.checked os 4 .any (fun w args => (Rows.spanPartsSpec.pre enc Tryz.prog Tryz.f4 [] false w args ∧ laidMetH Tryz.prog laid1 w) ∧ sizedMet enc Tryz.prog Tryz.f4 (OpenSpec.ofChange Rows.spanPartsSpec) false w args)
      (Rows.spanPartsSpec.post enc Tryz.prog Tryz.f4 false true false false) := by
  refine returnsInHanded_of_change_and (C := Tryz.checked) (X := fun w _ => laidMetH Tryz.prog laid1 w) (fun _ _ _ hh h => h.of_heap hh) own started (by kernel_rfl) Tryz.func4
    (ChangeSpec.witness_shaped (enc := enc) (C := Tryz.checked) (os := os) (X := fun w _ => laidMetH Tryz.prog laid1 w) false (World.doorLaid Tryz.prog 24 os) #[.agg #[.int .i64 0, .int .i64 0], .agg #[.int .i64 0, .int .i64 0], .int .u64 0, .int .u64 0, .int .u64 0, .int .u64 0] 8 rfl (World.shaped_of_RefB (by kernel_rfl) (by kernel_rfl)) (by kernel_rfl) (by kernel_rfl) (by kernel_rfl) (door_met1 os _)) ?_
  intro W base args ds gs before hval0 hW _ _ hL _
  have hval : ∀ (j : Nat) t v, Tryz.f4.params[j]? = some t → args[j]? = some v → Value.okWide Tryz.prog W .any base t v := hval0
  have hW' := hW
  obtain ⟨p, q, hA0, hV, rfl, hfz, hnd⟩ := hW
  have hA : DataW.TrodAll enc Tryz.prog W 0 (fun _ => true) true Tryz.f4.params.toList args.toList ds p := hA0
  rw [Tryz.params4] at hA hval
  obtain ⟨v0, v1, v2, v3, v4, v5, d0, d1, d2, d3, d4, d5, p0, p1, p2, p3, p4, p5, rfl, rfl, rfl, h0, h1, h2, h3, h4, h5⟩ := trodAll_six hA
  obtain ⟨rfl, rfl⟩ := trodVars_none hV
  obtain ⟨i2, rfl, rfl, rfl, wi2⟩ := open_int Tryz.underlying43 (hval 2 43 v2 rfl rfl) h2
  obtain ⟨i3, rfl, rfl, rfl, wi3⟩ := open_int Tryz.underlying43 (hval 3 43 v3 rfl rfl) h3
  obtain ⟨i4, rfl, rfl, rfl, wi4⟩ := open_int Tryz.underlying43 (hval 4 43 v4 rfl rfl) h4
  obtain ⟨i5, rfl, rfl, rfl, wi5⟩ := open_int Tryz.underlying43 (hval 5 43 v5 rfl rfl) h5
  clear hA0 hval0
  try (simp only [List.append_nil] at hW')
  have hlt : ∀ x ∈ p0 ++ p1, x.block < W.heap.size := fun x hx => by simpa using hW'.lt x hx
  have hlt0 : ∀ x ∈ p0, x.block < W.heap.size := fun x hx => hlt x (List.mem_append_left _ hx)
  have hlt1 : ∀ x ∈ p1, x.block < W.heap.size := fun x hx => hlt x (List.mem_append_right _ hx)
  obtain ⟨al, ah, rfl, _, _, _, _⟩ := open_iv (hval 0 23 v0 rfl rfl) h0
  obtain ⟨bl, bh, rfl, _, _, _, _⟩ := open_iv (hval 1 23 v1 rfl rfl) h1
  have hk : ∀ z : Int, (Lit.int .u64 z).wf = true → 0 ≤ z ∧ z ≤ 18446744073709551615 := by
    intro z wz
    have e1 : IntKind.u64.min = 0 := rfl
    have e2 : IntKind.u64.max = 18446744073709551615 := rfl
    simp only [Lit.wf, Bool.and_eq_true, decide_eq_true_eq] at wz
    omega
  refine (parts_any W al ah bl bh i2 i3 i4 i5 (hk _ wi2).1 (hk _ wi2).2 (hk _ wi3).1 (hk _ wi3).2 (hk _ wi4).1 (hk _ wi4).2 (hk _ wi5).1 (hk _ wi5).2).mono fun e W' ⟨he, hb⟩ => ?_
  subst he
  exact ⟨_, rfl, _, _, _, [], p0 ++ p1, [], hW', trodAll_mk1 (shut_bool Tryz.underlying4 _),
    (by have e := trodAll_mk6 (Below.trod laidOutS (by kernel_rfl) (of_decide_eq_true (by kernel_rfl)) h0 hb hlt0) (Below.trod laidOutS (by kernel_rfl) (of_decide_eq_true (by kernel_rfl)) h1 hb hlt1) (shut_int Tryz.underlying43 wi2) (shut_int Tryz.underlying43 wi3) (shut_int Tryz.underlying43 wi4) (shut_int Tryz.underlying43 wi5); (try (simp only [List.append_nil] at e)); (try (simp only [List.nil_append] at e)); exact e), rfl, hb.frame _, fun h => by cases h⟩

theorem spanParts_row : Rows.SpanPartsSaid :=
  OpenClaim.holds_of_wide 4 Tryz.f4 rfl rfl rfl rfl rfl rfl rfl ⟨rfl, rfl, rfl, rfl, rfl⟩ rfl rfl rfl rfl rfl (by kernel_rfl) Tryz.func4 (by kernel_rfl)
    (of_decide_eq_true (by kernel_rfl)) (by unfold Func.isWrapper; first | (rw [if_pos (by decide +kernel)]; kernel_rfl) | (rw [if_neg (by decide +kernel)]; exact ⟨rfl, rfl⟩))
    (fun os started H enc _ => spanParts_lifted os started H enc)

theorem spanParts_holds : Rows.SpanPartsCardSaid :=
  Claim7.holds_tied_plain_at .later [] [.data] true (Rows.spanPartsCard.stood.harness) false
    spanParts_row (fun _ h => by cases h) (by kernel_rfl) (fun _ h => by cases h) spanParts_row_tie rfl ⟨rfl, rfl⟩ (by kernel_rfl) rfl
    (fun f fn hf hfn => by
      obtain rfl : f = 4 := Option.some.inj ((show Tryz.prog.funcNamed "planisphere/planispherelaw03.SpanParts" = some 4 by kernel_rfl).symm.trans hf) |>.symm
      obtain rfl : fn = Tryz.f4 := (Option.some.inj (Tryz.func4.symm.trans hfn)).symm
      exact ⟨by kernel_rfl, fun j t ht => by
        rw [Tryz.params4] at ht
        have hm : t ∈ [23, 23, 43, 43, 43, 43] := by simpa using Array.mem_of_getElem? ht
        have hall : ([23, 23, 43, 43, 43, 43].all fun u => !Tryz.prog.wantsStandIn u) = true := by kernel_rfl
        exact (show Tryz.prog.wantsStandIn t = false by simpa using List.all_eq_true.1 hall t hm)⟩)
    (by kernel_rfl)
end Go.Proofs.YtegnaknoaflppaaGreatDoor

