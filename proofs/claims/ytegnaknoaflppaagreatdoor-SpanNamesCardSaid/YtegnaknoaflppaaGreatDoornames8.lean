
/-
  The law SpanNames returns true: each limit and error that the chapter of intervals names is kept, and its examples hold, one call after another. Condition: none beyond the card's own (the library's table of de Bruijn holds what its initialiser lays).
-/
import Derived.Test.YtegnaknoaflppaaGreatDoorRows
import Derived.Test.YtegnaknoaflppaaGreatDoorTie
import Derived.Test.YtegnaknoaflppaaGreatDoorCards
import Derived.Carry
import Derived.LaidMore
import Derived.OpenShut
import Derived.Stop.LaidErr
import Derived.MakeChecks
import Derived.SevenTiedAt
import Derived.Test.YtegnaknoaflppaaGreatDoornames7
/- The walk of the law SpanParts. -/
namespace Go.Proofs.YtegnaknoaflppaaGreatDoor
open Go.RowKit

def ptV (lo hi k : Int) : Int := lo + k % (hi - lo + 1)
theorem ptV_in {lo hi k : Int} (h : lo ≤ hi) : lo ≤ ptV lo hi k ∧ ptV lo hi k ≤ hi := by
  have h1 := Int.emod_nonneg k (show hi - lo + 1 ≠ 0 by omega)
  have h2 := Int.emod_lt_of_pos k (show 0 < hi - lo + 1 by omega)
  unfold ptV; omega
set_option maxRecDepth 100000 in
set_option maxHeartbeats 1000000 in
theorem lpoint_any (w : World) (lo hi k : Int) (h1 : -2305843009213693952 ≤ lo) (h2 : lo ≤ hi) (h3 : hi ≤ 2305843009213693952) (k0 : 0 ≤ k) (_k1 : k ≤ 18446744073709551615) :
    Calls Tryz.prog 20 #[iv lo hi, .int .u64 k] w (RN1 w (ptV lo hi k)) := by
  have hm1 := Int.emod_nonneg k (show hi - lo + 1 ≠ 0 by omega)
  have hm2 := Int.emod_lt_of_pos k (show 0 < hi - lo + 1 by omega)
  have ht : k.tmod (hi - lo + 1) = k % (hi - lo + 1) := Int.tmod_eq_emod_of_nonneg k0
  obtain ⟨t, htt⟩ : ∃ t, k % (hi - lo + 1) = t := ⟨_, rfl⟩
  have HV : Hid (ptV lo hi k = lo + t) := by show _ = _; unfold ptV; rw [htt]
  rw [htt] at hm1 hm2 ht
  have e1 : IntKind.i64.wrap (hi - lo) = hi - lo := IntWalk.i64_in _ (by omega)
  have e2 : IntKind.u64.wrap (hi - lo) = hi - lo := by rw [IntKind.wrap_u64]; omega
  have e3 : IntKind.u64.wrap (hi - lo + 1) = hi - lo + 1 := by rw [IntKind.wrap_u64]; omega
  have e4 : IntKind.i64.wrap t = t := IntWalk.i64_in _ (by omega)
  have e5 : IntKind.i64.wrap (lo + t) = lo + t := IntWalk.i64_in _ (by omega)
  have e6 : (hi - lo + 1 == 0) = false := by simp; omega
  have e7 : ¬ hi - lo + 1 = 0 := by omega
  have e8 : IntKind.u64.wrap t = t := by rw [IntKind.wrap_u64]; omega
  have QA := Lib.hid (Pr.new w w.heap.size rfl (.int .i64 lo) (.int .i64 hi) 23)
  have BW : Hid (Below w.heap.size w (w.alloc (ivB lo hi))) := sbal (Below.refl _ _) _
  clear h1 h2 h3 k0 hm1 hm2
  go_enter Tryz.func20, Tryz.ntmps20
  go_upto_region 2 with (fail)
  generalize w.alloc (ivB lo hi) = W0 at *
  have ⟨a0, a1, _, _, _⟩ := QA.out
  go_region
  all_goals
    go_wp2
    go_ret
    exact ⟨ret_int HV.out.symm, bdrewN BW.out 1⟩
set_option maxRecDepth 100000 in
set_option maxHeartbeats 16000000 in
theorem parts_bad1 (w : World) (al ah bl bh k l m n : Int) (h1 : ivC al ah = 8) : Calls Tryz.prog 4 #[iv al ah, iv bl bh, .int .u64 k, .int .u64 l, .int .u64 m, .int .u64 n] w (RB1 w true) := by
  have QA := Lib.hid ((Pr.new w w.heap.size rfl (.int .i64 al) (.int .i64 ah) 23).alloc (ivB bl bh))
  have QB := Lib.hid (Pr.new (w.alloc (ivB al ah)) (w.heap.size + 1) (by simp) (.int .i64 bl) (.int .i64 bh) 23)
  have BX : Hid (Below w.heap.size w ((w.alloc (ivB al ah)).alloc (ivB bl bh))) := sbal (sbal (Below.refl _ _) _) _
  go_enter Tryz.func4, Tryz.ntmps4
  go_upto_region 1 with (fail)
  generalize (w.alloc (ivB al ah)).alloc (ivB bl bh) = W0 at *
  have hz0 : w.heap.size < w.heap.size + 1 := by omega
  generalize w.heap.size + 1 = gb at *
  go_wp2_with fail
  refine (lalive_any _).mono ?_
  rintro e w1 ⟨rfl, hb⟩
  replace QA := Lib.hid (QA.out.via hb)
  replace QB := Lib.hid (QB.out.via hb)
  replace BX := Lib.hid (sbtr BX.out hb)
  clear hb
  have hc1 := fun W => rscheck_any W al ah
  rw [h1] at hc1
  have HC1 := Lib.hid hc1
  clear hc1 h1
  have ⟨rQA0, rQA1, rQA2, rQA3, rQA4⟩ := QA.out
  go_wp2_with fail
  clear rQA0 rQA1 rQA2 rQA3 rQA4
  refine (HC1.out _).mono ?_
  rintro e w2 ⟨rfl, hb⟩
  replace QA := Lib.hid (QA.out.via hb)
  replace QB := Lib.hid (QB.out.via hb)
  replace BX := Lib.hid (sbtr BX.out hb)
  clear hb
  go_wp2
  go_ret
  exact ⟨rfl, BX.out⟩
set_option maxRecDepth 100000 in
set_option maxHeartbeats 16000000 in
theorem parts_bad2 (w : World) (al ah bl bh k l m n : Int) (h1 : ivC al ah = 0) (h2 : ivC bl bh = 8) : Calls Tryz.prog 4 #[iv al ah, iv bl bh, .int .u64 k, .int .u64 l, .int .u64 m, .int .u64 n] w (RB1 w true) := by
  have QA := Lib.hid ((Pr.new w w.heap.size rfl (.int .i64 al) (.int .i64 ah) 23).alloc (ivB bl bh))
  have QB := Lib.hid (Pr.new (w.alloc (ivB al ah)) (w.heap.size + 1) (by simp) (.int .i64 bl) (.int .i64 bh) 23)
  have BX : Hid (Below w.heap.size w ((w.alloc (ivB al ah)).alloc (ivB bl bh))) := sbal (sbal (Below.refl _ _) _) _
  go_enter Tryz.func4, Tryz.ntmps4
  go_upto_region 1 with (fail)
  generalize (w.alloc (ivB al ah)).alloc (ivB bl bh) = W0 at *
  have hz0 : w.heap.size < w.heap.size + 1 := by omega
  generalize w.heap.size + 1 = gb at *
  go_wp2_with fail
  refine (lalive_any _).mono ?_
  rintro e w1 ⟨rfl, hb⟩
  replace QA := Lib.hid (QA.out.via hb)
  replace QB := Lib.hid (QB.out.via hb)
  replace BX := Lib.hid (sbtr BX.out hb)
  clear hb
  have hc1 := fun W => rscheck_any W al ah
  rw [h1] at hc1
  have HC1 := Lib.hid hc1
  have hc2 := fun W => rscheck_any W bl bh
  rw [h2] at hc2
  have HC2 := Lib.hid hc2
  clear hc1 h1 hc2 h2
  have ⟨rQA0, rQA1, rQA2, rQA3, rQA4⟩ := QA.out
  go_wp2_with fail
  clear rQA0 rQA1 rQA2 rQA3 rQA4
  refine (HC1.out _).mono ?_
  rintro e w2 ⟨rfl, hb⟩
  replace QA := Lib.hid (QA.out.via hb)
  replace QB := Lib.hid (QB.out.via hb)
  replace BX := Lib.hid (sbtr BX.out hb)
  clear hb
  have ⟨rQB0, rQB1, rQB2, rQB3, rQB4⟩ := QB.out
  go_wp2_with fail
  clear rQB0 rQB1 rQB2 rQB3 rQB4
  refine (HC2.out _).mono ?_
  rintro e w3 ⟨rfl, hb⟩
  replace QA := Lib.hid (QA.out.via hb)
  replace QB := Lib.hid (QB.out.via hb)
  replace BX := Lib.hid (sbtr BX.out hb)
  clear hb
  go_wp2
  go_ret
  exact ⟨rfl, BX.out⟩
set_option maxRecDepth 100000 in
set_option maxHeartbeats 16000000 in
theorem parts_main (w : World) (al ah bl bh k l m n : Int) (hk0 : 0 ≤ k) (hk1 : k ≤ 18446744073709551615) (hl0 : 0 ≤ l) (hl1 : l ≤ 18446744073709551615) (hm0 : 0 ≤ m) (hm1 : m ≤ 18446744073709551615) (hn0 : 0 ≤ n) (hn1 : n ≤ 18446744073709551615) (h1 : ivC al ah = 0) (h2 : ivC bl bh = 0) (x1 : -2305843009213693952 ≤ al) (x2 : al ≤ ah) (x3 : ah ≤ 2305843009213693952) (y1 : -2305843009213693952 ≤ bl) (y2 : bl ≤ bh) (y3 : bh ≤ 2305843009213693952) : Calls Tryz.prog 4 #[iv al ah, iv bl bh, .int .u64 k, .int .u64 l, .int .u64 m, .int .u64 n] w (RB1 w true) := by
  have hc1 := fun W => rscheck_any W al ah
  rw [h1] at hc1
  have HC1 := Lib.hid hc1
  have hc2 := fun W => rscheck_any W bl bh
  rw [h2] at hc2
  have HC2 := Lib.hid hc2
  have q1 := fun W => lpoint_any W al ah k x1 x2 x3 hk0 hk1
  have q2 := fun W => lpoint_any W al ah l x1 x2 x3 hl0 hl1
  have q3 := fun W => lpoint_any W bl bh m y1 y2 y3 hm0 hm1
  have q4 := fun W => lpoint_any W bl bh n y1 y2 y3 hn0 hn1
  have i1 := ptV_in (k := k) x2
  have i2 := ptV_in (k := l) x2
  have i3 := ptV_in (k := m) y2
  have i4 := ptV_in (k := n) y2
  generalize ptV al ah k = t1 at *
  generalize ptV al ah l = t2 at *
  generalize ptV bl bh m = t3 at *
  generalize ptV bl bh n = t4 at *
  have Q1 := Lib.hid q1
  have Q2 := Lib.hid q2
  have Q3 := Lib.hid q3
  have Q4 := Lib.hid q4
  clear hc1 hc2 q1 q2 q3 q4 hk0 hk1 hl0 hl1 hm0 hm1 hn0 hn1 h1 h2
  have HN : Hid (al ≤ min t1 t2 ∧ min t1 t2 ≤ max t1 t2 ∧ max t1 t2 ≤ ah ∧ bl ≤ min t3 t4 ∧ min t3 t4 ≤ max t3 t4 ∧ max t3 t4 ≤ bh) := by show _ ∧ _; omega
  have HX : Hid (-2305843009213693952 ≤ al ∧ al ≤ ah ∧ ah ≤ 2305843009213693952 ∧ -2305843009213693952 ≤ bl ∧ bl ≤ bh ∧ bh ≤ 2305843009213693952) := ⟨x1, x2, x3, y1, y2, y3⟩
  clear i1 i2 i3 i4 x1 x2 x3 y1 y2 y3
  have QA := Lib.hid ((Pr.new w w.heap.size rfl (.int .i64 al) (.int .i64 ah) 23).alloc (ivB bl bh))
  have QB := Lib.hid (Pr.new (w.alloc (ivB al ah)) (w.heap.size + 1) (by simp) (.int .i64 bl) (.int .i64 bh) 23)
  have BX : Hid (Below w.heap.size w ((w.alloc (ivB al ah)).alloc (ivB bl bh))) := sbal (sbal (Below.refl _ _) _) _
  go_enter Tryz.func4, Tryz.ntmps4
  go_upto_region 1 with (fail)
  generalize (w.alloc (ivB al ah)).alloc (ivB bl bh) = W0 at *
  have hz0 : w.heap.size < w.heap.size + 1 := by omega
  generalize w.heap.size + 1 = gb at *
  go_wp2_with fail
  refine (lalive_any _).mono ?_
  rintro e w1 ⟨rfl, hb⟩
  replace QA := Lib.hid (QA.out.via hb)
  replace QB := Lib.hid (QB.out.via hb)
  replace BX := Lib.hid (sbtr BX.out hb)
  clear hb
  have ⟨rQA0, rQA1, rQA2, rQA3, rQA4⟩ := QA.out
  go_wp2_with fail
  clear rQA0 rQA1 rQA2 rQA3 rQA4
  refine (HC1.out _).mono ?_
  rintro e w2 ⟨rfl, hb⟩
  replace QA := Lib.hid (QA.out.via hb)
  replace QB := Lib.hid (QB.out.via hb)
  replace BX := Lib.hid (sbtr BX.out hb)
  clear hb
  have ⟨rQB0, rQB1, rQB2, rQB3, rQB4⟩ := QB.out
  go_wp2_with fail
  clear rQB0 rQB1 rQB2 rQB3 rQB4
  refine (HC2.out _).mono ?_
  rintro e w3 ⟨rfl, hb⟩
  replace QA := Lib.hid (QA.out.via hb)
  replace QB := Lib.hid (QB.out.via hb)
  replace BX := Lib.hid (sbtr BX.out hb)
  clear hb
  go_wp2_with fail
  have HKS : Hid (∀ X : World, Below w3.heap.size w3 X → X.cell? ⟨w.heap.size, 0, none⟩ = some (.int .i64 al) ∧ X.cell? ⟨w.heap.size, 1, none⟩ = some (.int .i64 ah) ∧ X.cell? ⟨gb, 0, none⟩ = some (.int .i64 bl) ∧ X.cell? ⟨gb, 1, none⟩ = some (.int .i64 bh)) := fun X h => ⟨(QA.out.via h).c0, (QA.out.via h).c1, (QB.out.via h).c0, (QB.out.via h).c1⟩
  go_cut [14, 15, 16, 17] from 14 to 57 (fun s1 s2 s3 s4 wx => s1 = .int .i64 t1 ∧ s2 = .int .i64 t2 ∧ s3 = .int .i64 t3 ∧ s4 = .int .i64 t4 ∧ Below w3.heap.size w3 wx)
  case first =>
    go_region_held3 (fun X => X.cell? ⟨w.heap.size, 0, none⟩ = some (.int .i64 al) ∧ X.cell? ⟨w.heap.size, 1, none⟩ = some (.int .i64 ah) ∧ X.cell? ⟨gb, 0, none⟩ = some (.int .i64 bl) ∧ X.cell? ⟨gb, 1, none⟩ = some (.int .i64 bh))
      (first | exact HKS.out _ (Below.refl _ _) | exact HKS.out _ (Below.refl _ _).drew | exact HKS.out _ E3 | exact HKS.out _ E2 | exact HKS.out _ E1 | exact HKS.out _ E0)
      (first
       | (have _t := E2; go_at_call 20; refine (Q4.out _).mono ?_; rintro e u3 ⟨rfl, hh3⟩; have E3 : Below w3.heap.size w3 u3 := sbtr E2 hh3)
       | (have _t := E1; go_at_call 20; refine (Q3.out _).mono ?_; rintro e u2 ⟨rfl, hh2⟩; have E2 : Below w3.heap.size w3 u2 := sbtr E1 hh2)
       | (have _t := E0; go_at_call 20; refine (Q2.out _).mono ?_; rintro e u1 ⟨rfl, hh1⟩; have E1 : Below w3.heap.size w3 u1 := sbtr E0 hh1)
       | (go_at_call 20; refine (Q1.out _).mono ?_; rintro e u0 ⟨rfl, hh0⟩; have E0 : Below w3.heap.size w3 u0 := (by first | exact (bdrewN (Below.refl _ _) 1).trans hh0 | exact hh0))
       | fail)
    all_goals
      go_wp2_with fail
      go_meet
      exact ⟨rfl, rfl, rfl, rfl, E3⟩
  case rest =>
    obtain ⟨rfl, rfl, rfl, rfl, hb⟩ := hcut
    replace QA := Lib.hid (QA.out.via hb)
    replace QB := Lib.hid (QB.out.via hb)
    replace BX := Lib.hid (sbtr BX.out hb)
    clear hb HKS Q1 Q2 Q3 Q4 HC1 HC2
    go_upto_region 5 with (fail)
    go_cut [18, 19] from 18 to 70 (fun s8 s9 wx => ∃ p q c d e f, s8 = .pointer (some ⟨p, 0, none⟩) ∧ s9 = .pointer (some ⟨q, 0, none⟩) ∧ Pr wx p (.int .i64 c) (.int .i64 d) ∧ Pr wx q (.int .i64 e) (.int .i64 f) ∧ p ≠ q ∧ wc.heap.size ≤ p ∧ wc.heap.size ≤ q ∧ Below wc.heap.size wc wx ∧ c = min t1 t2 ∧ d = max t1 t2 ∧ e = min t3 t4 ∧ f = max t3 t4)
    case first =>
      go_wp2_with fail
      refine (liv_any _ _ _).mono ?_
      rintro e u1 ⟨rfl, hb1⟩
      go_wp2_with fail
      refine (liv_any _ _ _).mono ?_
      rintro e u2 ⟨rfl, hb2⟩
      have hb3 := sbtr hb1 hb2
      have hsz := hb3.size
      go_wp2_with fail
      go_meet
      exact ⟨_, _, _, _, _, _, rfl, rfl, (Pr.new u2 _ rfl _ _ _).alloc _, Pr.new (u2.alloc _) _ (by simp) _ _ _, by omega, hsz, by omega, sbal (sbal hb3 _) _, rfl, rfl, rfl, rfl⟩
    case rest =>
      obtain ⟨p, q, sc, sd, te, tf, rfl, rfl, pc, pd, hpq, hgp, hgq, hb, hc, hd, he, hf⟩ := hcut
      have QC := Lib.hid pc
      have QD := Lib.hid pd
      have hzp : gb < p := by have := QB.out.lt; omega
      have hzq : gb < q := by have := QB.out.lt; omega
      replace QA := Lib.hid (QA.out.via hb)
      replace QB := Lib.hid (QB.out.via hb)
      replace BX := Lib.hid (sbtr BX.out hb)
      have hN := HN.out
      rw [← hc, ← hd, ← he, ← hf] at hN
      obtain ⟨n1, n2, n3, n4, n5, n6⟩ := hN
      obtain ⟨x1, x2, x3, y1, y2, y3⟩ := HX.out
      clear hb pc pd hgp hgq hc hd he hf HN HX
      have vA : ivC al ah = 0 := ivC_ok x1 x2 x3
      have vC : ivC sc sd = 0 := ivC_ok (by omega) n2 (by omega)
      have vAB : ivB2 al ah bl bh = 0 := by rw [ivB2_ok vA]; exact ivC_ok y1 y2 y3
      have vCD : ivB2 sc sd te tf = 0 := by rw [ivB2_ok vC]; exact ivC_ok (by omega) n5 (by omega)
      have vCA : ivB2 sc sd al ah = 0 := by rw [ivB2_ok vC]; exact vA
      have cP := fun W => smulp_any W al ah bl bh
      have cQ := fun W => smulp_any W sc sd te tf
      rw [j2_ok vAB] at cP
      rw [j2_ok vCD] at cQ
      have hp := part_mul n1 n2 n3 n4 n5 n6
      revert hp cP cQ
      generalize mkI (mulLo al ah bl bh) (mulHi al ah bl bh) = oP
      generalize mkI (mulLo sc sd te tf) (mulHi sc sd te tf) = oQ
      intro cP cQ hp
      obtain ⟨pl0, ph0, pe0⟩ := oP
      obtain ⟨ql0, qh0, qe0⟩ := oQ
      have CP0 := Lib.hid cP
      have CQ0 := Lib.hid cQ
      have HP0 : Hid (pe0 = 0 → qe0 = 0 ∧ pl0 ≤ ql0 ∧ qh0 ≤ ph0) := hp
      clear cP cQ hp
      have cP := fun W => sdiv_any W al ah bl bh
      have cQ := fun W => sdiv_any W sc sd te tf
      rw [j2_ok vAB] at cP
      rw [j2_ok vCD] at cQ
      have hp := part_div n1 n2 n3 n4 n5 n6
      revert hp cP cQ
      generalize divO al ah bl bh = oP
      generalize divO sc sd te tf = oQ
      intro cP cQ hp
      obtain ⟨pl1, ph1, pe1⟩ := oP
      obtain ⟨ql1, qh1, qe1⟩ := oQ
      have CP1 := Lib.hid cP
      have CQ1 := Lib.hid cQ
      have HP1 : Hid (pe1 = 0 → qe1 = 0 ∧ pl1 ≤ ql1 ∧ qh1 ≤ ph1) := hp
      clear cP cQ hp
      have cP := fun W => ssq_any W al ah
      have cQ := fun W => ssq_any W sc sd
      rw [j1_ok vA] at cP
      rw [j1_ok vC] at cQ
      have hp := part_sq n1 n2 n3
      revert hp cP cQ
      generalize sqO al ah = oP
      generalize sqO sc sd = oQ
      intro cP cQ hp
      obtain ⟨pl2, ph2, pe2⟩ := oP
      obtain ⟨ql2, qh2, qe2⟩ := oQ
      have CP2 := Lib.hid cP
      have CQ2 := Lib.hid cQ
      have HP2 : Hid (pe2 = 0 → qe2 = 0 ∧ pl2 ≤ ql2 ∧ qh2 ≤ ph2) := hp
      clear cP cQ hp
      have cP := fun W => ssub_any W al ah bl bh
      have cQ := fun W => ssub_any W sc sd te tf
      rw [j2_ok vAB] at cP
      rw [j2_ok vCD] at cQ
      have hp := part_sub n1 n3 n4 n6
      revert hp cP cQ
      generalize mkI (al - bh) (ah - bl) = oP
      generalize mkI (sc - tf) (sd - te) = oQ
      intro cP cQ hp
      obtain ⟨pl3, ph3, pe3⟩ := oP
      obtain ⟨ql3, qh3, qe3⟩ := oQ
      have CP3 := Lib.hid cP
      have CQ3 := Lib.hid cQ
      have HP3 : Hid (pe3 = 0 → qe3 = 0 ∧ pl3 ≤ ql3 ∧ qh3 ≤ ph3) := hp
      clear cP cQ hp
      have CIN : Hid (∀ W, Calls Tryz.prog 16 #[iv sc sd, iv al ah] W (RB2 W true 0)) := fun W => by
        have h := sin_any W sc sd al ah
        have e1 : inR sc sd al ah = true := by unfold inR; rw [vCA, decide_eq_true n1, decide_eq_true n3]; rfl
        rwa [e1, vCA] at h
      have CME : Hid (∀ W, Calls Tryz.prog 10 #[iv sc sd, iv al ah] W (RO W ⟨sc, sd, 0⟩)) := fun W => by
        have h := smeet_any W sc sd al ah
        have e1 : meetO sc sd al ah = ⟨sc, sd, 0⟩ := by
          unfold meetO ordI
          rw [if_neg (show ¬ sd < al by omega), if_neg (show ¬ ah < sc by omega), if_pos rfl, mkI_in (by omega) (by omega), Int.max_eq_left n1, Int.min_eq_left n3]
        rwa [j2_ok vCA, e1] at h
      have CHU : Hid (∀ W, Calls Tryz.prog 23 #[iv sc sd, iv al ah] W (RO W ⟨al, ah, 0⟩)) := fun W => by
        have h := shull_any W sc sd al ah
        have e1 : mkI (min sc al) (max sd ah) = ⟨al, ah, 0⟩ := by rw [Int.min_eq_right n1, Int.max_eq_right n3]; exact mkI_in x1 x3
        rwa [j2_ok vCA, e1] at h
      clear vA vC vAB vCD vCA n1 n2 n3 n4 n5 n6 x1 x2 x3 y1 y2 y3
      generalize wc = V0 at *
      have ⟨rQA0, rQA1, rQA2, rQA3, rQA4⟩ := QA.out
      have ⟨rQB0, rQB1, rQB2, rQB3, rQB4⟩ := QB.out
      go_wp2_with fail
      clear rQA0 rQA1 rQA2 rQA3 rQA4 rQB0 rQB1 rQB2 rQB3 rQB4
      refine (CP0.out _).mono ?_
      rintro e w4 ⟨rfl, hb⟩
      replace QA := Lib.hid (QA.out.via hb)
      replace QB := Lib.hid (QB.out.via hb)
      replace QC := Lib.hid (QC.out.via hb)
      replace QD := Lib.hid (QD.out.via hb)
      replace BX := Lib.hid (sbtr BX.out hb)
      clear hb
      go_upto_region 7 with (fail)
      have zXPp : p < w4.heap.size := QC.out.lt
      have zXPq : q < w4.heap.size := QD.out.lt
      replace QA := Lib.hid (QA.out.alloc (ivB pl0 ph0))
      replace QB := Lib.hid (QB.out.alloc (ivB pl0 ph0))
      replace QC := Lib.hid (QC.out.alloc (ivB pl0 ph0))
      replace QD := Lib.hid (QD.out.alloc (ivB pl0 ph0))
      have XP := Lib.hid (Pr.new w4 _ rfl (.int .i64 pl0) (.int .i64 ph0) 23)
      replace BX := Lib.hid (sbal BX.out (ivB pl0 ph0))
      generalize w4.heap.size = gXP at *
      generalize w4.alloc (ivB pl0 ph0) = V4 at *
      have ⟨rQC0, rQC1, rQC2, rQC3, rQC4⟩ := QC.out
      have ⟨rQD0, rQD1, rQD2, rQD3, rQD4⟩ := QD.out
      go_wp2_with fail
      clear rQC0 rQC1 rQC2 rQC3 rQC4 rQD0 rQD1 rQD2 rQD3 rQD4
      refine (CQ0.out _).mono ?_
      rintro e w5 ⟨rfl, hb⟩
      replace QA := Lib.hid (QA.out.via hb)
      replace QB := Lib.hid (QB.out.via hb)
      replace QC := Lib.hid (QC.out.via hb)
      replace QD := Lib.hid (QD.out.via hb)
      replace XP := Lib.hid (XP.out.via hb)
      replace BX := Lib.hid (sbtr BX.out hb)
      clear hb
      go_upto_region 8 with (fail)
      have zXQgXP : gXP < w5.heap.size := XP.out.lt
      replace QA := Lib.hid (QA.out.alloc (ivB ql0 qh0))
      replace QB := Lib.hid (QB.out.alloc (ivB ql0 qh0))
      replace QC := Lib.hid (QC.out.alloc (ivB ql0 qh0))
      replace QD := Lib.hid (QD.out.alloc (ivB ql0 qh0))
      replace XP := Lib.hid (XP.out.alloc (ivB ql0 qh0))
      have XQ := Lib.hid (Pr.new w5 _ rfl (.int .i64 ql0) (.int .i64 qh0) 23)
      replace BX := Lib.hid (sbal BX.out (ivB ql0 qh0))
      generalize w5.heap.size = gXQ at *
      generalize w5.alloc (ivB ql0 qh0) = V5 at *
      go_cut [101] from 82 to 102 (fun sx wx => sx = .bool false ∧ wx = V5)
      case first =>
        have ⟨rp0, rp1, _, _, _⟩ := XP.out
        have ⟨rq0, rq1, _, _, _⟩ := XQ.out
        by_cases h : pe0 = 0
        · obtain ⟨h1, h2, h3⟩ := HP0.out h
          subst h
          subst h1
          have k1 : decide (ql0 < pl0) = false := decide_eq_false (by omega)
          have k2 : decide (ph0 < qh0) = false := decide_eq_false (by omega)
          go_wp2_with fail
          go_meet
          exact ⟨rfl, rfl⟩
        · have k1 : decide (pe0 = 0) = false := decide_eq_false h
          have k2 : (pe0 == 0) = false := by simp [h]
          go_wp2_with fail
          go_meet
          exact ⟨rfl, rfl⟩
      case rest =>
        obtain ⟨rfl, rfl⟩ := hcut
        clear CP0 CQ0 HP0
        have ⟨rQA0, rQA1, rQA2, rQA3, rQA4⟩ := QA.out
        have ⟨rQB0, rQB1, rQB2, rQB3, rQB4⟩ := QB.out
        go_wp2_with fail
        clear rQA0 rQA1 rQA2 rQA3 rQA4 rQB0 rQB1 rQB2 rQB3 rQB4
        refine (CP1.out _).mono ?_
        rintro e w6 ⟨rfl, hb⟩
        replace QA := Lib.hid (QA.out.via hb)
        replace QB := Lib.hid (QB.out.via hb)
        replace QC := Lib.hid (QC.out.via hb)
        replace QD := Lib.hid (QD.out.via hb)
        replace XP := Lib.hid (XP.out.via hb)
        replace XQ := Lib.hid (XQ.out.via hb)
        replace BX := Lib.hid (sbtr BX.out hb)
        clear hb
        have ⟨rXP0, rXP1, rXP2, rXP3, rXP4⟩ := XP.out
        go_upto_region 11 with (fail)
        clear rXP0 rXP1 rXP2 rXP3 rXP4
        replace QA := Lib.hid (QA.out.far (h := gXP) (by omega) (.int .i64 pl1) (.int .i64 ph1))
        replace QB := Lib.hid (QB.out.far (h := gXP) (by omega) (.int .i64 pl1) (.int .i64 ph1))
        replace QC := Lib.hid (QC.out.far (h := gXP) (by omega) (.int .i64 pl1) (.int .i64 ph1))
        replace QD := Lib.hid (QD.out.far (h := gXP) (by omega) (.int .i64 pl1) (.int .i64 ph1))
        replace XP := Lib.hid (XP.out.set (.int .i64 pl1) (.int .i64 ph1))
        replace XQ := Lib.hid (XQ.out.far (h := gXP) (by omega) (.int .i64 pl1) (.int .i64 ph1))
        replace BX := Lib.hid (below_set2 BX.out (g := gXP) (by omega) (.int .i64 pl1) (.int .i64 ph1))
        generalize (w6.setCell ⟨gXP, 0, none⟩ (.int .i64 pl1)).setCell ⟨gXP, 1, none⟩ (.int .i64 ph1) = V6 at *
        have ⟨rQC0, rQC1, rQC2, rQC3, rQC4⟩ := QC.out
        have ⟨rQD0, rQD1, rQD2, rQD3, rQD4⟩ := QD.out
        go_wp2_with fail
        clear rQC0 rQC1 rQC2 rQC3 rQC4 rQD0 rQD1 rQD2 rQD3 rQD4
        refine (CQ1.out _).mono ?_
        rintro e w7 ⟨rfl, hb⟩
        replace QA := Lib.hid (QA.out.via hb)
        replace QB := Lib.hid (QB.out.via hb)
        replace QC := Lib.hid (QC.out.via hb)
        replace QD := Lib.hid (QD.out.via hb)
        replace XP := Lib.hid (XP.out.via hb)
        replace XQ := Lib.hid (XQ.out.via hb)
        replace BX := Lib.hid (sbtr BX.out hb)
        clear hb
        have ⟨rXQ0, rXQ1, rXQ2, rXQ3, rXQ4⟩ := XQ.out
        go_upto_region 12 with (fail)
        clear rXQ0 rXQ1 rXQ2 rXQ3 rXQ4
        replace QA := Lib.hid (QA.out.far (h := gXQ) (by omega) (.int .i64 ql1) (.int .i64 qh1))
        replace QB := Lib.hid (QB.out.far (h := gXQ) (by omega) (.int .i64 ql1) (.int .i64 qh1))
        replace QC := Lib.hid (QC.out.far (h := gXQ) (by omega) (.int .i64 ql1) (.int .i64 qh1))
        replace QD := Lib.hid (QD.out.far (h := gXQ) (by omega) (.int .i64 ql1) (.int .i64 qh1))
        replace XP := Lib.hid (XP.out.far (h := gXQ) (by omega) (.int .i64 ql1) (.int .i64 qh1))
        replace XQ := Lib.hid (XQ.out.set (.int .i64 ql1) (.int .i64 qh1))
        replace BX := Lib.hid (below_set2 BX.out (g := gXQ) (by omega) (.int .i64 ql1) (.int .i64 qh1))
        generalize (w7.setCell ⟨gXQ, 0, none⟩ (.int .i64 ql1)).setCell ⟨gXQ, 1, none⟩ (.int .i64 qh1) = V7 at *
        go_cut [133] from 114 to 134 (fun sx wx => sx = .bool false ∧ wx = V7)
        case first =>
          have ⟨rp0, rp1, _, _, _⟩ := XP.out
          have ⟨rq0, rq1, _, _, _⟩ := XQ.out
          by_cases h : pe1 = 0
          · obtain ⟨h1, h2, h3⟩ := HP1.out h
            subst h
            subst h1
            have k1 : decide (ql1 < pl1) = false := decide_eq_false (by omega)
            have k2 : decide (ph1 < qh1) = false := decide_eq_false (by omega)
            go_wp2_with fail
            go_meet
            exact ⟨rfl, rfl⟩
          · have k1 : decide (pe1 = 0) = false := decide_eq_false h
            have k2 : (pe1 == 0) = false := by simp [h]
            go_wp2_with fail
            go_meet
            exact ⟨rfl, rfl⟩
        case rest =>
          obtain ⟨rfl, rfl⟩ := hcut
          clear CP1 CQ1 HP1
          have ⟨rQA0, rQA1, rQA2, rQA3, rQA4⟩ := QA.out
          go_wp2_with fail
          clear rQA0 rQA1 rQA2 rQA3 rQA4
          refine (CP2.out _).mono ?_
          rintro e w8 ⟨rfl, hb⟩
          replace QA := Lib.hid (QA.out.via hb)
          replace QB := Lib.hid (QB.out.via hb)
          replace QC := Lib.hid (QC.out.via hb)
          replace QD := Lib.hid (QD.out.via hb)
          replace XP := Lib.hid (XP.out.via hb)
          replace XQ := Lib.hid (XQ.out.via hb)
          replace BX := Lib.hid (sbtr BX.out hb)
          clear hb
          have ⟨rXP0, rXP1, rXP2, rXP3, rXP4⟩ := XP.out
          go_upto_region 15 with (fail)
          clear rXP0 rXP1 rXP2 rXP3 rXP4
          replace QA := Lib.hid (QA.out.far (h := gXP) (by omega) (.int .i64 pl2) (.int .i64 ph2))
          replace QB := Lib.hid (QB.out.far (h := gXP) (by omega) (.int .i64 pl2) (.int .i64 ph2))
          replace QC := Lib.hid (QC.out.far (h := gXP) (by omega) (.int .i64 pl2) (.int .i64 ph2))
          replace QD := Lib.hid (QD.out.far (h := gXP) (by omega) (.int .i64 pl2) (.int .i64 ph2))
          replace XP := Lib.hid (XP.out.set (.int .i64 pl2) (.int .i64 ph2))
          replace XQ := Lib.hid (XQ.out.far (h := gXP) (by omega) (.int .i64 pl2) (.int .i64 ph2))
          replace BX := Lib.hid (below_set2 BX.out (g := gXP) (by omega) (.int .i64 pl2) (.int .i64 ph2))
          generalize (w8.setCell ⟨gXP, 0, none⟩ (.int .i64 pl2)).setCell ⟨gXP, 1, none⟩ (.int .i64 ph2) = V8 at *
          have ⟨rQC0, rQC1, rQC2, rQC3, rQC4⟩ := QC.out
          go_wp2_with fail
          clear rQC0 rQC1 rQC2 rQC3 rQC4
          refine (CQ2.out _).mono ?_
          rintro e w9 ⟨rfl, hb⟩
          replace QA := Lib.hid (QA.out.via hb)
          replace QB := Lib.hid (QB.out.via hb)
          replace QC := Lib.hid (QC.out.via hb)
          replace QD := Lib.hid (QD.out.via hb)
          replace XP := Lib.hid (XP.out.via hb)
          replace XQ := Lib.hid (XQ.out.via hb)
          replace BX := Lib.hid (sbtr BX.out hb)
          clear hb
          have ⟨rXQ0, rXQ1, rXQ2, rXQ3, rXQ4⟩ := XQ.out
          go_upto_region 16 with (fail)
          clear rXQ0 rXQ1 rXQ2 rXQ3 rXQ4
          replace QA := Lib.hid (QA.out.far (h := gXQ) (by omega) (.int .i64 ql2) (.int .i64 qh2))
          replace QB := Lib.hid (QB.out.far (h := gXQ) (by omega) (.int .i64 ql2) (.int .i64 qh2))
          replace QC := Lib.hid (QC.out.far (h := gXQ) (by omega) (.int .i64 ql2) (.int .i64 qh2))
          replace QD := Lib.hid (QD.out.far (h := gXQ) (by omega) (.int .i64 ql2) (.int .i64 qh2))
          replace XP := Lib.hid (XP.out.far (h := gXQ) (by omega) (.int .i64 ql2) (.int .i64 qh2))
          replace XQ := Lib.hid (XQ.out.set (.int .i64 ql2) (.int .i64 qh2))
          replace BX := Lib.hid (below_set2 BX.out (g := gXQ) (by omega) (.int .i64 ql2) (.int .i64 qh2))
          generalize (w9.setCell ⟨gXQ, 0, none⟩ (.int .i64 ql2)).setCell ⟨gXQ, 1, none⟩ (.int .i64 qh2) = V9 at *
          go_cut [163] from 144 to 164 (fun sx wx => sx = .bool false ∧ wx = V9)
          case first =>
            have ⟨rp0, rp1, _, _, _⟩ := XP.out
            have ⟨rq0, rq1, _, _, _⟩ := XQ.out
            by_cases h : pe2 = 0
            · obtain ⟨h1, h2, h3⟩ := HP2.out h
              subst h
              subst h1
              have k1 : decide (ql2 < pl2) = false := decide_eq_false (by omega)
              have k2 : decide (ph2 < qh2) = false := decide_eq_false (by omega)
              go_wp2_with fail
              go_meet
              exact ⟨rfl, rfl⟩
            · have k1 : decide (pe2 = 0) = false := decide_eq_false h
              have k2 : (pe2 == 0) = false := by simp [h]
              go_wp2_with fail
              go_meet
              exact ⟨rfl, rfl⟩
          case rest =>
            obtain ⟨rfl, rfl⟩ := hcut
            clear CP2 CQ2 HP2
            have ⟨rQA0, rQA1, rQA2, rQA3, rQA4⟩ := QA.out
            have ⟨rQB0, rQB1, rQB2, rQB3, rQB4⟩ := QB.out
            go_wp2_with fail
            clear rQA0 rQA1 rQA2 rQA3 rQA4 rQB0 rQB1 rQB2 rQB3 rQB4
            refine (CP3.out _).mono ?_
            rintro e w10 ⟨rfl, hb⟩
            replace QA := Lib.hid (QA.out.via hb)
            replace QB := Lib.hid (QB.out.via hb)
            replace QC := Lib.hid (QC.out.via hb)
            replace QD := Lib.hid (QD.out.via hb)
            replace XP := Lib.hid (XP.out.via hb)
            replace XQ := Lib.hid (XQ.out.via hb)
            replace BX := Lib.hid (sbtr BX.out hb)
            clear hb
            have ⟨rXP0, rXP1, rXP2, rXP3, rXP4⟩ := XP.out
            go_upto_region 19 with (fail)
            clear rXP0 rXP1 rXP2 rXP3 rXP4
            replace QA := Lib.hid (QA.out.far (h := gXP) (by omega) (.int .i64 pl3) (.int .i64 ph3))
            replace QB := Lib.hid (QB.out.far (h := gXP) (by omega) (.int .i64 pl3) (.int .i64 ph3))
            replace QC := Lib.hid (QC.out.far (h := gXP) (by omega) (.int .i64 pl3) (.int .i64 ph3))
            replace QD := Lib.hid (QD.out.far (h := gXP) (by omega) (.int .i64 pl3) (.int .i64 ph3))
            replace XP := Lib.hid (XP.out.set (.int .i64 pl3) (.int .i64 ph3))
            replace XQ := Lib.hid (XQ.out.far (h := gXP) (by omega) (.int .i64 pl3) (.int .i64 ph3))
            replace BX := Lib.hid (below_set2 BX.out (g := gXP) (by omega) (.int .i64 pl3) (.int .i64 ph3))
            generalize (w10.setCell ⟨gXP, 0, none⟩ (.int .i64 pl3)).setCell ⟨gXP, 1, none⟩ (.int .i64 ph3) = V10 at *
            have ⟨rQC0, rQC1, rQC2, rQC3, rQC4⟩ := QC.out
            have ⟨rQD0, rQD1, rQD2, rQD3, rQD4⟩ := QD.out
            go_wp2_with fail
            clear rQC0 rQC1 rQC2 rQC3 rQC4 rQD0 rQD1 rQD2 rQD3 rQD4
            refine (CQ3.out _).mono ?_
            rintro e w11 ⟨rfl, hb⟩
            replace QA := Lib.hid (QA.out.via hb)
            replace QB := Lib.hid (QB.out.via hb)
            replace QC := Lib.hid (QC.out.via hb)
            replace QD := Lib.hid (QD.out.via hb)
            replace XP := Lib.hid (XP.out.via hb)
            replace XQ := Lib.hid (XQ.out.via hb)
            replace BX := Lib.hid (sbtr BX.out hb)
            clear hb
            have ⟨rXQ0, rXQ1, rXQ2, rXQ3, rXQ4⟩ := XQ.out
            go_upto_region 20 with (fail)
            clear rXQ0 rXQ1 rXQ2 rXQ3 rXQ4
            replace QA := Lib.hid (QA.out.far (h := gXQ) (by omega) (.int .i64 ql3) (.int .i64 qh3))
            replace QB := Lib.hid (QB.out.far (h := gXQ) (by omega) (.int .i64 ql3) (.int .i64 qh3))
            replace QC := Lib.hid (QC.out.far (h := gXQ) (by omega) (.int .i64 ql3) (.int .i64 qh3))
            replace QD := Lib.hid (QD.out.far (h := gXQ) (by omega) (.int .i64 ql3) (.int .i64 qh3))
            replace XP := Lib.hid (XP.out.far (h := gXQ) (by omega) (.int .i64 ql3) (.int .i64 qh3))
            replace XQ := Lib.hid (XQ.out.set (.int .i64 ql3) (.int .i64 qh3))
            replace BX := Lib.hid (below_set2 BX.out (g := gXQ) (by omega) (.int .i64 ql3) (.int .i64 qh3))
            generalize (w11.setCell ⟨gXQ, 0, none⟩ (.int .i64 ql3)).setCell ⟨gXQ, 1, none⟩ (.int .i64 qh3) = V11 at *
            go_cut [195] from 176 to 196 (fun sx wx => sx = .bool false ∧ wx = V11)
            case first =>
              have ⟨rp0, rp1, _, _, _⟩ := XP.out
              have ⟨rq0, rq1, _, _, _⟩ := XQ.out
              by_cases h : pe3 = 0
              · obtain ⟨h1, h2, h3⟩ := HP3.out h
                subst h
                subst h1
                have k1 : decide (ql3 < pl3) = false := decide_eq_false (by omega)
                have k2 : decide (ph3 < qh3) = false := decide_eq_false (by omega)
                go_wp2_with fail
                go_meet
                exact ⟨rfl, rfl⟩
              · have k1 : decide (pe3 = 0) = false := decide_eq_false h
                have k2 : (pe3 == 0) = false := by simp [h]
                go_wp2_with fail
                go_meet
                exact ⟨rfl, rfl⟩
            case rest =>
              obtain ⟨rfl, rfl⟩ := hcut
              clear CP3 CQ3 HP3
              have ⟨rQC0, rQC1, rQC2, rQC3, rQC4⟩ := QC.out
              have ⟨rQA0, rQA1, rQA2, rQA3, rQA4⟩ := QA.out
              go_wp2_with fail
              clear rQC0 rQC1 rQC2 rQC3 rQC4 rQA0 rQA1 rQA2 rQA3 rQA4
              refine (CIN.out _).mono ?_
              rintro e w12 ⟨rfl, hb⟩
              replace QA := Lib.hid (QA.out.via hb)
              replace QB := Lib.hid (QB.out.via hb)
              replace QC := Lib.hid (QC.out.via hb)
              replace QD := Lib.hid (QD.out.via hb)
              replace XP := Lib.hid (XP.out.via hb)
              replace XQ := Lib.hid (XQ.out.via hb)
              replace BX := Lib.hid (sbtr BX.out hb)
              clear hb
              have ⟨rQC0, rQC1, rQC2, rQC3, rQC4⟩ := QC.out
              have ⟨rQA0, rQA1, rQA2, rQA3, rQA4⟩ := QA.out
              go_wp2_with fail
              clear rQC0 rQC1 rQC2 rQC3 rQC4 rQA0 rQA1 rQA2 rQA3 rQA4
              refine (CME.out _).mono ?_
              rintro e w13 ⟨rfl, hb⟩
              replace QA := Lib.hid (QA.out.via hb)
              replace QB := Lib.hid (QB.out.via hb)
              replace QC := Lib.hid (QC.out.via hb)
              replace QD := Lib.hid (QD.out.via hb)
              replace XP := Lib.hid (XP.out.via hb)
              replace XQ := Lib.hid (XQ.out.via hb)
              replace BX := Lib.hid (sbtr BX.out hb)
              clear hb
              go_upto_region 24 with (fail)
              replace QA := Lib.hid (QA.out.alloc (ivB sc sd))
              replace QB := Lib.hid (QB.out.alloc (ivB sc sd))
              replace QC := Lib.hid (QC.out.alloc (ivB sc sd))
              replace QD := Lib.hid (QD.out.alloc (ivB sc sd))
              replace XP := Lib.hid (XP.out.alloc (ivB sc sd))
              replace XQ := Lib.hid (XQ.out.alloc (ivB sc sd))
              have XM := Lib.hid (Pr.new w13 _ rfl (.int .i64 sc) (.int .i64 sd) 23)
              replace BX := Lib.hid (sbal BX.out (ivB sc sd))
              generalize w13.heap.size = gXM at *
              generalize w13.alloc (ivB sc sd) = V13 at *
              have ⟨rQC0, rQC1, rQC2, rQC3, rQC4⟩ := QC.out
              have ⟨rQA0, rQA1, rQA2, rQA3, rQA4⟩ := QA.out
              go_wp2_with fail
              clear rQC0 rQC1 rQC2 rQC3 rQC4 rQA0 rQA1 rQA2 rQA3 rQA4
              refine (CHU.out _).mono ?_
              rintro e w14 ⟨rfl, hb⟩
              replace QA := Lib.hid (QA.out.via hb)
              replace QB := Lib.hid (QB.out.via hb)
              replace QC := Lib.hid (QC.out.via hb)
              replace QD := Lib.hid (QD.out.via hb)
              replace XP := Lib.hid (XP.out.via hb)
              replace XQ := Lib.hid (XQ.out.via hb)
              replace XM := Lib.hid (XM.out.via hb)
              replace BX := Lib.hid (sbtr BX.out hb)
              clear hb
              have ⟨m0, m1, _, _, _⟩ := XM.out
              have ⟨c0, c1, _, _, _⟩ := QC.out
              have ⟨a0, a1, _, _, _⟩ := QA.out
              go_wp2
              go_ret
              exact ⟨rfl, sbal BX.out _⟩
theorem parts_any (w : World) (al ah bl bh k l m n : Int) (hk0 : 0 ≤ k) (hk1 : k ≤ 18446744073709551615) (hl0 : 0 ≤ l) (hl1 : l ≤ 18446744073709551615) (hm0 : 0 ≤ m) (hm1 : m ≤ 18446744073709551615) (hn0 : 0 ≤ n) (hn1 : n ≤ 18446744073709551615) : Calls Tryz.prog 4 #[iv al ah, iv bl bh, .int .u64 k, .int .u64 l, .int .u64 m, .int .u64 n] w (RB1 w true) := by
  rcases ivC_cases al ah with ⟨h1, x1, x2, x3⟩ | ⟨h1, _⟩
  · rcases ivC_cases bl bh with ⟨h2, y1, y2, y3⟩ | ⟨h2, _⟩
    · exact parts_main w al ah bl bh k l m n hk0 hk1 hl0 hl1 hm0 hm1 hn0 hn1 h1 h2 x1 x2 x3 y1 y2 y3
    · exact parts_bad2 w al ah bl bh k l m n h1 h2
  · exact parts_bad1 w al ah bl bh k l m n h1
end Go.Proofs.YtegnaknoaflppaaGreatDoor

/- Intervals of fractions: Of of the reference. -/
namespace Go.Proofs.YtegnaknoaflppaaGreatDoor
open Go.RowKit

theorem mul_neg_iff {N : Int} : decide (N * 1099511627776 < 0) = decide (N < 0) := by
  by_cases h : N < 0
  · rw [decide_eq_true h, decide_eq_true (by omega)]
  · rw [decide_eq_false h, decide_eq_false (by omega)]
end Go.Proofs.YtegnaknoaflppaaGreatDoor

/- Of on both sides at any fraction; the walk of the law SpanMakes. -/
namespace Go.Proofs.YtegnaknoaflppaaGreatDoor
open Go.RowKit

set_option maxRecDepth 100000 in
set_option maxHeartbeats 4000000 in
theorem sof_bad (w : World) (nn dn : Bool) (A B : Option Addr) (n m ca cb : Nat) (xs ys : List Nat) (hA : Lm w w.heap.size A n ca xs) (hB : Lm w w.heap.size B m cb ys) (h : fchk nn xs dn ys = 8) : Calls Tryz.prog 15 #[fv nn A n ca dn B m cb] w (RO w ⟨0, 0, 8⟩) := by
  have HA := Lib.hid hA
  have HB := Lib.hid hB
  have hck : ∀ W, Lm W W.heap.size A n ca xs → Lm W W.heap.size B m cb ys → Calls Tryz.prog 36 #[fv nn A n ca dn B m cb] W (RN1 W 8) := fun W L1 L2 => by
    have h1 := fcheck_any W nn dn A B n m ca cb _ _ L1 L2
    rw [h] at h1
    exact h1
  have HCK := Lib.hid hck
  clear hck h hA hB
  go_enter Tryz.func15, Tryz.ntmps15
  have QF := Lib.hid ((Qd.new w (w.heap.size) rfl (.bool nn) (.slice A n ca) (.bool dn) (.slice B m cb) 39).alloc (.cells #[.int .i64 0, .int .i64 0] 23))
  have QR := Lib.hid (Pr.new (w.alloc (.cells #[.bool nn, .slice A n ca, .bool dn, .slice B m cb] 39)) (w.heap.size + 1) (by simp) (.int .i64 0) (.int .i64 0) 23)
  have LA := Lib.hid ((HA.out.box (.cells #[.bool nn, .slice A n ca, .bool dn, .slice B m cb] 39)).box (.cells #[.int .i64 0, .int .i64 0] 23))
  have LB := Lib.hid ((HB.out.box (.cells #[.bool nn, .slice A n ca, .bool dn, .slice B m cb] 39)).box (.cells #[.int .i64 0, .int .i64 0] 23))
  have BW : Hid (Below w.heap.size w ((w.alloc (.cells #[.bool nn, .slice A n ca, .bool dn, .slice B m cb] 39)).alloc (.cells #[.int .i64 0, .int .i64 0] 23))) := (sbal (sbal (Below.refl _ _) _) _)
  clear HA HB
  go_wp2_with fail
  generalize (w.alloc (.cells #[.bool nn, .slice A n ca, .bool dn, .slice B m cb] 39)).alloc (.cells #[.int .i64 0, .int .i64 0] 23) = W0 at *
  refine (HCK.out _ LA.out LB.out).mono ?_
  rintro e w1 ⟨rfl, hb⟩
  replace QF := Lib.hid (QF.out.via hb)
  replace QR := Lib.hid (QR.out.via hb)
  replace LA := Lib.hid (LA.out.via hb)
  replace LB := Lib.hid (LB.out.via hb)
  replace BW := Lib.hid (btr BW.out hb)
  clear hb
  have ⟨rQR0, rQR1, rQR2, rQR3, rQRl⟩ := QR.out
  go_wp2
  exact post_iv Tryz.results15 rfl rfl (QR.out.set _ _) ⟨rfl, below_set2 BW.out (by omega) _ _⟩
theorem fchk_cases (nn : Bool) (xs : List Nat) (dn : Bool) (ys : List Nat) : fchk nn xs dn ys = 0 ∨ fchk nn xs dn ys = 8 := by unfold fchk; split <;> simp
end Go.Proofs.YtegnaknoaflppaaGreatDoor

/- The walk of the law SpanNames. -/
namespace Go.Proofs.YtegnaknoaflppaaGreatDoor
open Go.RowKit

theorem nm_c1 (w : World) : Calls Tryz.prog 6 #[iv 1 0] w (RN1 w 8) := scheck_any w _ _
theorem nm_c2 (w : World) : Calls Tryz.prog 6 #[iv 0 2305843009213693953] w (RN1 w 8) := scheck_any w _ _
theorem nm_c3 (w : World) : Calls Tryz.prog 6 #[iv (-2305843009213693952) 2305843009213693952] w (RN1 w 0) := scheck_any w _ _
theorem nm_add (w : World) : Calls Tryz.prog 7 #[iv 2305843009213693952 2305843009213693952, iv 0 1] w (RO w ⟨0, 0, 16⟩) := sadd_any w _ _ _ _
theorem nm_mul (w : World) : Calls Tryz.prog 8 #[iv 2305843009213693952 2305843009213693952, iv 2305843009213693952 2305843009213693952] w (RO w ⟨0, 0, 16⟩) := smulp_any w _ _ _ _
theorem nm_sqrt (w : World) : Calls Tryz.prog 9 #[iv (-1) 5] w (RO w ⟨0, 0, 2⟩) := by
  obtain ⟨Rl, hl⟩ := isRt_ex ((-1 : Int).toNat * 1099511627776)
  obtain ⟨Rh, hh⟩ := isRt_ex ((5 : Int).toNat * 1099511627776)
  exact ssqrt_any w _ _ Rl Rh hl hh
theorem nm_meet (w : World) : Calls Tryz.prog 10 #[iv 0 1, iv 2 3] w (RO w ⟨0, 0, 6⟩) := smeet_any w _ _ _ _
theorem nm_sc0 (w : World) : Calls Tryz.prog 11 #[iv 2305843009213693952 2305843009213693952, .int .i64 1, .int .i64 0] w (RO w ⟨0, 0, 18⟩) := sscale_any w _ _ 1 0 (by decide) (by decide) (by decide) (by decide)
theorem nm_sc2 (w : World) : Calls Tryz.prog 11 #[iv (-7) 7, .int .i64 1, .int .i64 (-2)] w (RO w ⟨-4, 4, 0⟩) := sscale_any w _ _ 1 (-2) (by decide) (by decide) (by decide) (by decide)
theorem nm_dv0 (w : World) : Calls Tryz.prog 12 #[iv 1 1, iv (-3) 3] w (RO w ⟨0, 0, 18⟩) := sdiv_any w _ _ _ _
theorem nm_dv3 (w : World) : Calls Tryz.prog 12 #[iv 1 1, iv 3 3] w (RO w ⟨366503875925, 366503875926, 0⟩) := sdiv_any w _ _ _ _
theorem nm_dvt (w : World) : Calls Tryz.prog 12 #[iv 2305843009213693952 2305843009213693952, iv 1 1] w (RO w ⟨0, 0, 16⟩) := sdiv_any w _ _ _ _
theorem nm_wh1 (w : World) : Calls Tryz.prog 13 #[.int .i64 2097153] w (RO w ⟨0, 0, 16⟩) := swhole_any w _ (by decide) (by decide)
theorem nm_wh2 (w : World) : Calls Tryz.prog 13 #[.int .i64 (-2097152)] w (RO w ⟨-2305843009213693952, -2305843009213693952, 0⟩) := swhole_any w _ (by decide) (by decide)
theorem nm_mid (w : World) : Calls Tryz.prog 14 #[iv (-3) 0] w (RI2 w (-2) 0) := smid_any w _ _
theorem nm_of (w : World) : Calls Tryz.prog 15 #[fv false none 0 0 false none 0 0] w (RO w ⟨0, 0, 8⟩) := sof_bad w false false none none 0 0 0 0 [] [] (Lm.nil _ _) (Lm.nil _ _) (by decide)
theorem nm_in (w : World) : Calls Tryz.prog 16 #[iv 1 2, iv 1 2] w (RB2 w true 0) := sin_any w _ _ _ _
theorem nm_neg (w : World) : Calls Tryz.prog 17 #[iv 1 0] w (RO w ⟨0, 0, 8⟩) := sneg_any w _ _
set_option maxRecDepth 100000 in
set_option maxHeartbeats 16000000 in
theorem names_any (w : World) : Calls Tryz.prog 3 #[] w (RB1 w true) := by
  have BX : Hid (Below w.heap.size w w) := Below.refl _ _
  go_enter Tryz.func3, Tryz.ntmps3
  go_wp2_with fail
  refine (liv_any _ _ _).mono ?_
  rintro e w1 ⟨rfl, hb⟩
  replace BX := Lib.hid (sbtr BX.out hb)
  clear hb
  go_upto_region 2 with (fail)
  have XT := Lib.hid (Pr.new w1 _ rfl (.int .i64 (2305843009213693952)) (.int .i64 (2305843009213693952)) 23)
  replace BX := Lib.hid (sbal BX.out (ivB (2305843009213693952) (2305843009213693952)))
  generalize w1.heap.size = g2 at *
  generalize w1.alloc (ivB (2305843009213693952) (2305843009213693952)) = V1 at *
  go_wp2_with fail
  refine (liv_any _ _ _).mono ?_
  rintro e w2 ⟨rfl, hb⟩
  replace XT := Lib.hid (XT.out.via hb)
  replace BX := Lib.hid (sbtr BX.out hb)
  clear hb
  go_wp2_with fail
  refine (nm_c1 _).mono ?_
  rintro e w3 ⟨rfl, hb⟩
  replace XT := Lib.hid (XT.out.via hb)
  replace BX := Lib.hid (sbtr BX.out hb)
  clear hb
  go_wp2_with fail
  refine (liv_any _ _ _).mono ?_
  rintro e w4 ⟨rfl, hb⟩
  replace XT := Lib.hid (XT.out.via hb)
  replace BX := Lib.hid (sbtr BX.out hb)
  clear hb
  go_wp2_with fail
  refine (nm_c2 _).mono ?_
  rintro e w5 ⟨rfl, hb⟩
  replace XT := Lib.hid (XT.out.via hb)
  replace BX := Lib.hid (sbtr BX.out hb)
  clear hb
  go_wp2_with fail
  refine (liv_any _ _ _).mono ?_
  rintro e w6 ⟨rfl, hb⟩
  replace XT := Lib.hid (XT.out.via hb)
  replace BX := Lib.hid (sbtr BX.out hb)
  clear hb
  go_wp2_with fail
  refine (nm_c3 _).mono ?_
  rintro e w7 ⟨rfl, hb⟩
  replace XT := Lib.hid (XT.out.via hb)
  replace BX := Lib.hid (sbtr BX.out hb)
  clear hb
  go_upto_region 3 with (fail)
  have HKS : Hid (∀ X : World, Below w7.heap.size w7 X → X.cell? ⟨g2, 0, none⟩ = some (.int .i64 (2305843009213693952)) ∧ X.cell? ⟨g2, 1, none⟩ = some (.int .i64 (2305843009213693952))) := fun X h => ⟨(XT.out.via h).c0, (XT.out.via h).c1⟩
  go_cut [4] from 3 to 54 (fun sx wx => sx = .int .i64 16 ∧ Below w7.heap.size w7 wx)
  case first =>
    go_region_held3 (fun X => X.cell? ⟨g2, 0, none⟩ = some (.int .i64 (2305843009213693952)) ∧ X.cell? ⟨g2, 1, none⟩ = some (.int .i64 (2305843009213693952)))
      (first | (refine HKS.out _ ?_; (repeat' (first | with_reducible exact B24 | with_reducible exact B3 | with_reducible exact (Below.refl _ _).drew | with_reducible exact Below.refl _ _ | with_reducible refine Below.drew ?_ | with_reducible refine Below.setCell ?_ ?_ _ | with_reducible refine Below.alloc ?_ ?_ _)); all_goals (first | omega | (simp; done) | (simp [World.size_setCell]; omega))))
      (first
       | (have _t := B3; go_at_call 7; refine (nm_add _).mono ?_; rintro e u4 ⟨rfl, hb4⟩; have B34 : Below u3.heap.size u3 u4 := (by first | exact hb4 | exact b_one hb4); have B24 := sbtr B3 B34; have hs24 := B24.size; (try (have PW := PZ.via B34; have ⟨v0, v1, v2, v3, v4⟩ := PW; have va := fun o => (PW.alloc o).c0; have vb := fun o => (PW.alloc o).c1; have vc := fun o => (PW.alloc o).f0; have vd := fun o => (PW.alloc o).f1; have ve := Nat.ne_of_lt PW.lt; have vf := Nat.ne_of_gt PW.lt)); (try (have PY := (Pr.new u3 u3.heap.size rfl (.int .i64 0) (.int .i64 0) 23).via hb4; have ⟨y0, y1, y2, y3, y4⟩ := PY; have ya := fun o => (PY.alloc o).c0; have yb := fun o => (PY.alloc o).c1; have yc := fun o => (PY.alloc o).f0; have yd := fun o => (PY.alloc o).f1; have ye := Nat.ne_of_lt PY.lt; have yf := Nat.ne_of_gt PY.lt)))
       | (go_at_call 5; refine (liv_any _ _ _).mono ?_; rintro e u3 ⟨rfl, hb3⟩; have B3 : Below w7.heap.size w7 u3 := (by first | exact (Below.refl _ _).drew.trans hb3 | exact b_one_d hb3 | exact hb3 | exact b_one hb3); have hs13 := B3.size; (try (have PZ := ((Pr.new w7 w7.heap.size rfl (.int .i64 0) (.int .i64 0) 23).drewN 1).via hb3; have ⟨z0, z1, z2, z3, z4⟩ := PZ)))
       | fail)
    all_goals
      go_wp2_with fail
      go_meet
      first
      | exact ⟨rfl, sbal B24 _⟩
      | exact ⟨rfl, below_set2 B24 hs13 _ _⟩
      | exact ⟨rfl, below_set2 B24 (Nat.le_refl _) _ _⟩
  case rest =>
    obtain ⟨rfl, hb⟩ := hcut
    replace XT := Lib.hid (XT.out.via hb)
    replace BX := Lib.hid (sbtr BX.out hb)
    clear hb HKS
    generalize wc = V9 at *
    have ⟨rXT0, rXT1, rXT2, rXT3, rXT4⟩ := XT.out
    go_wp2_with fail
    clear rXT0 rXT1 rXT2 rXT3 rXT4
    refine (nm_mul _).mono ?_
    rintro e w10 ⟨rfl, hb⟩
    replace XT := Lib.hid (XT.out.via hb)
    replace BX := Lib.hid (sbtr BX.out hb)
    clear hb
    go_upto_region 5 with (fail)
    replace XT := Lib.hid (XT.out.alloc (ivB (0) (0)))
    replace BX := Lib.hid (sbal BX.out (ivB (0) (0)))
    generalize w10.heap.size = g5 at *
    generalize w10.alloc (ivB (0) (0)) = V10 at *
    go_wp2_with fail
    refine (liv_any _ _ _).mono ?_
    rintro e w11 ⟨rfl, hb⟩
    replace XT := Lib.hid (XT.out.via hb)
    replace BX := Lib.hid (sbtr BX.out hb)
    clear hb
    go_wp2_with fail
    refine (nm_sqrt _).mono ?_
    rintro e w12 ⟨rfl, hb⟩
    replace XT := Lib.hid (XT.out.via hb)
    replace BX := Lib.hid (sbtr BX.out hb)
    clear hb
    go_upto_region 6 with (fail)
    replace XT := Lib.hid (XT.out.alloc (ivB (0) (0)))
    replace BX := Lib.hid (sbal BX.out (ivB (0) (0)))
    generalize w12.heap.size = g6 at *
    generalize w12.alloc (ivB (0) (0)) = V12 at *
    go_wp2_with fail
    refine (liv_any _ _ _).mono ?_
    rintro e w13 ⟨rfl, hb⟩
    replace XT := Lib.hid (XT.out.via hb)
    replace BX := Lib.hid (sbtr BX.out hb)
    clear hb
    go_wp2_with fail
    refine (liv_any _ _ _).mono ?_
    rintro e w14 ⟨rfl, hb⟩
    replace XT := Lib.hid (XT.out.via hb)
    replace BX := Lib.hid (sbtr BX.out hb)
    clear hb
    go_wp2_with fail
    refine (nm_meet _).mono ?_
    rintro e w15 ⟨rfl, hb⟩
    replace XT := Lib.hid (XT.out.via hb)
    replace BX := Lib.hid (sbtr BX.out hb)
    clear hb
    go_upto_region 7 with (fail)
    replace XT := Lib.hid (XT.out.alloc (ivB (0) (0)))
    replace BX := Lib.hid (sbal BX.out (ivB (0) (0)))
    generalize w15.heap.size = g7 at *
    generalize w15.alloc (ivB (0) (0)) = V15 at *
    have ⟨rXT0, rXT1, rXT2, rXT3, rXT4⟩ := XT.out
    go_wp2_with fail
    clear rXT0 rXT1 rXT2 rXT3 rXT4
    refine (nm_sc0 _).mono ?_
    rintro e w16 ⟨rfl, hb⟩
    replace XT := Lib.hid (XT.out.via hb)
    replace BX := Lib.hid (sbtr BX.out hb)
    clear hb
    go_upto_region 8 with (fail)
    replace XT := Lib.hid (XT.out.alloc (ivB (0) (0)))
    replace BX := Lib.hid (sbal BX.out (ivB (0) (0)))
    generalize w16.heap.size = g8 at *
    generalize w16.alloc (ivB (0) (0)) = V16 at *
    go_wp2_with fail
    refine (liv_any _ _ _).mono ?_
    rintro e w17 ⟨rfl, hb⟩
    replace XT := Lib.hid (XT.out.via hb)
    replace BX := Lib.hid (sbtr BX.out hb)
    clear hb
    go_wp2_with fail
    refine (nm_sc2 _).mono ?_
    rintro e w18 ⟨rfl, hb⟩
    replace XT := Lib.hid (XT.out.via hb)
    replace BX := Lib.hid (sbtr BX.out hb)
    clear hb
    go_upto_region 9 with (fail)
    replace XT := Lib.hid (XT.out.alloc (ivB (-4) (4)))
    have XX := Lib.hid (Pr.new w18 _ rfl (.int .i64 (-4)) (.int .i64 (4)) 23)
    replace BX := Lib.hid (sbal BX.out (ivB (-4) (4)))
    generalize w18.heap.size = g9 at *
    generalize w18.alloc (ivB (-4) (4)) = V18 at *
    go_wp2_with fail
    refine (liv_any _ _ _).mono ?_
    rintro e w19 ⟨rfl, hb⟩
    replace XT := Lib.hid (XT.out.via hb)
    replace XX := Lib.hid (XX.out.via hb)
    replace BX := Lib.hid (sbtr BX.out hb)
    clear hb
    go_wp2_with fail
    refine (liv_any _ _ _).mono ?_
    rintro e w20 ⟨rfl, hb⟩
    replace XT := Lib.hid (XT.out.via hb)
    replace XX := Lib.hid (XX.out.via hb)
    replace BX := Lib.hid (sbtr BX.out hb)
    clear hb
    go_wp2_with fail
    refine (nm_dv0 _).mono ?_
    rintro e w21 ⟨rfl, hb⟩
    replace XT := Lib.hid (XT.out.via hb)
    replace XX := Lib.hid (XX.out.via hb)
    replace BX := Lib.hid (sbtr BX.out hb)
    clear hb
    go_upto_region 10 with (fail)
    replace XT := Lib.hid (XT.out.alloc (ivB (0) (0)))
    replace XX := Lib.hid (XX.out.alloc (ivB (0) (0)))
    replace BX := Lib.hid (sbal BX.out (ivB (0) (0)))
    generalize w21.heap.size = g10 at *
    generalize w21.alloc (ivB (0) (0)) = V21 at *
    go_wp2_with fail
    refine (liv_any _ _ _).mono ?_
    rintro e w22 ⟨rfl, hb⟩
    replace XT := Lib.hid (XT.out.via hb)
    replace XX := Lib.hid (XX.out.via hb)
    replace BX := Lib.hid (sbtr BX.out hb)
    clear hb
    go_wp2_with fail
    refine (liv_any _ _ _).mono ?_
    rintro e w23 ⟨rfl, hb⟩
    replace XT := Lib.hid (XT.out.via hb)
    replace XX := Lib.hid (XX.out.via hb)
    replace BX := Lib.hid (sbtr BX.out hb)
    clear hb
    go_wp2_with fail
    refine (nm_dv3 _).mono ?_
    rintro e w24 ⟨rfl, hb⟩
    replace XT := Lib.hid (XT.out.via hb)
    replace XX := Lib.hid (XX.out.via hb)
    replace BX := Lib.hid (sbtr BX.out hb)
    clear hb
    go_upto_region 11 with (fail)
    replace XT := Lib.hid (XT.out.alloc (ivB (366503875925) (366503875926)))
    replace XX := Lib.hid (XX.out.alloc (ivB (366503875925) (366503875926)))
    have XY := Lib.hid (Pr.new w24 _ rfl (.int .i64 (366503875925)) (.int .i64 (366503875926)) 23)
    replace BX := Lib.hid (sbal BX.out (ivB (366503875925) (366503875926)))
    generalize w24.heap.size = g11 at *
    generalize w24.alloc (ivB (366503875925) (366503875926)) = V24 at *
    go_wp2_with fail
    refine (nm_wh1 _).mono ?_
    rintro e w25 ⟨rfl, hb⟩
    replace XT := Lib.hid (XT.out.via hb)
    replace XX := Lib.hid (XX.out.via hb)
    replace XY := Lib.hid (XY.out.via hb)
    replace BX := Lib.hid (sbtr BX.out hb)
    clear hb
    go_upto_region 12 with (fail)
    replace XT := Lib.hid (XT.out.alloc (ivB (0) (0)))
    replace XX := Lib.hid (XX.out.alloc (ivB (0) (0)))
    replace XY := Lib.hid (XY.out.alloc (ivB (0) (0)))
    replace BX := Lib.hid (sbal BX.out (ivB (0) (0)))
    generalize w25.heap.size = g12 at *
    generalize w25.alloc (ivB (0) (0)) = V25 at *
    go_wp2_with fail
    refine (nm_wh2 _).mono ?_
    rintro e w26 ⟨rfl, hb⟩
    replace XT := Lib.hid (XT.out.via hb)
    replace XX := Lib.hid (XX.out.via hb)
    replace XY := Lib.hid (XY.out.via hb)
    replace BX := Lib.hid (sbtr BX.out hb)
    clear hb
    go_upto_region 13 with (fail)
    replace XT := Lib.hid (XT.out.alloc (ivB (-2305843009213693952) (-2305843009213693952)))
    replace XX := Lib.hid (XX.out.alloc (ivB (-2305843009213693952) (-2305843009213693952)))
    replace XY := Lib.hid (XY.out.alloc (ivB (-2305843009213693952) (-2305843009213693952)))
    have XZ := Lib.hid (Pr.new w26 _ rfl (.int .i64 (-2305843009213693952)) (.int .i64 (-2305843009213693952)) 23)
    replace BX := Lib.hid (sbal BX.out (ivB (-2305843009213693952) (-2305843009213693952)))
    generalize w26.heap.size = g13 at *
    generalize w26.alloc (ivB (-2305843009213693952) (-2305843009213693952)) = V26 at *
    go_wp2_with fail
    refine (liv_any _ _ _).mono ?_
    rintro e w27 ⟨rfl, hb⟩
    replace XT := Lib.hid (XT.out.via hb)
    replace XX := Lib.hid (XX.out.via hb)
    replace XY := Lib.hid (XY.out.via hb)
    replace XZ := Lib.hid (XZ.out.via hb)
    replace BX := Lib.hid (sbtr BX.out hb)
    clear hb
    go_wp2_with fail
    refine (nm_mid _).mono ?_
    rintro e w28 ⟨rfl, hb⟩
    replace XT := Lib.hid (XT.out.via hb)
    replace XX := Lib.hid (XX.out.via hb)
    replace XY := Lib.hid (XY.out.via hb)
    replace XZ := Lib.hid (XZ.out.via hb)
    replace BX := Lib.hid (sbtr BX.out hb)
    clear hb
    go_upto_region 14 with (fail)
    have HKS : Hid (∀ X : World, Below w28.heap.size w28 X → X.cell? ⟨g2, 0, none⟩ = some (.int .i64 (2305843009213693952)) ∧ X.cell? ⟨g2, 1, none⟩ = some (.int .i64 (2305843009213693952))) := fun X h => ⟨(XT.out.via h).c0, (XT.out.via h).c1⟩
    go_cut [26] from 25 to 112 (fun sx wx => sx = .int .i64 16 ∧ Below w28.heap.size w28 wx)
    case first =>
      go_region_held3 (fun X => X.cell? ⟨g2, 0, none⟩ = some (.int .i64 (2305843009213693952)) ∧ X.cell? ⟨g2, 1, none⟩ = some (.int .i64 (2305843009213693952)))
        (first | (refine HKS.out _ ?_; (repeat' (first | with_reducible exact B24 | with_reducible exact B3 | with_reducible exact (Below.refl _ _).drew | with_reducible exact Below.refl _ _ | with_reducible refine Below.drew ?_ | with_reducible refine Below.setCell ?_ ?_ _ | with_reducible refine Below.alloc ?_ ?_ _)); all_goals (first | omega | (simp; done) | (simp [World.size_setCell]; omega))))
        (first
         | (have _t := B3; go_at_call 12; refine (nm_dvt _).mono ?_; rintro e u4 ⟨rfl, hb4⟩; have B34 : Below u3.heap.size u3 u4 := (by first | exact hb4 | exact b_one hb4); have B24 := sbtr B3 B34; have hs24 := B24.size; (try (have PW := PZ.via B34; have ⟨v0, v1, v2, v3, v4⟩ := PW; have va := fun o => (PW.alloc o).c0; have vb := fun o => (PW.alloc o).c1; have vc := fun o => (PW.alloc o).f0; have vd := fun o => (PW.alloc o).f1; have ve := Nat.ne_of_lt PW.lt; have vf := Nat.ne_of_gt PW.lt)); (try (have PY := (Pr.new u3 u3.heap.size rfl (.int .i64 0) (.int .i64 0) 23).via hb4; have ⟨y0, y1, y2, y3, y4⟩ := PY; have ya := fun o => (PY.alloc o).c0; have yb := fun o => (PY.alloc o).c1; have yc := fun o => (PY.alloc o).f0; have yd := fun o => (PY.alloc o).f1; have ye := Nat.ne_of_lt PY.lt; have yf := Nat.ne_of_gt PY.lt)))
         | (go_at_call 5; refine (liv_any _ _ _).mono ?_; rintro e u3 ⟨rfl, hb3⟩; have B3 : Below w28.heap.size w28 u3 := (by first | exact (Below.refl _ _).drew.trans hb3 | exact b_one_d hb3 | exact hb3 | exact b_one hb3); have hs13 := B3.size; (try (have PZ := ((Pr.new w28 w28.heap.size rfl (.int .i64 0) (.int .i64 0) 23).drewN 1).via hb3; have ⟨z0, z1, z2, z3, z4⟩ := PZ)))
         | fail)
      all_goals
        go_wp2_with fail
        go_meet
        first
        | exact ⟨rfl, sbal B24 _⟩
        | exact ⟨rfl, below_set2 B24 hs13 _ _⟩
        | exact ⟨rfl, below_set2 B24 (Nat.le_refl _) _ _⟩
    case rest =>
      obtain ⟨rfl, hb⟩ := hcut
      replace XT := Lib.hid (XT.out.via hb)
      replace XX := Lib.hid (XX.out.via hb)
      replace XY := Lib.hid (XY.out.via hb)
      replace XZ := Lib.hid (XZ.out.via hb)
      replace BX := Lib.hid (sbtr BX.out hb)
      clear hb HKS
      generalize wc = V30 at *
      clear XT
      go_wp2_with fail
      refine (nm_of _).mono ?_
      rintro e w31 ⟨rfl, hb⟩
      replace XX := Lib.hid (XX.out.via hb)
      replace XY := Lib.hid (XY.out.via hb)
      replace XZ := Lib.hid (XZ.out.via hb)
      replace BX := Lib.hid (sbtr BX.out hb)
      clear hb
      go_upto_region 16 with (fail)
      replace XX := Lib.hid (XX.out.alloc (ivB (0) (0)))
      replace XY := Lib.hid (XY.out.alloc (ivB (0) (0)))
      replace XZ := Lib.hid (XZ.out.alloc (ivB (0) (0)))
      replace BX := Lib.hid (sbal BX.out (ivB (0) (0)))
      generalize w31.heap.size = g16 at *
      generalize w31.alloc (ivB (0) (0)) = V31 at *
      go_wp2_with fail
      refine (liv_any _ _ _).mono ?_
      rintro e w32 ⟨rfl, hb⟩
      replace XX := Lib.hid (XX.out.via hb)
      replace XY := Lib.hid (XY.out.via hb)
      replace XZ := Lib.hid (XZ.out.via hb)
      replace BX := Lib.hid (sbtr BX.out hb)
      clear hb
      go_wp2_with fail
      refine (liv_any _ _ _).mono ?_
      rintro e w33 ⟨rfl, hb⟩
      replace XX := Lib.hid (XX.out.via hb)
      replace XY := Lib.hid (XY.out.via hb)
      replace XZ := Lib.hid (XZ.out.via hb)
      replace BX := Lib.hid (sbtr BX.out hb)
      clear hb
      go_wp2_with fail
      refine (nm_in _).mono ?_
      rintro e w34 ⟨rfl, hb⟩
      replace XX := Lib.hid (XX.out.via hb)
      replace XY := Lib.hid (XY.out.via hb)
      replace XZ := Lib.hid (XZ.out.via hb)
      replace BX := Lib.hid (sbtr BX.out hb)
      clear hb
      go_wp2_with fail
      refine (liv_any _ _ _).mono ?_
      rintro e w35 ⟨rfl, hb⟩
      replace XX := Lib.hid (XX.out.via hb)
      replace XY := Lib.hid (XY.out.via hb)
      replace XZ := Lib.hid (XZ.out.via hb)
      replace BX := Lib.hid (sbtr BX.out hb)
      clear hb
      go_wp2_with fail
      refine (nm_neg _).mono ?_
      rintro e w36 ⟨rfl, hb⟩
      replace XX := Lib.hid (XX.out.via hb)
      replace XY := Lib.hid (XY.out.via hb)
      replace XZ := Lib.hid (XZ.out.via hb)
      replace BX := Lib.hid (sbtr BX.out hb)
      clear hb
      go_upto_region 18 with (fail)
      replace XX := Lib.hid (XX.out.alloc (ivB (0) (0)))
      replace XY := Lib.hid (XY.out.alloc (ivB (0) (0)))
      replace XZ := Lib.hid (XZ.out.alloc (ivB (0) (0)))
      replace BX := Lib.hid (sbal BX.out (ivB (0) (0)))
      generalize w36.heap.size = g18 at *
      generalize w36.alloc (ivB (0) (0)) = V36 at *
      have HKS : Hid (∀ X : World, Below V36.heap.size V36 X → X.cell? ⟨g9, 0, none⟩ = some (.int .i64 (-4)) ∧ X.cell? ⟨g9, 1, none⟩ = some (.int .i64 (4))) := fun X h => ⟨(XX.out.via h).c0, (XX.out.via h).c1⟩
      go_cut [33] from 33 to 167 (fun sx wx => sx = .bool true ∧ Below V36.heap.size V36 wx)
      case first =>
        go_region_held3 (fun X => X.cell? ⟨g9, 0, none⟩ = some (.int .i64 (-4)) ∧ X.cell? ⟨g9, 1, none⟩ = some (.int .i64 (4)))
          (first | exact HKS.out _ (Below.refl _ _) | exact HKS.out _ (Below.refl _ _).drew | exact HKS.out _ E1 | exact HKS.out _ E0)
          (first
           | (have _t := E0; go_at_call 5; refine (liv_any _ _ _).mono ?_; rintro e y1 ⟨rfl, hh1⟩; have E1 : Below V36.heap.size V36 y1 := sbtr E0 hh1)
           | (go_at_call 18; refine (lalive_any _).mono ?_; rintro e y0 ⟨rfl, hh0⟩; have E0 : Below V36.heap.size V36 y0 := (by first | exact (bdrewN (Below.refl _ _) 1).trans hh0 | exact hh0))
           | fail)
        all_goals
          go_wp2_with fail
          go_meet
          exact ⟨rfl, E1⟩
      case rest =>
        obtain ⟨rfl, hb⟩ := hcut
        replace XX := Lib.hid (XX.out.via hb)
        replace XY := Lib.hid (XY.out.via hb)
        replace XZ := Lib.hid (XZ.out.via hb)
        replace BX := Lib.hid (sbtr BX.out hb)
        clear hb HKS
        generalize wc = V37 at *
        clear XX
        go_upto_region 19 with (fail)
        have HKS : Hid (∀ X : World, Below V37.heap.size V37 X → X.cell? ⟨g11, 0, none⟩ = some (.int .i64 (366503875925)) ∧ X.cell? ⟨g11, 1, none⟩ = some (.int .i64 (366503875926)) ∧ X.cell? ⟨g13, 0, none⟩ = some (.int .i64 (-2305843009213693952)) ∧ X.cell? ⟨g13, 1, none⟩ = some (.int .i64 (-2305843009213693952))) := fun X h => ⟨(XY.out.via h).c0, (XY.out.via h).c1, (XZ.out.via h).c0, (XZ.out.via h).c1⟩
        go_cut [33] from 33 to 198 (fun sx wx => sx = .bool true ∧ Below V37.heap.size V37 wx)
        case first =>
          go_region_held3 (fun X => X.cell? ⟨g11, 0, none⟩ = some (.int .i64 (366503875925)) ∧ X.cell? ⟨g11, 1, none⟩ = some (.int .i64 (366503875926)) ∧ X.cell? ⟨g13, 0, none⟩ = some (.int .i64 (-2305843009213693952)) ∧ X.cell? ⟨g13, 1, none⟩ = some (.int .i64 (-2305843009213693952)))
            (first | exact HKS.out _ (Below.refl _ _) | exact HKS.out _ (Below.refl _ _).drew | exact HKS.out _ E1 | exact HKS.out _ E0)
            (first
             | (have _t := E0; go_at_call 5; refine (liv_any _ _ _).mono ?_; rintro e y1 ⟨rfl, hh1⟩; have E1 : Below V37.heap.size V37 y1 := sbtr E0 hh1)
             | (go_at_call 5; refine (liv_any _ _ _).mono ?_; rintro e y0 ⟨rfl, hh0⟩; have E0 : Below V37.heap.size V37 y0 := (by first | exact (bdrewN (Below.refl _ _) 1).trans hh0 | exact hh0))
             | fail)
          all_goals
            go_wp2_with fail
            go_meet
            exact ⟨rfl, E1⟩
        case rest =>
          obtain ⟨rfl, hb⟩ := hcut
          replace XY := Lib.hid (XY.out.via hb)
          replace XZ := Lib.hid (XZ.out.via hb)
          replace BX := Lib.hid (sbtr BX.out hb)
          clear hb HKS
          generalize wc = V38 at *
          go_wp2
          go_ret
          exact ⟨rfl, BX.out⟩
end Go.Proofs.YtegnaknoaflppaaGreatDoor

namespace Go.Proofs.YtegnaknoaflppaaGreatDoor
open Go.ChangeShapes Go.WideShapes Go.ChangeAt Go.RowKit

theorem own : ownKnob Tryz.prog.godebug = none := by kernel_rfl
/-- The one table that this law reads. -/
def laid1 : List (String × DataW Unit) := [("math/bits.deBruijn32tab", Rows.laid_math_bits_deBruijn32tab)]
theorem door_met1 (os : Os) (args : Array Value) : laidMetH Tryz.prog laid1 ((World.doorLaid Tryz.prog 24 os).forCall (fun _ _ => 0) ⟨#[], args, []⟩).memory :=
  laidMetH_of_parts3 (fuel := 8) (laidMet_of_run' 8 (by kernel_rfl) (by kernel_rfl)) (by kernel_rfl) (by kernel_rfl)

set_option maxRecDepth 100000 in
theorem spanNames_lifted (os : Os) (started : os.Started) (H : Type) (enc : TypeId × Value → H) :
    ReturnsInHanded {} Tryz.checked os 3 .any (fun w args => (Rows.spanNamesSpec.pre enc Tryz.prog Tryz.f3 [] false w args ∧ laidMetH Tryz.prog laid1 w) ∧ sizedMet enc Tryz.prog Tryz.f3 (OpenSpec.ofChange Rows.spanNamesSpec) false w args)
      (Rows.spanNamesSpec.post enc Tryz.prog Tryz.f3 false true false false) := by
  refine returnsInHanded_of_change_and (C := Tryz.checked) (X := fun w _ => laidMetH Tryz.prog laid1 w) (fun _ _ _ hh h => h.of_heap hh) own started (by kernel_rfl) Tryz.func3
    (ChangeSpec.witness_shaped (enc := enc) (C := Tryz.checked) (os := os) (X := fun w _ => laidMetH Tryz.prog laid1 w) false (World.doorLaid Tryz.prog 24 os) #[] 8 rfl (World.shaped_of_RefB (by kernel_rfl) (by kernel_rfl)) (by kernel_rfl) (by kernel_rfl) (by kernel_rfl) (door_met1 os _)) ?_
  intro W base args ds gs before hval0 hW _ _ hL _
  have hval : ∀ (j : Nat) t v, Tryz.f3.params[j]? = some t → args[j]? = some v → Value.okWide Tryz.prog W .any base t v := hval0
  have hW' := hW
  obtain ⟨p, q, hA0, hV, rfl, hfz, hnd⟩ := hW
  have hA : DataW.TrodAll enc Tryz.prog W 0 (fun _ => true) true Tryz.f3.params.toList args.toList ds p := hA0
  rw [Tryz.params3] at hA hval
  obtain ⟨rfl, rfl, rfl⟩ := trodAll_none hA
  obtain ⟨rfl, rfl⟩ := trodVars_none hV
  clear hA0 hval0 hval
  try (simp only [List.append_nil] at hW')
  refine (names_any W).mono fun e W' ⟨he, hb⟩ => ?_
  subst he
  exact ⟨_, rfl, _, _, _, [], [], [], hW', trodAll_mk1 (shut_bool Tryz.underlying4 _),
    trodAll_mk0, rfl, hb.frame _, fun h => by cases h⟩

theorem spanNames_row : Rows.SpanNamesSaid :=
  OpenClaim.holds_of_wide 3 Tryz.f3 rfl rfl rfl rfl rfl rfl rfl ⟨rfl, rfl, rfl, rfl, rfl⟩ rfl rfl rfl rfl rfl (by kernel_rfl) Tryz.func3 (by kernel_rfl)
    (of_decide_eq_true (by kernel_rfl)) (by unfold Func.isWrapper; first | (rw [if_pos (by decide +kernel)]; kernel_rfl) | (rw [if_neg (by decide +kernel)]; exact ⟨rfl, rfl⟩))
    (fun os started H enc _ => spanNames_lifted os started H enc)

theorem spanNames_holds : Rows.SpanNamesCardSaid :=
  Claim7.holds_tied_plain_at .later [] [.data] true (Rows.spanNamesCard.stood.harness) false
    spanNames_row (fun _ h => by cases h) (by kernel_rfl) (fun _ h => by cases h) spanNames_row_tie rfl ⟨rfl, rfl⟩ (by kernel_rfl) rfl
    (fun f fn hf hfn => by
      obtain rfl : f = 3 := Option.some.inj ((show Tryz.prog.funcNamed "planisphere/planispherelaw03.SpanNames" = some 3 by kernel_rfl).symm.trans hf) |>.symm
      obtain rfl : fn = Tryz.f3 := (Option.some.inj (Tryz.func3.symm.trans hfn)).symm
      exact ⟨by kernel_rfl, fun j t ht => by
        rw [Tryz.params3] at ht
        simp at ht⟩)
    (by kernel_rfl)
end Go.Proofs.YtegnaknoaflppaaGreatDoor

