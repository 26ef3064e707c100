
/-
  For any fraction a, any two numbers num and den and any two whole numbers n and m the law FracMakes returns true: Check, Of and Make of package frac return what the reference returns, fraction and error, whether valid or not. Condition: none beyond the statement's own (numbers of more than 130 limbs make the law return true at once).
-/
import Derived.Test.YtdfoijpilcjlaaaRows
import Derived.Test.YtdfoijpilcjlaaaMks5
/- The walk of the law FracMakes. -/
namespace Go.Proofs.Ytdfoijpilcjlaaa
open Go.RowKit

theorem of_both (a b : Int) (ha1 : -9223372036854775808 ≤ a) (ha2 : a ≤ 9223372036854775807) (hb1 : -9223372036854775808 ≤ b) (hb2 : b ≤ 9223372036854775807) : ∃ np l1 nq l2 err,
    (∀ (w : World), Calls Try.prog 5 #[.int .i64 a, .int .i64 b] w (RG w np l1 nq l2 err)) ∧ (∀ (w : World), Calls Try.prog 6 #[.int .i64 a, .int .i64 b] w (RG w np l1 nq l2 err)) := by
  have hl : ∀ z : Int, -9223372036854775808 ≤ z → z ≤ 9223372036854775807 → (digs z.natAbs).length ≤ 2000 := fun z h1 h2 => Nat.le_trans (digs_len.2 (show z.natAbs < 4294967296 ^ 2 by omega)) (by omega)
  obtain ⟨np, l1, nq, l2, err, h1, h2⟩ := make_both (decide (a < 0)) (decide (b < 0)) (digs a.natAbs) (digs b.natAbs) (digs_good _) (digs_good _) (hl a ha1 ha2) (hl b hb1 hb2)
  exact ⟨np, l1, nq, l2, err, fun w => of_g w a b ha1 ha2 hb1 hb2 np nq l1 l2 err h1, fun w => rof_g w a b ha1 ha2 hb1 hb2 np nq l1 l2 err h2⟩

set_option maxRecDepth 100000 in
set_option maxHeartbeats 1000000 in
theorem makes_great (w : World) (nn dn : Bool) (A B : Option Addr) (n m ca cb : Nat) (xs ys : List Nat) (nu nv : Bool) (U V : Option Addr) (r s cu cv : Nat) (us vs : List Nat) (i j : Int) (hA : Lm w w.heap.size A n ca xs) (hB : Lm w w.heap.size B m cb ys) (hU : Lm w w.heap.size U r cu us) (hV : Lm w w.heap.size V s cv vs) (hg : 130 < n ∨ 130 < m ∨ 130 < r ∨ 130 < s) :
    Calls Try.prog 3 #[fv nn A n ca dn B m cb, .agg #[.bool nu, .slice U r cu], .agg #[.bool nv, .slice V s cv], .int .i64 i, .int .i64 j] w fun e w' => e = .returned (.bool true) ∧ Below w.heap.size w w' := by
  by_cases hf : 130 < n ∨ 130 < m
  · have HG : Hid ((decide (130 < n) || decide (130 < m)) = true) := by show _ = _; simpa using hf
    clear hg hf
    have h1 := hA.cap
    have h2 := hA.max
    have h3 := hB.cap
    have h4 := hB.max
    have h5 := hU.cap
    have h6 := hU.max
    have h7 := hV.cap
    have h8 := hV.max
    have HA := Lib.hid hA
    have HB := Lib.hid hB
    have HU := Lib.hid hU
    have HV := Lib.hid hV
    clear hA hB hU hV
    go_enter Try.func3, Try.ntmps3
    go_wp2_with fail
    refine (fgreat_any _ nn dn A B n m ca cb h1 h2 h3 h4).mono ?_
    rintro e w1 ⟨rfl, hb1⟩
    have Q5 := Lib.hid ((((Qd.new w _ rfl (.bool nn) (.slice A n ca) (.bool dn) (.slice B m cb) 26).alloc (.cells #[.bool nu, .slice U r cu] 24)).alloc (.cells #[.bool nv, .slice V s cv] 24)).via hb1)
    have P6 := Lib.hid (((Pr.new (w.alloc (.cells #[.bool nn, .slice A n ca, .bool dn, .slice B m cb] 26)) (w.heap.size + 1) (by simp) (.bool nu) (.slice U r cu) 24).alloc (.cells #[.bool nv, .slice V s cv] 24)).via hb1)
    have P7 := Lib.hid ((Pr.new ((w.alloc (.cells #[.bool nn, .slice A n ca, .bool dn, .slice B m cb] 26)).alloc (.cells #[.bool nu, .slice U r cu] 24)) (w.heap.size + 1 + 1) (by simp) (.bool nv) (.slice V s cv) 24).via hb1)
    have LA := Lib.hid ((((HA.out.box _).box _).box _).via hb1)
    have LB := Lib.hid ((((HB.out.box _).box _).box _).via hb1)
    have LU := Lib.hid ((((HU.out.box _).box _).box _).via hb1)
    have LV := Lib.hid ((((HV.out.box _).box _).box _).via hb1)
    have S1 := Lib.hid (bbox (bbox (bbox hb1)))
    clear hb1 HA HB HU HV
    have ⟨u0, u1, _, _, ul⟩ := P6.out
    have ⟨v0, v1, _, _, vl⟩ := P7.out
    rw [HG.out]
    clear u0 u1 ul v0 v1 vl
    go_wp2
    go_ret
    exact ⟨rfl, S1.out⟩
  · have HG : Hid ((decide (130 < n) || decide (130 < m)) = false) := by show _ = _; simp; omega
    have hg2 : 130 < r ∨ 130 < s := by omega
    clear hg hf
    by_cases hr : (130 : Int) < (r : Int)
    · clear hg2
      have h1 := hA.cap
      have h2 := hA.max
      have h3 := hB.cap
      have h4 := hB.max
      have h5 := hU.cap
      have h6 := hU.max
      have h7 := hV.cap
      have h8 := hV.max
      have HA := Lib.hid hA
      have HB := Lib.hid hB
      have HU := Lib.hid hU
      have HV := Lib.hid hV
      clear hA hB hU hV
      go_enter Try.func3, Try.ntmps3
      go_wp2_with fail
      refine (fgreat_any _ nn dn A B n m ca cb h1 h2 h3 h4).mono ?_
      rintro e w1 ⟨rfl, hb1⟩
      have Q5 := Lib.hid ((((Qd.new w _ rfl (.bool nn) (.slice A n ca) (.bool dn) (.slice B m cb) 26).alloc (.cells #[.bool nu, .slice U r cu] 24)).alloc (.cells #[.bool nv, .slice V s cv] 24)).via hb1)
      have P6 := Lib.hid (((Pr.new (w.alloc (.cells #[.bool nn, .slice A n ca, .bool dn, .slice B m cb] 26)) (w.heap.size + 1) (by simp) (.bool nu) (.slice U r cu) 24).alloc (.cells #[.bool nv, .slice V s cv] 24)).via hb1)
      have P7 := Lib.hid ((Pr.new ((w.alloc (.cells #[.bool nn, .slice A n ca, .bool dn, .slice B m cb] 26)).alloc (.cells #[.bool nu, .slice U r cu] 24)) (w.heap.size + 1 + 1) (by simp) (.bool nv) (.slice V s cv) 24).via hb1)
      have LA := Lib.hid ((((HA.out.box _).box _).box _).via hb1)
      have LB := Lib.hid ((((HB.out.box _).box _).box _).via hb1)
      have LU := Lib.hid ((((HU.out.box _).box _).box _).via hb1)
      have LV := Lib.hid ((((HV.out.box _).box _).box _).via hb1)
      have S1 := Lib.hid (bbox (bbox (bbox hb1)))
      clear hb1 HA HB HU HV
      have ⟨u0, u1, _, _, ul⟩ := P6.out
      have ⟨v0, v1, _, _, vl⟩ := P7.out
      rw [HG.out]
      go_wp2
      go_ret
      exact ⟨rfl, S1.out⟩
    · have hs : (130 : Int) < (s : Int) := by omega
      have hr2 : decide ((130 : Int) < (r : Int)) = false := decide_eq_false hr
      clear hg2 hr
      have h1 := hA.cap
      have h2 := hA.max
      have h3 := hB.cap
      have h4 := hB.max
      have h5 := hU.cap
      have h6 := hU.max
      have h7 := hV.cap
      have h8 := hV.max
      have HA := Lib.hid hA
      have HB := Lib.hid hB
      have HU := Lib.hid hU
      have HV := Lib.hid hV
      clear hA hB hU hV
      go_enter Try.func3, Try.ntmps3
      go_wp2_with fail
      refine (fgreat_any _ nn dn A B n m ca cb h1 h2 h3 h4).mono ?_
      rintro e w1 ⟨rfl, hb1⟩
      have Q5 := Lib.hid ((((Qd.new w _ rfl (.bool nn) (.slice A n ca) (.bool dn) (.slice B m cb) 26).alloc (.cells #[.bool nu, .slice U r cu] 24)).alloc (.cells #[.bool nv, .slice V s cv] 24)).via hb1)
      have P6 := Lib.hid (((Pr.new (w.alloc (.cells #[.bool nn, .slice A n ca, .bool dn, .slice B m cb] 26)) (w.heap.size + 1) (by simp) (.bool nu) (.slice U r cu) 24).alloc (.cells #[.bool nv, .slice V s cv] 24)).via hb1)
      have P7 := Lib.hid ((Pr.new ((w.alloc (.cells #[.bool nn, .slice A n ca, .bool dn, .slice B m cb] 26)).alloc (.cells #[.bool nu, .slice U r cu] 24)) (w.heap.size + 1 + 1) (by simp) (.bool nv) (.slice V s cv) 24).via hb1)
      have LA := Lib.hid ((((HA.out.box _).box _).box _).via hb1)
      have LB := Lib.hid ((((HB.out.box _).box _).box _).via hb1)
      have LU := Lib.hid ((((HU.out.box _).box _).box _).via hb1)
      have LV := Lib.hid ((((HV.out.box _).box _).box _).via hb1)
      have S1 := Lib.hid (bbox (bbox (bbox hb1)))
      clear hb1 HA HB HU HV
      have ⟨u0, u1, _, _, ul⟩ := P6.out
      have ⟨v0, v1, _, _, vl⟩ := P7.out
      rw [HG.out]
      go_wp2
      go_ret
      exact ⟨rfl, S1.out⟩

set_option maxRecDepth 100000 in
set_option maxHeartbeats 4000000 in
theorem makes_main (w : World) (nn dn : Bool) (A B : Option Addr) (n m ca cb : Nat) (xs ys : List Nat) (nu nv : Bool) (U V : Option Addr) (r s cu cv : Nat) (us vs : List Nat) (i j : Int) (hA : Lm w w.heap.size A n ca xs) (hB : Lm w w.heap.size B m cb ys) (hU : Lm w w.heap.size U r cu us) (hV : Lm w w.heap.size V s cv vs) (hi1 : -9223372036854775808 ≤ i) (hi2 : i ≤ 9223372036854775807) (hj1 : -9223372036854775808 ≤ j) (hj2 : j ≤ 9223372036854775807) (hn : n ≤ 130) (hm : m ≤ 130) (hr : r ≤ 130) (hs : s ≤ 130) :
    Calls Try.prog 3 #[fv nn A n ca dn B m cb, .agg #[.bool nu, .slice U r cu], .agg #[.bool nv, .slice V s cv], .int .i64 i, .int .i64 j] w fun e w' => e = .returned (.bool true) ∧ Below w.heap.size w w' := by
  obtain ⟨o1, ol1, o2, ol2, oe, oc, orr⟩ := of_both i j hi1 hi2 hj1 hj2
  obtain ⟨k1, kl1, k2, kl2, ke, kc, kr⟩ := make_both nu nv us vs hU.good hV.good (by rw [hU.len]; omega) (by rw [hV.len]; omega)
  have OC := Lib.hid oc
  have OR := Lib.hid orr
  have KC := Lib.hid kc
  have KR := Lib.hid kr
  have HG : Hid ((decide (130 < n) || decide (130 < m)) = false) := by show _ = _; simp; omega
  have hr2 : decide ((130 : Int) < (r : Int)) = false := decide_eq_false (by omega)
  have hs2 : decide ((130 : Int) < (s : Int)) = false := decide_eq_false (by omega)
  clear oc orr kc kr hn hm hr hs
  have h1 := hA.cap
  have h2 := hA.max
  have h3 := hB.cap
  have h4 := hB.max
  have h5 := hU.cap
  have h6 := hU.max
  have h7 := hV.cap
  have h8 := hV.max
  have HA := Lib.hid hA
  have HB := Lib.hid hB
  have HU := Lib.hid hU
  have HV := Lib.hid hV
  clear hA hB hU hV
  go_enter Try.func3, Try.ntmps3
  go_wp2_with fail
  refine (fgreat_any _ nn dn A B n m ca cb h1 h2 h3 h4).mono ?_
  rintro e w1 ⟨rfl, hb1⟩
  have Q5 := Lib.hid ((((Qd.new w _ rfl (.bool nn) (.slice A n ca) (.bool dn) (.slice B m cb) 26).alloc (.cells #[.bool nu, .slice U r cu] 24)).alloc (.cells #[.bool nv, .slice V s cv] 24)).via hb1)
  have P6 := Lib.hid (((Pr.new (w.alloc (.cells #[.bool nn, .slice A n ca, .bool dn, .slice B m cb] 26)) (w.heap.size + 1) (by simp) (.bool nu) (.slice U r cu) 24).alloc (.cells #[.bool nv, .slice V s cv] 24)).via hb1)
  have P7 := Lib.hid ((Pr.new ((w.alloc (.cells #[.bool nn, .slice A n ca, .bool dn, .slice B m cb] 26)).alloc (.cells #[.bool nu, .slice U r cu] 24)) (w.heap.size + 1 + 1) (by simp) (.bool nv) (.slice V s cv) 24).via hb1)
  have LA := Lib.hid ((((HA.out.box _).box _).box _).via hb1)
  have LB := Lib.hid ((((HB.out.box _).box _).box _).via hb1)
  have LU := Lib.hid ((((HU.out.box _).box _).box _).via hb1)
  have LV := Lib.hid ((((HV.out.box _).box _).box _).via hb1)
  have S1 := Lib.hid (bbox (bbox (bbox hb1)))
  clear hb1 HA HB HU HV
  have ⟨u0, u1, _, _, ul⟩ := P6.out
  have ⟨v0, v1, _, _, vl⟩ := P7.out
  rw [HG.out]
  go_wp2_with fail
  refine (OC.out _).mono ?_
  rintro e w2 ⟨A2, n2, c2, B2, m2, d2, rfl, hL2, hM2, hb2⟩
  have S2 := Lib.hid hb2
  have L2 := Lib.hid (hL2.box (.cells #[.bool o1, .slice A2 n2 c2, .bool o2, .slice B2 m2 d2] 26))
  have M2 := Lib.hid (hM2.box (.cells #[.bool o1, .slice A2 n2 c2, .bool o2, .slice B2 m2 d2] 26))
  have X2 := Lib.hid (Qd.new w2 _ rfl (.bool o1) (.slice A2 n2 c2) (.bool o2) (.slice B2 m2 d2) 26)
  clear hL2 hM2 hb2 u0 u1 ul v0 v1 vl hr2 hs2
  go_wp2_with fail
  refine (OR.out _).mono ?_
  rintro e w3 ⟨A3, n3, c3, B3, m3, d3, rfl, hL3, hM3, hb3⟩
  have S3 := Lib.hid (bbox hb3)
  have L23 := Lib.hid (L2.out.via hb3)
  have M23 := Lib.hid (M2.out.via hb3)
  have X23 := Lib.hid (X2.out.via hb3)
  have L3 := Lib.hid (hL3.box (.cells #[.bool o1, .slice A3 n3 c3, .bool o2, .slice B3 m3 d3] 26))
  have M3 := Lib.hid (hM3.box (.cells #[.bool o1, .slice A3 n3 c3, .bool o2, .slice B3 m3 d3] 26))
  have X3 := Lib.hid (Qd.new w3 _ rfl (.bool o1) (.slice A3 n3 c3) (.bool o2) (.slice B3 m3 d3) 26)
  clear hL3 hM3 hb3 L2 M2 X2
  have ⟨u0, u1, _, _, ul⟩ := P6.out.via (btr S2.out S3.out)
  have ⟨v0, v1, _, _, vl⟩ := P7.out.via (btr S2.out S3.out)
  go_wp2_with fail
  refine (KC.out _ _ _ _ _ _ _ ((LU.out.via (btr S2.out S3.out)).box _) ((LV.out.via (btr S2.out S3.out)).box _)).mono ?_
  rintro e w4 ⟨A4, n4, c4, B4, m4, d4, rfl, hL4, hM4, hb4⟩
  have S4 := Lib.hid (bbox hb4)
  have L34 := Lib.hid (L3.out.via hb4)
  have M34 := Lib.hid (M3.out.via hb4)
  have X34 := Lib.hid (X3.out.via hb4)
  have L4 := Lib.hid (hL4.box (.cells #[.bool k1, .slice A4 n4 c4, .bool k2, .slice B4 m4 d4] 26))
  have M4 := Lib.hid (hM4.box (.cells #[.bool k1, .slice A4 n4 c4, .bool k2, .slice B4 m4 d4] 26))
  have X4 := Lib.hid (Qd.new w4 _ rfl (.bool k1) (.slice A4 n4 c4) (.bool k2) (.slice B4 m4 d4) 26)
  clear hL4 hM4 hb4 L3 M3 X3 u0 u1 ul v0 v1 vl
  have ⟨u0, u1, _, _, ul⟩ := P6.out.via (btr (btr S2.out S3.out) S4.out)
  have ⟨v0, v1, _, _, vl⟩ := P7.out.via (btr (btr S2.out S3.out) S4.out)
  go_wp2_with fail
  refine (KR.out _ _ _ _ _ _ _ ((LU.out.via (btr (btr S2.out S3.out) S4.out)).box _) ((LV.out.via (btr (btr S2.out S3.out) S4.out)).box _)).mono ?_
  rintro e w5 ⟨A5, n5, c5, B5, m5, d5, rfl, hL5, hM5, hb5⟩
  have S5 := Lib.hid (bbox hb5)
  have Sall := Lib.hid (btr (btr (btr S2.out S3.out) S4.out) S5.out)
  have QA := Lib.hid ((Q5.out.via Sall.out).alloc (.cells #[.bool k1, .slice A5 n5 c5, .bool k2, .slice B5 m5 d5] 26))
  have QX2 := Lib.hid ((X23.out.via (btr S4.out S5.out)).alloc (.cells #[.bool k1, .slice A5 n5 c5, .bool k2, .slice B5 m5 d5] 26))
  have QX3 := Lib.hid ((X34.out.via S5.out).alloc (.cells #[.bool k1, .slice A5 n5 c5, .bool k2, .slice B5 m5 d5] 26))
  have QX4 := Lib.hid ((X4.out.via hb5).alloc (.cells #[.bool k1, .slice A5 n5 c5, .bool k2, .slice B5 m5 d5] 26))
  have QX5 := Lib.hid (Qd.new w5 _ rfl (.bool k1) (.slice A5 n5 c5) (.bool k2) (.slice B5 m5 d5) 26)
  have KA := Lib.hid ((LA.out.via Sall.out).box (.cells #[.bool k1, .slice A5 n5 c5, .bool k2, .slice B5 m5 d5] 26))
  have KB := Lib.hid ((LB.out.via Sall.out).box (.cells #[.bool k1, .slice A5 n5 c5, .bool k2, .slice B5 m5 d5] 26))
  have G2 := Lib.hid ((L23.out.via (btr S4.out S5.out)).box (.cells #[.bool k1, .slice A5 n5 c5, .bool k2, .slice B5 m5 d5] 26))
  have H2 := Lib.hid ((M23.out.via (btr S4.out S5.out)).box (.cells #[.bool k1, .slice A5 n5 c5, .bool k2, .slice B5 m5 d5] 26))
  have G3 := Lib.hid ((L34.out.via S5.out).box (.cells #[.bool k1, .slice A5 n5 c5, .bool k2, .slice B5 m5 d5] 26))
  have H3 := Lib.hid ((M34.out.via S5.out).box (.cells #[.bool k1, .slice A5 n5 c5, .bool k2, .slice B5 m5 d5] 26))
  have G4 := Lib.hid ((L4.out.via hb5).box (.cells #[.bool k1, .slice A5 n5 c5, .bool k2, .slice B5 m5 d5] 26))
  have H4 := Lib.hid ((M4.out.via hb5).box (.cells #[.bool k1, .slice A5 n5 c5, .bool k2, .slice B5 m5 d5] 26))
  have G5 := Lib.hid (hL5.box (.cells #[.bool k1, .slice A5 n5 c5, .bool k2, .slice B5 m5 d5] 26))
  have H5 := Lib.hid (hM5.box (.cells #[.bool k1, .slice A5 n5 c5, .bool k2, .slice B5 m5 d5] 26))
  have BW := Lib.hid ((btr S1.out Sall.out).alloc (btr S1.out Sall.out).size (.cells #[.bool k1, .slice A5 n5 c5, .bool k2, .slice B5 m5 d5] 26))
  clear hL5 hM5 hb5 u0 u1 ul v0 v1 vl Q5 P6 P7 LA LB LU LV S1 S2 S3 S4 S5 Sall L23 M23 X23 L34 M34 X34 L4 M4 X4
  go_wp2_with fail
  generalize w5.alloc (.cells #[.bool k1, .slice A5 n5 c5, .bool k2, .slice B5 m5 d5] 26) = W0 at *
  generalize w5.heap.size = g5 at *
  generalize w4.heap.size = g4 at *
  generalize w3.heap.size = g3 at *
  generalize w2.heap.size = g2 at *
  have HKS : Hid (∀ X : World, Below W0.heap.size W0 X → X.cell? ⟨w.heap.size, 0, none⟩ = some (.bool nn) ∧ X.cell? ⟨w.heap.size, 1, none⟩ = some (.slice A n ca) ∧ X.cell? ⟨w.heap.size, 2, none⟩ = some (.bool dn) ∧ X.cell? ⟨w.heap.size, 3, none⟩ = some (.slice B m cb) ∧ X.cell? ⟨g2, 0, none⟩ = some (.bool o1) ∧ X.cell? ⟨g2, 1, none⟩ = some (.slice A2 n2 c2) ∧ X.cell? ⟨g2, 2, none⟩ = some (.bool o2) ∧ X.cell? ⟨g2, 3, none⟩ = some (.slice B2 m2 d2) ∧ X.cell? ⟨g3, 0, none⟩ = some (.bool o1) ∧ X.cell? ⟨g3, 1, none⟩ = some (.slice A3 n3 c3) ∧ X.cell? ⟨g3, 2, none⟩ = some (.bool o2) ∧ X.cell? ⟨g3, 3, none⟩ = some (.slice B3 m3 d3) ∧ X.cell? ⟨g4, 0, none⟩ = some (.bool k1) ∧ X.cell? ⟨g4, 1, none⟩ = some (.slice A4 n4 c4) ∧ X.cell? ⟨g4, 2, none⟩ = some (.bool k2) ∧ X.cell? ⟨g4, 3, none⟩ = some (.slice B4 m4 d4) ∧ X.cell? ⟨g5, 0, none⟩ = some (.bool k1) ∧ X.cell? ⟨g5, 1, none⟩ = some (.slice A5 n5 c5) ∧ X.cell? ⟨g5, 2, none⟩ = some (.bool k2) ∧ X.cell? ⟨g5, 3, none⟩ = some (.slice B5 m5 d5)) := fun X h => ⟨(QA.out.via h).c0, (QA.out.via h).c1, (QA.out.via h).c2, (QA.out.via h).c3, (QX2.out.via h).c0, (QX2.out.via h).c1, (QX2.out.via h).c2, (QX2.out.via h).c3, (QX3.out.via h).c0, (QX3.out.via h).c1, (QX3.out.via h).c2, (QX3.out.via h).c3, (QX4.out.via h).c0, (QX4.out.via h).c1, (QX4.out.via h).c2, (QX4.out.via h).c3, (QX5.out.via h).c0, (QX5.out.via h).c1, (QX5.out.via h).c2, (QX5.out.via h).c3⟩
  go_region_held3 (fun w' => w'.cell? ⟨w.heap.size, 0, none⟩ = some (.bool nn) ∧ w'.cell? ⟨w.heap.size, 1, none⟩ = some (.slice A n ca) ∧ w'.cell? ⟨w.heap.size, 2, none⟩ = some (.bool dn) ∧ w'.cell? ⟨w.heap.size, 3, none⟩ = some (.slice B m cb) ∧ w'.cell? ⟨g2, 0, none⟩ = some (.bool o1) ∧ w'.cell? ⟨g2, 1, none⟩ = some (.slice A2 n2 c2) ∧ w'.cell? ⟨g2, 2, none⟩ = some (.bool o2) ∧ w'.cell? ⟨g2, 3, none⟩ = some (.slice B2 m2 d2) ∧ w'.cell? ⟨g3, 0, none⟩ = some (.bool o1) ∧ w'.cell? ⟨g3, 1, none⟩ = some (.slice A3 n3 c3) ∧ w'.cell? ⟨g3, 2, none⟩ = some (.bool o2) ∧ w'.cell? ⟨g3, 3, none⟩ = some (.slice B3 m3 d3) ∧ w'.cell? ⟨g4, 0, none⟩ = some (.bool k1) ∧ w'.cell? ⟨g4, 1, none⟩ = some (.slice A4 n4 c4) ∧ w'.cell? ⟨g4, 2, none⟩ = some (.bool k2) ∧ w'.cell? ⟨g4, 3, none⟩ = some (.slice B4 m4 d4) ∧ w'.cell? ⟨g5, 0, none⟩ = some (.bool k1) ∧ w'.cell? ⟨g5, 1, none⟩ = some (.slice A5 n5 c5) ∧ w'.cell? ⟨g5, 2, none⟩ = some (.bool k2) ∧ w'.cell? ⟨g5, 3, none⟩ = some (.slice B5 m5 d5))
    (first
     | exact HKS.out _ (Below.refl _ _)
     | exact HKS.out _ (Below.refl _ _).drew
     | exact HKS.out _ Bd
     | exact HKS.out _ Bs
     | exact HKS.out _ Br
     | exact HKS.out _ Bc)
    (first
     | (go_at_call 9; refine (fcheck_any _ nn dn A B n m ca cb xs ys (by first | exact KA.out.via Br | exact KA.out.drew | exact KA.out) (by first | exact KB.out.via Br | exact KB.out.drew | exact KB.out)).mono ?_; rintro e wc ⟨rfl, hbc⟩; have Bc : Below W0.heap.size W0 wc := (by first | exact btr Br hbc | exact (Below.refl _ _).drew.trans hbc | exact hbc))
     | (go_at_call 10; refine (rfcheck_any _ nn dn A B n m ca cb xs ys (by first | exact KA.out.via Bc | exact KA.out.drew | exact KA.out) (by first | exact KB.out.via Bc | exact KB.out.drew | exact KB.out)).mono ?_; rintro e wr ⟨rfl, hbr⟩; have Br : Below W0.heap.size W0 wr := (by first | exact btr Bc hbr | exact (Below.refl _ _).drew.trans hbr | exact hbr))
     | (go_at_call 11; refine (fsame_self _ k1 k2 A4 B4 A5 B5 n4 m4 n5 m5 c4 d4 c5 d5 kl1 kl2 (G4.out.via Bs) (H4.out.via Bs) (G5.out.via Bs) (H5.out.via Bs)).mono ?_; rintro e wd ⟨rfl, hbd⟩; have Bd : Below W0.heap.size W0 wd := btr Bs hbd)
     | (go_at_call 11; refine (fsame_self _ o1 o2 A2 B2 A3 B3 n2 m2 n3 m3 c2 d2 c3 d3 ol1 ol2 (by first | exact G2.out.via Br | exact G2.out.via Bc) (by first | exact H2.out.via Br | exact H2.out.via Bc) (by first | exact G3.out.via Br | exact G3.out.via Bc) (by first | exact H3.out.via Br | exact H3.out.via Bc)).mono ?_; rintro e ws ⟨rfl, hbs⟩; have Bs : Below W0.heap.size W0 ws := (by first | exact btr Br hbs | exact btr Bc hbs))
     | fail)
  all_goals
    go_wp2
    go_ret
    exact ⟨rfl, btr BW.out Bd⟩
theorem makes_any (w : World) (nn dn : Bool) (A B : Option Addr) (n m ca cb : Nat) (xs ys : List Nat) (nu nv : Bool) (U V : Option Addr) (r s cu cv : Nat) (us vs : List Nat) (i j : Int) (hA : Lm w w.heap.size A n ca xs) (hB : Lm w w.heap.size B m cb ys) (hU : Lm w w.heap.size U r cu us) (hV : Lm w w.heap.size V s cv vs) (hi1 : -9223372036854775808 ≤ i) (hi2 : i ≤ 9223372036854775807) (hj1 : -9223372036854775808 ≤ j) (hj2 : j ≤ 9223372036854775807) :
    Calls Try.prog 3 #[fv nn A n ca dn B m cb, .agg #[.bool nu, .slice U r cu], .agg #[.bool nv, .slice V s cv], .int .i64 i, .int .i64 j] w fun e w' => e = .returned (.bool true) ∧ Below w.heap.size w w' := by
  by_cases hg : 130 < n ∨ 130 < m ∨ 130 < r ∨ 130 < s
  · exact makes_great w nn dn A B n m ca cb xs ys nu nv U V r s cu cv us vs i j hA hB hU hV hg
  · exact makes_main w nn dn A B n m ca cb xs ys nu nv U V r s cu cv us vs i j hA hB hU hV hi1 hi2 hj1 hj2 (by omega) (by omega) (by omega) (by omega)
end Go.Proofs.Ytdfoijpilcjlaaa

namespace Go.Proofs.Ytdfoijpilcjlaaa
open Go.ChangeShapes Go.WideShapes Go.ChangeAt Go.RowKit

theorem own : ownKnob Try.prog.godebug = none := by kernel_rfl

set_option maxRecDepth 100000 in
theorem makes_lifted (os : Os) (started : os.Started) (H : Type) (enc : TypeId × Value → H) :
    ReturnsInHanded {} Try.checked os 3 .any (Rows.fracMakesSpec.pre6 enc Try.prog Try.f3 Rows.fracMakesRow.domain false) (Rows.fracMakesSpec.post enc Try.prog Try.f3 false true false false) := by
  refine returnsInHanded_of_change (C := Try.checked) own started (by kernel_rfl) Try.func3
    (ChangeSpec.witness6 (enc := enc) (C := Try.checked) false ⟨#[], #[.agg #[.bool false, .slice none 0 0, .bool false, .slice none 0 0], .agg #[.bool false, .slice none 0 0], .agg #[.bool false, .slice none 0 0], .int .i64 0, .int .i64 0], []⟩ 8 (by kernel_rfl) (by kernel_rfl) (by kernel_rfl) (by kernel_rfl)) ?_
  intro W base args ds gs before hval0 hW hcnd _
  have hval : ∀ (j : Nat) t v, Try.f3.params[j]? = some t → args[j]? = some v → Value.okWide Try.prog W .any base t v := hval0
  have hW' := hW
  obtain ⟨p, q, hA0, hV, rfl, hfz, hnd⟩ := hW
  have hA : DataW.TrodAll enc Try.prog W 0 (fun _ => true) true Try.f3.params.toList args.toList ds p := hA0
  rw [Try.params3] at hA hval
  obtain ⟨v0, v1, v2, v3, v4, d0, d1, d2, d3, d4, p0, p1, p2, p3, p4, rfl, rfl, rfl, h0, h1, h2, h3, h4⟩ := trodAll_five hA
  obtain ⟨rfl, rfl⟩ := trodVars_none hV
  obtain ⟨i, rfl, rfl, rfl, wi⟩ := open_int Try.underlying2 (hval 3 2 v3 rfl rfl) h3
  obtain ⟨j, rfl, rfl, rfl, wj⟩ := open_int Try.underlying2 (hval 4 2 v4 rfl rfl) h4
  clear hA0 hval0
  simp only [List.append_nil] at hW'
  have hlt : ∀ x ∈ p0 ++ p1 ++ p2, x.block < W.heap.size := fun x hx => by
    refine hW'.lt x ?_
    simpa using hx
  have hlt0 : ∀ x ∈ p0, x.block < W.heap.size := fun x hx => hlt x (List.mem_append_left _ (List.mem_append_left _ hx))
  have hlt1 : ∀ x ∈ p1, x.block < W.heap.size := fun x hx => hlt x (List.mem_append_left _ (List.mem_append_right _ hx))
  have hlt2 : ∀ x ∈ p2, x.block < W.heap.size := fun x hx => hlt x (List.mem_append_right _ hx)
  obtain ⟨nn, A, n, ca, xs, dn, B, m, cb, ys, rfl, hLA, hLB⟩ := open_frac (hval 0 26 v0 rfl rfl) h0 hlt0
  obtain ⟨nu, U, r, cu, us, rfl, hLU⟩ := open_wide (hval 1 24 v1 rfl rfl) h1 hlt1
  obtain ⟨nv, V, s, cv, vs, rfl, hLV⟩ := open_wide (hval 2 24 v2 rfl rfl) h2 hlt2
  have hk : ∀ z : Int, (Lit.int .i64 z).wf = true → -9223372036854775808 ≤ z ∧ z ≤ 9223372036854775807 := by
    intro z wz
    have e1 : IntKind.i64.min = -9223372036854775808 := rfl
    have e2 : IntKind.i64.max = 9223372036854775807 := rfl
    simp only [Lit.wf, Bool.and_eq_true, decide_eq_true_eq] at wz
    omega
  refine (makes_any W nn dn A B n m ca cb xs ys nu nv U V r s cu cv us vs i j hLA hLB hLU hLV (hk i wi).1 (hk i wi).2 (hk j wj).1 (hk j wj).2).mono fun e W' ⟨he, hb⟩ => ?_
  subst he
  exact ⟨_, rfl, _, _, _, [], p0 ++ (p1 ++ (p2 ++ ([] ++ []))), [], hW', trodAll_mk1 (shut_bool Try.underlying4 _),
    trodAll_mk5 (Below.trod laidOut (by kernel_rfl) (of_decide_eq_true (by kernel_rfl)) h0 hb hlt0) (Below.trod laidOut (by kernel_rfl) (of_decide_eq_true (by kernel_rfl)) h1 hb hlt1) (Below.trod laidOut (by kernel_rfl) (of_decide_eq_true (by kernel_rfl)) h2 hb hlt2) (shut_int Try.underlying2 wi) (shut_int Try.underlying2 wj), rfl, hb.frame _, fun h => by cases h⟩

theorem makes_holds : Rows.FracMakesSaid :=
  OpenClaim.holds_of_wide 3 Try.f3 rfl rfl rfl rfl rfl rfl rfl ⟨rfl, rfl, rfl, rfl, rfl⟩ rfl rfl rfl rfl rfl (by kernel_rfl) Try.func3 (by kernel_rfl)
    (of_decide_eq_true (by kernel_rfl)) (by unfold Func.isWrapper; first | (rw [if_pos (by decide +kernel)]; kernel_rfl) | (rw [if_neg (by decide +kernel)]; exact ⟨rfl, rfl⟩))
    (fun os started H enc _ => makes_lifted os started H enc)

end Go.Proofs.Ytdfoijpilcjlaaa

