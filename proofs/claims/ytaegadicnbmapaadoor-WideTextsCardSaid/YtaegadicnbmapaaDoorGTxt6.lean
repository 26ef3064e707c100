
/-
  For any number a and any string s the law WideTexts returns true: Parse and Text of package wide return what the reference returns. What the three library tables hold stands in the row. Condition: none beyond the statement's own (numbers of 301 to 4096 limbs and of more than 4106 limbs, and strings of more than 3,000 bytes, make the law return true at once).
-/
import Derived.Test.YtaegadicnbmapaaDoorTie
import Derived.Test.YtaegadicnbmapaaDoorCards
import Derived.Test.YtaegadicnbmapaaDoorGTxt5
/- The law WideTexts at any number and any string: the walk. -/
namespace Go.Proofs.YtaegadicnbmapaaDoor
open Go.RowKit

theorem rsame_w (w : World) (A B : Option Addr) (n m ca cb : Nat) (x : Int) {na nb : Bool} (hA : Lm w w.heap.size A n ca (digs x.natAbs)) (hB : Lm w w.heap.size B m cb (digs x.natAbs)) (ha : decide (x < 0) = na) (hb : decide (x < 0) = nb) :
    Calls Tryd.prog 16 #[.agg #[.bool na, .slice A n ca], .agg #[.bool nb, .slice B m cb]] w fun e w' => e = .returned (.bool true) ∧ Below w.heap.size w w' := by
  subst ha hb
  have e := rsame_any w (decide (x < 0)) (decide (x < 0)) A B n m ca cb _ _ hA hB
  rw [sameB_self] at e
  exact e
theorem rsame_0 (w : World) (A B : Option Addr) (n m ca cb : Nat) (hA : Lm w w.heap.size A n ca []) (hB : Lm w w.heap.size B m cb []) :
    Calls Tryd.prog 16 #[.agg #[.bool false, .slice A n ca], .agg #[.bool false, .slice B m cb]] w fun e w' => e = .returned (.bool true) ∧ Below w.heap.size w w' := by
  have e := rsame_any w false false A B n m ca cb _ _ hA hB
  rw [sameB_self] at e
  exact e
theorem text_w (w : World) (A : Option Addr) (n c k : Nat) (x : Int) {na : Bool} (hA : Lm w w.heap.size A n c (digs x.natAbs)) (hx : Sz k x) (hk : k ≤ 4096) (hU : TabU w) (ha : decide (x < 0) = na) :
    Calls Tryd.prog 19 #[.agg #[.bool na, .slice A n c]] w fun e w' => e = .returned (.tuple #[.string ⟨(txt (decide (x < 0)) x.natAbs).toArray⟩, .int .i64 0]) ∧ Below w.heap.size w w' := by
  subst ha
  exact text_ok w _ A n c _ hA (chk_z hx hk) hU

set_option maxRecDepth 100000 in
set_option maxHeartbeats 4000000 in
theorem texts_great (w : World) (na : Bool) (A : Option Addr) (n ca : Nat) (xs : List Nat) (hA : Lm w w.heap.size A n ca xs) (l : List UInt8) (hU : TabU w) (hgr : greatB n = true) (hlm : l.length ≤ 9223372036854775807) :
    Calls Tryd.prog 4 #[.agg #[.bool na, .slice A n ca], .string ⟨l.toArray⟩] w fun e w' => e = .returned (.bool true) ∧ Below w.heap.size w w' := by
  have LA := Lib.hid hA
  have TU := Lib.hid hU
  have hac := hA.cap
  have hax := hA.max
  have HB : Hid (Below w.heap.size w w) := Below.refl _ _
  clear hA hU
  go_enter Tryd.func4, Tryd.ntmps4
  go_wp2_with fail
  refine (great_any _ _ _ _ _ hac hax).mono ?_
  rintro e w1 ⟨rfl, hb1⟩
  have QLA := Lib.hid ((LA.out.box _).via hb1)
  have QTU := Lib.hid ((TU.out.box _).via hb1)
  have QHB := Lib.hid (HB.out.trans ((bbox hb1).mono HB.out.size))
  have PA := Lib.hid ((Pr.new _ _ rfl _ _ _).via hb1)
  clear LA TU HB
  have LA := QLA
  clear QLA
  have TU := QTU
  clear QTU
  have HB := QHB
  clear QHB
  rw [hgr]
  clear hb1
  go_wp2
  go_ret
  exact ⟨rfl, HB.out⟩

set_option maxRecDepth 100000 in
set_option maxHeartbeats 4000000 in
theorem texts_long (w : World) (na : Bool) (A : Option Addr) (n ca : Nat) (xs : List Nat) (hA : Lm w w.heap.size A n ca xs) (l : List UInt8) (hU : TabU w) (hgr : greatB n = false) (hl : 3000 < l.length) (hlm : l.length ≤ 9223372036854775807) :
    Calls Tryd.prog 4 #[.agg #[.bool na, .slice A n ca], .string ⟨l.toArray⟩] w fun e w' => e = .returned (.bool true) ∧ Below w.heap.size w w' := by
  have LA := Lib.hid hA
  have TU := Lib.hid hU
  have hac := hA.cap
  have hax := hA.max
  have HB : Hid (Below w.heap.size w w) := Below.refl _ _
  clear hA hU
  go_enter Tryd.func4, Tryd.ntmps4
  go_wp2_with fail
  refine (great_any _ _ _ _ _ hac hax).mono ?_
  rintro e w1 ⟨rfl, hb1⟩
  have QLA := Lib.hid ((LA.out.box _).via hb1)
  have QTU := Lib.hid ((TU.out.box _).via hb1)
  have QHB := Lib.hid (HB.out.trans ((bbox hb1).mono HB.out.size))
  have PA := Lib.hid ((Pr.new _ _ rfl _ _ _).via hb1)
  clear LA TU HB
  have LA := QLA
  clear QLA
  have TU := QTU
  clear QTU
  have HB := QHB
  clear QHB
  rw [hgr]
  clear hb1
  go_wp2
  go_ret
  exact ⟨rfl, HB.out⟩

set_option maxRecDepth 100000 in
set_option maxHeartbeats 4000000 in
theorem texts_vt (w : World) (A : Option Addr) (n ca : Nat) (x : Int) (hA : Lm w w.heap.size A n ca (digs x.natAbs)) (l : List UInt8) (hU : TabU w) (hgr : greatB n = false) (hl : l.length ≤ 3000) (hx : Sz 300 x) (hp : pOk l = true) :
    Calls Tryd.prog 4 #[.agg #[.bool (decide (x < 0)), .slice A n ca], .string ⟨l.toArray⟩] w fun e w' => e = .returned (.bool true) ∧ Below w.heap.size w w' := by
  have LA := Lib.hid hA
  have TU := Lib.hid hU
  have hac := hA.cap
  have hax := hA.max
  have HB : Hid (Below w.heap.size w w) := Below.refl _ _
  have HP := Lib.hid hp
  have SX := Lib.hid hx
  clear hp hx
  obtain ⟨nx, hnx⟩ : ∃ b, decide (x < 0) = b := ⟨_, rfl⟩
  have HX := Lib.hid hnx
  rw [hnx]
  clear hnx
  clear hA hU
  go_enter Tryd.func4, Tryd.ntmps4
  go_wp2_with fail
  refine (great_any _ _ _ _ _ hac hax).mono ?_
  rintro e w1 ⟨rfl, hb1⟩
  have QLA := Lib.hid ((LA.out.box _).via hb1)
  have QTU := Lib.hid ((TU.out.box _).via hb1)
  have QHB := Lib.hid (HB.out.trans ((bbox hb1).mono HB.out.size))
  have PA := Lib.hid ((Pr.new _ _ rfl _ _ _).via hb1)
  clear LA TU HB
  have LA := QLA
  clear QLA
  have TU := QTU
  clear QTU
  have HB := QHB
  clear QHB
  rw [hgr]
  clear hb1
  go_wp2_with fail
  refine (parse_n _ l HP.out (by omega)).mono ?_
  rintro e w2 ⟨Ay, ny, cy, rfl, hy, hb2⟩
  have QLA := Lib.hid (LA.out.via hb2)
  have QPA := Lib.hid (PA.out.via hb2)
  have QTU := Lib.hid (TU.out.via hb2)
  have QHB := Lib.hid (HB.out.trans (hb2.mono HB.out.size))
  clear LA PA TU HB
  have LA := QLA
  clear QLA
  have PA := QPA
  clear QPA
  have TU := QTU
  clear QTU
  have HB := QHB
  clear QHB
  have Ly := Lib.hid hy
  have Sy : Hid (Sz 3000 (pZ l)) := pZ_sz HP.out hl
  clear hy
  obtain ⟨gy, hgy⟩ : ∃ b, decide (pZ l < 0) = b := ⟨_, rfl⟩
  have Hy := Lib.hid hgy
  rw [hgy]
  clear hgy
  clear hb2
  go_wp2_with fail
  refine (rparse_n _ l HP.out hl).mono ?_
  rintro e w3 ⟨Az, nz, cz, rfl, hz, hb3⟩
  have QLA := Lib.hid ((LA.out.box _).via hb3)
  have QLy := Lib.hid ((Ly.out.box _).via hb3)
  have QPA := Lib.hid ((PA.out.alloc _).via hb3)
  have QTU := Lib.hid ((TU.out.box _).via hb3)
  have QHB := Lib.hid (HB.out.trans ((bbox hb3).mono HB.out.size))
  have Py := Lib.hid ((Pr.new _ _ rfl _ _ _).via hb3)
  clear LA Ly PA TU HB
  have LA := QLA
  clear QLA
  have Ly := QLy
  clear QLy
  have PA := QPA
  clear QPA
  have TU := QTU
  clear QTU
  have HB := QHB
  clear QHB
  have Lz := Lib.hid hz
  have Sz_ : Hid (Sz 3000 (pZ l)) := pZ_sz HP.out hl
  clear hz
  obtain ⟨gz, hgz⟩ : ∃ b, decide (pZ l < 0) = b := ⟨_, rfl⟩
  have Hz := Lib.hid hgz
  rw [hgz]
  clear hgz
  clear hb3
  have ⟨c0, c1, _, _, _⟩ := PA.out
  go_wp2_with fail
  refine (text_w _ _ _ _ 300 x (LA.out.box _) SX.out (by omega) (TU.out.box _) HX.out).mono ?_
  rintro e w4 ⟨rfl, hb4⟩
  have QLA := Lib.hid ((LA.out.box _).via hb4)
  have QLy := Lib.hid ((Ly.out.box _).via hb4)
  have QLz := Lib.hid ((Lz.out.box _).via hb4)
  have QPA := Lib.hid ((PA.out.alloc _).via hb4)
  have QPy := Lib.hid ((Py.out.alloc _).via hb4)
  have QTU := Lib.hid ((TU.out.box _).via hb4)
  have QHB := Lib.hid (HB.out.trans ((bbox hb4).mono HB.out.size))
  have Pz := Lib.hid ((Pr.new _ _ rfl _ _ _).via hb4)
  clear LA Ly Lz PA Py TU HB
  have LA := QLA
  clear QLA
  have Ly := QLy
  clear QLy
  have Lz := QLz
  clear QLz
  have PA := QPA
  clear QPA
  have Py := QPy
  clear QPy
  have TU := QTU
  clear QTU
  have HB := QHB
  clear QHB
  clear c0 c1
  clear hb4
  have ⟨c0, c1, _, _, _⟩ := PA.out
  go_wp2_with fail
  refine (rtext_n _ _ _ _ 300 x LA.out SX.out (by omega) HX.out).mono ?_
  rintro e w5 ⟨rfl, hb5⟩
  have QLA := Lib.hid (LA.out.via hb5)
  have QLy := Lib.hid (Ly.out.via hb5)
  have QLz := Lib.hid (Lz.out.via hb5)
  have QPA := Lib.hid (PA.out.via hb5)
  have QPy := Lib.hid (Py.out.via hb5)
  have QPz := Lib.hid (Pz.out.via hb5)
  have QTU := Lib.hid (TU.out.via hb5)
  have QHB := Lib.hid (HB.out.trans (hb5.mono HB.out.size))
  clear LA Ly Lz PA Py Pz TU HB
  have LA := QLA
  clear QLA
  have Ly := QLy
  clear QLy
  have Lz := QLz
  clear QLz
  have PA := QPA
  clear QPA
  have Py := QPy
  clear QPy
  have Pz := QPz
  clear QPz
  have TU := QTU
  clear QTU
  have HB := QHB
  clear QHB
  clear c0 c1
  clear hb5
  have ⟨c0, c1, _, _, _⟩ := Py.out
  have ⟨c2, c3, _, _, _⟩ := Pz.out
  go_wp2_with fail
  refine (rsame_w _ _ _ _ _ _ _ (pZ l) Ly.out Lz.out Hy.out Hz.out).mono ?_
  rintro e w6 ⟨rfl, hb6⟩
  have QLA := Lib.hid (LA.out.via hb6)
  have QLy := Lib.hid (Ly.out.via hb6)
  have QLz := Lib.hid (Lz.out.via hb6)
  have QPA := Lib.hid (PA.out.via hb6)
  have QPy := Lib.hid (Py.out.via hb6)
  have QPz := Lib.hid (Pz.out.via hb6)
  have QTU := Lib.hid (TU.out.via hb6)
  have QHB := Lib.hid (HB.out.trans (hb6.mono HB.out.size))
  clear LA Ly Lz PA Py Pz TU HB
  have LA := QLA
  clear QLA
  have Ly := QLy
  clear QLy
  have Lz := QLz
  clear QLz
  have PA := QPA
  clear QPA
  have Py := QPy
  clear QPy
  have Pz := QPz
  clear QPz
  have TU := QTU
  clear QTU
  have HB := QHB
  clear QHB
  clear c0 c1 c2 c3
  clear hb6
  go_wp2
  go_ret
  exact ⟨rfl, HB.out⟩

set_option maxRecDepth 100000 in
set_option maxHeartbeats 4000000 in
theorem texts_vf (w : World) (A : Option Addr) (n ca : Nat) (x : Int) (hA : Lm w w.heap.size A n ca (digs x.natAbs)) (l : List UInt8) (hU : TabU w) (hgr : greatB n = false) (hl : l.length ≤ 3000) (hx : Sz 300 x) (hp : pOk l = false) :
    Calls Tryd.prog 4 #[.agg #[.bool (decide (x < 0)), .slice A n ca], .string ⟨l.toArray⟩] w fun e w' => e = .returned (.bool true) ∧ Below w.heap.size w w' := by
  have LA := Lib.hid hA
  have TU := Lib.hid hU
  have hac := hA.cap
  have hax := hA.max
  have HB : Hid (Below w.heap.size w w) := Below.refl _ _
  have HP := Lib.hid hp
  have SX := Lib.hid hx
  clear hp hx
  obtain ⟨nx, hnx⟩ : ∃ b, decide (x < 0) = b := ⟨_, rfl⟩
  have HX := Lib.hid hnx
  rw [hnx]
  clear hnx
  clear hA hU
  go_enter Tryd.func4, Tryd.ntmps4
  go_wp2_with fail
  refine (great_any _ _ _ _ _ hac hax).mono ?_
  rintro e w1 ⟨rfl, hb1⟩
  have QLA := Lib.hid ((LA.out.box _).via hb1)
  have QTU := Lib.hid ((TU.out.box _).via hb1)
  have QHB := Lib.hid (HB.out.trans ((bbox hb1).mono HB.out.size))
  have PA := Lib.hid ((Pr.new _ _ rfl _ _ _).via hb1)
  clear LA TU HB
  have LA := QLA
  clear QLA
  have TU := QTU
  clear QTU
  have HB := QHB
  clear QHB
  rw [hgr]
  clear hb1
  go_wp2_with fail
  refine (parse_bad _ l HP.out (by omega)).mono ?_
  rintro e w2 ⟨Ay, ny, cy, rfl, hy, hb2⟩
  have QLA := Lib.hid (LA.out.via hb2)
  have QPA := Lib.hid (PA.out.via hb2)
  have QTU := Lib.hid (TU.out.via hb2)
  have QHB := Lib.hid (HB.out.trans (hb2.mono HB.out.size))
  clear LA PA TU HB
  have LA := QLA
  clear QLA
  have PA := QPA
  clear QPA
  have TU := QTU
  clear QTU
  have HB := QHB
  clear QHB
  have Ly := Lib.hid hy
  clear hy
  clear hb2
  go_wp2_with fail
  refine (rparse_bad _ l HP.out hl).mono ?_
  rintro e w3 ⟨Az, nz, cz, rfl, hz, hb3⟩
  have QLA := Lib.hid ((LA.out.box _).via hb3)
  have QLy := Lib.hid ((Ly.out.box _).via hb3)
  have QPA := Lib.hid ((PA.out.alloc _).via hb3)
  have QTU := Lib.hid ((TU.out.box _).via hb3)
  have QHB := Lib.hid (HB.out.trans ((bbox hb3).mono HB.out.size))
  have Py := Lib.hid ((Pr.new _ _ rfl _ _ _).via hb3)
  clear LA Ly PA TU HB
  have LA := QLA
  clear QLA
  have Ly := QLy
  clear QLy
  have PA := QPA
  clear QPA
  have TU := QTU
  clear QTU
  have HB := QHB
  clear QHB
  have Lz := Lib.hid hz
  clear hz
  clear hb3
  have ⟨c0, c1, _, _, _⟩ := PA.out
  go_wp2_with fail
  refine (text_w _ _ _ _ 300 x (LA.out.box _) SX.out (by omega) (TU.out.box _) HX.out).mono ?_
  rintro e w4 ⟨rfl, hb4⟩
  have QLA := Lib.hid ((LA.out.box _).via hb4)
  have QLy := Lib.hid ((Ly.out.box _).via hb4)
  have QLz := Lib.hid ((Lz.out.box _).via hb4)
  have QPA := Lib.hid ((PA.out.alloc _).via hb4)
  have QPy := Lib.hid ((Py.out.alloc _).via hb4)
  have QTU := Lib.hid ((TU.out.box _).via hb4)
  have QHB := Lib.hid (HB.out.trans ((bbox hb4).mono HB.out.size))
  have Pz := Lib.hid ((Pr.new _ _ rfl _ _ _).via hb4)
  clear LA Ly Lz PA Py TU HB
  have LA := QLA
  clear QLA
  have Ly := QLy
  clear QLy
  have Lz := QLz
  clear QLz
  have PA := QPA
  clear QPA
  have Py := QPy
  clear QPy
  have TU := QTU
  clear QTU
  have HB := QHB
  clear QHB
  clear c0 c1
  clear hb4
  have ⟨c0, c1, _, _, _⟩ := PA.out
  go_wp2_with fail
  refine (rtext_n _ _ _ _ 300 x LA.out SX.out (by omega) HX.out).mono ?_
  rintro e w5 ⟨rfl, hb5⟩
  have QLA := Lib.hid (LA.out.via hb5)
  have QLy := Lib.hid (Ly.out.via hb5)
  have QLz := Lib.hid (Lz.out.via hb5)
  have QPA := Lib.hid (PA.out.via hb5)
  have QPy := Lib.hid (Py.out.via hb5)
  have QPz := Lib.hid (Pz.out.via hb5)
  have QTU := Lib.hid (TU.out.via hb5)
  have QHB := Lib.hid (HB.out.trans (hb5.mono HB.out.size))
  clear LA Ly Lz PA Py Pz TU HB
  have LA := QLA
  clear QLA
  have Ly := QLy
  clear QLy
  have Lz := QLz
  clear QLz
  have PA := QPA
  clear QPA
  have Py := QPy
  clear QPy
  have Pz := QPz
  clear QPz
  have TU := QTU
  clear QTU
  have HB := QHB
  clear QHB
  clear c0 c1
  clear hb5
  have ⟨c0, c1, _, _, _⟩ := Py.out
  have ⟨c2, c3, _, _, _⟩ := Pz.out
  go_wp2_with fail
  refine (rsame_0 _ _ _ _ _ _ _ Ly.out Lz.out).mono ?_
  rintro e w6 ⟨rfl, hb6⟩
  have QLA := Lib.hid (LA.out.via hb6)
  have QLy := Lib.hid (Ly.out.via hb6)
  have QLz := Lib.hid (Lz.out.via hb6)
  have QPA := Lib.hid (PA.out.via hb6)
  have QPy := Lib.hid (Py.out.via hb6)
  have QPz := Lib.hid (Pz.out.via hb6)
  have QTU := Lib.hid (TU.out.via hb6)
  have QHB := Lib.hid (HB.out.trans (hb6.mono HB.out.size))
  clear LA Ly Lz PA Py Pz TU HB
  have LA := QLA
  clear QLA
  have Ly := QLy
  clear QLy
  have Lz := QLz
  clear QLz
  have PA := QPA
  clear QPA
  have Py := QPy
  clear QPy
  have Pz := QPz
  clear QPz
  have TU := QTU
  clear QTU
  have HB := QHB
  clear QHB
  clear c0 c1 c2 c3
  clear hb6
  go_wp2
  go_ret
  exact ⟨rfl, HB.out⟩

set_option maxRecDepth 100000 in
set_option maxHeartbeats 4000000 in
theorem texts_it (w : World) (na : Bool) (A : Option Addr) (n ca : Nat) (xs : List Nat) (hA : Lm w w.heap.size A n ca xs) (l : List UInt8) (hU : TabU w) (hgr : greatB n = false) (hl : l.length ≤ 3000) (hx : chk na xs = 8) (hp : pOk l = true) :
    Calls Tryd.prog 4 #[.agg #[.bool na, .slice A n ca], .string ⟨l.toArray⟩] w fun e w' => e = .returned (.bool true) ∧ Below w.heap.size w w' := by
  have LA := Lib.hid hA
  have TU := Lib.hid hU
  have hac := hA.cap
  have hax := hA.max
  have HB : Hid (Below w.heap.size w w) := Below.refl _ _
  have HP := Lib.hid hp
  have SX := Lib.hid hx
  clear hp hx
  clear hA hU
  go_enter Tryd.func4, Tryd.ntmps4
  go_wp2_with fail
  refine (great_any _ _ _ _ _ hac hax).mono ?_
  rintro e w1 ⟨rfl, hb1⟩
  have QLA := Lib.hid ((LA.out.box _).via hb1)
  have QTU := Lib.hid ((TU.out.box _).via hb1)
  have QHB := Lib.hid (HB.out.trans ((bbox hb1).mono HB.out.size))
  have PA := Lib.hid ((Pr.new _ _ rfl _ _ _).via hb1)
  clear LA TU HB
  have LA := QLA
  clear QLA
  have TU := QTU
  clear QTU
  have HB := QHB
  clear QHB
  rw [hgr]
  clear hb1
  go_wp2_with fail
  refine (parse_n _ l HP.out (by omega)).mono ?_
  rintro e w2 ⟨Ay, ny, cy, rfl, hy, hb2⟩
  have QLA := Lib.hid (LA.out.via hb2)
  have QPA := Lib.hid (PA.out.via hb2)
  have QTU := Lib.hid (TU.out.via hb2)
  have QHB := Lib.hid (HB.out.trans (hb2.mono HB.out.size))
  clear LA PA TU HB
  have LA := QLA
  clear QLA
  have PA := QPA
  clear QPA
  have TU := QTU
  clear QTU
  have HB := QHB
  clear QHB
  have Ly := Lib.hid hy
  have Sy : Hid (Sz 3000 (pZ l)) := pZ_sz HP.out hl
  clear hy
  obtain ⟨gy, hgy⟩ : ∃ b, decide (pZ l < 0) = b := ⟨_, rfl⟩
  have Hy := Lib.hid hgy
  rw [hgy]
  clear hgy
  clear hb2
  go_wp2_with fail
  refine (rparse_n _ l HP.out hl).mono ?_
  rintro e w3 ⟨Az, nz, cz, rfl, hz, hb3⟩
  have QLA := Lib.hid ((LA.out.box _).via hb3)
  have QLy := Lib.hid ((Ly.out.box _).via hb3)
  have QPA := Lib.hid ((PA.out.alloc _).via hb3)
  have QTU := Lib.hid ((TU.out.box _).via hb3)
  have QHB := Lib.hid (HB.out.trans ((bbox hb3).mono HB.out.size))
  have Py := Lib.hid ((Pr.new _ _ rfl _ _ _).via hb3)
  clear LA Ly PA TU HB
  have LA := QLA
  clear QLA
  have Ly := QLy
  clear QLy
  have PA := QPA
  clear QPA
  have TU := QTU
  clear QTU
  have HB := QHB
  clear QHB
  have Lz := Lib.hid hz
  have Sz_ : Hid (Sz 3000 (pZ l)) := pZ_sz HP.out hl
  clear hz
  obtain ⟨gz, hgz⟩ : ∃ b, decide (pZ l < 0) = b := ⟨_, rfl⟩
  have Hz := Lib.hid hgz
  rw [hgz]
  clear hgz
  clear hb3
  have ⟨c0, c1, _, _, _⟩ := PA.out
  go_wp2_with fail
  refine (text_bad _ _ _ _ _ _ (LA.out.box _) SX.out).mono ?_
  rintro e w4 ⟨rfl, hb4⟩
  have QLA := Lib.hid ((LA.out.box _).via hb4)
  have QLy := Lib.hid ((Ly.out.box _).via hb4)
  have QLz := Lib.hid ((Lz.out.box _).via hb4)
  have QPA := Lib.hid ((PA.out.alloc _).via hb4)
  have QPy := Lib.hid ((Py.out.alloc _).via hb4)
  have QTU := Lib.hid ((TU.out.box _).via hb4)
  have QHB := Lib.hid (HB.out.trans ((bbox hb4).mono HB.out.size))
  have Pz := Lib.hid ((Pr.new _ _ rfl _ _ _).via hb4)
  clear LA Ly Lz PA Py TU HB
  have LA := QLA
  clear QLA
  have Ly := QLy
  clear QLy
  have Lz := QLz
  clear QLz
  have PA := QPA
  clear QPA
  have Py := QPy
  clear QPy
  have TU := QTU
  clear QTU
  have HB := QHB
  clear QHB
  clear c0 c1
  clear hb4
  have ⟨c0, c1, _, _, _⟩ := PA.out
  go_wp2_with fail
  refine (rtext_bad _ _ _ _ _ _ LA.out SX.out).mono ?_
  rintro e w5 ⟨rfl, hb5⟩
  have QLA := Lib.hid (LA.out.via hb5)
  have QLy := Lib.hid (Ly.out.via hb5)
  have QLz := Lib.hid (Lz.out.via hb5)
  have QPA := Lib.hid (PA.out.via hb5)
  have QPy := Lib.hid (Py.out.via hb5)
  have QPz := Lib.hid (Pz.out.via hb5)
  have QTU := Lib.hid (TU.out.via hb5)
  have QHB := Lib.hid (HB.out.trans (hb5.mono HB.out.size))
  clear LA Ly Lz PA Py Pz TU HB
  have LA := QLA
  clear QLA
  have Ly := QLy
  clear QLy
  have Lz := QLz
  clear QLz
  have PA := QPA
  clear QPA
  have Py := QPy
  clear QPy
  have Pz := QPz
  clear QPz
  have TU := QTU
  clear QTU
  have HB := QHB
  clear QHB
  clear c0 c1
  clear hb5
  have ⟨c0, c1, _, _, _⟩ := Py.out
  have ⟨c2, c3, _, _, _⟩ := Pz.out
  go_wp2_with fail
  refine (rsame_w _ _ _ _ _ _ _ (pZ l) Ly.out Lz.out Hy.out Hz.out).mono ?_
  rintro e w6 ⟨rfl, hb6⟩
  have QLA := Lib.hid (LA.out.via hb6)
  have QLy := Lib.hid (Ly.out.via hb6)
  have QLz := Lib.hid (Lz.out.via hb6)
  have QPA := Lib.hid (PA.out.via hb6)
  have QPy := Lib.hid (Py.out.via hb6)
  have QPz := Lib.hid (Pz.out.via hb6)
  have QTU := Lib.hid (TU.out.via hb6)
  have QHB := Lib.hid (HB.out.trans (hb6.mono HB.out.size))
  clear LA Ly Lz PA Py Pz TU HB
  have LA := QLA
  clear QLA
  have Ly := QLy
  clear QLy
  have Lz := QLz
  clear QLz
  have PA := QPA
  clear QPA
  have Py := QPy
  clear QPy
  have Pz := QPz
  clear QPz
  have TU := QTU
  clear QTU
  have HB := QHB
  clear QHB
  clear c0 c1 c2 c3
  clear hb6
  go_wp2
  go_ret
  exact ⟨rfl, HB.out⟩

set_option maxRecDepth 100000 in
set_option maxHeartbeats 4000000 in
theorem texts_if (w : World) (na : Bool) (A : Option Addr) (n ca : Nat) (xs : List Nat) (hA : Lm w w.heap.size A n ca xs) (l : List UInt8) (hU : TabU w) (hgr : greatB n = false) (hl : l.length ≤ 3000) (hx : chk na xs = 8) (hp : pOk l = false) :
    Calls Tryd.prog 4 #[.agg #[.bool na, .slice A n ca], .string ⟨l.toArray⟩] w fun e w' => e = .returned (.bool true) ∧ Below w.heap.size w w' := by
  have LA := Lib.hid hA
  have TU := Lib.hid hU
  have hac := hA.cap
  have hax := hA.max
  have HB : Hid (Below w.heap.size w w) := Below.refl _ _
  have HP := Lib.hid hp
  have SX := Lib.hid hx
  clear hp hx
  clear hA hU
  go_enter Tryd.func4, Tryd.ntmps4
  go_wp2_with fail
  refine (great_any _ _ _ _ _ hac hax).mono ?_
  rintro e w1 ⟨rfl, hb1⟩
  have QLA := Lib.hid ((LA.out.box _).via hb1)
  have QTU := Lib.hid ((TU.out.box _).via hb1)
  have QHB := Lib.hid (HB.out.trans ((bbox hb1).mono HB.out.size))
  have PA := Lib.hid ((Pr.new _ _ rfl _ _ _).via hb1)
  clear LA TU HB
  have LA := QLA
  clear QLA
  have TU := QTU
  clear QTU
  have HB := QHB
  clear QHB
  rw [hgr]
  clear hb1
  go_wp2_with fail
  refine (parse_bad _ l HP.out (by omega)).mono ?_
  rintro e w2 ⟨Ay, ny, cy, rfl, hy, hb2⟩
  have QLA := Lib.hid (LA.out.via hb2)
  have QPA := Lib.hid (PA.out.via hb2)
  have QTU := Lib.hid (TU.out.via hb2)
  have QHB := Lib.hid (HB.out.trans (hb2.mono HB.out.size))
  clear LA PA TU HB
  have LA := QLA
  clear QLA
  have PA := QPA
  clear QPA
  have TU := QTU
  clear QTU
  have HB := QHB
  clear QHB
  have Ly := Lib.hid hy
  clear hy
  clear hb2
  go_wp2_with fail
  refine (rparse_bad _ l HP.out hl).mono ?_
  rintro e w3 ⟨Az, nz, cz, rfl, hz, hb3⟩
  have QLA := Lib.hid ((LA.out.box _).via hb3)
  have QLy := Lib.hid ((Ly.out.box _).via hb3)
  have QPA := Lib.hid ((PA.out.alloc _).via hb3)
  have QTU := Lib.hid ((TU.out.box _).via hb3)
  have QHB := Lib.hid (HB.out.trans ((bbox hb3).mono HB.out.size))
  have Py := Lib.hid ((Pr.new _ _ rfl _ _ _).via hb3)
  clear LA Ly PA TU HB
  have LA := QLA
  clear QLA
  have Ly := QLy
  clear QLy
  have PA := QPA
  clear QPA
  have TU := QTU
  clear QTU
  have HB := QHB
  clear QHB
  have Lz := Lib.hid hz
  clear hz
  clear hb3
  have ⟨c0, c1, _, _, _⟩ := PA.out
  go_wp2_with fail
  refine (text_bad _ _ _ _ _ _ (LA.out.box _) SX.out).mono ?_
  rintro e w4 ⟨rfl, hb4⟩
  have QLA := Lib.hid ((LA.out.box _).via hb4)
  have QLy := Lib.hid ((Ly.out.box _).via hb4)
  have QLz := Lib.hid ((Lz.out.box _).via hb4)
  have QPA := Lib.hid ((PA.out.alloc _).via hb4)
  have QPy := Lib.hid ((Py.out.alloc _).via hb4)
  have QTU := Lib.hid ((TU.out.box _).via hb4)
  have QHB := Lib.hid (HB.out.trans ((bbox hb4).mono HB.out.size))
  have Pz := Lib.hid ((Pr.new _ _ rfl _ _ _).via hb4)
  clear LA Ly Lz PA Py TU HB
  have LA := QLA
  clear QLA
  have Ly := QLy
  clear QLy
  have Lz := QLz
  clear QLz
  have PA := QPA
  clear QPA
  have Py := QPy
  clear QPy
  have TU := QTU
  clear QTU
  have HB := QHB
  clear QHB
  clear c0 c1
  clear hb4
  have ⟨c0, c1, _, _, _⟩ := PA.out
  go_wp2_with fail
  refine (rtext_bad _ _ _ _ _ _ LA.out SX.out).mono ?_
  rintro e w5 ⟨rfl, hb5⟩
  have QLA := Lib.hid (LA.out.via hb5)
  have QLy := Lib.hid (Ly.out.via hb5)
  have QLz := Lib.hid (Lz.out.via hb5)
  have QPA := Lib.hid (PA.out.via hb5)
  have QPy := Lib.hid (Py.out.via hb5)
  have QPz := Lib.hid (Pz.out.via hb5)
  have QTU := Lib.hid (TU.out.via hb5)
  have QHB := Lib.hid (HB.out.trans (hb5.mono HB.out.size))
  clear LA Ly Lz PA Py Pz TU HB
  have LA := QLA
  clear QLA
  have Ly := QLy
  clear QLy
  have Lz := QLz
  clear QLz
  have PA := QPA
  clear QPA
  have Py := QPy
  clear QPy
  have Pz := QPz
  clear QPz
  have TU := QTU
  clear QTU
  have HB := QHB
  clear QHB
  clear c0 c1
  clear hb5
  have ⟨c0, c1, _, _, _⟩ := Py.out
  have ⟨c2, c3, _, _, _⟩ := Pz.out
  go_wp2_with fail
  refine (rsame_0 _ _ _ _ _ _ _ Ly.out Lz.out).mono ?_
  rintro e w6 ⟨rfl, hb6⟩
  have QLA := Lib.hid (LA.out.via hb6)
  have QLy := Lib.hid (Ly.out.via hb6)
  have QLz := Lib.hid (Lz.out.via hb6)
  have QPA := Lib.hid (PA.out.via hb6)
  have QPy := Lib.hid (Py.out.via hb6)
  have QPz := Lib.hid (Pz.out.via hb6)
  have QTU := Lib.hid (TU.out.via hb6)
  have QHB := Lib.hid (HB.out.trans (hb6.mono HB.out.size))
  clear LA Ly Lz PA Py Pz TU HB
  have LA := QLA
  clear QLA
  have Ly := QLy
  clear QLy
  have Lz := QLz
  clear QLz
  have PA := QPA
  clear QPA
  have Py := QPy
  clear QPy
  have Pz := QPz
  clear QPz
  have TU := QTU
  clear QTU
  have HB := QHB
  clear QHB
  clear c0 c1 c2 c3
  clear hb6
  go_wp2
  go_ret
  exact ⟨rfl, HB.out⟩
end Go.Proofs.YtaegadicnbmapaaDoor

namespace Go.Proofs.YtaegadicnbmapaaDoor
open Go.ChangeShapes Go.WideShapes Go.ChangeAt Go.RowKit

open Go.ChangeMaps

theorem texts_any (w : World) (na : Bool) (A : Option Addr) (n ca : Nat) (xs : List Nat) (hA : Lm w w.heap.size A n ca xs) (s : ByteArray) (hs : s.size ≤ maxLen) (_ : TabD w) (hU : TabU w) :
    Calls Tryd.prog 4 #[.agg #[.bool na, .slice A n ca], .string s] w fun e w' => e = .returned (.bool true) ∧ Below w.heap.size w w' := by
  obtain ⟨l, rfl⟩ : ∃ l : List UInt8, s = ⟨l.toArray⟩ := ⟨s.data.toList, by simp⟩
  rw [str_size] at hs
  simp only [maxLen] at hs
  cases hg : greatB n with
  | true => exact texts_great w na A n ca xs hA l hU hg (by omega)
  | false =>
    by_cases h3 : 3000 < l.length
    · exact texts_long w na A n ca xs hA l hU hg h3 (by omega)
    · rcases chk_cases na xs with hc | hc
      · have hl := (chk_ok.1 hc).1
        rw [hA.len] at hl
        unfold greatB at hg
        have h300 : n ≤ 300 := by
          refine Nat.le_of_not_lt fun h => ?_
          rw [decide_eq_true h, decide_eq_true hl] at hg
          cases hg
        have hg2 : greatB n = false := hg
        obtain ⟨x, rfl, rfl, hx⟩ := of_chk hc hA.good (k := 300) (by rw [hA.len]; exact h300)
        cases hp : pOk l with
        | true => exact texts_vt w A n ca x hA l hU hg2 (by omega) hx hp
        | false => exact texts_vf w A n ca x hA l hU hg2 (by omega) hx hp
      · cases hp : pOk l with
        | true => exact texts_it w na A n ca xs hA l hU hg (by omega) hc hp
        | false => exact texts_if w na A n ca xs hA l hU hg (by omega) hc hp

set_option maxRecDepth 100000 in
theorem wideTexts_lifted (os : Os) (started : os.Started) (H : Type) (enc : TypeId × Value → H) :
    ReturnsInHanded {} Tryd.checked os 4 .any (fun w args => (Rows.wideTextsSpec.pre enc Tryd.prog Tryd.f4 [] false w args ∧ laidMetH Tryd.prog laid3 w) ∧ sizedMet enc Tryd.prog Tryd.f4 (OpenSpec.ofChange Rows.wideTextsSpec) false w args)
      (Rows.wideTextsSpec.post enc Tryd.prog Tryd.f4 false true false false) := by
  refine returnsInHanded_of_change_and (C := Tryd.checked) (X := fun w _ => laidMetH Tryd.prog laid3 w) (fun _ _ _ hh h => h.of_heap hh) own started (by kernel_rfl) Tryd.func4
    (ChangeSpec.witness_shaped (enc := enc) (C := Tryd.checked) (os := os) (X := fun w _ => laidMetH Tryd.prog laid3 w) false (World.doorLaid Tryd.prog 24 os) #[.agg #[.bool false, .slice none 0 0], .string ⟨#[]⟩] 8 rfl (World.shaped_of_RefB (by kernel_rfl) (by kernel_rfl)) (by kernel_rfl) (by kernel_rfl) (by kernel_rfl) (door_met os _)) ?_
  intro W base args ds gs before hval0 hW _ _ hL _
  obtain ⟨hTD, hTU⟩ := tabs_of hL
  have hval : ∀ (j : Nat) t v, Tryd.f4.params[j]? = some t → args[j]? = some v → Value.okWide Tryd.prog W .any base t v := hval0
  have hW' := hW
  obtain ⟨p, q, hA0, hV, rfl, hfz, hnd⟩ := hW
  have hA : DataW.TrodAll enc Tryd.prog W 0 (fun _ => true) true Tryd.f4.params.toList args.toList ds p := hA0
  rw [Tryd.params4] at hA hval
  obtain ⟨v0, v1, d0, d1, p0, p1, rfl, rfl, rfl, h0, h1⟩ := trodAll_two hA
  obtain ⟨rfl, rfl⟩ := trodVars_none hV
  clear hA0 hval0
  simp only [List.append_nil] at hW'
  obtain ⟨s1, rfl, rfl, rfl, ws1⟩ := open_string Tryd.underlying9 (hval 1 9 v1 rfl rfl) h1
  try (simp only [List.append_nil, List.nil_append, List.append_assoc] at hW')
  have hlt : ∀ x ∈ p0, x.block < W.heap.size := fun x hx => by simpa using hW'.lt x hx
  have hlt0 : ∀ x ∈ p0, x.block < W.heap.size := fun x hx => hlt x hx
  obtain ⟨na, A, n, ca, xs, rfl, hLA⟩ := open_wide (hval 0 24 v0 rfl rfl) h0 hlt0
  refine (texts_any W na A n ca xs hLA s1 ws1 hTD hTU).mono fun e W' ⟨he, hb⟩ => ?_
  subst he
  exact ⟨_, rfl, _, _, _, [], p0, [], hW', trodAll_mk1 (shut_bool Tryd.underlying4 _),
    (by have e := trodAll_mk2 (Below.trod laidOut (by kernel_rfl) (of_decide_eq_true (by kernel_rfl)) h0 hb hlt0) (shut_string Tryd.underlying9 ws1); simp only [List.append_nil, List.nil_append] at e; exact e), rfl, hb.frame _, fun h => by cases h⟩

theorem wideTexts_row : Rows.WideTextsSaid :=
  OpenClaim.holds_of_wide 4 Tryd.f4 rfl rfl rfl rfl rfl rfl rfl ⟨rfl, rfl, rfl, rfl, rfl⟩ rfl rfl rfl rfl rfl (by kernel_rfl) Tryd.func4 (by kernel_rfl)
    (of_decide_eq_true (by kernel_rfl)) (by unfold Func.isWrapper; first | (rw [if_pos (by decide +kernel)]; kernel_rfl) | (rw [if_neg (by decide +kernel)]; exact ⟨rfl, rfl⟩))
    (fun os started H enc _ => wideTexts_lifted os started H enc)

theorem wideTexts_holds : Rows.WideTextsCardSaid :=
  Claim7.holds_tied_plain_at .later [] [.data, .data, .data] true (Rows.wideTextsCard.stood.harness) false
    wideTexts_row (fun _ h => by cases h) (by kernel_rfl) (fun _ h => by cases h) wideTexts_row_tie rfl ⟨rfl, rfl⟩ (by kernel_rfl) rfl
    (fun f fn hf hfn => by
      obtain rfl : f = 4 := Option.some.inj ((show Tryd.prog.funcNamed "planisphere/planispherelaw01.WideTexts" = some 4 by kernel_rfl).symm.trans hf) |>.symm
      obtain rfl : fn = Tryd.f4 := (Option.some.inj (Tryd.func4.symm.trans hfn)).symm
      exact ⟨by kernel_rfl, fun j t ht => by
        rw [Tryd.params4] at ht
        have hm : t ∈ [24, 9] := by simpa using Array.mem_of_getElem? ht
        have hall : ([24, 9].all fun u => !Tryd.prog.wantsStandIn u) = true := by kernel_rfl
        exact (show Tryd.prog.wantsStandIn t = false by simpa using List.all_eq_true.1 hall t hm)⟩)
    (by kernel_rfl)
end Go.Proofs.YtaegadicnbmapaaDoor

