
/-
  For any number a, any string s and any whole number n the law WideBack returns true: Parse of Text of package wide is the number, Text of Parse the string, and Int of From the number, where the law asks it. What the three library tables hold stands in the row.
-/
import Derived.Test.YtkcdijhfiahibaaDoorRows
import Derived.ProofKit
import Derived.SizedLaws
import Derived.Lib.SmallJoins
import Derived.LaidMore
import Derived.OpenShut
import Derived.Stop.LaidErr
import Derived.MakeChecks
import Derived.SevenTiedAt
import Derived.Lib.OthersKept
import Derived.Laws.RangeAny
import Derived.Lib.OwnKind
import Derived.Laws.OwnMore
import Derived.Lib.Strings
import Derived.Lib.Slices
import Derived.Lib.Walk
import Derived.Test.YtkcdijhfiahibaaDoorTie
import Derived.Test.YtkcdijhfiahibaaDoorCards
import Derived.Test.YtkcdijhfiahibaaDoorGBak4
/- The law's 'alive': the chapter's examples hold. -/
namespace Go.Proofs.YtkcdijhfiahibaaDoor
open Go.RowKit

theorem ex_dm1 (w : World) (A B : Option Addr) (n m ca cb : Nat) (hA : Lm w w.heap.size A n ca (digs 7)) (hB : Lm w w.heap.size B m cb (digs 2)) :
    Calls Tryd.prog 8 #[.agg #[.bool true, .slice A n ca], .agg #[.bool false, .slice B m cb]] w (RWW w true (digs 4) false (digs 1) 0) :=
  divmod_down w true false A B n m ca cb 7 2 hA hB (by decide) (by omega) (.inl ⟨rfl, rfl⟩) (by decide)
theorem ex_dm2 (w : World) (A B : Option Addr) (n m ca cb : Nat) (hA : Lm w w.heap.size A n ca (digs 7)) (hB : Lm w w.heap.size B m cb (digs 2)) :
    Calls Tryd.prog 8 #[.agg #[.bool false, .slice A n ca], .agg #[.bool true, .slice B m cb]] w (RWW w true (digs 4) true (digs 1) 0) :=
  divmod_down w false true A B n m ca cb 7 2 hA hB (by decide) (by omega) (.inr ⟨rfl, rfl⟩) (by decide)
theorem ex_sh (w : World) (A : Option Addr) (n c : Nat) (hA : Lm w w.heap.size A n c (digs 5)) (hT : TabD w) :
    Calls Tryd.prog 19 #[.agg #[.bool true, .slice A n c], .int .i64 (-1)] w (RW w true (digs 3) 0) :=
  shift_down_lost w A n c 5 1 (-1) hA (by decide) rfl (by omega) (by omega) hT (by decide)
theorem ex_gcd (w : World) (A B : Option Addr) (n m ca cb : Nat) (hA : Lm w w.heap.size A n ca (digs 12)) (hB : Lm w w.heap.size B m cb (digs 18)) :
    Calls Tryd.prog 21 #[.agg #[.bool true, .slice A n ca], .agg #[.bool false, .slice B m cb]] w (RW w false (digs 6) 0) :=
  gcd_small w true false A B n m ca cb 12 18 hA hB (by decide) (by rw [← hA.len]; decide) (by rw [← hB.len]; decide)
theorem ex_sq (w : World) (A : Option Addr) (n c : Nat) (hA : Lm w w.heap.size A n c (digs 99)) :
    Calls Tryd.prog 15 #[.agg #[.bool false, .slice A n c]] w (RW w false (digs 9) 0) :=
  (sqrt_ok w A n c 99 hA (by decide)).mono fun e w' ⟨r, hr, h⟩ => by
    obtain rfl : r = 9 := hr.uniq ⟨by decide, by decide⟩
    exact h
theorem dec_2_64 : Lib.decDigits 18446744073709551616 = [49, 56, 52, 52, 54, 55, 52, 52, 48, 55, 51, 55, 48, 57, 53, 53, 49, 54, 49, 54] := by
  simp [dec_big, dec_small]
theorem digs_2_64 : digs 18446744073709551616 = [0, 0, 1] := (eq_digs (xs := [0, 0, 1]) (by unfold Good; decide) (by unfold Norm; decide) (by decide)).symm
theorem ex_txt (w : World) (A : Option Addr) (n c : Nat) (hA : Lm w w.heap.size A n c [0, 0, 1]) (hT : TabU w) :
    Calls Tryd.prog 26 #[.agg #[.bool false, .slice A n c]] w fun e w' => e = .returned (.tuple #[.string ⟨#[49, 56, 52, 52, 54, 55, 52, 52, 48, 55, 51, 55, 48, 57, 53, 53, 49, 54, 49, 54]⟩, .int .i64 0]) ∧ Below w.heap.size w w' := by
  rw [← digs_2_64] at hA
  have h := text_ok w false A n c 18446744073709551616 hA (by rw [digs_2_64]; decide) hT
  have e : txt false 18446744073709551616 = [49, 56, 52, 52, 54, 55, 52, 52, 48, 55, 51, 55, 48, 57, 53, 53, 49, 54, 49, 54] := by
    unfold txt
    rw [dec_2_64]
    rfl
  rw [e] at h
  exact h
theorem Lm.three (w : World) (k : Nat) (t : TypeId) (hk : w.heap.size = k) : Lm (w.alloc (.cells #[.int .u32 0, .int .u32 0, .int .u32 1] t)) (k + 1) (some ⟨k, 0, none⟩) 3 3 [0, 0, 1] := by
  subst hk
  exact ⟨rfl, by unfold Good; decide, Nat.le_refl _, by omega, fun h => (by cases h), fun _ => ⟨_, 0, rfl, by omega, fun j hj => by
    match j, hj with
    | 0, _ => go_simp
    | 1, _ => go_simp
    | 2, _ => go_simp⟩⟩

set_option maxRecDepth 100000 in
set_option maxHeartbeats 4000000 in
theorem alive_any (w : World) (hD : TabD w) (hU : TabU w) :
    Calls Tryd.prog 6 #[] w fun e w' => e = .returned (.bool true) ∧ Below w.heap.size w w' := by
  have TD := Lib.hid hD
  have TU := Lib.hid hU
  have HB : Hid (Below w.heap.size w w) := Below.refl _ _
  clear hD hU
  go_enter Tryd.func6, Tryd.ntmps6
  go_wp2_with fail
  refine (from_any _ (-7) (by omega) (by omega)).mono ?_
  rintro e w1 ⟨Aa, na, ca, rfl, ha, hb1⟩
  have QTD := Lib.hid (TD.out.via hb1)
  have QTU := Lib.hid (TU.out.via hb1)
  have QHB := Lib.hid (HB.out.trans (hb1.mono HB.out.size))
  clear TD TU HB
  have TD := QTD
  clear QTD
  have TU := QTU
  clear QTU
  have HB := QHB
  clear QHB
  have La : Hid (Lm w1 w1.heap.size Aa na ca (digs 7)) := ha
  clear ha
  clear hb1
  go_wp2_with fail
  refine (from_any _ (2) (by omega) (by omega)).mono ?_
  rintro e w2 ⟨Ab, nb, cb, rfl, hb, hb2⟩
  have QLa := Lib.hid ((La.out.via hb2))
  have QTD := Lib.hid (TD.out.via hb2)
  have QTU := Lib.hid (TU.out.via hb2)
  have QHB := Lib.hid (HB.out.trans (hb2.mono HB.out.size))
  clear La TD TU HB
  have La := QLa
  clear QLa
  have TD := QTD
  clear QTD
  have TU := QTU
  clear QTU
  have HB := QHB
  clear QHB
  have Lb : Hid (Lm w2 w2.heap.size Ab nb cb (digs 2)) := hb
  clear hb
  clear hb2
  go_wp2_with fail
  refine (ex_dm1 _ _ _ _ _ _ _ La.out Lb.out).mono ?_
  rintro e w3 ⟨Aq, nq, cq, Ar, nr, cr, rfl, hq, hr, hb3⟩
  have QLa := Lib.hid ((La.out.via hb3))
  have QLb := Lib.hid ((Lb.out.via hb3))
  have QTD := Lib.hid (TD.out.via hb3)
  have QTU := Lib.hid (TU.out.via hb3)
  have QHB := Lib.hid (HB.out.trans (hb3.mono HB.out.size))
  clear La Lb TD TU HB
  have La := QLa
  clear QLa
  have Lb := QLb
  clear QLb
  have TD := QTD
  clear QTD
  have TU := QTU
  clear QTU
  have HB := QHB
  clear QHB
  have Lq := Lib.hid hq
  have Lr := Lib.hid hr
  clear hq hr
  clear hb3
  go_wp2_with fail
  refine (from_any _ (7) (by omega) (by omega)).mono ?_
  rintro e w4 ⟨Ac, nc, cc, rfl, hc, hb4⟩
  have QLq := Lib.hid ((((Lq.out.box _).box _).via hb4))
  have QLr := Lib.hid ((((Lr.out.box _).box _).via hb4))
  have QTD := Lib.hid (((TD.out.box _).box _).via hb4)
  have QTU := Lib.hid (((TU.out.box _).box _).via hb4)
  have QHB := Lib.hid (HB.out.trans ((bbox (bbox hb4)).mono HB.out.size))
  have ⟨N1, N2⟩ := boxes2 hb4
  have Pq := Lib.hid N1
  have Pr_ := Lib.hid N2
  clear N1 N2
  clear Lq Lr TD TU HB
  have Lq := QLq
  clear QLq
  have Lr := QLr
  clear QLr
  have TD := QTD
  clear QTD
  have TU := QTU
  clear QTU
  have HB := QHB
  clear QHB
  have Lc : Hid (Lm w4 w4.heap.size Ac nc cc (digs 7)) := hc
  clear hc
  clear hb4
  go_wp2_with fail
  refine (from_any _ (-2) (by omega) (by omega)).mono ?_
  rintro e w5 ⟨Ad, nd, cd, rfl, hd, hb5⟩
  have QLq := Lib.hid ((Lq.out.via hb5))
  have QLr := Lib.hid ((Lr.out.via hb5))
  have QLc := Lib.hid ((Lc.out.via hb5))
  have QPq := Lib.hid (Pq.out.via hb5)
  have QPr_ := Lib.hid (Pr_.out.via hb5)
  have QTD := Lib.hid (TD.out.via hb5)
  have QTU := Lib.hid (TU.out.via hb5)
  have QHB := Lib.hid (HB.out.trans (hb5.mono HB.out.size))
  clear Lq Lr Lc Pq Pr_ TD TU HB
  have Lq := QLq
  clear QLq
  have Lr := QLr
  clear QLr
  have Lc := QLc
  clear QLc
  have Pq := QPq
  clear QPq
  have Pr_ := QPr_
  clear QPr_
  have TD := QTD
  clear QTD
  have TU := QTU
  clear QTU
  have HB := QHB
  clear QHB
  have Ld : Hid (Lm w5 w5.heap.size Ad nd cd (digs 2)) := hd
  clear hd
  clear hb5
  go_wp2_with fail
  refine (ex_dm2 _ _ _ _ _ _ _ Lc.out Ld.out).mono ?_
  rintro e w6 ⟨Ap, np, cp, As, ns, cs, rfl, hp, hs, hb6⟩
  have QLq := Lib.hid ((Lq.out.via hb6))
  have QLr := Lib.hid ((Lr.out.via hb6))
  have QLc := Lib.hid ((Lc.out.via hb6))
  have QLd := Lib.hid ((Ld.out.via hb6))
  have QPq := Lib.hid (Pq.out.via hb6)
  have QPr_ := Lib.hid (Pr_.out.via hb6)
  have QTD := Lib.hid (TD.out.via hb6)
  have QTU := Lib.hid (TU.out.via hb6)
  have QHB := Lib.hid (HB.out.trans (hb6.mono HB.out.size))
  clear Lq Lr Lc Ld Pq Pr_ TD TU HB
  have Lq := QLq
  clear QLq
  have Lr := QLr
  clear QLr
  have Lc := QLc
  clear QLc
  have Ld := QLd
  clear QLd
  have Pq := QPq
  clear QPq
  have Pr_ := QPr_
  clear QPr_
  have TD := QTD
  clear QTD
  have TU := QTU
  clear QTU
  have HB := QHB
  clear QHB
  have Lp := Lib.hid hp
  have Ls := Lib.hid hs
  clear hp hs
  clear hb6
  go_wp2_with fail
  refine (from_any _ (-5) (by omega) (by omega)).mono ?_
  rintro e w7 ⟨Ae, ne, ce, rfl, he, hb7⟩
  have QLq := Lib.hid ((((Lq.out.box _).box _).via hb7))
  have QLr := Lib.hid ((((Lr.out.box _).box _).via hb7))
  have QLp := Lib.hid ((((Lp.out.box _).box _).via hb7))
  have QLs := Lib.hid ((((Ls.out.box _).box _).via hb7))
  have QPq := Lib.hid (((Pq.out.alloc _).alloc _).via hb7)
  have QPr_ := Lib.hid (((Pr_.out.alloc _).alloc _).via hb7)
  have QTD := Lib.hid (((TD.out.box _).box _).via hb7)
  have QTU := Lib.hid (((TU.out.box _).box _).via hb7)
  have QHB := Lib.hid (HB.out.trans ((bbox (bbox hb7)).mono HB.out.size))
  have ⟨N1, N2⟩ := boxes2 hb7
  have Pp := Lib.hid N1
  have Ps := Lib.hid N2
  clear N1 N2
  clear Lq Lr Lp Ls Pq Pr_ TD TU HB
  have Lq := QLq
  clear QLq
  have Lr := QLr
  clear QLr
  have Lp := QLp
  clear QLp
  have Ls := QLs
  clear QLs
  have Pq := QPq
  clear QPq
  have Pr_ := QPr_
  clear QPr_
  have TD := QTD
  clear QTD
  have TU := QTU
  clear QTU
  have HB := QHB
  clear QHB
  have Le : Hid (Lm w7 w7.heap.size Ae ne ce (digs 5)) := he
  clear he
  clear hb7
  go_wp2_with fail
  refine (ex_sh _ _ _ _ Le.out TD.out).mono ?_
  rintro e w8 ⟨Ax, nx, cx, rfl, hx, hb8⟩
  have QLq := Lib.hid ((Lq.out.via hb8))
  have QLr := Lib.hid ((Lr.out.via hb8))
  have QLp := Lib.hid ((Lp.out.via hb8))
  have QLs := Lib.hid ((Ls.out.via hb8))
  have QLe := Lib.hid ((Le.out.via hb8))
  have QPq := Lib.hid (Pq.out.via hb8)
  have QPr_ := Lib.hid (Pr_.out.via hb8)
  have QPp := Lib.hid (Pp.out.via hb8)
  have QPs := Lib.hid (Ps.out.via hb8)
  have QTD := Lib.hid (TD.out.via hb8)
  have QTU := Lib.hid (TU.out.via hb8)
  have QHB := Lib.hid (HB.out.trans (hb8.mono HB.out.size))
  clear Lq Lr Lp Ls Le Pq Pr_ Pp Ps TD TU HB
  have Lq := QLq
  clear QLq
  have Lr := QLr
  clear QLr
  have Lp := QLp
  clear QLp
  have Ls := QLs
  clear QLs
  have Le := QLe
  clear QLe
  have Pq := QPq
  clear QPq
  have Pr_ := QPr_
  clear QPr_
  have Pp := QPp
  clear QPp
  have Ps := QPs
  clear QPs
  have TD := QTD
  clear QTD
  have TU := QTU
  clear QTU
  have HB := QHB
  clear QHB
  have Lx := Lib.hid hx
  clear hx
  clear hb8
  go_wp2_with fail
  refine (from_any _ (-12) (by omega) (by omega)).mono ?_
  rintro e w9 ⟨Af, nf, cf, rfl, hf, hb9⟩
  have QLq := Lib.hid (((Lq.out.box _).via hb9))
  have QLr := Lib.hid (((Lr.out.box _).via hb9))
  have QLp := Lib.hid (((Lp.out.box _).via hb9))
  have QLs := Lib.hid (((Ls.out.box _).via hb9))
  have QLx := Lib.hid (((Lx.out.box _).via hb9))
  have QPq := Lib.hid ((Pq.out.alloc _).via hb9)
  have QPr_ := Lib.hid ((Pr_.out.alloc _).via hb9)
  have QPp := Lib.hid ((Pp.out.alloc _).via hb9)
  have QPs := Lib.hid ((Ps.out.alloc _).via hb9)
  have QTD := Lib.hid ((TD.out.box _).via hb9)
  have QTU := Lib.hid ((TU.out.box _).via hb9)
  have QHB := Lib.hid (HB.out.trans ((bbox hb9).mono HB.out.size))
  have Px := Lib.hid ((Pr.new _ _ rfl _ _ _).via hb9)
  clear Lq Lr Lp Ls Lx Pq Pr_ Pp Ps TD TU HB
  have Lq := QLq
  clear QLq
  have Lr := QLr
  clear QLr
  have Lp := QLp
  clear QLp
  have Ls := QLs
  clear QLs
  have Lx := QLx
  clear QLx
  have Pq := QPq
  clear QPq
  have Pr_ := QPr_
  clear QPr_
  have Pp := QPp
  clear QPp
  have Ps := QPs
  clear QPs
  have TD := QTD
  clear QTD
  have TU := QTU
  clear QTU
  have HB := QHB
  clear QHB
  have Lf : Hid (Lm w9 w9.heap.size Af nf cf (digs 12)) := hf
  clear hf
  clear hb9
  go_wp2_with fail
  refine (from_any _ (18) (by omega) (by omega)).mono ?_
  rintro e w10 ⟨Ag, ng, cg, rfl, hg, hb10⟩
  have QLq := Lib.hid ((Lq.out.via hb10))
  have QLr := Lib.hid ((Lr.out.via hb10))
  have QLp := Lib.hid ((Lp.out.via hb10))
  have QLs := Lib.hid ((Ls.out.via hb10))
  have QLx := Lib.hid ((Lx.out.via hb10))
  have QLf := Lib.hid ((Lf.out.via hb10))
  have QPq := Lib.hid (Pq.out.via hb10)
  have QPr_ := Lib.hid (Pr_.out.via hb10)
  have QPp := Lib.hid (Pp.out.via hb10)
  have QPs := Lib.hid (Ps.out.via hb10)
  have QPx := Lib.hid (Px.out.via hb10)
  have QTD := Lib.hid (TD.out.via hb10)
  have QTU := Lib.hid (TU.out.via hb10)
  have QHB := Lib.hid (HB.out.trans (hb10.mono HB.out.size))
  clear Lq Lr Lp Ls Lx Lf Pq Pr_ Pp Ps Px TD TU HB
  have Lq := QLq
  clear QLq
  have Lr := QLr
  clear QLr
  have Lp := QLp
  clear QLp
  have Ls := QLs
  clear QLs
  have Lx := QLx
  clear QLx
  have Lf := QLf
  clear QLf
  have Pq := QPq
  clear QPq
  have Pr_ := QPr_
  clear QPr_
  have Pp := QPp
  clear QPp
  have Ps := QPs
  clear QPs
  have Px := QPx
  clear QPx
  have TD := QTD
  clear QTD
  have TU := QTU
  clear QTU
  have HB := QHB
  clear QHB
  have Lg : Hid (Lm w10 w10.heap.size Ag ng cg (digs 18)) := hg
  clear hg
  clear hb10
  go_wp2_with fail
  refine (ex_gcd _ _ _ _ _ _ _ Lf.out Lg.out).mono ?_
  rintro e w11 ⟨Ay, ny, cy, rfl, hy, hb11⟩
  have QLq := Lib.hid ((Lq.out.via hb11))
  have QLr := Lib.hid ((Lr.out.via hb11))
  have QLp := Lib.hid ((Lp.out.via hb11))
  have QLs := Lib.hid ((Ls.out.via hb11))
  have QLx := Lib.hid ((Lx.out.via hb11))
  have QLf := Lib.hid ((Lf.out.via hb11))
  have QLg := Lib.hid ((Lg.out.via hb11))
  have QPq := Lib.hid (Pq.out.via hb11)
  have QPr_ := Lib.hid (Pr_.out.via hb11)
  have QPp := Lib.hid (Pp.out.via hb11)
  have QPs := Lib.hid (Ps.out.via hb11)
  have QPx := Lib.hid (Px.out.via hb11)
  have QTD := Lib.hid (TD.out.via hb11)
  have QTU := Lib.hid (TU.out.via hb11)
  have QHB := Lib.hid (HB.out.trans (hb11.mono HB.out.size))
  clear Lq Lr Lp Ls Lx Lf Lg Pq Pr_ Pp Ps Px TD TU HB
  have Lq := QLq
  clear QLq
  have Lr := QLr
  clear QLr
  have Lp := QLp
  clear QLp
  have Ls := QLs
  clear QLs
  have Lx := QLx
  clear QLx
  have Lf := QLf
  clear QLf
  have Lg := QLg
  clear QLg
  have Pq := QPq
  clear QPq
  have Pr_ := QPr_
  clear QPr_
  have Pp := QPp
  clear QPp
  have Ps := QPs
  clear QPs
  have Px := QPx
  clear QPx
  have TD := QTD
  clear QTD
  have TU := QTU
  clear QTU
  have HB := QHB
  clear QHB
  have Ly := Lib.hid hy
  clear hy
  clear hb11
  go_wp2_with fail
  refine (from_any _ (99) (by omega) (by omega)).mono ?_
  rintro e w12 ⟨Ah, nh, ch, rfl, hh, hb12⟩
  have QLq := Lib.hid (((Lq.out.box _).via hb12))
  have QLr := Lib.hid (((Lr.out.box _).via hb12))
  have QLp := Lib.hid (((Lp.out.box _).via hb12))
  have QLs := Lib.hid (((Ls.out.box _).via hb12))
  have QLx := Lib.hid (((Lx.out.box _).via hb12))
  have QLy := Lib.hid (((Ly.out.box _).via hb12))
  have QPq := Lib.hid ((Pq.out.alloc _).via hb12)
  have QPr_ := Lib.hid ((Pr_.out.alloc _).via hb12)
  have QPp := Lib.hid ((Pp.out.alloc _).via hb12)
  have QPs := Lib.hid ((Ps.out.alloc _).via hb12)
  have QPx := Lib.hid ((Px.out.alloc _).via hb12)
  have QTD := Lib.hid ((TD.out.box _).via hb12)
  have QTU := Lib.hid ((TU.out.box _).via hb12)
  have QHB := Lib.hid (HB.out.trans ((bbox hb12).mono HB.out.size))
  have Py := Lib.hid ((Pr.new _ _ rfl _ _ _).via hb12)
  clear Lq Lr Lp Ls Lx Ly Pq Pr_ Pp Ps Px TD TU HB
  have Lq := QLq
  clear QLq
  have Lr := QLr
  clear QLr
  have Lp := QLp
  clear QLp
  have Ls := QLs
  clear QLs
  have Lx := QLx
  clear QLx
  have Ly := QLy
  clear QLy
  have Pq := QPq
  clear QPq
  have Pr_ := QPr_
  clear QPr_
  have Pp := QPp
  clear QPp
  have Ps := QPs
  clear QPs
  have Px := QPx
  clear QPx
  have TD := QTD
  clear QTD
  have TU := QTU
  clear QTU
  have HB := QHB
  clear QHB
  have Lh : Hid (Lm w12 w12.heap.size Ah nh ch (digs 99)) := hh
  clear hh
  clear hb12
  go_wp2_with fail
  refine (ex_sq _ _ _ _ Lh.out).mono ?_
  rintro e w13 ⟨Az, nz, cz, rfl, hz, hb13⟩
  have QLq := Lib.hid ((Lq.out.via hb13))
  have QLr := Lib.hid ((Lr.out.via hb13))
  have QLp := Lib.hid ((Lp.out.via hb13))
  have QLs := Lib.hid ((Ls.out.via hb13))
  have QLx := Lib.hid ((Lx.out.via hb13))
  have QLy := Lib.hid ((Ly.out.via hb13))
  have QLh := Lib.hid ((Lh.out.via hb13))
  have QPq := Lib.hid (Pq.out.via hb13)
  have QPr_ := Lib.hid (Pr_.out.via hb13)
  have QPp := Lib.hid (Pp.out.via hb13)
  have QPs := Lib.hid (Ps.out.via hb13)
  have QPx := Lib.hid (Px.out.via hb13)
  have QPy := Lib.hid (Py.out.via hb13)
  have QTD := Lib.hid (TD.out.via hb13)
  have QTU := Lib.hid (TU.out.via hb13)
  have QHB := Lib.hid (HB.out.trans (hb13.mono HB.out.size))
  clear Lq Lr Lp Ls Lx Ly Lh Pq Pr_ Pp Ps Px Py TD TU HB
  have Lq := QLq
  clear QLq
  have Lr := QLr
  clear QLr
  have Lp := QLp
  clear QLp
  have Ls := QLs
  clear QLs
  have Lx := QLx
  clear QLx
  have Ly := QLy
  clear QLy
  have Lh := QLh
  clear QLh
  have Pq := QPq
  clear QPq
  have Pr_ := QPr_
  clear QPr_
  have Pp := QPp
  clear QPp
  have Ps := QPs
  clear QPs
  have Px := QPx
  clear QPx
  have Py := QPy
  clear QPy
  have TD := QTD
  clear QTD
  have TU := QTU
  clear QTU
  have HB := QHB
  clear QHB
  have Lz := Lib.hid hz
  clear hz
  clear hb13
  go_wp2_with fail
  refine (whole_any _ _ _ _ _ [0, 0, 1] ((Lm.three _ (w13.heap.size + 1) _ (by simp)).mono (by simp))).mono ?_
  rintro e w14 ⟨rfl, hb14⟩
  have QLq := Lib.hid ((((Lq.out.box _).box _).via hb14))
  have QLr := Lib.hid ((((Lr.out.box _).box _).via hb14))
  have QLp := Lib.hid ((((Lp.out.box _).box _).via hb14))
  have QLs := Lib.hid ((((Ls.out.box _).box _).via hb14))
  have QLx := Lib.hid ((((Lx.out.box _).box _).via hb14))
  have QLy := Lib.hid ((((Ly.out.box _).box _).via hb14))
  have QLz := Lib.hid ((((Lz.out.box _).box _).via hb14))
  have QPq := Lib.hid (((Pq.out.alloc _).alloc _).via hb14)
  have QPr_ := Lib.hid (((Pr_.out.alloc _).alloc _).via hb14)
  have QPp := Lib.hid (((Pp.out.alloc _).alloc _).via hb14)
  have QPs := Lib.hid (((Ps.out.alloc _).alloc _).via hb14)
  have QPx := Lib.hid (((Px.out.alloc _).alloc _).via hb14)
  have QPy := Lib.hid (((Py.out.alloc _).alloc _).via hb14)
  have QTD := Lib.hid (((TD.out.box _).box _).via hb14)
  have QTU := Lib.hid (((TU.out.box _).box _).via hb14)
  have QHB := Lib.hid (HB.out.trans ((bbox (bbox hb14)).mono HB.out.size))
  have Pz := Lib.hid (((Pr.new _ _ rfl _ _ _).alloc _).via hb14)
  clear Lq Lr Lp Ls Lx Ly Lz Pq Pr_ Pp Ps Px Py TD TU HB
  have Lq := QLq
  clear QLq
  have Lr := QLr
  clear QLr
  have Lp := QLp
  clear QLp
  have Ls := QLs
  clear QLs
  have Lx := QLx
  clear QLx
  have Ly := QLy
  clear QLy
  have Lz := QLz
  clear QLz
  have Pq := QPq
  clear QPq
  have Pr_ := QPr_
  clear QPr_
  have Pp := QPp
  clear QPp
  have Ps := QPs
  clear QPs
  have Px := QPx
  clear QPx
  have Py := QPy
  clear QPy
  have TD := QTD
  clear QTD
  have TU := QTU
  clear QTU
  have HB := QHB
  clear QHB
  have L3 := Lib.hid (((Lm.three _ (w13.heap.size + 1) _ (by simp)).mono (by simp)).via hb14)
  clear hb14
  go_wp2_with fail
  refine (ex_txt _ _ _ _ L3.out TU.out).mono ?_
  rintro e w15 ⟨rfl, hb15⟩
  have QLq := Lib.hid ((Lq.out.via hb15))
  have QLr := Lib.hid ((Lr.out.via hb15))
  have QLp := Lib.hid ((Lp.out.via hb15))
  have QLs := Lib.hid ((Ls.out.via hb15))
  have QLx := Lib.hid ((Lx.out.via hb15))
  have QLy := Lib.hid ((Ly.out.via hb15))
  have QLz := Lib.hid ((Lz.out.via hb15))
  have QL3 := Lib.hid ((L3.out.via hb15))
  have QPq := Lib.hid (Pq.out.via hb15)
  have QPr_ := Lib.hid (Pr_.out.via hb15)
  have QPp := Lib.hid (Pp.out.via hb15)
  have QPs := Lib.hid (Ps.out.via hb15)
  have QPx := Lib.hid (Px.out.via hb15)
  have QPy := Lib.hid (Py.out.via hb15)
  have QPz := Lib.hid (Pz.out.via hb15)
  have QTD := Lib.hid (TD.out.via hb15)
  have QTU := Lib.hid (TU.out.via hb15)
  have QHB := Lib.hid (HB.out.trans (hb15.mono HB.out.size))
  clear Lq Lr Lp Ls Lx Ly Lz L3 Pq Pr_ Pp Ps Px Py Pz TD TU HB
  have Lq := QLq
  clear QLq
  have Lr := QLr
  clear QLr
  have Lp := QLp
  clear QLp
  have Ls := QLs
  clear QLs
  have Lx := QLx
  clear QLx
  have Ly := QLy
  clear QLy
  have Lz := QLz
  clear QLz
  have L3 := QL3
  clear QL3
  have Pq := QPq
  clear QPq
  have Pr_ := QPr_
  clear QPr_
  have Pp := QPp
  clear QPp
  have Ps := QPs
  clear QPs
  have Px := QPx
  clear QPx
  have Py := QPy
  clear QPy
  have Pz := QPz
  clear QPz
  have TD := QTD
  clear QTD
  have TU := QTU
  clear QTU
  have HB := QHB
  clear QHB
  clear hb15
  clear L3
  have ⟨c0, c1, _, _, _⟩ := Pq.out
  go_wp2_with fail
  refine (lsame_true _ true _ _ _ 4 (-4) Lq.out (by decide) (by decide) (by omega) (by omega)).mono ?_
  rintro e w16 ⟨rfl, hb16⟩
  have QLq := Lib.hid ((Lq.out.via hb16))
  have QLr := Lib.hid ((Lr.out.via hb16))
  have QLp := Lib.hid ((Lp.out.via hb16))
  have QLs := Lib.hid ((Ls.out.via hb16))
  have QLx := Lib.hid ((Lx.out.via hb16))
  have QLy := Lib.hid ((Ly.out.via hb16))
  have QLz := Lib.hid ((Lz.out.via hb16))
  have QPq := Lib.hid (Pq.out.via hb16)
  have QPr_ := Lib.hid (Pr_.out.via hb16)
  have QPp := Lib.hid (Pp.out.via hb16)
  have QPs := Lib.hid (Ps.out.via hb16)
  have QPx := Lib.hid (Px.out.via hb16)
  have QPy := Lib.hid (Py.out.via hb16)
  have QPz := Lib.hid (Pz.out.via hb16)
  have QTD := Lib.hid (TD.out.via hb16)
  have QTU := Lib.hid (TU.out.via hb16)
  have QHB := Lib.hid (HB.out.trans (hb16.mono HB.out.size))
  clear Lq Lr Lp Ls Lx Ly Lz Pq Pr_ Pp Ps Px Py Pz TD TU HB
  have Lq := QLq
  clear QLq
  have Lr := QLr
  clear QLr
  have Lp := QLp
  clear QLp
  have Ls := QLs
  clear QLs
  have Lx := QLx
  clear QLx
  have Ly := QLy
  clear QLy
  have Lz := QLz
  clear QLz
  have Pq := QPq
  clear QPq
  have Pr_ := QPr_
  clear QPr_
  have Pp := QPp
  clear QPp
  have Ps := QPs
  clear QPs
  have Px := QPx
  clear QPx
  have Py := QPy
  clear QPy
  have Pz := QPz
  clear QPz
  have TD := QTD
  clear QTD
  have TU := QTU
  clear QTU
  have HB := QHB
  clear QHB
  clear c0 c1
  clear hb16
  have ⟨c0, c1, _, _, _⟩ := Pr_.out
  go_wp2_with fail
  refine (lsame_true _ false _ _ _ 1 (1) Lr.out (by decide) (by decide) (by omega) (by omega)).mono ?_
  rintro e w17 ⟨rfl, hb17⟩
  have QLq := Lib.hid ((Lq.out.via hb17))
  have QLr := Lib.hid ((Lr.out.via hb17))
  have QLp := Lib.hid ((Lp.out.via hb17))
  have QLs := Lib.hid ((Ls.out.via hb17))
  have QLx := Lib.hid ((Lx.out.via hb17))
  have QLy := Lib.hid ((Ly.out.via hb17))
  have QLz := Lib.hid ((Lz.out.via hb17))
  have QPq := Lib.hid (Pq.out.via hb17)
  have QPr_ := Lib.hid (Pr_.out.via hb17)
  have QPp := Lib.hid (Pp.out.via hb17)
  have QPs := Lib.hid (Ps.out.via hb17)
  have QPx := Lib.hid (Px.out.via hb17)
  have QPy := Lib.hid (Py.out.via hb17)
  have QPz := Lib.hid (Pz.out.via hb17)
  have QTD := Lib.hid (TD.out.via hb17)
  have QTU := Lib.hid (TU.out.via hb17)
  have QHB := Lib.hid (HB.out.trans (hb17.mono HB.out.size))
  clear Lq Lr Lp Ls Lx Ly Lz Pq Pr_ Pp Ps Px Py Pz TD TU HB
  have Lq := QLq
  clear QLq
  have Lr := QLr
  clear QLr
  have Lp := QLp
  clear QLp
  have Ls := QLs
  clear QLs
  have Lx := QLx
  clear QLx
  have Ly := QLy
  clear QLy
  have Lz := QLz
  clear QLz
  have Pq := QPq
  clear QPq
  have Pr_ := QPr_
  clear QPr_
  have Pp := QPp
  clear QPp
  have Ps := QPs
  clear QPs
  have Px := QPx
  clear QPx
  have Py := QPy
  clear QPy
  have Pz := QPz
  clear QPz
  have TD := QTD
  clear QTD
  have TU := QTU
  clear QTU
  have HB := QHB
  clear QHB
  clear c0 c1
  clear hb17
  have ⟨c0, c1, _, _, _⟩ := Pp.out
  go_wp2_with fail
  refine (lsame_true _ true _ _ _ 4 (-4) Lp.out (by decide) (by decide) (by omega) (by omega)).mono ?_
  rintro e w18 ⟨rfl, hb18⟩
  have QLq := Lib.hid ((Lq.out.via hb18))
  have QLr := Lib.hid ((Lr.out.via hb18))
  have QLp := Lib.hid ((Lp.out.via hb18))
  have QLs := Lib.hid ((Ls.out.via hb18))
  have QLx := Lib.hid ((Lx.out.via hb18))
  have QLy := Lib.hid ((Ly.out.via hb18))
  have QLz := Lib.hid ((Lz.out.via hb18))
  have QPq := Lib.hid (Pq.out.via hb18)
  have QPr_ := Lib.hid (Pr_.out.via hb18)
  have QPp := Lib.hid (Pp.out.via hb18)
  have QPs := Lib.hid (Ps.out.via hb18)
  have QPx := Lib.hid (Px.out.via hb18)
  have QPy := Lib.hid (Py.out.via hb18)
  have QPz := Lib.hid (Pz.out.via hb18)
  have QTD := Lib.hid (TD.out.via hb18)
  have QTU := Lib.hid (TU.out.via hb18)
  have QHB := Lib.hid (HB.out.trans (hb18.mono HB.out.size))
  clear Lq Lr Lp Ls Lx Ly Lz Pq Pr_ Pp Ps Px Py Pz TD TU HB
  have Lq := QLq
  clear QLq
  have Lr := QLr
  clear QLr
  have Lp := QLp
  clear QLp
  have Ls := QLs
  clear QLs
  have Lx := QLx
  clear QLx
  have Ly := QLy
  clear QLy
  have Lz := QLz
  clear QLz
  have Pq := QPq
  clear QPq
  have Pr_ := QPr_
  clear QPr_
  have Pp := QPp
  clear QPp
  have Ps := QPs
  clear QPs
  have Px := QPx
  clear QPx
  have Py := QPy
  clear QPy
  have Pz := QPz
  clear QPz
  have TD := QTD
  clear QTD
  have TU := QTU
  clear QTU
  have HB := QHB
  clear QHB
  clear c0 c1
  clear hb18
  have ⟨c0, c1, _, _, _⟩ := Ps.out
  go_wp2_with fail
  refine (lsame_true _ true _ _ _ 1 (-1) Ls.out (by decide) (by decide) (by omega) (by omega)).mono ?_
  rintro e w19 ⟨rfl, hb19⟩
  have QLq := Lib.hid ((Lq.out.via hb19))
  have QLr := Lib.hid ((Lr.out.via hb19))
  have QLp := Lib.hid ((Lp.out.via hb19))
  have QLs := Lib.hid ((Ls.out.via hb19))
  have QLx := Lib.hid ((Lx.out.via hb19))
  have QLy := Lib.hid ((Ly.out.via hb19))
  have QLz := Lib.hid ((Lz.out.via hb19))
  have QPq := Lib.hid (Pq.out.via hb19)
  have QPr_ := Lib.hid (Pr_.out.via hb19)
  have QPp := Lib.hid (Pp.out.via hb19)
  have QPs := Lib.hid (Ps.out.via hb19)
  have QPx := Lib.hid (Px.out.via hb19)
  have QPy := Lib.hid (Py.out.via hb19)
  have QPz := Lib.hid (Pz.out.via hb19)
  have QTD := Lib.hid (TD.out.via hb19)
  have QTU := Lib.hid (TU.out.via hb19)
  have QHB := Lib.hid (HB.out.trans (hb19.mono HB.out.size))
  clear Lq Lr Lp Ls Lx Ly Lz Pq Pr_ Pp Ps Px Py Pz TD TU HB
  have Lq := QLq
  clear QLq
  have Lr := QLr
  clear QLr
  have Lp := QLp
  clear QLp
  have Ls := QLs
  clear QLs
  have Lx := QLx
  clear QLx
  have Ly := QLy
  clear QLy
  have Lz := QLz
  clear QLz
  have Pq := QPq
  clear QPq
  have Pr_ := QPr_
  clear QPr_
  have Pp := QPp
  clear QPp
  have Ps := QPs
  clear QPs
  have Px := QPx
  clear QPx
  have Py := QPy
  clear QPy
  have Pz := QPz
  clear QPz
  have TD := QTD
  clear QTD
  have TU := QTU
  clear QTU
  have HB := QHB
  clear QHB
  clear c0 c1
  clear hb19
  have ⟨c0, c1, _, _, _⟩ := Px.out
  go_wp2_with fail
  refine (lsame_true _ true _ _ _ 3 (-3) Lx.out (by decide) (by decide) (by omega) (by omega)).mono ?_
  rintro e w20 ⟨rfl, hb20⟩
  have QLq := Lib.hid ((Lq.out.via hb20))
  have QLr := Lib.hid ((Lr.out.via hb20))
  have QLp := Lib.hid ((Lp.out.via hb20))
  have QLs := Lib.hid ((Ls.out.via hb20))
  have QLx := Lib.hid ((Lx.out.via hb20))
  have QLy := Lib.hid ((Ly.out.via hb20))
  have QLz := Lib.hid ((Lz.out.via hb20))
  have QPq := Lib.hid (Pq.out.via hb20)
  have QPr_ := Lib.hid (Pr_.out.via hb20)
  have QPp := Lib.hid (Pp.out.via hb20)
  have QPs := Lib.hid (Ps.out.via hb20)
  have QPx := Lib.hid (Px.out.via hb20)
  have QPy := Lib.hid (Py.out.via hb20)
  have QPz := Lib.hid (Pz.out.via hb20)
  have QTD := Lib.hid (TD.out.via hb20)
  have QTU := Lib.hid (TU.out.via hb20)
  have QHB := Lib.hid (HB.out.trans (hb20.mono HB.out.size))
  clear Lq Lr Lp Ls Lx Ly Lz Pq Pr_ Pp Ps Px Py Pz TD TU HB
  have Lq := QLq
  clear QLq
  have Lr := QLr
  clear QLr
  have Lp := QLp
  clear QLp
  have Ls := QLs
  clear QLs
  have Lx := QLx
  clear QLx
  have Ly := QLy
  clear QLy
  have Lz := QLz
  clear QLz
  have Pq := QPq
  clear QPq
  have Pr_ := QPr_
  clear QPr_
  have Pp := QPp
  clear QPp
  have Ps := QPs
  clear QPs
  have Px := QPx
  clear QPx
  have Py := QPy
  clear QPy
  have Pz := QPz
  clear QPz
  have TD := QTD
  clear QTD
  have TU := QTU
  clear QTU
  have HB := QHB
  clear QHB
  clear c0 c1
  clear hb20
  have ⟨c0, c1, _, _, _⟩ := Py.out
  go_wp2_with fail
  refine (lsame_true _ false _ _ _ 6 (6) Ly.out (by decide) (by decide) (by omega) (by omega)).mono ?_
  rintro e w21 ⟨rfl, hb21⟩
  have QLq := Lib.hid ((Lq.out.via hb21))
  have QLr := Lib.hid ((Lr.out.via hb21))
  have QLp := Lib.hid ((Lp.out.via hb21))
  have QLs := Lib.hid ((Ls.out.via hb21))
  have QLx := Lib.hid ((Lx.out.via hb21))
  have QLy := Lib.hid ((Ly.out.via hb21))
  have QLz := Lib.hid ((Lz.out.via hb21))
  have QPq := Lib.hid (Pq.out.via hb21)
  have QPr_ := Lib.hid (Pr_.out.via hb21)
  have QPp := Lib.hid (Pp.out.via hb21)
  have QPs := Lib.hid (Ps.out.via hb21)
  have QPx := Lib.hid (Px.out.via hb21)
  have QPy := Lib.hid (Py.out.via hb21)
  have QPz := Lib.hid (Pz.out.via hb21)
  have QTD := Lib.hid (TD.out.via hb21)
  have QTU := Lib.hid (TU.out.via hb21)
  have QHB := Lib.hid (HB.out.trans (hb21.mono HB.out.size))
  clear Lq Lr Lp Ls Lx Ly Lz Pq Pr_ Pp Ps Px Py Pz TD TU HB
  have Lq := QLq
  clear QLq
  have Lr := QLr
  clear QLr
  have Lp := QLp
  clear QLp
  have Ls := QLs
  clear QLs
  have Lx := QLx
  clear QLx
  have Ly := QLy
  clear QLy
  have Lz := QLz
  clear QLz
  have Pq := QPq
  clear QPq
  have Pr_ := QPr_
  clear QPr_
  have Pp := QPp
  clear QPp
  have Ps := QPs
  clear QPs
  have Px := QPx
  clear QPx
  have Py := QPy
  clear QPy
  have Pz := QPz
  clear QPz
  have TD := QTD
  clear QTD
  have TU := QTU
  clear QTU
  have HB := QHB
  clear QHB
  clear c0 c1
  clear hb21
  have ⟨c0, c1, _, _, _⟩ := Pz.out
  go_wp2_with fail
  refine (lsame_true _ false _ _ _ 9 (9) Lz.out (by decide) (by decide) (by omega) (by omega)).mono ?_
  rintro e w22 ⟨rfl, hb22⟩
  have QLq := Lib.hid ((Lq.out.via hb22))
  have QLr := Lib.hid ((Lr.out.via hb22))
  have QLp := Lib.hid ((Lp.out.via hb22))
  have QLs := Lib.hid ((Ls.out.via hb22))
  have QLx := Lib.hid ((Lx.out.via hb22))
  have QLy := Lib.hid ((Ly.out.via hb22))
  have QLz := Lib.hid ((Lz.out.via hb22))
  have QPq := Lib.hid (Pq.out.via hb22)
  have QPr_ := Lib.hid (Pr_.out.via hb22)
  have QPp := Lib.hid (Pp.out.via hb22)
  have QPs := Lib.hid (Ps.out.via hb22)
  have QPx := Lib.hid (Px.out.via hb22)
  have QPy := Lib.hid (Py.out.via hb22)
  have QPz := Lib.hid (Pz.out.via hb22)
  have QTD := Lib.hid (TD.out.via hb22)
  have QTU := Lib.hid (TU.out.via hb22)
  have QHB := Lib.hid (HB.out.trans (hb22.mono HB.out.size))
  clear Lq Lr Lp Ls Lx Ly Lz Pq Pr_ Pp Ps Px Py Pz TD TU HB
  have Lq := QLq
  clear QLq
  have Lr := QLr
  clear QLr
  have Lp := QLp
  clear QLp
  have Ls := QLs
  clear QLs
  have Lx := QLx
  clear QLx
  have Ly := QLy
  clear QLy
  have Lz := QLz
  clear QLz
  have Pq := QPq
  clear QPq
  have Pr_ := QPr_
  clear QPr_
  have Pp := QPp
  clear QPp
  have Ps := QPs
  clear QPs
  have Px := QPx
  clear QPx
  have Py := QPy
  clear QPy
  have Pz := QPz
  clear QPz
  have TD := QTD
  clear QTD
  have TU := QTU
  clear QTU
  have HB := QHB
  clear QHB
  clear c0 c1
  clear hb22
  go_wp2
  go_ret
  exact ⟨rfl, HB.out⟩
end Go.Proofs.YtkcdijhfiahibaaDoor

/- What a tied row's condition gives: the library's tables lie in their variables; numbers that come in; the witness. -/
namespace Go.Proofs.YtkcdijhfiahibaaDoor
section
open Go.ChangeShapes Go.WideShapes Go.ChangeAt Go.RowKit Go.Joins

theorem cells_u32 : Tryd.prog.cellsOf 53 = 1 := by kernel_rfl
theorem cells_wide : Tryd.prog.cellsOf 24 = 2 := by kernel_rfl
theorem laidOut : laidOutB Tryd.prog = true := by kernel_rfl
theorem own : ownKnob Tryd.prog.godebug = none := by kernel_rfl
theorem wf_u32 {n : Int} (h : (Lit.int .u32 n).wf = true) : 0 ≤ n ∧ n < 4294967296 := by
  have h1 : IntKind.u32.min = 0 := rfl
  have h2 : IntKind.u32.max = 4294967295 := rfl
  simp only [Lit.wf, Bool.and_eq_true, decide_eq_true_eq] at h
  omega

set_option maxRecDepth 100000 in
theorem open_wide {H : Type} {enc : TypeId × Value → H} {w : World} {b0 : Nat} {v : Value} {d : DataW H} {p : List MemPlace}
    (hv : Value.okWide Tryd.prog w .any b0 24 v) (h : DataW.Trod enc Tryd.prog w 0 (fun _ => true) true 24 v d p) (hlt : ∀ x ∈ p, x.block < w.heap.size) :
    ∃ neg A n c xs, v = .agg #[.bool neg, .slice A n c] ∧ Lm w w.heap.size A n c xs := by
  obtain ⟨v0, v1, y0, y1, fuel, rfl, rfl, rfl, h0, h1⟩ := open_agg2 Tryd.underlying24 (by kernel_rfl) cells_wide hv h
  obtain ⟨neg, e0, rfl⟩ := DataW.trod_bool Tryd.underlying4 h0
  obtain rfl : v0 = .bool neg := by simpa using e0
  rcases open_ints Tryd.underlying22 Tryd.underlying53 cells_u32 h1 with ⟨e1, rfl⟩ | ⟨a, len, cap, zs, e1, _, hl, hm, hz, rfl, hcell, hwz⟩
  · obtain rfl : v1 = .slice none 0 0 := by simpa using e1
    exact ⟨neg, none, 0, 0, [], rfl, Lm.nil _ _⟩
  · obtain rfl : v1 = .slice (some a) len cap := by simpa using e1
    simp only [if_true] at hz
    have hget : ∀ j, j < len → (((zs.take len).map Int.toNat)[j]?.getD 0 : Nat) = (zs.getD j 0).toNat ∧ 0 ≤ zs.getD j 0 := by
      intro j hj
      have hjz : j < zs.length := by omega
      have e2 : (zs.take len)[j]? = some zs[j] := by rw [List.getElem?_take_of_lt hj, List.getElem?_eq_getElem hjz]
      have e3 : zs.getD j 0 = zs[j] := by simp [List.getD, List.getElem?_eq_getElem hjz]
      rw [List.getElem?_map, e2, e3]
      exact ⟨rfl, (wf_u32 (hwz _ (List.getElem_mem hjz))).1⟩
    refine ⟨neg, some a, len, cap, (zs.take len).map Int.toNat, rfl, by simp; omega, ?_, hl, by simp only [maxLen] at hm; omega, (fun e => by cases e), fun hn => ?_⟩
    · intro x hx
      obtain ⟨y, hy, rfl⟩ := List.mem_map.1 hx
      have := wf_u32 (hwz y (List.mem_of_mem_take hy))
      omega
    · obtain ⟨b, off, spot⟩ := a
      have hspot : spot = none := by simpa [Addr.add] using World.cell?_spot (hcell 0 (by omega))
      subst hspot
      have hbW : b < w.heap.size := hlt (.cell b off) (by simp only [List.mem_append]; exact .inr (MemPlace.mem_row.2 ⟨0, by omega, by simp⟩))
      refine ⟨b, off, rfl, hbW, fun j hj => ?_⟩
      have hcj := hcell j (by omega)
      rw [add_plain] at hcj
      rw [hcj, (hget j hj).1, Int.toNat_of_nonneg (hget j hj).2]
end
/-- The three tables, as the rows list them. -/
def laid3 : List (String × DataW Unit) := [("math/bits.deBruijn32tab", Rows.laid_math_bits_deBruijn32tab), ("math/bits.deBruijn64tab", Rows.laid_math_bits_deBruijn64tab), ("internal/strconv.uint64pow10", Rows.laid_internal_strconv_uint64pow10)]
theorem gD32 : Tryd.prog.globalNamed "math/bits.deBruijn32tab" = some 0 := by kernel_rfl
theorem gU64 : Tryd.prog.globalNamed "internal/strconv.uint64pow10" = some 1 := by kernel_rfl
theorem tabD_of {W : World} {rest : List (String × DataW Unit)} (h : laidMet Tryd.prog (("math/bits.deBruijn32tab", Rows.laid_math_bits_deBruijn32tab) :: rest) W) : TabD W := by
  have hT : Lib.TabIs Tryd.prog W "math/bits.deBruijn32tab" .u8 (List.map (fun (n : Nat) => (n : Int)) Lib.deBruijn32tab) := Lib.tabIs_of_head (n := 32) (t := 102) (e := 5) gD32 (by kernel_rfl) (by kernel_rfl) Tryd.underlying5 (by kernel_rfl) (by kernel_rfl) h
  intro j hj
  rw [hT.cell gD32 j (by rw [List.length_map]; exact hj)]
  have : j < Lib.deBruijn32tab.length := hj
  simp [List.getD, List.getElem?_map, List.getElem?_eq_getElem this]
theorem tabs_of {W : World} (h : laidMetH Tryd.prog laid3 W) : TabD W ∧ TabU W := by
  rw [MakeChecks.laidMetH_plain _ _ _ (by kernel_rfl)] at h
  refine ⟨tabD_of h, ?_⟩
  exact Lib.tabIs_of_head (n := 20) (t := 117) (e := 63) gU64 (by kernel_rfl) (by kernel_rfl) Tryd.underlying63 (by kernel_rfl) (by kernel_rfl) h.tail.tail
/-- The door's own heap meets the condition. -/
theorem door_met (os : Os) (args : Array Value) : laidMetH Tryd.prog laid3 ((World.doorLaid Tryd.prog 24 os).forCall (fun _ _ => 0) ⟨#[], args, []⟩).memory :=
  laidMetH_of_parts3 (fuel := 8) (laidMet_of_run' 8 (by kernel_rfl) (by kernel_rfl)) (by kernel_rfl) (by kernel_rfl)
end Go.Proofs.YtkcdijhfiahibaaDoor

/- wide.isText: whether bytes are the text of an absolute value. -/
namespace Go.Proofs.YtkcdijhfiahibaaDoor
open Go.RowKit

def isDig (c : UInt8) : Bool := decide (48 ≤ c.toNat) && decide (c.toNat ≤ 57)
def txtOk (l : List UInt8) : Bool := l.all isDig && (decide (l = [48]) || (decide (l ≠ []) && decide (l[0]?.getD 0 ≠ 48)))
def decV (l : List UInt8) : Nat := l.foldl (fun a c => a * 10 + (c.toNat - 48)) 0
theorem str_get (l : List UInt8) (k : Nat) (_ : k < l.length) (h2 : k < (⟨l.toArray⟩ : ByteArray).size) : (⟨l.toArray⟩ : ByteArray)[k]'h2 = l[k] := rfl
theorem str_size (l : List UInt8) : (⟨l.toArray⟩ : ByteArray).size = l.length := by simp [ByteArray.size]

set_option maxRecDepth 100000 in
set_option maxHeartbeats 2000000 in
theorem istext_any (w : World) (l : List UInt8) (hl : l.length ≤ 1000000000000) :
    Calls Tryd.prog 58 #[.string ⟨l.toArray⟩] w fun e w' => e = .returned (.bool (txtOk l)) ∧ Below w.heap.size w w' := by
  have hs := str_size l
  have hk0 : (w.iter ⟨l.toArray⟩ 0).heap[w.heap.size]? = some (.stringIter ⟨l.toArray⟩ 0) := World.iter_heap w _ 0
  have hb0 : Below w.heap.size w (w.iter ⟨l.toArray⟩ 0) := (Below.refl _ w).alloc (Nat.le_refl _) _
  have HK0 := Lib.hid hk0
  have HB0 := Lib.hid hb0
  have HS := Lib.hid hs
  clear hk0 hb0 hs
  go_enter Tryd.func58, Tryd.ntmps58
  go_wp2
  go_loopw [4] (fun _ wr => ∃ pos : Nat, pos ≤ l.length ∧ wr.heap[w.heap.size]? = some (.stringIter ⟨l.toArray⟩ pos) ∧ (l.take pos).all isDig = true ∧ Below w.heap.size w wr)
    (fun _ wr => l.length - wr.iterPos w.heap.size)
  case atStart => exact ⟨0, Nat.zero_le _, HK0.out, rfl, HB0.out⟩
  case round =>
    obtain ⟨pos, hps, hk, hall, hbl⟩ := hrel
    have HK := Lib.hid hk
    have HAll := Lib.hid hall
    have HBl := Lib.hid hbl
    have hmu : wr.iterPos w.heap.size = pos := by simp [World.iterPos, hk]
    have HMu := Lib.hid hmu
    clear hk hall hbl hmu
    by_cases hp : pos < l.length
    · have hps2 : pos < (⟨l.toArray⟩ : ByteArray).size := by rw [HS.out]; exact hp
      have hge := str_get l pos hp hps2
      by_cases h128 : (l[pos]'hp).toNat < 128
      · have hnext : ∀ ty, (Instr.next (.pointer (some ⟨w.heap.size, 0, none⟩)) true ty).run Tryd.prog wr = .ok (.tuple #[.bool true, .int .i64 pos, .int .i32 (l[pos]'hp).toNat]) (wr.iterAt w.heap.size ⟨l.toArray⟩ (pos + 1)) := fun ty => by
          have e := Lib.run_next_ascii_at (P := Tryd.prog) wr w.heap.size ⟨l.toArray⟩ pos ty HK.out hps2 (by rw [hge]; exact h128)
          rw [hge] at e
          exact e
        have hk1 := Lib.hid (Lib.iterAt_heap wr w.heap.size ⟨l.toArray⟩ pos (pos + 1) HK.out)
        have hb1 := Lib.hid (Lib.below_iterAt HBl.out (Nat.le_refl _) ⟨l.toArray⟩ (pos + 1))
        have HT : Hid (∀ k, (l.take (pos + 1)).all k = ((l.take pos).all k && k (l[pos]'hp))) := by
          show ∀ k, _ = _
          intro k
          rw [take_snoc_ l pos hp, List.all_append]
          simp
        generalize wr.iterAt w.heap.size ⟨l.toArray⟩ (pos + 1) = W1 at hnext hk1 hb1
        clear hge hps2
        by_cases hd : 48 ≤ (l[pos]'hp).toNat ∧ (l[pos]'hp).toNat ≤ 57
        · have HD : Hid (isDig (l[pos]'hp) = true) := by show _ = _; unfold isDig; simp [hd.1, hd.2]
          obtain ⟨hd1, hd2⟩ := hd
          generalize (l[pos]'hp).toNat = c at *
          go_wp2
          go_roundw
          case rel => exact ⟨pos + 1, by omega, hk1.out, by rw [HT.out, HAll.out, HD.out]; rfl, hb1.out⟩
          case measure =>
            have hmu2 : W1.iterPos w.heap.size = pos + 1 := by simp [World.iterPos, hk1.out]
            rw [HMu.out, hmu2]
            omega
        · have HF : Hid (txtOk l = false) := by
            show _ = _
            unfold txtOk
            have h1 : l.all isDig = false := by
              rw [List.all_eq_false]
              exact ⟨l[pos]'hp, List.getElem_mem hp, by unfold isDig; simp; omega⟩
            rw [h1]; rfl
          generalize (l[pos]'hp).toNat = c at *
          by_cases h48 : c < 48
          · clear hd
            go_wp2
            go_ret
            exact ⟨by rw [HF.out]; rfl, hb1.out⟩
          · have h57 : 57 < c := by omega
            clear hd
            go_wp2
            go_ret
            exact ⟨by rw [HF.out]; rfl, hb1.out⟩
      · have hdh := decode_high ⟨l.toArray⟩ pos hps2 (by rw [hge]; omega)
        have hnext : ∀ ty, (Instr.next (.pointer (some ⟨w.heap.size, 0, none⟩)) true ty).run Tryd.prog wr = .ok (.tuple #[.bool true, .int .i64 pos, .int .i32 (Utf8.decode ⟨l.toArray⟩ pos).1]) (wr.iterAt w.heap.size ⟨l.toArray⟩ (pos + (Utf8.decode ⟨l.toArray⟩ pos).2)) := fun ty => Lib.run_next_any_at wr w.heap.size ⟨l.toArray⟩ pos ty HK.out hps2
        have hb1 := Lib.hid (Lib.below_iterAt HBl.out (Nat.le_refl _) ⟨l.toArray⟩ (pos + (Utf8.decode ⟨l.toArray⟩ pos).2))
        have hle := decode_le ⟨l.toArray⟩ pos
        have HF : Hid (txtOk l = false) := by
          show _ = _
          unfold txtOk
          have h1 : l.all isDig = false := by
            rw [List.all_eq_false]
            exact ⟨l[pos]'hp, List.getElem_mem hp, by unfold isDig; simp; omega⟩
          rw [h1]; rfl
        have hr1 := hdh.1
        clear hdh
        generalize wr.iterAt w.heap.size ⟨l.toArray⟩ (pos + (Utf8.decode ⟨l.toArray⟩ pos).2) = W1 at hnext hb1
        generalize (Utf8.decode ⟨l.toArray⟩ pos).1 = r at *
        clear hge hps2
        go_wp2
        go_ret
        exact ⟨by rw [HF.out]; rfl, hb1.out⟩
    · have hnext : ∀ ty, (Instr.next (.pointer (some ⟨w.heap.size, 0, none⟩)) true ty).run Tryd.prog wr = .ok (.tuple #[.bool false]) wr := fun ty => Lib.run_next_end_at wr w.heap.size ⟨l.toArray⟩ pos ty HK.out (by rw [HS.out]; exact hp)
      have HAll2 : Hid (l.all isDig = true) := by
        have e := HAll.out
        rw [List.take_of_length_le (by omega)] at e
        exact e
      by_cases h1 : l = [48]
      · subst h1
        go_wp2
        go_ret
        exact ⟨rfl, HBl.out⟩
      · by_cases h2 : l = []
        · subst h2
          go_wp2
          go_ret
          exact ⟨rfl, HBl.out⟩
        · obtain ⟨c, t, rfl⟩ := List.exists_cons_of_ne_nil h2
          have hnt : ¬c = 48 ∨ ¬t = [] := by
            by_cases hc : c = 48
            · right; rintro rfl; exact h1 (by rw [hc])
            · exact .inl hc
          have H1 := Lib.hid h1
          clear h1 h2
          go_wp2
          go_ret
          refine ⟨ret_bool ?_, HBl.out⟩
          show ((c == 48 && t.isEmpty) || ((c.toNat : Int) != 48)) = _
          have e1 : (c == 48 && t.isEmpty) = false := by
            rcases hnt with h | h
            · simp [h]
            · cases t with
              | nil => exact absurd rfl h
              | cons a b => simp
          rw [e1]
          unfold txtOk
          rw [HAll2.out, decide_eq_false H1.out, decide_eq_true (show c :: t ≠ [] by simp)]
          by_cases hc : c = 48
          · subst hc; rfl
          · have h3 : c.toNat ≠ 48 := fun e => hc (UInt8.toNat_inj.1 e)
            have h2 : (c.toNat : Int) ≠ 48 := by omega
            simp [hc, h2]
end Go.Proofs.YtkcdijhfiahibaaDoor

/- wide.pushGroup: an absolute value whose text has nine digits more. -/
namespace Go.Proofs.YtkcdijhfiahibaaDoor
open Go.RowKit

/-- The limbs of a product with y and a sum with g, from the lowest one on, and what is carried. -/
def mgK (g : Nat) (xs : List Nat) (y : Nat) : Nat → List Nat × Nat
  | 0 => ([], g)
  | k + 1 => ((mgK g xs y k).1 ++ [((mgK g xs y k).2 + xs[k]?.getD 0 * y) % 4294967296], ((mgK g xs y k).2 + xs[k]?.getD 0 * y) / 4294967296)
theorem mgK_len (g : Nat) (xs : List Nat) (y k : Nat) : (mgK g xs y k).1.length = k := by
  induction k with
  | zero => rfl
  | succ k ih => simp [mgK, ih]
theorem mgK_good (g : Nat) (xs : List Nat) (y k : Nat) : Good (mgK g xs y k).1 := by
  induction k with
  | zero => exact Good.nil
  | succ k ih => exact ih.append (Good.nil.cons (Nat.mod_lt _ (by omega)))
theorem mgK_carry {g : Nat} {xs : List Nat} {y : Nat} (hx : Good xs) (hg : g < 1000000000) (hy : y ≤ 1000000000) (k : Nat) : (mgK g xs y k).2 ≤ 1000000000 := by
  induction k with
  | zero => show g ≤ _; omega
  | succ k ih =>
    show ((mgK g xs y k).2 + xs[k]?.getD 0 * y) / 4294967296 ≤ _
    have h1 := hx.get k
    have h2 : xs[k]?.getD 0 * y ≤ 4294967295 * 1000000000 := Nat.mul_le_mul (by omega) hy
    omega
theorem mgK_val (g : Nat) (xs : List Nat) (y k : Nat) : val (mgK g xs y k).1 + 4294967296 ^ k * (mgK g xs y k).2 = val (xs.take k) * y + g := by
  induction k with
  | zero => simp [mgK, val_nil]
  | succ k ih =>
    have h1 : (mgK g xs y (k + 1)).1 = (mgK g xs y k).1 ++ [((mgK g xs y k).2 + xs[k]?.getD 0 * y) % 4294967296] := rfl
    have h2 : (mgK g xs y (k + 1)).2 = ((mgK g xs y k).2 + xs[k]?.getD 0 * y) / 4294967296 := rfl
    rw [h1, h2, val_snoc, mgK_len, val_take_succ', pow_succ_]
    generalize (mgK g xs y k).2 = c at *
    generalize xs[k]?.getD 0 = x at *
    have h3 := Nat.div_add_mod (c + x * y) 4294967296
    generalize (c + x * y) / 4294967296 = q at *
    generalize (c + x * y) % 4294967296 = r at *
    have h4 : 4294967296 ^ k * r + 4294967296 * 4294967296 ^ k * q = 4294967296 ^ k * (4294967296 * q + r) := by grind
    have h5 : (val (xs.take k) + 4294967296 ^ k * x) * y = val (xs.take k) * y + 4294967296 ^ k * (x * y) := by grind
    rw [h3, Nat.mul_add] at h4
    rw [h5]
    omega
theorem norm_of_ge {xs : List Nat} (g : Good xs) (h : 0 < xs.length → 4294967296 ^ (xs.length - 1) ≤ val xs) : Norm xs := by
  intro h0
  have hne : xs ≠ [] := fun e => by subst e; cases h0
  have hl : 0 < xs.length := List.length_pos_iff.2 hne
  have h1 := h hl
  have h2 := val_split xs (xs.length - 1) (by omega)
  have h3 : val (xs.drop (xs.length - 1)) = 0 := by
    rw [val_step, show xs.length - 1 + 1 = xs.length from by omega, List.drop_length, val_nil, (last_get hl).1 h0]
  rw [h3, Nat.mul_zero, Nat.add_zero] at h2
  have h5 := val_lt (g.take (xs.length - 1))
  rw [List.length_take, Nat.min_eq_left (by omega)] at h5
  omega
/-- With the carry as a last limb, where there is one, these are the number's limbs. -/
theorem mg_digs {g V n : Nat} (hn : (digs V).length = n) (hg : g < 1000000000) (hc : 0 < (mgK g (digs V) 1000000000 n).2) : (mgK g (digs V) 1000000000 n).1 ++ [(mgK g (digs V) 1000000000 n).2] = digs (V * 1000000000 + g) := by
  have hcy := mgK_carry (digs_good V) hg (Nat.le_refl 1000000000) n
  have hv := mgK_val g (digs V) 1000000000 n
  rw [List.take_of_length_le (by omega), digs_val] at hv
  refine eq_digs ((mgK_good _ _ _ _).append (Good.nil.cons (by omega))) ?_ (by rw [val_snoc, mgK_len]; exact hv)
  intro h0
  rw [List.getLast?_append] at h0
  simp at h0
  omega
theorem mg_digs0 {g V n : Nat} (hn : (digs V).length = n) (hc : (mgK g (digs V) 1000000000 n).2 = 0) : (mgK g (digs V) 1000000000 n).1 = digs (V * 1000000000 + g) := by
  have hv := mgK_val g (digs V) 1000000000 n
  rw [List.take_of_length_le (by omega), digs_val, hc, Nat.mul_zero, Nat.add_zero] at hv
  refine eq_digs (mgK_good _ _ _ _) (norm_of_ge (mgK_good _ _ _ _) fun h0 => ?_) hv
  rw [mgK_len] at h0 ⊢
  rw [hv]
  have h1 := val_ge (digs_norm V) (n - 1) (by omega)
  rw [digs_val] at h1
  omega

/-- A call returns the limbs of v in a slice of the call's own. -/
def ROw (w : World) (B v : Nat) (e : Ending) (w' : World) : Prop := ∃ A c, e = .returned (.slice A (digs v).length c) ∧ Ow w' B (.slice A (digs v).length c) (digs v) ∧ Below B w w' ∧ Lib.OthersKept 53 none w w'
theorem Ow.slice {w : World} {B n c : Nat} {A : Option Addr} {ts : List Nat} (h : Ow w B (.slice A n c) ts) (hn : 0 < ts.length) : ∃ g, A = some ⟨g, 0, none⟩ := by
  rcases h.2 with ⟨_, h0⟩ | ⟨g, cap, cur, e, _⟩
  · omega
  · injection e with e1 _ _
    exact ⟨g, e1⟩

set_option maxRecDepth 100000 in
set_option maxHeartbeats 1000000 in
theorem push_any (w : World) (B : Nat) (A : Option Addr) (n c V g : Nat) (hO : Ow w B (.slice A n c) (digs V)) (hn : (digs V).length = n) (hB : B ≤ w.heap.size) (hg : g < 1000000000) (hlen : n ≤ 1000000) :
    Calls Tryd.prog 83 #[.slice A n c, .int .u64 (g : Int)] w (ROw w B (V * 1000000000 + g)) := by
  have HO := Lib.hid hO
  have HN := Lib.hid hn
  clear hO hn
  go_enter Tryd.func83, Tryd.ntmps83
  go_wp2
  go_loopw [5, 11] (fun cy i wr => ∃ k : Nat, k ≤ n ∧ i = .int .i64 k ∧ cy = .int .u64 ((mgK g (digs V) 1000000000 k).2 : Nat) ∧ Ow wr B (.slice A n c) ((mgK g (digs V) 1000000000 k).1 ++ (digs V).drop k) ∧ Below B w wr ∧ Lib.OthersKept 53 none w wr) (fun _ i _ => n - (intOf i).toNat)
  case atStart => exact ⟨0, Nat.zero_le _, rfl, rfl, HO.out, Below.refl _ _, Lib.OthersKept.refl _ _ _⟩
  case round =>
    obtain ⟨k, hk, rfl, rfl, hU, hb, hkp⟩ := hrel
    have HU := Lib.hid hU
    have HBl := Lib.hid hb
    have HK := Lib.hid hkp
    have hs := hb.size
    clear hU hb hkp
    have hcy := mgK_carry (digs_good V) hg (Nat.le_refl 1000000000) k
    have hml := mgK_len g (digs V) 1000000000 k
    by_cases hlt : k < n
    · obtain ⟨gb, rfl⟩ := HU.out.slice (by rw [List.length_append, hml, List.length_drop, HN.out]; omega)
      have hxg := (digs_good V).get k
      have hmx : (digs V)[k]?.getD 0 * 1000000000 ≤ 4294967295 * 1000000000 := Nat.mul_le_mul_right _ (by omega)
      have hT : Hid ((((mgK g (digs V) 1000000000 k).1 ++ (digs V).drop k).length) = n) := by show _ = _; rw [List.length_append, hml, List.length_drop, HN.out]; omega
      have hU' : Hid (wr.ownsRow B 53 1 (.slice (some ⟨gb, 0, none⟩) n c) n (((mgK g (digs V) 1000000000 k).1 ++ (digs V).drop k).map u32c)) := by
        show World.ownsRow _ _ _ _ _ _ _
        have e := HU.out
        unfold Ow at e
        rw [hT.out] at e
        exact e
      have hel : ((mgK g (digs V) 1000000000 k).1 ++ (digs V).drop k)[k]?.getD 0 = (digs V)[k]?.getD 0 := by
        rw [List.getElem?_append_right (by rw [hml]; exact Nat.le_refl _), hml, Nat.sub_self, List.getElem?_drop, Nat.add_zero]
      have hct : wr.cell? ⟨gb, k, none⟩ = some (.int .u32 ((digs V)[k]?.getD 0 : Nat)) := by
        rw [hU'.out.cellAt k (by omega), getD_map _ k (by rw [hT.out]; exact hlt), hel]
      have hft := hU'.out.frozenAt k
      have HSt : Hid (((mgK g (digs V) 1000000000 k).1 ++ (digs V).drop k).set k (((mgK g (digs V) 1000000000 k).2 + (digs V)[k]?.getD 0 * 1000000000) % 4294967296) = (mgK g (digs V) 1000000000 (k + 1)).1 ++ (digs V).drop (k + 1)) := by
        show _ = _
        rw [List.set_append_right _ _ (by rw [hml]; exact Nat.le_refl _), hml, Nat.sub_self, drop_cons_ _ k (by rw [HN.out]; exact hlt), List.set_cons_zero]
        show _ = ((mgK g (digs V) 1000000000 k).1 ++ [((mgK g (digs V) 1000000000 k).2 + (digs V)[k]?.getD 0 * 1000000000) % 4294967296]) ++ (digs V).drop (k + 1)
        rw [List.append_assoc]
        rfl
      have HCy : Hid ((mgK g (digs V) 1000000000 (k + 1)).2 = ((mgK g (digs V) 1000000000 k).2 + (digs V)[k]?.getD 0 * 1000000000) / 4294967296) := rfl
      have HKi := Lib.hid (Lib.ownsRow_kind hU'.out)
      clear hel hT
      generalize (mgK g (digs V) 1000000000 k).2 = cy at *
      generalize (digs V)[k]?.getD 0 = x at *
      go_wp2
      go_roundw
      case rel =>
        have hst := hU'.out.stored k (u32c ((cy + x * 1000000000) % 4294967296))
        refine ⟨k + 1, by omega, by go_num, by rw [HCy.out]; go_num, ?_, HBl.out.setCell (p := ⟨gb, k, none⟩) (World.ownsRow.lt hU'.out gb rfl).1 _, HK.out.trans ((Lib.OthersKept.refl _ _ _).grown hst.2 HKi.out)⟩
        have e := hst.1
        rw [← List.map_set, HSt.out] at e
        have hl : ((mgK g (digs V) 1000000000 (k + 1)).1 ++ (digs V).drop (k + 1)).length = n := by rw [List.length_append, mgK_len, List.length_drop, HN.out]; omega
        unfold Ow
        rw [hl]
        have e2 : (.int .u32 (((cy : Int) + (x : Int) * 1000000000) % 4294967296) : Value) = u32c ((cy + x * 1000000000) % 4294967296) := by
          unfold u32c
          congr 1
        rw [e2]
        exact e
      case measure => simp [intOf]; omega
    · obtain rfl : k = n := by omega
      have HD : Hid ((digs V).drop k = []) := by show _ = _; exact List.drop_of_length_le (by rw [HN.out]; exact Nat.le_refl _)
      have HU2 : Hid (Ow wr B (.slice A k c) (mgK g (digs V) 1000000000 k).1) := HU.out.eq (by rw [HD.out, List.append_nil])
      rcases Nat.eq_zero_or_pos (mgK g (digs V) 1000000000 k).2 with h0 | h0
      · have HE := Lib.hid (mg_digs0 HN.out h0)
        rw [h0]
        clear h0
        go_wp2
        go_ret
        have HL : Hid ((digs (V * 1000000000 + g)).length = k) := by show _ = _; rw [← HE.out, mgK_len]
        refine ⟨A, c, by rw [HL.out]; rfl, by rw [HL.out]; exact HU2.out.eq HE.out, HBl.out, HK.out⟩
      · have HE := Lib.hid (mg_digs HN.out hg h0)
        generalize hcc : (mgK g (digs V) 1000000000 k).2 = cc at *
        go_wp2_with (at_builtin; refine wpList_append_u32 _ rfl _ _ rfl B _ _ rfl HU2.out _ cc 1 (by omega) (by rw [hml]; omega) (by omega) rfl ?_; intro u' w1 hU1 hg1)
        have hU3 := hU1.eq HE.out
        obtain ⟨A', c', rfl, _⟩ := hU3.lm (digs_good _)
        go_ret
        refine ⟨A', c', rfl, hU3, HBl.out.trans (HU2.out.below (Below.refl B wr) (by omega) hg1), HK.out.trans (((Lib.OthersKept.refl _ _ _).alloc _).grown hg1 (Lib.ownsRow_kind (World.ownsRow.alloc HU2.out _)))⟩
end Go.Proofs.YtkcdijhfiahibaaDoor

/- wide.read: the absolute value with a text. -/
namespace Go.Proofs.YtkcdijhfiahibaaDoor
open Go.RowKit

theorem decV_snoc (l : List UInt8) (c : UInt8) : decV (l ++ [c]) = decV l * 10 + (c.toNat - 48) := by
  unfold decV; rw [List.foldl_append]; rfl
theorem decV_take {l : List UInt8} {p : Nat} (h : p < l.length) : decV (l.take (p + 1)) = decV (l.take p) * 10 + ((l[p]'h).toNat - 48) := by
  rw [take_snoc_ l p h, decV_snoc]
theorem all_get {l : List UInt8} (h : l.all isDig = true) {p : Nat} (hp : p < l.length) : 48 ≤ (l[p]'hp).toNat ∧ (l[p]'hp).toNat ≤ 57 := by
  have h1 := List.all_eq_true.1 h _ (List.getElem_mem hp)
  unfold isDig at h1
  simpa using h1
theorem fold_lt : ∀ (l : List UInt8) (a : Nat), l.all isDig = true → l.foldl (fun a c => a * 10 + (c.toNat - 48)) a < (a + 1) * 10 ^ l.length
  | [], a, _ => by simp
  | c :: t, a, h => by
    rw [List.all_cons, Bool.and_eq_true] at h
    have h1 := fold_lt t (a * 10 + (c.toNat - 48)) h.2
    have h2 : c.toNat ≤ 57 := by
      have := h.1
      unfold isDig at this
      simp at this
      exact this.2
    have h3 : (a * 10 + (c.toNat - 48) + 1) * 10 ^ t.length ≤ ((a + 1) * 10) * 10 ^ t.length := Nat.mul_le_mul_right _ (by omega)
    rw [List.foldl_cons, List.length_cons, Nat.pow_succ, Nat.mul_comm (10 ^ t.length), ← Nat.mul_assoc]
    exact Nat.lt_of_lt_of_le h1 h3
theorem decV_lt {l : List UInt8} (h : l.all isDig = true) : decV l < 10 ^ l.length := by
  have := fold_lt l 0 h
  rw [Nat.zero_add, Nat.one_mul] at this
  exact this
theorem all_take {l : List UInt8} (h : l.all isDig = true) (k : Nat) : (l.take k).all isDig = true := by
  rw [List.all_eq_true] at h ⊢
  exact fun c hc => h c (List.mem_of_mem_take hc)
theorem decT_len {l : List UInt8} (h : l.all isDig = true) (k : Nat) : (digs (decV (l.take k))).length ≤ l.length := by
  have h1 := digs_len.2 (Nat.lt_of_lt_of_le (decV_lt (all_take h k)) (Nat.pow_le_pow_left (show 10 ≤ 4294967296 by omega) _))
  rw [List.length_take] at h1
  omega
/-- Where the last whole group ends. -/
def fl (L p : Nat) : Nat := if p < L % 9 then 0 else p - (p - L % 9) % 9
theorem fl_le (L p : Nat) : fl L p ≤ p := by unfold fl; split <;> omega
theorem fl_lt (L p : Nat) : p - fl L p ≤ 8 := by unfold fl; split <;> omega
theorem fl_hit {L p : Nat} (hp : p < L) (h : (L - 1 - p) % 9 = 0) : fl L (p + 1) = p + 1 ∧ (fl L p = 0 ∨ p + 1 - fl L p = 9) := by unfold fl; split <;> split <;> omega
theorem fl_miss {L p : Nat} (hp : p < L) (h : (L - 1 - p) % 9 ≠ 0) : fl L (p + 1) = fl L p := by unfold fl; split <;> split <;> omega
theorem ten_bd {d G : Nat} (h : d ≤ 8) (hG : G < 10 ^ d) : G < 100000000 := Nat.lt_of_lt_of_le hG (by
  have := Nat.pow_le_pow_right (show 1 ≤ 10 by omega) h
  exact this)
theorem Ow.iterAt {w : World} {B : Nat} {v : Value} {ts : List Nat} (h : Ow w B v ts) {k : Nat} {s : ByteArray} {pos : Nat} (hk : w.heap[k]? = some (.stringIter s pos)) (p : Nat) : Ow (w.iterAt k s p) B v ts := by
  refine ⟨h.1, ?_⟩
  rcases h.2 with h0 | ⟨g, cap, cur, e, hb, hg, r⟩
  · exact .inl h0
  · refine .inr ⟨g, cap, cur, e, hb, ?_, r⟩
    rw [Lib.iterAt_other w k g s p (fun e1 => by rw [e1, hk] at hg; cases hg)]
    exact hg
theorem read_step {L p f G d D1 D2 D3 T : Nat} (hT : T = 10 ^ 9) (hp : p < L) (hf : f = fl L p) (h1 : D1 = D2 * 10 ^ (p - f) + G) (h3 : D3 = D1 * 10 + d) (h0 : fl L p = 0 → D2 = 0) (hit : (L - 1 - p) % 9 = 0) : D3 = D2 * T + (G * 10 + d) := by
  have h4 := (fl_hit hp hit).2
  rw [← hf] at h4 h0
  rcases h4 with h5 | h5
  · rw [h0 h5, Nat.zero_mul, Nat.zero_add] at h1
    rw [h0 h5, Nat.zero_mul, Nat.zero_add, h3, h1]
  · have e : T = 10 ^ (p - f) * 10 := by rw [← Nat.pow_succ, show (p - f).succ = 9 from by omega, hT]
    rw [e, h3, h1, Nat.add_mul, Nat.mul_assoc, Nat.add_assoc]

set_option maxRecDepth 100000 in
set_option maxHeartbeats 2000000 in
theorem read_any (w : World) (l : List UInt8) (hd : l.all isDig = true) (hl : l.length ≤ 100000) :
    Calls Tryd.prog 59 #[.string ⟨l.toArray⟩] w fun e w' => ∃ A c, e = .returned (.slice A (digs (decV l)).length c) ∧ Lm w' w'.heap.size A (digs (decV l)).length c (digs (decV l)) ∧ Below w.heap.size w w' := by
  have HD := Lib.hid hd
  have HS := Lib.hid (str_size l)
  have hmk := fun w => run_make0_u32 ((l.length : Int) / 9 + 1) (l.length / 9 + 1) (by omega) (by omega) w
  have r0 := (Ow.made w 0 (l.length / 9 + 1) (Nat.zero_le _) (by omega)).alloc (.stringIter ⟨l.toArray⟩ 0)
  have R0 := Lib.hid r0
  have hk0 := Lib.hid (World.iter_heap (w.alloc (.cells ((zer (l.length / 9 + 1)).map u32c).toArray 53)) ⟨l.toArray⟩ 0)
  have hb0 := Lib.hid (((Below.refl _ w).alloc (Nat.le_refl _) (.cells ((zer (l.length / 9 + 1)).map u32c).toArray 53)).alloc (by show _ ≤ (w.heap.push _).size; rw [Array.size_push]; omega) (.stringIter ⟨l.toArray⟩ 0))
  have hz0 : Hid ((w.alloc (.cells ((zer (l.length / 9 + 1)).map u32c).toArray 53)).heap.size = w.heap.size + 1) := by show (w.heap.push _).size = _; rw [Array.size_push]
  clear hd r0
  go_enter Tryd.func59, Tryd.ntmps59
  go_wp2
  go_loopw [3, 4, 5, 6] (fun mag grp _ _ wr => ∃ pos G c : Nat, ∃ A : Option Addr, pos ≤ l.length ∧ wr.heap[w.heap.size + 1]? = some (.stringIter ⟨l.toArray⟩ pos) ∧ mag = .slice A (digs (decV (l.take (fl l.length pos)))).length c ∧ Ow wr w.heap.size mag (digs (decV (l.take (fl l.length pos)))) ∧ grp = .int .u64 (G : Int) ∧ G < 10 ^ (pos - fl l.length pos) ∧ decV (l.take pos) = decV (l.take (fl l.length pos)) * 10 ^ (pos - fl l.length pos) + G ∧ Below w.heap.size w wr)
    (fun _ _ _ _ wr => l.length - wr.iterPos (w.heap.size + 1))
  case atStart =>
    have e : fl l.length 0 = 0 := by unfold fl; split <;> omega
    refine ⟨0, 0, l.length / 9 + 1, some ⟨w.heap.size, 0, none⟩, Nat.zero_le _, ?_, ?_, ?_, rfl, ?_, ?_, hb0.out⟩
    · have e1 := hk0.out
      rw [hz0.out] at e1
      exact e1
    · rw [e]; rfl
    · rw [e]; exact R0.out
    · rw [e]; decide
    · rw [e]; rfl
  case round =>
    obtain ⟨pos, G, c, A, hps, hk, rfl, hO, rfl, hG, hdv, hbl⟩ := hrel
    have HK := Lib.hid hk
    have HO := Lib.hid hO
    have HBl := Lib.hid hbl
    have HDv := Lib.hid hdv
    have hmu : wr.iterPos (w.heap.size + 1) = pos := by simp [World.iterPos, hk]
    have HMu := Lib.hid hmu
    have hGs := ten_bd (fl_lt l.length pos) hG
    have HG := Lib.hid hG
    clear hk hO hbl hmu hG hdv
    by_cases hp : pos < l.length
    · have hps2 : pos < (⟨l.toArray⟩ : ByteArray).size := by rw [HS.out]; exact hp
      have hge := str_get l pos hp hps2
      have hcd := all_get HD.out hp
      have hnext : ∀ ty, (Instr.next (.pointer (some ⟨w.heap.size + 1, 0, none⟩)) true ty).run Tryd.prog wr = .ok (.tuple #[.bool true, .int .i64 pos, .int .i32 (l[pos]'hp).toNat]) (wr.iterAt (w.heap.size + 1) ⟨l.toArray⟩ (pos + 1)) := fun ty => by
        have e := Lib.run_next_ascii_at (P := Tryd.prog) wr (w.heap.size + 1) ⟨l.toArray⟩ pos ty HK.out hps2 (by rw [hge]; omega)
        rw [hge] at e
        exact e
      have hk1 := Lib.hid (Lib.iterAt_heap wr (w.heap.size + 1) ⟨l.toArray⟩ pos (pos + 1) HK.out)
      have hb1 := Lib.hid (Lib.below_iterAt HBl.out (Nat.le_succ _) ⟨l.toArray⟩ (pos + 1))
      have hO1 := Lib.hid (HO.out.iterAt HK.out (pos + 1))
      have hz1 : w.heap.size ≤ (wr.iterAt (w.heap.size + 1) ⟨l.toArray⟩ (pos + 1)).heap.size := hb1.out.size
      have HT := Lib.hid (decV_take hp)
      have hlen := decT_len HD.out (fl l.length pos)
      generalize wr.iterAt (w.heap.size + 1) ⟨l.toArray⟩ (pos + 1) = W1 at hnext hk1 hb1 hO1 hz1
      generalize (l[pos]'hp).toNat = x at *
      have hGx : G * 10 + (x - 48) < 1000000000 := by omega
      clear hge hps2
      by_cases hit : (l.length - 1 - pos) % 9 = 0
      · have hitI : ((l.length : Int) - 1 - pos) % 9 = 0 := by omega
        have HGx : Hid (((G : Int) * 10 + ((x : Int) - 48)) = ((G * 10 + (x - 48) : Nat) : Int)) := by show _ = _; omega
        go_wp2_with (go_at_call 83; rw [HGx.out]; refine (push_any _ w.heap.size A _ c _ _ hO1.out rfl hz1 hGx (by omega)).mono ?_; rintro e w2 ⟨A2, c2, rfl, hO2, hb2, hkp2⟩; have HO2 := Lib.hid hO2; have HB2 := Lib.hid hb2; have HK2 := Lib.hid (hkp2 _ _ hk1.out (by simp) (fun _ _ e => by cases e)); clear hO2 hb2 hkp2)
        go_roundw
        case rel =>
          have hf1 := (fl_hit hp hit).1
          have hval : decV (l.take (fl l.length pos)) * 1000000000 + (G * 10 + (x - 48)) = decV (l.take (pos + 1)) := (read_step (T := 1000000000) (by decide) hp rfl HDv.out HT.out (fun e => by rw [e]; rfl) hit).symm
          rw [hval] at HO2
          refine ⟨pos + 1, 0, c2, A2, by omega, HK2.out, ?_, ?_, rfl, ?_, ?_, hb1.out.trans HB2.out⟩
          · rw [hf1, hval]
          · rw [hf1, hval]; exact HO2.out
          · rw [hf1, Nat.sub_self]; decide
          · rw [hf1, Nat.sub_self]; omega
        case measure =>
          have hmu2 : w2.iterPos (w.heap.size + 1) = pos + 1 := by simp [World.iterPos, HK2.out]
          rw [HMu.out, hmu2]
          omega
      · have hitI : ¬((l.length : Int) - 1 - pos) % 9 = 0 := by omega
        go_wp2
        go_roundw
        case rel =>
          have hf1 := fl_miss hp hit
          have hle := fl_le l.length pos
          refine ⟨pos + 1, G * 10 + (x - 48), c, A, by omega, hk1.out, ?_, ?_, ?_, ?_, ?_, hb1.out⟩
          · rw [hf1]
          · rw [hf1]; exact hO1.out
          · congr 1; omega
          · rw [hf1, Nat.sub_add_comm hle, Nat.pow_succ]
            have := HG.out
            omega
          · rw [hf1, Nat.sub_add_comm hle, Nat.pow_succ, HT.out, HDv.out, Nat.add_mul, Nat.mul_assoc, Nat.add_assoc]
        case measure =>
          have hmu2 : W1.iterPos (w.heap.size + 1) = pos + 1 := by simp [World.iterPos, hk1.out]
          rw [HMu.out, hmu2]
          omega
    · have hnext : ∀ ty, (Instr.next (.pointer (some ⟨w.heap.size + 1, 0, none⟩)) true ty).run Tryd.prog wr = .ok (.tuple #[.bool false]) wr := fun ty => Lib.run_next_end_at wr (w.heap.size + 1) ⟨l.toArray⟩ pos ty HK.out (by rw [HS.out]; exact hp)
      have hfin : fl l.length pos = l.length := by
        unfold fl
        have : pos = l.length := by omega
        subst this
        split <;> omega
      have HO2 : Hid (Ow wr w.heap.size (.slice A (digs (decV l)).length c) (digs (decV l))) := by
        have e := HO.out
        rw [hfin, List.take_length] at e
        exact e
      rw [hfin, List.take_length]
      obtain ⟨A2, c2, e2, hLm⟩ := HO2.out.lm (digs_good _)
      injection e2 with eA _ eC
      subst eA eC
      have HLm := Lib.hid hLm
      clear hLm
      go_wp2
      go_ret
      exact ⟨A, c, rfl, HLm.out, HBl.out⟩
end Go.Proofs.YtkcdijhfiahibaaDoor

/- strings.CutPrefix of a minus sign. -/
namespace Go.Proofs.YtkcdijhfiahibaaDoor
open Go.RowKit

set_option maxHeartbeats 1000000 in
theorem cut_any (s p : ByteArray) (w : World) :
    Calls Tryd.prog 57 #[.string s, .string p] w fun e w' => e = .returned (.tuple #[.string ⟨(Lib.trimPrefix s.data.toList p.data.toList).toArray⟩, .bool (Lib.hasPrefix s.data.toList p.data.toList)]) ∧ w' = w := by
  go_enter Tryd.func57, Tryd.ntmps57
  go_wp2
  · have h1 : p.size ≤ s.size := by assumption
    have h2 : (!((s.extract 0 p.size).toList == p.toList)) = true := by assumption
    have h4 : ((s.extract 0 p.size).toList == p.toList) = false := by simpa using h2
    have h3 : (decide (p.size ≤ s.size) && ((s.extract 0 p.size).toList == p.toList)) = false := by rw [h4, Bool.and_false]
    go_ret2
    refine ⟨?_, rfl⟩
    rw [Lib.trimPrefix_miss s p h3, ← Lib.hasPrefix_raw, h3]
    rfl
  · have h1 : p.size ≤ s.size := by assumption
    have h2 : (!((s.extract 0 p.size).toList == p.toList)) = false := by assumption
    have h4 : ((s.extract 0 p.size).toList == p.toList) = true := by simpa using h2
    go_ret2
    refine ⟨?_, rfl⟩
    rw [Lib.trimPrefix_hit s p h1 h4, ← Lib.hasPrefix_raw, h4, decide_eq_true h1]
    rfl
  · have h1 : ¬ p.size ≤ s.size := by assumption
    have h3 : (decide (p.size ≤ s.size) && ((s.extract 0 p.size).toList == p.toList)) = false := by rw [decide_eq_false h1, Bool.false_and]
    go_ret2
    refine ⟨?_, rfl⟩
    rw [Lib.trimPrefix_miss s p h3, ← Lib.hasPrefix_raw, h3]
    rfl
/-- Whether a text begins with a minus sign, and what is behind it. -/
def minus : List UInt8 → Bool × List UInt8
  | 45 :: t => (true, t)
  | l => (false, l)
theorem minus_pfx (l : List UInt8) : Lib.hasPrefix l [45] = (minus l).1 ∧ Lib.trimPrefix l [45] = (minus l).2 := by
  cases l with
  | nil => exact ⟨rfl, rfl⟩
  | cons c t =>
    by_cases h : c = 45
    · subst h
      exact ⟨rfl, rfl⟩
    · have h0 : (45 == c) = false := by simpa using fun e => h e.symm
      have h1 : Lib.hasPrefix (c :: t) [45] = false := by
        unfold Lib.hasPrefix
        simp [List.isPrefixOf, h0]
      have h2 : minus (c :: t) = (false, c :: t) := by
        unfold minus
        split
        · rename_i e
          injection e with e1 _
          exact absurd e1 h
        · rfl
      rw [h1, h2]
      exact ⟨rfl, by unfold Lib.trimPrefix; rw [h1]; rfl⟩
theorem cut_minus (l : List UInt8) (w : World) :
    Calls Tryd.prog 57 #[.string ⟨l.toArray⟩, .string ⟨#[45]⟩] w fun e w' => e = .returned (.tuple #[.string ⟨(minus l).2.toArray⟩, .bool (minus l).1]) ∧ w' = w := by
  refine (cut_any ⟨l.toArray⟩ ⟨#[45]⟩ w).mono ?_
  rintro e w' ⟨rfl, rfl⟩
  refine ⟨?_, rfl⟩
  have h := minus_pfx l
  show Ending.returned (.tuple #[.string ⟨(Lib.trimPrefix l [45]).toArray⟩, .bool (Lib.hasPrefix l [45])]) = _
  rw [h.1, h.2]
theorem minus_len (l : List UInt8) : (minus l).2.length ≤ l.length := by
  unfold minus
  split
  · exact Nat.le_succ _
  · exact Nat.le_refl _
end Go.Proofs.YtkcdijhfiahibaaDoor

/- wide.Parse: the number with a text. -/
namespace Go.Proofs.YtkcdijhfiahibaaDoor
open Go.RowKit

/-- Whether bytes are the text of a number. -/
def pOk (l : List UInt8) : Bool := txtOk (minus l).2 && !((minus l).1 && decide ((minus l).2 = [48]))
theorem txtOk_all {l : List UInt8} (h : txtOk l = true) : l.all isDig = true := by
  unfold txtOk at h
  rw [Bool.and_eq_true] at h
  exact h.1
theorem eq_zero_text (t : List UInt8) : ((⟨t.toArray⟩ : ByteArray).toList == (⟨#[48]⟩ : ByteArray).toList) = decide (t = [48]) := by
  rw [Lib.toList_data, Lib.toList_data]
  by_cases h : t = [48]
  · subst h; rfl
  · rw [decide_eq_false h]
    simpa using h

theorem boxes1 {w w1 : World} {t0 : TypeId} {a0 a1 : Value} (hb : Below (w.alloc (.cells #[a0, a1] t0)).heap.size (w.alloc (.cells #[a0, a1] t0)) w1) : Pr w1 w.heap.size a0 a1 := (Pr.new w _ rfl a0 a1 t0).via hb

set_option maxRecDepth 100000 in
set_option maxHeartbeats 1000000 in
theorem parse_good (w : World) (l : List UInt8) (neg : Bool) (t : List UInt8) (hm : minus l = (neg, t)) (hO : txtOk t = true) (hN : neg = true → t ≠ [48]) (hl : t.length ≤ 39457) :
    Calls Tryd.prog 27 #[.string ⟨l.toArray⟩] w (RW w (mkN neg (decV t)) (mkL (decV t)) (mkE (decV t))) := by
  have hcut := cut_minus l
  rw [hm] at hcut
  have HC := Lib.hid hcut
  have HO := Lib.hid hO
  have HS := Lib.hid (str_size t)
  have HN := Lib.hid hN
  clear hcut hO hm hN
  go_enter Tryd.func27, Tryd.ntmps27
  cases neg with
  | false =>
    go_wp2_with (first
      | (go_at_call 57; refine (HC.out _).mono ?_; rintro e w' ⟨rfl, rfl⟩)
      | (go_at_call 58; refine (istext_any _ t (by omega)).mono ?_; rintro e w1 ⟨rfl, hb1⟩; rw [HO.out]; have P1 := boxes1 hb1; obtain ⟨c0, c1, f0, f1, lt1⟩ := P1; have HB1 := Lib.hid hb1; clear hb1)
      | (go_at_call 59; refine (read_any _ t (txtOk_all HO.out) (by omega)).mono ?_; rintro e w2 ⟨A, c, rfl, hL, hb2⟩; have P2 := Lib.hid (Pr.via ⟨c0, c1, f0, f1, lt1⟩ hb2); have HL := Lib.hid hL; have HB2 := Lib.hid hb2; clear hL hb2 c0 c1 f0 f1 lt1)
      | (go_at_call 35; refine (made_any _ _ _ _ _ _ HL.out).mono ?_; rintro e w3 ⟨A3, n3, c3, rfl, hL3, hb3⟩; obtain ⟨c0, c1, f0, f1, lt1⟩ := P2.out.via hb3; have HL3 := Lib.hid hL3; have HB3 := Lib.hid hb3; clear hL3 hb3)
      | fail)
    have P3 : Pr w3 w.heap.size (.bool false) (.slice none 0 0) := ⟨c0, c1, f0, f1, lt1⟩
    exact post_ws Tryd.results27 rfl rfl P3.c0 P3.c1 ⟨A3, n3, c3, rfl, HL3.out.setP P3 _ _,
      below_set2 (((bbox HB1.out).trans (HB2.out.mono (bbox HB1.out).size)).trans (HB3.out.mono (Nat.le_trans (bbox HB1.out).size HB2.out.size))) (by omega) _ _⟩
  | true =>
    have hz2 : (t == [48]) = false := by simpa using HN.out rfl
    go_wp2_with (first
      | (go_at_call 57; refine (HC.out _).mono ?_; rintro e w' ⟨rfl, rfl⟩)
      | (go_at_call 58; refine (istext_any _ t (by omega)).mono ?_; rintro e w1 ⟨rfl, hb1⟩; rw [HO.out]; have P1 := boxes1 hb1; obtain ⟨c0, c1, f0, f1, lt1⟩ := P1; have HB1 := Lib.hid hb1; clear hb1)
      | (go_at_call 59; refine (read_any _ t (txtOk_all HO.out) (by omega)).mono ?_; rintro e w2 ⟨A, c, rfl, hL, hb2⟩; have P2 := Lib.hid (Pr.via ⟨c0, c1, f0, f1, lt1⟩ hb2); have HL := Lib.hid hL; have HB2 := Lib.hid hb2; clear hL hb2 c0 c1 f0 f1 lt1)
      | (go_at_call 35; refine (made_any _ _ _ _ _ _ HL.out).mono ?_; rintro e w3 ⟨A3, n3, c3, rfl, hL3, hb3⟩; obtain ⟨c0, c1, f0, f1, lt1⟩ := P2.out.via hb3; have HL3 := Lib.hid hL3; have HB3 := Lib.hid hb3; clear hL3 hb3)
      | fail)
    have P3 : Pr w3 w.heap.size (.bool false) (.slice none 0 0) := ⟨c0, c1, f0, f1, lt1⟩
    exact post_ws Tryd.results27 rfl rfl P3.c0 P3.c1 ⟨A3, n3, c3, rfl, HL3.out.setP P3 _ _,
      below_set2 (((bbox HB1.out).trans (HB2.out.mono (bbox HB1.out).size)).trans (HB3.out.mono (Nat.le_trans (bbox HB1.out).size HB2.out.size))) (by omega) _ _⟩

set_option maxRecDepth 100000 in
set_option maxHeartbeats 1000000 in
theorem parse_form (w : World) (l : List UInt8) (neg : Bool) (t : List UInt8) (hm : minus l = (neg, t)) (hO : txtOk t = false) (hl : t.length ≤ 1000000000000) :
    Calls Tryd.prog 27 #[.string ⟨l.toArray⟩] w (RW w false [] 12) := by
  have hcut := cut_minus l
  rw [hm] at hcut
  have HC := Lib.hid hcut
  have HO := Lib.hid hO
  clear hcut hO hm
  go_enter Tryd.func27, Tryd.ntmps27
  go_wp2_with (first
    | (go_at_call 57; refine (HC.out _).mono ?_; rintro e w' ⟨rfl, rfl⟩)
    | (go_at_call 58; refine (istext_any _ t (by omega)).mono ?_; rintro e w1 ⟨rfl, hb1⟩; rw [HO.out]; have P1 := boxes1 hb1; obtain ⟨c0, c1, f0, f1, lt1⟩ := P1; have HB1 := Lib.hid hb1; clear hb1)
    | fail)
  exact post_ws Tryd.results27 rfl rfl c0 c1 ⟨none, 0, 0, rfl, Lm.nil _ _, below_set2 (bbox HB1.out) (by omega) _ _⟩

set_option maxRecDepth 100000 in
set_option maxHeartbeats 1000000 in
theorem parse_zero (w : World) (l : List UInt8) (hm : minus l = (true, [48])) :
    Calls Tryd.prog 27 #[.string ⟨l.toArray⟩] w (RW w false [] 12) := by
  have hcut := cut_minus l
  rw [hm] at hcut
  have HC := Lib.hid hcut
  have HO : Hid (txtOk [48] = true) := by show _ = _; decide
  clear hcut hm
  go_enter Tryd.func27, Tryd.ntmps27
  go_wp2_with (first
    | (go_at_call 57; refine (HC.out _).mono ?_; rintro e w' ⟨rfl, rfl⟩)
    | (go_at_call 58; refine (istext_any _ [48] (by simp)).mono ?_; rintro e w1 ⟨rfl, hb1⟩; rw [HO.out]; have P1 := boxes1 hb1; obtain ⟨c0, c1, f0, f1, lt1⟩ := P1; have HB1 := Lib.hid hb1; clear hb1)
    | fail)
  exact post_ws Tryd.results27 rfl rfl c0 c1 ⟨none, 0, 0, rfl, Lm.nil _ _, below_set2 (bbox HB1.out) (by omega) _ _⟩

/-- Whether bytes are the text of a number. -/
theorem parse_ok (w : World) (l : List UInt8) (h : pOk l = true) (hl : l.length ≤ 39457) :
    Calls Tryd.prog 27 #[.string ⟨l.toArray⟩] w (RW w (mkN (minus l).1 (decV (minus l).2)) (mkL (decV (minus l).2)) (mkE (decV (minus l).2))) := by
  unfold pOk at h
  rw [Bool.and_eq_true, Bool.not_eq_true'] at h
  refine parse_good w l _ _ rfl h.1 (fun e e2 => ?_) (Nat.le_trans (minus_len l) hl)
  have h2 := h.2
  rw [e, e2] at h2
  cases h2
theorem parse_bad (w : World) (l : List UInt8) (h : pOk l = false) (hl : l.length ≤ 1000000000000) :
    Calls Tryd.prog 27 #[.string ⟨l.toArray⟩] w (RW w false [] 12) := by
  unfold pOk at h
  cases h1 : txtOk (minus l).2 with
  | false => exact parse_form w l _ _ rfl h1 (Nat.le_trans (minus_len l) hl)
  | true =>
    rw [h1, Bool.true_and, Bool.not_eq_false', Bool.and_eq_true, decide_eq_true_eq] at h
    exact parse_zero w l (by rw [← h.1, ← h.2])
end Go.Proofs.YtkcdijhfiahibaaDoor

/- Arithmetic on numbers of known size, in whole numbers. -/
namespace Go.Proofs.YtkcdijhfiahibaaDoor
open Go.RowKit

/-- A whole number's size in limbs. -/
def Sz (k : Nat) (z : Int) : Prop := z.natAbs < 4294967296 ^ k
theorem Sz.mono {k l : Nat} {z : Int} (h : Sz k z) (hl : k ≤ l) : Sz l z := Nat.lt_of_lt_of_le h (pow_mono_ hl)
theorem Sz.len {k : Nat} {z : Int} (h : Sz k z) : (digs z.natAbs).length ≤ k := digs_len.2 h
theorem Sz.of_len {k : Nat} {z : Int} (h : (digs z.natAbs).length ≤ k) : Sz k z := digs_len.1 h
theorem Sz.add {k : Nat} {x y : Int} (hx : Sz k x) (hy : Sz k y) : Sz (k + 1) (x + y) := by
  unfold Sz at *
  rw [pow_succ_]
  omega
theorem Sz.neg {k : Nat} {x : Int} (hx : Sz k x) : Sz k (-x) := by unfold Sz at *; omega
theorem Sz.sub {k : Nat} {x y : Int} (hx : Sz k x) (hy : Sz k y) : Sz (k + 1) (x - y) := by
  unfold Sz at *
  rw [pow_succ_]
  omega
theorem Sz.mul {k l : Nat} {x y : Int} (hx : Sz k x) (hy : Sz l y) : Sz (k + l) (x * y) := by
  unfold Sz at *
  rw [Int.natAbs_mul, pow_add_]
  exact Nat.mul_lt_mul_of_lt_of_le hx (Nat.le_of_lt hy) (pow_pos_ _)
theorem Sz.abs {k : Nat} {x : Int} (hx : Sz k x) : Sz k (x.natAbs : Int) := hx
theorem toI_self (z : Int) : toI (decide (z < 0)) z.natAbs = z := by
  unfold toI
  by_cases h : z < 0
  · rw [if_pos (by simpa using h)]; omega
  · rw [if_neg (by simpa using h)]; omega
theorem chk_z {z : Int} {k : Nat} (h : Sz k z) (hk : k ≤ 4096) : chk (decide (z < 0)) (digs z.natAbs) = 0 :=
  chk_ok.2 ⟨Nat.le_trans h.len hk, digs_norm _, fun hn e => by have h1 := digs_nil.1 e; have h2 : z < 0 := (by simpa using hn); omega⟩
theorem chkB_z {x y : Int} {k l : Nat} (hx : Sz k x) (hk : k ≤ 4096) (hy : Sz l y) (hl : l ≤ 4096) : chkB (decide (x < 0)) (digs x.natAbs) (decide (y < 0)) (digs y.natAbs) = 0 :=
  chkB_ok.2 ⟨chk_z hx hk, chk_z hy hl⟩
/-- A valid number that came in, as a whole number. -/
theorem of_chk {neg : Bool} {xs : List Nat} (hc : chk neg xs = 0) (g : Good xs) {k : Nat} (hk : xs.length ≤ k) : ∃ z : Int, neg = decide (z < 0) ∧ xs = digs z.natAbs ∧ Sz k z := by
  have h1 := chk_digs hc g
  have h2 := (chk_ok.1 hc).2.2
  refine ⟨toI neg (val xs), ?_, by rw [toI_abs]; exact h1, by unfold Sz; rw [toI_abs]; exact Nat.lt_of_lt_of_le (val_lt g) (pow_mono_ hk)⟩
  have h3 : neg = true → 0 < val xs := fun hn => val_pos (chk_ok.1 hc).2.1 (h2 hn)
  unfold toI
  cases neg
  · rw [if_neg (by simp)]; simp
  · rw [if_pos rfl]; have := h3 rfl; simp; omega
/-- A call returns the number z, without an error. -/
def RN (w : World) (z : Int) (e : Ending) (w' : World) : Prop := ∃ A n c, e = .returned (.tuple #[.agg #[.bool (decide (z < 0)), .slice A n c], .int .i64 0]) ∧ Lm w' w'.heap.size A n c (digs z.natAbs) ∧ Below w.heap.size w w'
theorem mkN_z {z : Int} {k : Nat} (h : Sz k z) (hk : k ≤ 4096) : mkN (decide (z < 0)) z.natAbs = decide (z < 0) ∧ mkL z.natAbs = digs z.natAbs ∧ mkE z.natAbs = 0 := by
  have hl := Nat.le_trans h.len hk
  refine ⟨?_, by unfold mkL; rw [if_pos hl], by unfold mkE; rw [if_pos hl]⟩
  unfold mkN
  rw [decide_eq_true hl, Bool.true_and]
  by_cases hz : z < 0
  · rw [decide_eq_true hz, decide_eq_true (show z.natAbs ≠ 0 by omega)]; rfl
  · rw [decide_eq_false hz]; rfl
theorem rz_rn {w : World} {z : Int} {k : Nat} (h : Sz k z) (hk : k ≤ 4096) {e : Ending} {w' : World} (hr : RZ w z e w') : RN w z e w' := by
  obtain ⟨h1, h2, h3⟩ := mkN_z h hk
  unfold RZ at hr
  rw [h1, h2, h3] at hr
  exact hr
section
variable (w : World) (A B : Option Addr) (n m ca cb k : Nat) (x y : Int) (hA : Lm w w.heap.size A n ca (digs x.natAbs)) (hB : Lm w w.heap.size B m cb (digs y.natAbs)) (hx : Sz k x) (hy : Sz k y) (hk : k ≤ 2000)
include hA hB hx hy hk
theorem add_z : Calls Tryd.prog 22 #[.agg #[.bool (decide (x < 0)), .slice A n ca], .agg #[.bool (decide (y < 0)), .slice B m cb]] w (RN w (x + y)) := by
  have h := add_ok w _ _ A B n m ca cb _ _ hA hB (chkB_z hx (by omega) hy (by omega))
  rw [toI_self, toI_self] at h
  exact h.mono fun e w' hr => rz_rn (hx.add hy) (by omega) hr
theorem mul_z : Calls Tryd.prog 20 #[.agg #[.bool (decide (x < 0)), .slice A n ca], .agg #[.bool (decide (y < 0)), .slice B m cb]] w (RN w (x * y)) := by
  have h := mul_ok w _ _ A B n m ca cb _ _ hA hB (chkB_z hx (by omega) hy (by omega))
  have e1 := rz_of w (decide (x < 0) != decide (y < 0)) (x.natAbs * y.natAbs) (z := x * y) (by rw [← toI_mul, toI_self, toI_self])
  rw [e1] at h
  exact h.mono fun e w' hr => rz_rn (hx.mul hy) (by omega) hr
theorem add_n {na nb : Bool} (ha : decide (x < 0) = na) (hb : decide (y < 0) = nb) : Calls Tryd.prog 22 #[.agg #[.bool na, .slice A n ca], .agg #[.bool nb, .slice B m cb]] w (RN w (x + y)) := by
  subst ha hb
  exact add_z w A B n m ca cb k x y hA hB hx hy hk
theorem mul_n {na nb : Bool} (ha : decide (x < 0) = na) (hb : decide (y < 0) = nb) : Calls Tryd.prog 20 #[.agg #[.bool na, .slice A n ca], .agg #[.bool nb, .slice B m cb]] w (RN w (x * y)) := by
  subst ha hb
  exact mul_z w A B n m ca cb k x y hA hB hx hy hk
end
end Go.Proofs.YtkcdijhfiahibaaDoor

/- Decimal texts and numbers: one is the other's. -/
namespace Go.Proofs.YtkcdijhfiahibaaDoor
open Go.RowKit

theorem dig_toNat {d : Nat} (h : d < 10) : (UInt8.ofNat (48 + d)).toNat = 48 + d := by
  rw [UInt8.toNat_ofNat']
  exact Nat.mod_eq_of_lt (by omega)
theorem dig_isDig {d : Nat} (h : d < 10) : isDig (UInt8.ofNat (48 + d)) = true := by
  unfold isDig
  rw [dig_toNat h, decide_eq_true (by omega), decide_eq_true (by omega)]
  rfl
theorem decV_one (c : UInt8) : decV [c] = c.toNat - 48 := by
  show 0 * 10 + _ = _
  omega
theorem decV_dec (u : Nat) : decV (Lib.decDigits u) = u := by
  induction u using Nat.strongRecOn with
  | _ u ih =>
    by_cases h : u < 10
    · rw [dec_small h, decV_one, dig_toNat h]
      omega
    · rw [dec_big (by omega), decV_snoc, ih (u / 10) (by omega), dig_toNat (Nat.mod_lt _ (by omega))]
      omega
theorem dec_all (u : Nat) : (Lib.decDigits u).all isDig = true := by
  induction u using Nat.strongRecOn with
  | _ u ih =>
    by_cases h : u < 10
    · rw [dec_small h, List.all_cons, dig_isDig h]
      rfl
    · rw [dec_big (by omega), List.all_append, ih (u / 10) (by omega), List.all_cons, dig_isDig (Nat.mod_lt _ (by omega))]
      rfl
theorem dec_head (u : Nat) (h0 : 0 < u) : Lib.decDigits u ≠ [] ∧ (Lib.decDigits u)[0]?.getD 0 ≠ 48 := by
  induction u using Nat.strongRecOn with
  | _ u ih =>
    by_cases h : u < 10
    · rw [dec_small h]
      refine ⟨by simp, fun e => ?_⟩
      have e2 : (UInt8.ofNat (48 + u)).toNat = 48 := congrArg UInt8.toNat e
      rw [dig_toNat h] at e2
      omega
    · have h1 := ih (u / 10) (by omega) (by omega)
      rw [dec_big (by omega)]
      refine ⟨by simp, ?_⟩
      rw [List.getElem?_append_left (List.length_pos_iff.2 h1.1)]
      exact h1.2
theorem dec_ok (u : Nat) : txtOk (Lib.decDigits u) = true := by
  unfold txtOk
  rw [dec_all, Bool.true_and]
  rcases Nat.eq_zero_or_pos u with h | h
  · subst h
    rw [dec_small (by omega)]
    rfl
  · have h1 := dec_head u h
    rw [decide_eq_true h1.1, decide_eq_true h1.2]
    simp
theorem minus_dig {l : List UInt8} (h : l.all isDig = true) : minus l = (false, l) := by
  unfold minus
  split
  · rename_i t
    have h1 : isDig 45 = true := by
      rw [List.all_cons, Bool.and_eq_true] at h
      exact h.1
    exact absurd h1 (by decide)
  · rfl
theorem minus_txt (neg : Bool) (v : Nat) : minus (txt neg v) = (neg, Lib.decDigits v) := by
  unfold txt
  cases neg with
  | true => rfl
  | false =>
    rw [if_neg (by simp), List.nil_append]
    exact minus_dig (dec_all v)
theorem pOk_txt {neg : Bool} {v : Nat} (h : neg = true → v ≠ 0) : pOk (txt neg v) = true := by
  unfold pOk
  rw [minus_txt, dec_ok, Bool.true_and, Bool.not_eq_true']
  cases neg with
  | false => rfl
  | true =>
    rw [Bool.true_and]
    refine decide_eq_false fun e => (dec_head v (Nat.pos_of_ne_zero (h rfl))).2 ?_
    show (Lib.decDigits v)[0]?.getD 0 = 48
    rw [show Lib.decDigits v = [48] from e]
    rfl
theorem dec_short {v n : Nat} (h : (digs v).length ≤ n) (h0 : 0 < n) : (Lib.decDigits v).length ≤ 10 * n := by
  have h1 := digs_len.1 h
  have h2 : v < 10 ^ (10 * n) := by
    rw [Nat.pow_mul]
    exact Nat.lt_of_lt_of_le h1 (Nat.pow_le_pow_left (show 4294967296 ≤ 10 ^ 10 by decide) n)
  have h3 := dec_len (10 * n - 1) v (by rw [Nat.sub_add_cancel (by omega)]; exact h2)
  omega
theorem txt_short {v n : Nat} (neg : Bool) (h : (digs v).length ≤ n) (h0 : 0 < n) : (txt neg v).length ≤ 10 * n + 1 := by
  have := dec_short h h0
  unfold txt
  rw [List.length_append]
  cases neg <;> simp <;> omega
theorem dec_decV : ∀ (k : Nat) (t : List UInt8), t.length = k + 1 → t.all isDig = true → t[0]?.getD 0 ≠ 48 → Lib.decDigits (decV t) = t
  | 0, t, hk, ha, _ => by
    obtain ⟨c, rfl⟩ := List.length_eq_one_iff.1 hk
    have hc : isDig c = true := by simpa using ha
    unfold isDig at hc
    rw [Bool.and_eq_true, decide_eq_true_eq, decide_eq_true_eq] at hc
    rw [decV_one, dec_small (by omega), show 48 + (c.toNat - 48) = c.toNat from by omega, UInt8.ofNat_toNat]
  | k + 1, t, hk, ha, h0 => by
    obtain ⟨s, c, rfl⟩ : ∃ s c, t = s ++ [c] := ⟨t.dropLast, t.getLast (fun e => by subst e; cases hk), (List.dropLast_concat_getLast _).symm⟩
    rw [List.length_append, List.length_singleton] at hk
    have hs : s.length = k + 1 := by omega
    rw [List.all_append, Bool.and_eq_true] at ha
    have hc : isDig c = true := by simpa using ha.2
    unfold isDig at hc
    rw [Bool.and_eq_true, decide_eq_true_eq, decide_eq_true_eq] at hc
    rw [List.getElem?_append_left (by omega)] at h0
    have ih := dec_decV k s hs ha.1 h0
    have hp : 0 < decV s := by
      rcases Nat.eq_zero_or_pos (decV s) with e | e
      · rw [e, dec_small (by omega)] at ih
        rw [← ih] at h0
        exact absurd rfl h0
      · exact e
    rw [decV_snoc, dec_big (by omega), show (decV s * 10 + (c.toNat - 48)) / 10 = decV s from by omega, show (decV s * 10 + (c.toNat - 48)) % 10 = c.toNat - 48 from by omega, ih,
      show 48 + (c.toNat - 48) = c.toNat from by omega, UInt8.ofNat_toNat]
theorem dec_txt {t : List UInt8} (h : txtOk t = true) : Lib.decDigits (decV t) = t := by
  unfold txtOk at h
  rw [Bool.and_eq_true, Bool.or_eq_true, decide_eq_true_eq, Bool.and_eq_true, decide_eq_true_eq, decide_eq_true_eq] at h
  rcases h.2 with e | ⟨e1, e2⟩
  · subst e
    rw [decV_one]
    exact dec_small (by decide)
  · have hl := List.length_pos_iff.2 e1
    exact dec_decV (t.length - 1) t (by omega) h.1 e2
theorem minus_back (l : List UInt8) : (if (minus l).1 = true then [45] else []) ++ (minus l).2 = l := by
  unfold minus
  split <;> rfl
/-- The number that a text means. -/
def pZ (l : List UInt8) : Int := toI (minus l).1 (decV (minus l).2)
theorem pZ_abs (l : List UInt8) : (pZ l).natAbs = decV (minus l).2 := toI_abs _ _
theorem pZ_neg {l : List UInt8} (h : pOk l = true) : decide (pZ l < 0) = (minus l).1 := by
  unfold pOk at h
  rw [Bool.and_eq_true, Bool.not_eq_true'] at h
  unfold pZ toI
  cases hm : (minus l).1 with
  | false => simp
  | true =>
    rw [hm, Bool.true_and] at h
    have hne : decV (minus l).2 ≠ 0 := fun e => by
      have e2 := dec_txt h.1
      rw [e, dec_small (by omega)] at e2
      have h2 := h.2
      rw [← e2] at h2
      exact absurd h2 (by decide)
    simp
    omega
theorem pZ_txt {l : List UInt8} (h : pOk l = true) : txt (decide (pZ l < 0)) (pZ l).natAbs = l := by
  rw [pZ_neg h, pZ_abs]
  unfold pOk at h
  rw [Bool.and_eq_true] at h
  unfold txt
  rw [dec_txt h.1]
  exact minus_back l
theorem txt_pZ (x : Int) : pZ (txt (decide (x < 0)) x.natAbs) = x ∧ pOk (txt (decide (x < 0)) x.natAbs) = true := by
  constructor
  · unfold pZ
    rw [minus_txt, decV_dec, toI_self]
  · refine pOk_txt fun h => ?_
    have : x < 0 := by simpa using h
    omega
theorem pZ_sz {l : List UInt8} (h : pOk l = true) {k : Nat} (hl : l.length ≤ k) : Sz k (pZ l) := by
  unfold Sz
  rw [pZ_abs]
  unfold pOk at h
  rw [Bool.and_eq_true] at h
  have h1 := decV_lt (txtOk_all h.1)
  have h2 := minus_len l
  exact Nat.lt_of_lt_of_le h1 (Nat.le_trans (Nat.pow_le_pow_right (by omega) (show (minus l).2.length ≤ k by omega)) (Nat.pow_le_pow_left (by omega) k))
theorem parse_n (w : World) (l : List UInt8) (h : pOk l = true) (hl : l.length ≤ 3001) :
    Calls Tryd.prog 27 #[.string ⟨l.toArray⟩] w (RN w (pZ l)) := by
  have h1 := parse_ok w l h (by omega)
  rw [← pZ_neg h, ← pZ_abs] at h1
  have h2 := mkN_z (pZ_sz h hl) (by omega)
  rw [h2.1, h2.2.1, h2.2.2] at h1
  exact h1
end Go.Proofs.YtkcdijhfiahibaaDoor

/- Texts of whole numbers: Text and Parse in numbers. -/
namespace Go.Proofs.YtkcdijhfiahibaaDoor
open Go.RowKit

/-- The text of a number. -/
def tx (x : Int) : List UInt8 := txt (decide (x < 0)) x.natAbs
theorem text_n (w : World) (A : Option Addr) (n c k : Nat) (x : Int) {na : Bool} (hA : Lm w w.heap.size A n c (digs x.natAbs)) (hx : Sz k x) (hk : k ≤ 4096) (hU : TabU w) (ha : decide (x < 0) = na) :
    Calls Tryd.prog 26 #[.agg #[.bool na, .slice A n c]] w fun e w' => e = .returned (.tuple #[.string ⟨(tx x).toArray⟩, .int .i64 0]) ∧ Below w.heap.size w w' := by
  subst ha
  exact text_ok w _ A n c _ hA (chk_z hx hk) hU
theorem parse_tx (w : World) (x : Int) (hx : Sz 300 x) : Calls Tryd.prog 27 #[.string ⟨(tx x).toArray⟩] w (RN w x) := by
  have h1 := txt_pZ x
  have h2 := parse_n w (tx x) h1.2 (by unfold tx; exact txt_short _ hx.len (by omega))
  rw [show pZ (tx x) = x from h1.1] at h2
  exact h2
end Go.Proofs.YtkcdijhfiahibaaDoor

/- The law WideBack at any number, any string, any whole number: the walk. -/
namespace Go.Proofs.YtkcdijhfiahibaaDoor
open Go.RowKit

theorem rsame_b (w : World) (A B : Option Addr) (n m ca cb : Nat) (x : Int) {na nb : Bool} (hA : Lm w w.heap.size A n ca (digs x.natAbs)) (hB : Lm w w.heap.size B m cb (digs x.natAbs)) (ha : decide (x < 0) = na) (hb : decide (x < 0) = nb) :
    Calls Tryd.prog 13 #[.agg #[.bool na, .slice A n ca], .agg #[.bool nb, .slice B m cb]] w fun e w' => e = .returned (.bool true) ∧ Below w.heap.size w w' := by
  subst ha hb
  have e := rsame_any w (decide (x < 0)) (decide (x < 0)) A B n m ca cb _ _ hA hB
  rw [sameB_self] at e
  exact e
theorem int_n (w : World) (A : Option Addr) (n c : Nat) (m : Int) {na : Bool} (hA : Lm w w.heap.size A n c (digs m.natAbs)) (h1 : -9223372036854775808 ≤ m) (h2 : m ≤ 9223372036854775807) (ha : decide (m < 0) = na) :
    Calls Tryd.prog 25 #[.agg #[.bool na, .slice A n c]] w fun e w' => e = .returned (.tuple #[.int .i64 m, .int .i64 0]) ∧ Below w.heap.size w w' := by
  subst ha
  have hs : Sz 2 m := by
    show m.natAbs < 18446744073709551616
    omega
  have e := int_ok w (decide (m < 0)) A n c _ m.natAbs hA (chk_z hs (by omega)) (digs_val _)
  have e1 : intV (decide (m < 0)) m.natAbs = m := by
    unfold intV
    by_cases h : m < 0
    · rw [decide_eq_true h, if_pos rfl, if_pos (by omega)]
      omega
    · rw [decide_eq_false h, if_neg (by simp), if_pos (by omega)]
      omega
  have e2 : intE (decide (m < 0)) m.natAbs = 0 := by
    unfold intE
    by_cases h : m < 0
    · rw [decide_eq_true h, if_pos rfl, if_pos (by omega)]
    · rw [decide_eq_false h, if_neg (by simp), if_pos (by omega)]
  rw [e1, e2] at e
  exact e
set_option maxRecDepth 100000 in
set_option maxHeartbeats 4000000 in
theorem back_great (w : World) (na : Bool) (A : Option Addr) (n ca : Nat) (xs : List Nat) (hA : Lm w w.heap.size A n ca xs) (l : List UInt8) (m : Int) (hD : TabD w) (hU : TabU w) (hgr : greatB n = true) :
    Calls Tryd.prog 5 #[.agg #[.bool na, .slice A n ca], .string ⟨l.toArray⟩, .int .i64 m] w fun e w' => e = .returned (.bool true) ∧ Below w.heap.size w w' := by
  have LA := Lib.hid hA
  have TD := Lib.hid hD
  have TU := Lib.hid hU
  have hac := hA.cap
  have hax := hA.max
  have HB : Hid (Below w.heap.size w w) := Below.refl _ _
  clear hA hD hU
  go_enter Tryd.func5, Tryd.ntmps5
  go_wp2_with fail
  refine (alive_any _ (TD.out.box _) (TU.out.box _)).mono ?_
  rintro e w1 ⟨rfl, hb1⟩
  have QLA := Lib.hid ((LA.out.box _).via hb1)
  have QTD := Lib.hid ((TD.out.box _).via hb1)
  have QTU := Lib.hid ((TU.out.box _).via hb1)
  have QHB := Lib.hid (HB.out.trans ((bbox hb1).mono HB.out.size))
  have PA := Lib.hid ((Pr.new _ _ rfl _ _ _).via hb1)
  clear LA TD TU HB
  have LA := QLA
  clear QLA
  have TD := QTD
  clear QTD
  have TU := QTU
  clear QTU
  have HB := QHB
  clear QHB
  clear hb1
  have ⟨c0, c1, _, _, _⟩ := PA.out
  go_wp2_with fail
  refine (great_any _ _ _ _ _ hac hax).mono ?_
  rintro e w2 ⟨rfl, hb2⟩
  have QLA := Lib.hid (LA.out.via hb2)
  have QPA := Lib.hid (PA.out.via hb2)
  have QTD := Lib.hid (TD.out.via hb2)
  have QTU := Lib.hid (TU.out.via hb2)
  have QHB := Lib.hid (HB.out.trans (hb2.mono HB.out.size))
  clear LA PA TD TU HB
  have LA := QLA
  clear QLA
  have PA := QPA
  clear QPA
  have TD := QTD
  clear QTD
  have TU := QTU
  clear QTU
  have HB := QHB
  clear QHB
  rw [hgr]
  clear c0 c1
  clear hb2
  go_wp2
  go_ret
  exact ⟨rfl, HB.out⟩

set_option maxRecDepth 100000 in
set_option maxHeartbeats 4000000 in
theorem back_long (w : World) (na : Bool) (A : Option Addr) (n ca : Nat) (xs : List Nat) (hA : Lm w w.heap.size A n ca xs) (l : List UInt8) (m : Int) (hD : TabD w) (hU : TabU w) (hgr : greatB n = false) (hl : 3000 < l.length) (hlm : l.length ≤ 9223372036854775807) :
    Calls Tryd.prog 5 #[.agg #[.bool na, .slice A n ca], .string ⟨l.toArray⟩, .int .i64 m] w fun e w' => e = .returned (.bool true) ∧ Below w.heap.size w w' := by
  have LA := Lib.hid hA
  have TD := Lib.hid hD
  have TU := Lib.hid hU
  have hac := hA.cap
  have hax := hA.max
  have HB : Hid (Below w.heap.size w w) := Below.refl _ _
  clear hA hD hU
  go_enter Tryd.func5, Tryd.ntmps5
  go_wp2_with fail
  refine (alive_any _ (TD.out.box _) (TU.out.box _)).mono ?_
  rintro e w1 ⟨rfl, hb1⟩
  have QLA := Lib.hid ((LA.out.box _).via hb1)
  have QTD := Lib.hid ((TD.out.box _).via hb1)
  have QTU := Lib.hid ((TU.out.box _).via hb1)
  have QHB := Lib.hid (HB.out.trans ((bbox hb1).mono HB.out.size))
  have PA := Lib.hid ((Pr.new _ _ rfl _ _ _).via hb1)
  clear LA TD TU HB
  have LA := QLA
  clear QLA
  have TD := QTD
  clear QTD
  have TU := QTU
  clear QTU
  have HB := QHB
  clear QHB
  clear hb1
  have ⟨c0, c1, _, _, _⟩ := PA.out
  go_wp2_with fail
  refine (great_any _ _ _ _ _ hac hax).mono ?_
  rintro e w2 ⟨rfl, hb2⟩
  have QLA := Lib.hid (LA.out.via hb2)
  have QPA := Lib.hid (PA.out.via hb2)
  have QTD := Lib.hid (TD.out.via hb2)
  have QTU := Lib.hid (TU.out.via hb2)
  have QHB := Lib.hid (HB.out.trans (hb2.mono HB.out.size))
  clear LA PA TD TU HB
  have LA := QLA
  clear QLA
  have PA := QPA
  clear QPA
  have TD := QTD
  clear QTD
  have TU := QTU
  clear QTU
  have HB := QHB
  clear QHB
  rw [hgr]
  clear c0 c1
  clear hb2
  go_wp2
  go_ret
  exact ⟨rfl, HB.out⟩

set_option maxRecDepth 100000 in
set_option maxHeartbeats 4000000 in
theorem back_vt (w : World) (A : Option Addr) (n ca : Nat) (x : Int) (hA : Lm w w.heap.size A n ca (digs x.natAbs)) (l : List UInt8) (m : Int) (hD : TabD w) (hU : TabU w) (hgr : greatB n = false) (hl : l.length ≤ 3000) (hm1 : -9223372036854775808 ≤ m) (hm2 : m ≤ 9223372036854775807) (hx : Sz 300 x) (hp : pOk l = true) :
    Calls Tryd.prog 5 #[.agg #[.bool (decide (x < 0)), .slice A n ca], .string ⟨l.toArray⟩, .int .i64 m] w fun e w' => e = .returned (.bool true) ∧ Below w.heap.size w w' := by
  have LA := Lib.hid hA
  have TD := Lib.hid hD
  have TU := Lib.hid hU
  have hac := hA.cap
  have hax := hA.max
  have HB : Hid (Below w.heap.size w w) := Below.refl _ _
  have HP := Lib.hid hp
  have SX := Lib.hid hx
  clear hp hx
  obtain ⟨nx, hnx⟩ : ∃ b, decide (x < 0) = b := ⟨_, rfl⟩
  have HX := Lib.hid hnx
  rw [hnx]
  clear hnx
  clear hA hD hU
  go_enter Tryd.func5, Tryd.ntmps5
  go_wp2_with fail
  refine (alive_any _ (TD.out.box _) (TU.out.box _)).mono ?_
  rintro e w1 ⟨rfl, hb1⟩
  have QLA := Lib.hid ((LA.out.box _).via hb1)
  have QTD := Lib.hid ((TD.out.box _).via hb1)
  have QTU := Lib.hid ((TU.out.box _).via hb1)
  have QHB := Lib.hid (HB.out.trans ((bbox hb1).mono HB.out.size))
  have PA := Lib.hid ((Pr.new _ _ rfl _ _ _).via hb1)
  clear LA TD TU HB
  have LA := QLA
  clear QLA
  have TD := QTD
  clear QTD
  have TU := QTU
  clear QTU
  have HB := QHB
  clear QHB
  clear hb1
  have ⟨c0, c1, _, _, _⟩ := PA.out
  go_wp2_with fail
  refine (great_any _ _ _ _ _ hac hax).mono ?_
  rintro e w2 ⟨rfl, hb2⟩
  have QLA := Lib.hid (LA.out.via hb2)
  have QPA := Lib.hid (PA.out.via hb2)
  have QTD := Lib.hid (TD.out.via hb2)
  have QTU := Lib.hid (TU.out.via hb2)
  have QHB := Lib.hid (HB.out.trans (hb2.mono HB.out.size))
  clear LA PA TD TU HB
  have LA := QLA
  clear QLA
  have PA := QPA
  clear QPA
  have TD := QTD
  clear QTD
  have TU := QTU
  clear QTU
  have HB := QHB
  clear QHB
  rw [hgr]
  clear c0 c1
  clear hb2
  go_wp2_with fail
  refine (from_any _ m hm1 hm2).mono ?_
  rintro e w3 ⟨Af, nf, cf, rfl, hF, hb3⟩
  have QLA := Lib.hid (LA.out.via hb3)
  have QPA := Lib.hid (PA.out.via hb3)
  have QTD := Lib.hid (TD.out.via hb3)
  have QTU := Lib.hid (TU.out.via hb3)
  have QHB := Lib.hid (HB.out.trans (hb3.mono HB.out.size))
  clear LA PA TD TU HB
  have LA := QLA
  clear QLA
  have PA := QPA
  clear QPA
  have TD := QTD
  clear QTD
  have TU := QTU
  clear QTU
  have HB := QHB
  clear QHB
  have Lf := Lib.hid hF
  clear hF
  clear hb3
  go_wp2_with fail
  refine (int_n _ _ _ _ m Lf.out hm1 hm2 rfl).mono ?_
  rintro e w4 ⟨rfl, hb4⟩
  have QLA := Lib.hid (LA.out.via hb4)
  have QLf := Lib.hid (Lf.out.via hb4)
  have QPA := Lib.hid (PA.out.via hb4)
  have QTD := Lib.hid (TD.out.via hb4)
  have QTU := Lib.hid (TU.out.via hb4)
  have QHB := Lib.hid (HB.out.trans (hb4.mono HB.out.size))
  clear LA Lf PA TD TU HB
  have LA := QLA
  clear QLA
  have Lf := QLf
  clear QLf
  have PA := QPA
  clear QPA
  have TD := QTD
  clear QTD
  have TU := QTU
  clear QTU
  have HB := QHB
  clear QHB
  clear hb4
  clear Lf
  have ⟨c0, c1, _, _, _⟩ := PA.out
  go_wp2_with fail
  refine (text_n _ _ _ _ 300 x LA.out SX.out (by omega) TU.out HX.out).mono ?_
  rintro e w5 ⟨rfl, hb5⟩
  have QLA := Lib.hid (LA.out.via hb5)
  have QPA := Lib.hid (PA.out.via hb5)
  have QTD := Lib.hid (TD.out.via hb5)
  have QTU := Lib.hid (TU.out.via hb5)
  have QHB := Lib.hid (HB.out.trans (hb5.mono HB.out.size))
  clear LA PA TD TU HB
  have LA := QLA
  clear QLA
  have PA := QPA
  clear QPA
  have TD := QTD
  clear QTD
  have TU := QTU
  clear QTU
  have HB := QHB
  clear QHB
  clear c0 c1
  clear hb5
  go_wp2_with fail
  refine (parse_tx _ x SX.out).mono ?_
  rintro e w6 ⟨Ab, nb, cb, rfl, hb, hb6⟩
  have QLA := Lib.hid (LA.out.via hb6)
  have QPA := Lib.hid (PA.out.via hb6)
  have QTD := Lib.hid (TD.out.via hb6)
  have QTU := Lib.hid (TU.out.via hb6)
  have QHB := Lib.hid (HB.out.trans (hb6.mono HB.out.size))
  clear LA PA TD TU HB
  have LA := QLA
  clear QLA
  have PA := QPA
  clear QPA
  have TD := QTD
  clear QTD
  have TU := QTU
  clear QTU
  have HB := QHB
  clear QHB
  have Lb := Lib.hid hb
  have Sb : Hid (Sz 300 (x)) := SX.out
  clear hb
  obtain ⟨gb, hgb⟩ : ∃ b, decide (x < 0) = b := ⟨_, rfl⟩
  have Hb := Lib.hid hgb
  rw [hgb]
  clear hgb
  clear hb6
  have ⟨c0, c1, _, _, _⟩ := PA.out
  go_wp2_with fail
  refine (rsame_b _ _ _ _ _ _ _ x (LA.out.box _) (Lb.out.box _) HX.out Hb.out).mono ?_
  rintro e w7 ⟨rfl, hb7⟩
  have QLA := Lib.hid ((LA.out.box _).via hb7)
  have QLb := Lib.hid ((Lb.out.box _).via hb7)
  have QPA := Lib.hid ((PA.out.alloc _).via hb7)
  have QTD := Lib.hid ((TD.out.box _).via hb7)
  have QTU := Lib.hid ((TU.out.box _).via hb7)
  have QHB := Lib.hid (HB.out.trans ((bbox hb7).mono HB.out.size))
  have Pb := Lib.hid ((Pr.new _ _ rfl _ _ _).via hb7)
  clear LA Lb PA TD TU HB
  have LA := QLA
  clear QLA
  have Lb := QLb
  clear QLb
  have PA := QPA
  clear QPA
  have TD := QTD
  clear QTD
  have TU := QTU
  clear QTU
  have HB := QHB
  clear QHB
  clear c0 c1
  clear hb7
  go_wp2_with fail
  refine (parse_n _ l HP.out (by omega)).mono ?_
  rintro e w8 ⟨Az, nz, cz, rfl, hz, hb8⟩
  have QLA := Lib.hid (LA.out.via hb8)
  have QLb := Lib.hid (Lb.out.via hb8)
  have QPA := Lib.hid (PA.out.via hb8)
  have QPb := Lib.hid (Pb.out.via hb8)
  have QTD := Lib.hid (TD.out.via hb8)
  have QTU := Lib.hid (TU.out.via hb8)
  have QHB := Lib.hid (HB.out.trans (hb8.mono HB.out.size))
  clear LA Lb PA Pb TD TU HB
  have LA := QLA
  clear QLA
  have Lb := QLb
  clear QLb
  have PA := QPA
  clear QPA
  have Pb := QPb
  clear QPb
  have TD := QTD
  clear QTD
  have TU := QTU
  clear QTU
  have HB := QHB
  clear QHB
  have Lz := Lib.hid hz
  have Sz_ : Hid (Sz 3000 (pZ l)) := pZ_sz HP.out hl
  clear hz
  obtain ⟨gz, hgz⟩ : ∃ b, decide (pZ l < 0) = b := ⟨_, rfl⟩
  have Hz := Lib.hid hgz
  rw [hgz]
  clear hgz
  clear hb8
  go_wp2_with fail
  refine (text_n _ _ _ _ 3000 (pZ l) (Lz.out.box _) Sz_.out (by omega) (TU.out.box _) Hz.out).mono ?_
  rintro e w9 ⟨rfl, hb9⟩
  have QLA := Lib.hid ((LA.out.box _).via hb9)
  have QLb := Lib.hid ((Lb.out.box _).via hb9)
  have QLz := Lib.hid ((Lz.out.box _).via hb9)
  have QPA := Lib.hid ((PA.out.alloc _).via hb9)
  have QPb := Lib.hid ((Pb.out.alloc _).via hb9)
  have QTD := Lib.hid ((TD.out.box _).via hb9)
  have QTU := Lib.hid ((TU.out.box _).via hb9)
  have QHB := Lib.hid (HB.out.trans ((bbox hb9).mono HB.out.size))
  have Pz := Lib.hid ((Pr.new _ _ rfl _ _ _).via hb9)
  clear LA Lb Lz PA Pb TD TU HB
  have LA := QLA
  clear QLA
  have Lb := QLb
  clear QLb
  have Lz := QLz
  clear QLz
  have PA := QPA
  clear QPA
  have Pb := QPb
  clear QPb
  have TD := QTD
  clear QTD
  have TU := QTU
  clear QTU
  have HB := QHB
  clear QHB
  rw [show tx (pZ l) = l from pZ_txt HP.out]
  clear hb9
  go_wp2
  go_ret
  exact ⟨rfl, HB.out⟩

set_option maxRecDepth 100000 in
set_option maxHeartbeats 4000000 in
theorem back_vf (w : World) (A : Option Addr) (n ca : Nat) (x : Int) (hA : Lm w w.heap.size A n ca (digs x.natAbs)) (l : List UInt8) (m : Int) (hD : TabD w) (hU : TabU w) (hgr : greatB n = false) (hl : l.length ≤ 3000) (hm1 : -9223372036854775808 ≤ m) (hm2 : m ≤ 9223372036854775807) (hx : Sz 300 x) (hp : pOk l = false) :
    Calls Tryd.prog 5 #[.agg #[.bool (decide (x < 0)), .slice A n ca], .string ⟨l.toArray⟩, .int .i64 m] w fun e w' => e = .returned (.bool true) ∧ Below w.heap.size w w' := by
  have LA := Lib.hid hA
  have TD := Lib.hid hD
  have TU := Lib.hid hU
  have hac := hA.cap
  have hax := hA.max
  have HB : Hid (Below w.heap.size w w) := Below.refl _ _
  have HP := Lib.hid hp
  have SX := Lib.hid hx
  clear hp hx
  obtain ⟨nx, hnx⟩ : ∃ b, decide (x < 0) = b := ⟨_, rfl⟩
  have HX := Lib.hid hnx
  rw [hnx]
  clear hnx
  clear hA hD hU
  go_enter Tryd.func5, Tryd.ntmps5
  go_wp2_with fail
  refine (alive_any _ (TD.out.box _) (TU.out.box _)).mono ?_
  rintro e w1 ⟨rfl, hb1⟩
  have QLA := Lib.hid ((LA.out.box _).via hb1)
  have QTD := Lib.hid ((TD.out.box _).via hb1)
  have QTU := Lib.hid ((TU.out.box _).via hb1)
  have QHB := Lib.hid (HB.out.trans ((bbox hb1).mono HB.out.size))
  have PA := Lib.hid ((Pr.new _ _ rfl _ _ _).via hb1)
  clear LA TD TU HB
  have LA := QLA
  clear QLA
  have TD := QTD
  clear QTD
  have TU := QTU
  clear QTU
  have HB := QHB
  clear QHB
  clear hb1
  have ⟨c0, c1, _, _, _⟩ := PA.out
  go_wp2_with fail
  refine (great_any _ _ _ _ _ hac hax).mono ?_
  rintro e w2 ⟨rfl, hb2⟩
  have QLA := Lib.hid (LA.out.via hb2)
  have QPA := Lib.hid (PA.out.via hb2)
  have QTD := Lib.hid (TD.out.via hb2)
  have QTU := Lib.hid (TU.out.via hb2)
  have QHB := Lib.hid (HB.out.trans (hb2.mono HB.out.size))
  clear LA PA TD TU HB
  have LA := QLA
  clear QLA
  have PA := QPA
  clear QPA
  have TD := QTD
  clear QTD
  have TU := QTU
  clear QTU
  have HB := QHB
  clear QHB
  rw [hgr]
  clear c0 c1
  clear hb2
  go_wp2_with fail
  refine (from_any _ m hm1 hm2).mono ?_
  rintro e w3 ⟨Af, nf, cf, rfl, hF, hb3⟩
  have QLA := Lib.hid (LA.out.via hb3)
  have QPA := Lib.hid (PA.out.via hb3)
  have QTD := Lib.hid (TD.out.via hb3)
  have QTU := Lib.hid (TU.out.via hb3)
  have QHB := Lib.hid (HB.out.trans (hb3.mono HB.out.size))
  clear LA PA TD TU HB
  have LA := QLA
  clear QLA
  have PA := QPA
  clear QPA
  have TD := QTD
  clear QTD
  have TU := QTU
  clear QTU
  have HB := QHB
  clear QHB
  have Lf := Lib.hid hF
  clear hF
  clear hb3
  go_wp2_with fail
  refine (int_n _ _ _ _ m Lf.out hm1 hm2 rfl).mono ?_
  rintro e w4 ⟨rfl, hb4⟩
  have QLA := Lib.hid (LA.out.via hb4)
  have QLf := Lib.hid (Lf.out.via hb4)
  have QPA := Lib.hid (PA.out.via hb4)
  have QTD := Lib.hid (TD.out.via hb4)
  have QTU := Lib.hid (TU.out.via hb4)
  have QHB := Lib.hid (HB.out.trans (hb4.mono HB.out.size))
  clear LA Lf PA TD TU HB
  have LA := QLA
  clear QLA
  have Lf := QLf
  clear QLf
  have PA := QPA
  clear QPA
  have TD := QTD
  clear QTD
  have TU := QTU
  clear QTU
  have HB := QHB
  clear QHB
  clear hb4
  clear Lf
  have ⟨c0, c1, _, _, _⟩ := PA.out
  go_wp2_with fail
  refine (text_n _ _ _ _ 300 x LA.out SX.out (by omega) TU.out HX.out).mono ?_
  rintro e w5 ⟨rfl, hb5⟩
  have QLA := Lib.hid (LA.out.via hb5)
  have QPA := Lib.hid (PA.out.via hb5)
  have QTD := Lib.hid (TD.out.via hb5)
  have QTU := Lib.hid (TU.out.via hb5)
  have QHB := Lib.hid (HB.out.trans (hb5.mono HB.out.size))
  clear LA PA TD TU HB
  have LA := QLA
  clear QLA
  have PA := QPA
  clear QPA
  have TD := QTD
  clear QTD
  have TU := QTU
  clear QTU
  have HB := QHB
  clear QHB
  clear c0 c1
  clear hb5
  go_wp2_with fail
  refine (parse_tx _ x SX.out).mono ?_
  rintro e w6 ⟨Ab, nb, cb, rfl, hb, hb6⟩
  have QLA := Lib.hid (LA.out.via hb6)
  have QPA := Lib.hid (PA.out.via hb6)
  have QTD := Lib.hid (TD.out.via hb6)
  have QTU := Lib.hid (TU.out.via hb6)
  have QHB := Lib.hid (HB.out.trans (hb6.mono HB.out.size))
  clear LA PA TD TU HB
  have LA := QLA
  clear QLA
  have PA := QPA
  clear QPA
  have TD := QTD
  clear QTD
  have TU := QTU
  clear QTU
  have HB := QHB
  clear QHB
  have Lb := Lib.hid hb
  have Sb : Hid (Sz 300 (x)) := SX.out
  clear hb
  obtain ⟨gb, hgb⟩ : ∃ b, decide (x < 0) = b := ⟨_, rfl⟩
  have Hb := Lib.hid hgb
  rw [hgb]
  clear hgb
  clear hb6
  have ⟨c0, c1, _, _, _⟩ := PA.out
  go_wp2_with fail
  refine (rsame_b _ _ _ _ _ _ _ x (LA.out.box _) (Lb.out.box _) HX.out Hb.out).mono ?_
  rintro e w7 ⟨rfl, hb7⟩
  have QLA := Lib.hid ((LA.out.box _).via hb7)
  have QLb := Lib.hid ((Lb.out.box _).via hb7)
  have QPA := Lib.hid ((PA.out.alloc _).via hb7)
  have QTD := Lib.hid ((TD.out.box _).via hb7)
  have QTU := Lib.hid ((TU.out.box _).via hb7)
  have QHB := Lib.hid (HB.out.trans ((bbox hb7).mono HB.out.size))
  have Pb := Lib.hid ((Pr.new _ _ rfl _ _ _).via hb7)
  clear LA Lb PA TD TU HB
  have LA := QLA
  clear QLA
  have Lb := QLb
  clear QLb
  have PA := QPA
  clear QPA
  have TD := QTD
  clear QTD
  have TU := QTU
  clear QTU
  have HB := QHB
  clear QHB
  clear c0 c1
  clear hb7
  go_wp2_with fail
  refine (parse_bad _ l HP.out (by omega)).mono ?_
  rintro e w8 ⟨Az, nz, cz, rfl, hz, hb8⟩
  have QLA := Lib.hid (LA.out.via hb8)
  have QLb := Lib.hid (Lb.out.via hb8)
  have QPA := Lib.hid (PA.out.via hb8)
  have QPb := Lib.hid (Pb.out.via hb8)
  have QTD := Lib.hid (TD.out.via hb8)
  have QTU := Lib.hid (TU.out.via hb8)
  have QHB := Lib.hid (HB.out.trans (hb8.mono HB.out.size))
  clear LA Lb PA Pb TD TU HB
  have LA := QLA
  clear QLA
  have Lb := QLb
  clear QLb
  have PA := QPA
  clear QPA
  have Pb := QPb
  clear QPb
  have TD := QTD
  clear QTD
  have TU := QTU
  clear QTU
  have HB := QHB
  clear QHB
  clear hz
  clear hb8
  have ⟨c0, c1, _, _, _⟩ := PA.out
  go_wp2_with fail
  refine (check_ok _ _ _ _ _ _ (LA.out.box _) (by rw [← HX.out]; exact chk_z SX.out (by omega))).mono ?_
  rintro e w9 ⟨rfl, hb9⟩
  have QLA := Lib.hid ((LA.out.box _).via hb9)
  have QLb := Lib.hid ((Lb.out.box _).via hb9)
  have QPA := Lib.hid ((PA.out.alloc _).via hb9)
  have QPb := Lib.hid ((Pb.out.alloc _).via hb9)
  have QTD := Lib.hid ((TD.out.box _).via hb9)
  have QTU := Lib.hid ((TU.out.box _).via hb9)
  have QHB := Lib.hid (HB.out.trans ((bbox hb9).mono HB.out.size))
  have Pz := Lib.hid ((Pr.new _ _ rfl _ _ _).via hb9)
  clear LA Lb PA Pb TD TU HB
  have LA := QLA
  clear QLA
  have Lb := QLb
  clear QLb
  have PA := QPA
  clear QPA
  have Pb := QPb
  clear QPb
  have TD := QTD
  clear QTD
  have TU := QTU
  clear QTU
  have HB := QHB
  clear QHB
  clear c0 c1
  clear hb9
  go_wp2
  go_ret
  exact ⟨rfl, HB.out⟩

set_option maxRecDepth 100000 in
set_option maxHeartbeats 4000000 in
theorem back_it (w : World) (na : Bool) (A : Option Addr) (n ca : Nat) (xs : List Nat) (hA : Lm w w.heap.size A n ca xs) (l : List UInt8) (m : Int) (hD : TabD w) (hU : TabU w) (hgr : greatB n = false) (hl : l.length ≤ 3000) (hm1 : -9223372036854775808 ≤ m) (hm2 : m ≤ 9223372036854775807) (hx : chk na xs = 8) (hp : pOk l = true) :
    Calls Tryd.prog 5 #[.agg #[.bool na, .slice A n ca], .string ⟨l.toArray⟩, .int .i64 m] w fun e w' => e = .returned (.bool true) ∧ Below w.heap.size w w' := by
  have LA := Lib.hid hA
  have TD := Lib.hid hD
  have TU := Lib.hid hU
  have hac := hA.cap
  have hax := hA.max
  have HB : Hid (Below w.heap.size w w) := Below.refl _ _
  have HP := Lib.hid hp
  have SX := Lib.hid hx
  clear hp hx
  clear hA hD hU
  go_enter Tryd.func5, Tryd.ntmps5
  go_wp2_with fail
  refine (alive_any _ (TD.out.box _) (TU.out.box _)).mono ?_
  rintro e w1 ⟨rfl, hb1⟩
  have QLA := Lib.hid ((LA.out.box _).via hb1)
  have QTD := Lib.hid ((TD.out.box _).via hb1)
  have QTU := Lib.hid ((TU.out.box _).via hb1)
  have QHB := Lib.hid (HB.out.trans ((bbox hb1).mono HB.out.size))
  have PA := Lib.hid ((Pr.new _ _ rfl _ _ _).via hb1)
  clear LA TD TU HB
  have LA := QLA
  clear QLA
  have TD := QTD
  clear QTD
  have TU := QTU
  clear QTU
  have HB := QHB
  clear QHB
  clear hb1
  have ⟨c0, c1, _, _, _⟩ := PA.out
  go_wp2_with fail
  refine (great_any _ _ _ _ _ hac hax).mono ?_
  rintro e w2 ⟨rfl, hb2⟩
  have QLA := Lib.hid (LA.out.via hb2)
  have QPA := Lib.hid (PA.out.via hb2)
  have QTD := Lib.hid (TD.out.via hb2)
  have QTU := Lib.hid (TU.out.via hb2)
  have QHB := Lib.hid (HB.out.trans (hb2.mono HB.out.size))
  clear LA PA TD TU HB
  have LA := QLA
  clear QLA
  have PA := QPA
  clear QPA
  have TD := QTD
  clear QTD
  have TU := QTU
  clear QTU
  have HB := QHB
  clear QHB
  rw [hgr]
  clear c0 c1
  clear hb2
  go_wp2_with fail
  refine (from_any _ m hm1 hm2).mono ?_
  rintro e w3 ⟨Af, nf, cf, rfl, hF, hb3⟩
  have QLA := Lib.hid (LA.out.via hb3)
  have QPA := Lib.hid (PA.out.via hb3)
  have QTD := Lib.hid (TD.out.via hb3)
  have QTU := Lib.hid (TU.out.via hb3)
  have QHB := Lib.hid (HB.out.trans (hb3.mono HB.out.size))
  clear LA PA TD TU HB
  have LA := QLA
  clear QLA
  have PA := QPA
  clear QPA
  have TD := QTD
  clear QTD
  have TU := QTU
  clear QTU
  have HB := QHB
  clear QHB
  have Lf := Lib.hid hF
  clear hF
  clear hb3
  go_wp2_with fail
  refine (int_n _ _ _ _ m Lf.out hm1 hm2 rfl).mono ?_
  rintro e w4 ⟨rfl, hb4⟩
  have QLA := Lib.hid (LA.out.via hb4)
  have QLf := Lib.hid (Lf.out.via hb4)
  have QPA := Lib.hid (PA.out.via hb4)
  have QTD := Lib.hid (TD.out.via hb4)
  have QTU := Lib.hid (TU.out.via hb4)
  have QHB := Lib.hid (HB.out.trans (hb4.mono HB.out.size))
  clear LA Lf PA TD TU HB
  have LA := QLA
  clear QLA
  have Lf := QLf
  clear QLf
  have PA := QPA
  clear QPA
  have TD := QTD
  clear QTD
  have TU := QTU
  clear QTU
  have HB := QHB
  clear QHB
  clear hb4
  clear Lf
  have ⟨c0, c1, _, _, _⟩ := PA.out
  go_wp2_with fail
  refine (text_bad _ _ _ _ _ _ LA.out SX.out).mono ?_
  rintro e w5 ⟨rfl, hb5⟩
  have QLA := Lib.hid (LA.out.via hb5)
  have QPA := Lib.hid (PA.out.via hb5)
  have QTD := Lib.hid (TD.out.via hb5)
  have QTU := Lib.hid (TU.out.via hb5)
  have QHB := Lib.hid (HB.out.trans (hb5.mono HB.out.size))
  clear LA PA TD TU HB
  have LA := QLA
  clear QLA
  have PA := QPA
  clear QPA
  have TD := QTD
  clear QTD
  have TU := QTU
  clear QTU
  have HB := QHB
  clear QHB
  clear c0 c1
  clear hb5
  go_wp2_with fail
  refine (parse_n _ l HP.out (by omega)).mono ?_
  rintro e w6 ⟨Az, nz, cz, rfl, hz, hb6⟩
  have QLA := Lib.hid (LA.out.via hb6)
  have QPA := Lib.hid (PA.out.via hb6)
  have QTD := Lib.hid (TD.out.via hb6)
  have QTU := Lib.hid (TU.out.via hb6)
  have QHB := Lib.hid (HB.out.trans (hb6.mono HB.out.size))
  clear LA PA TD TU HB
  have LA := QLA
  clear QLA
  have PA := QPA
  clear QPA
  have TD := QTD
  clear QTD
  have TU := QTU
  clear QTU
  have HB := QHB
  clear QHB
  have Lz := Lib.hid hz
  have Sz_ : Hid (Sz 3000 (pZ l)) := pZ_sz HP.out hl
  clear hz
  obtain ⟨gz, hgz⟩ : ∃ b, decide (pZ l < 0) = b := ⟨_, rfl⟩
  have Hz := Lib.hid hgz
  rw [hgz]
  clear hgz
  clear hb6
  go_wp2_with fail
  refine (text_n _ _ _ _ 3000 (pZ l) (Lz.out.box _) Sz_.out (by omega) (TU.out.box _) Hz.out).mono ?_
  rintro e w7 ⟨rfl, hb7⟩
  have QLA := Lib.hid ((LA.out.box _).via hb7)
  have QLz := Lib.hid ((Lz.out.box _).via hb7)
  have QPA := Lib.hid ((PA.out.alloc _).via hb7)
  have QTD := Lib.hid ((TD.out.box _).via hb7)
  have QTU := Lib.hid ((TU.out.box _).via hb7)
  have QHB := Lib.hid (HB.out.trans ((bbox hb7).mono HB.out.size))
  have Pz := Lib.hid ((Pr.new _ _ rfl _ _ _).via hb7)
  clear LA Lz PA TD TU HB
  have LA := QLA
  clear QLA
  have Lz := QLz
  clear QLz
  have PA := QPA
  clear QPA
  have TD := QTD
  clear QTD
  have TU := QTU
  clear QTU
  have HB := QHB
  clear QHB
  rw [show tx (pZ l) = l from pZ_txt HP.out]
  clear hb7
  go_wp2
  go_ret
  exact ⟨rfl, HB.out⟩

set_option maxRecDepth 100000 in
set_option maxHeartbeats 4000000 in
theorem back_if (w : World) (na : Bool) (A : Option Addr) (n ca : Nat) (xs : List Nat) (hA : Lm w w.heap.size A n ca xs) (l : List UInt8) (m : Int) (hD : TabD w) (hU : TabU w) (hgr : greatB n = false) (hl : l.length ≤ 3000) (hm1 : -9223372036854775808 ≤ m) (hm2 : m ≤ 9223372036854775807) (hx : chk na xs = 8) (hp : pOk l = false) :
    Calls Tryd.prog 5 #[.agg #[.bool na, .slice A n ca], .string ⟨l.toArray⟩, .int .i64 m] w fun e w' => e = .returned (.bool true) ∧ Below w.heap.size w w' := by
  have LA := Lib.hid hA
  have TD := Lib.hid hD
  have TU := Lib.hid hU
  have hac := hA.cap
  have hax := hA.max
  have HB : Hid (Below w.heap.size w w) := Below.refl _ _
  have HP := Lib.hid hp
  have SX := Lib.hid hx
  clear hp hx
  clear hA hD hU
  go_enter Tryd.func5, Tryd.ntmps5
  go_wp2_with fail
  refine (alive_any _ (TD.out.box _) (TU.out.box _)).mono ?_
  rintro e w1 ⟨rfl, hb1⟩
  have QLA := Lib.hid ((LA.out.box _).via hb1)
  have QTD := Lib.hid ((TD.out.box _).via hb1)
  have QTU := Lib.hid ((TU.out.box _).via hb1)
  have QHB := Lib.hid (HB.out.trans ((bbox hb1).mono HB.out.size))
  have PA := Lib.hid ((Pr.new _ _ rfl _ _ _).via hb1)
  clear LA TD TU HB
  have LA := QLA
  clear QLA
  have TD := QTD
  clear QTD
  have TU := QTU
  clear QTU
  have HB := QHB
  clear QHB
  clear hb1
  have ⟨c0, c1, _, _, _⟩ := PA.out
  go_wp2_with fail
  refine (great_any _ _ _ _ _ hac hax).mono ?_
  rintro e w2 ⟨rfl, hb2⟩
  have QLA := Lib.hid (LA.out.via hb2)
  have QPA := Lib.hid (PA.out.via hb2)
  have QTD := Lib.hid (TD.out.via hb2)
  have QTU := Lib.hid (TU.out.via hb2)
  have QHB := Lib.hid (HB.out.trans (hb2.mono HB.out.size))
  clear LA PA TD TU HB
  have LA := QLA
  clear QLA
  have PA := QPA
  clear QPA
  have TD := QTD
  clear QTD
  have TU := QTU
  clear QTU
  have HB := QHB
  clear QHB
  rw [hgr]
  clear c0 c1
  clear hb2
  go_wp2_with fail
  refine (from_any _ m hm1 hm2).mono ?_
  rintro e w3 ⟨Af, nf, cf, rfl, hF, hb3⟩
  have QLA := Lib.hid (LA.out.via hb3)
  have QPA := Lib.hid (PA.out.via hb3)
  have QTD := Lib.hid (TD.out.via hb3)
  have QTU := Lib.hid (TU.out.via hb3)
  have QHB := Lib.hid (HB.out.trans (hb3.mono HB.out.size))
  clear LA PA TD TU HB
  have LA := QLA
  clear QLA
  have PA := QPA
  clear QPA
  have TD := QTD
  clear QTD
  have TU := QTU
  clear QTU
  have HB := QHB
  clear QHB
  have Lf := Lib.hid hF
  clear hF
  clear hb3
  go_wp2_with fail
  refine (int_n _ _ _ _ m Lf.out hm1 hm2 rfl).mono ?_
  rintro e w4 ⟨rfl, hb4⟩
  have QLA := Lib.hid (LA.out.via hb4)
  have QLf := Lib.hid (Lf.out.via hb4)
  have QPA := Lib.hid (PA.out.via hb4)
  have QTD := Lib.hid (TD.out.via hb4)
  have QTU := Lib.hid (TU.out.via hb4)
  have QHB := Lib.hid (HB.out.trans (hb4.mono HB.out.size))
  clear LA Lf PA TD TU HB
  have LA := QLA
  clear QLA
  have Lf := QLf
  clear QLf
  have PA := QPA
  clear QPA
  have TD := QTD
  clear QTD
  have TU := QTU
  clear QTU
  have HB := QHB
  clear QHB
  clear hb4
  clear Lf
  have ⟨c0, c1, _, _, _⟩ := PA.out
  go_wp2_with fail
  refine (text_bad _ _ _ _ _ _ LA.out SX.out).mono ?_
  rintro e w5 ⟨rfl, hb5⟩
  have QLA := Lib.hid (LA.out.via hb5)
  have QPA := Lib.hid (PA.out.via hb5)
  have QTD := Lib.hid (TD.out.via hb5)
  have QTU := Lib.hid (TU.out.via hb5)
  have QHB := Lib.hid (HB.out.trans (hb5.mono HB.out.size))
  clear LA PA TD TU HB
  have LA := QLA
  clear QLA
  have PA := QPA
  clear QPA
  have TD := QTD
  clear QTD
  have TU := QTU
  clear QTU
  have HB := QHB
  clear QHB
  clear c0 c1
  clear hb5
  go_wp2_with fail
  refine (parse_bad _ l HP.out (by omega)).mono ?_
  rintro e w6 ⟨Az, nz, cz, rfl, hz, hb6⟩
  have QLA := Lib.hid (LA.out.via hb6)
  have QPA := Lib.hid (PA.out.via hb6)
  have QTD := Lib.hid (TD.out.via hb6)
  have QTU := Lib.hid (TU.out.via hb6)
  have QHB := Lib.hid (HB.out.trans (hb6.mono HB.out.size))
  clear LA PA TD TU HB
  have LA := QLA
  clear QLA
  have PA := QPA
  clear QPA
  have TD := QTD
  clear QTD
  have TU := QTU
  clear QTU
  have HB := QHB
  clear QHB
  clear hz
  clear hb6
  have ⟨c0, c1, _, _, _⟩ := PA.out
  go_wp2_with fail
  refine (check_bad _ _ _ _ _ _ (LA.out.box _) SX.out).mono ?_
  rintro e w7 ⟨rfl, hb7⟩
  have QLA := Lib.hid ((LA.out.box _).via hb7)
  have QPA := Lib.hid ((PA.out.alloc _).via hb7)
  have QTD := Lib.hid ((TD.out.box _).via hb7)
  have QTU := Lib.hid ((TU.out.box _).via hb7)
  have QHB := Lib.hid (HB.out.trans ((bbox hb7).mono HB.out.size))
  have Pz := Lib.hid ((Pr.new _ _ rfl _ _ _).via hb7)
  clear LA PA TD TU HB
  have LA := QLA
  clear QLA
  have PA := QPA
  clear QPA
  have TD := QTD
  clear QTD
  have TU := QTU
  clear QTU
  have HB := QHB
  clear QHB
  clear c0 c1
  clear hb7
  go_wp2
  go_ret
  exact ⟨rfl, HB.out⟩
end Go.Proofs.YtkcdijhfiahibaaDoor

namespace Go.Proofs.YtkcdijhfiahibaaDoor
open Go.ChangeShapes Go.WideShapes Go.ChangeAt Go.RowKit

open Go.ChangeMaps

theorem wf_i64 {m : Int} (h : (Lit.int .i64 m).wf = true) : -9223372036854775808 ≤ m ∧ m ≤ 9223372036854775807 := by
  have h1 : IntKind.i64.min = -9223372036854775808 := rfl
  have h2 : IntKind.i64.max = 9223372036854775807 := rfl
  simp only [Lit.wf, Bool.and_eq_true, decide_eq_true_eq] at h
  omega
theorem back_any (w : World) (na : Bool) (A : Option Addr) (n ca : Nat) (xs : List Nat) (hA : Lm w w.heap.size A n ca xs) (s : ByteArray) (hs : s.size ≤ maxLen) (m : Int) (hm : (Lit.int .i64 m).wf = true) (hD : TabD w) (hU : TabU w) :
    Calls Tryd.prog 5 #[.agg #[.bool na, .slice A n ca], .string s, .int .i64 m] w fun e w' => e = .returned (.bool true) ∧ Below w.heap.size w w' := by
  obtain ⟨l, rfl⟩ : ∃ l : List UInt8, s = ⟨l.toArray⟩ := ⟨s.data.toList, by simp⟩
  rw [str_size] at hs
  simp only [maxLen] at hs
  have ⟨m1, m2⟩ := wf_i64 hm
  cases hg : greatB n with
  | true => exact back_great w na A n ca xs hA l m hD hU hg
  | false =>
    by_cases h3 : 3000 < l.length
    · exact back_long w na A n ca xs hA l m hD hU hg h3 (by omega)
    · rcases chk_cases na xs with hc | hc
      · have hl := (chk_ok.1 hc).1
        rw [hA.len] at hl
        unfold greatB at hg
        have h300 : n ≤ 300 := by
          refine Nat.le_of_not_lt fun h => ?_
          rw [decide_eq_true h, decide_eq_true hl] at hg
          cases hg
        have hg2 : greatB n = false := hg
        obtain ⟨x, rfl, rfl, hx⟩ := of_chk hc hA.good (k := 300) (by rw [hA.len]; exact h300)
        cases hp : pOk l with
        | true => exact back_vt w A n ca x hA l m hD hU hg2 (by omega) m1 m2 hx hp
        | false => exact back_vf w A n ca x hA l m hD hU hg2 (by omega) m1 m2 hx hp
      · cases hp : pOk l with
        | true => exact back_it w na A n ca xs hA l m hD hU hg (by omega) m1 m2 hc hp
        | false => exact back_if w na A n ca xs hA l m hD hU hg (by omega) m1 m2 hc hp

set_option maxRecDepth 100000 in
theorem wideBack_lifted (os : Os) (started : os.Started) (H : Type) (enc : TypeId × Value → H) :
    ReturnsInHanded {} Tryd.checked os 5 .any (fun w args => (Rows.wideBackSpec.pre enc Tryd.prog Tryd.f5 [] false w args ∧ laidMetH Tryd.prog laid3 w) ∧ sizedMet enc Tryd.prog Tryd.f5 (OpenSpec.ofChange Rows.wideBackSpec) false w args)
      (Rows.wideBackSpec.post enc Tryd.prog Tryd.f5 false true false false) := by
  refine returnsInHanded_of_change_and (C := Tryd.checked) (X := fun w _ => laidMetH Tryd.prog laid3 w) (fun _ _ _ hh h => h.of_heap hh) own started (by kernel_rfl) Tryd.func5
    (ChangeSpec.witness_shaped (enc := enc) (C := Tryd.checked) (os := os) (X := fun w _ => laidMetH Tryd.prog laid3 w) false (World.doorLaid Tryd.prog 24 os) #[.agg #[.bool false, .slice none 0 0], .string ⟨#[]⟩, .int .i64 0] 8 rfl (World.shaped_of_RefB (by kernel_rfl) (by kernel_rfl)) (by kernel_rfl) (by kernel_rfl) (by kernel_rfl) (door_met os _)) ?_
  intro W base args ds gs before hval0 hW _ _ hL _
  obtain ⟨hTD, hTU⟩ := tabs_of hL
  have hval : ∀ (j : Nat) t v, Tryd.f5.params[j]? = some t → args[j]? = some v → Value.okWide Tryd.prog W .any base t v := hval0
  have hW' := hW
  obtain ⟨p, q, hA0, hV, rfl, hfz, hnd⟩ := hW
  have hA : DataW.TrodAll enc Tryd.prog W 0 (fun _ => true) true Tryd.f5.params.toList args.toList ds p := hA0
  rw [Tryd.params5] at hA hval
  obtain ⟨v0, v1, v2, d0, d1, d2, p0, p1, p2, rfl, rfl, rfl, h0, h1, h2⟩ := trodAll_three hA
  obtain ⟨rfl, rfl⟩ := trodVars_none hV
  clear hA0 hval0
  simp only [List.append_nil] at hW'
  obtain ⟨s1, rfl, rfl, rfl, ws1⟩ := open_string Tryd.underlying9 (hval 1 9 v1 rfl rfl) h1
  obtain ⟨k2, rfl, rfl, rfl, wk2⟩ := open_int Tryd.underlying2 (hval 2 2 v2 rfl rfl) h2
  try (simp only [List.append_nil, List.nil_append, List.append_assoc] at hW')
  have hlt : ∀ x ∈ p0, x.block < W.heap.size := fun x hx => by simpa using hW'.lt x hx
  have hlt0 : ∀ x ∈ p0, x.block < W.heap.size := fun x hx => hlt x hx
  obtain ⟨na, A, n, ca, xs, rfl, hLA⟩ := open_wide (hval 0 24 v0 rfl rfl) h0 hlt0
  refine (back_any W na A n ca xs hLA s1 ws1 k2 wk2 hTD hTU).mono fun e W' ⟨he, hb⟩ => ?_
  subst he
  exact ⟨_, rfl, _, _, _, [], p0, [], hW', trodAll_mk1 (shut_bool Tryd.underlying4 _),
    (by have e := trodAll_mk3 (Below.trod laidOut (by kernel_rfl) (of_decide_eq_true (by kernel_rfl)) h0 hb hlt0) (shut_string Tryd.underlying9 ws1) (shut_int Tryd.underlying2 wk2); simp only [List.append_nil, List.nil_append] at e; exact e), rfl, hb.frame _, fun h => by cases h⟩

theorem wideBack_row : Rows.WideBackSaid :=
  OpenClaim.holds_of_wide 5 Tryd.f5 rfl rfl rfl rfl rfl rfl rfl ⟨rfl, rfl, rfl, rfl, rfl⟩ rfl rfl rfl rfl rfl (by kernel_rfl) Tryd.func5 (by kernel_rfl)
    (of_decide_eq_true (by kernel_rfl)) (by unfold Func.isWrapper; first | (rw [if_pos (by decide +kernel)]; kernel_rfl) | (rw [if_neg (by decide +kernel)]; exact ⟨rfl, rfl⟩))
    (fun os started H enc _ => wideBack_lifted os started H enc)

theorem wideBack_holds : Rows.WideBackCardSaid :=
  Claim7.holds_tied_plain_at .later [] [.data, .data, .data] true (Rows.wideBackCard.stood.harness) false
    wideBack_row (fun _ h => by cases h) (by kernel_rfl) (fun _ h => by cases h) wideBack_row_tie rfl ⟨rfl, rfl⟩ (by kernel_rfl) rfl
    (fun f fn hf hfn => by
      obtain rfl : f = 5 := Option.some.inj ((show Tryd.prog.funcNamed "planisphere/planispherelaw01.WideBack" = some 5 by kernel_rfl).symm.trans hf) |>.symm
      obtain rfl : fn = Tryd.f5 := (Option.some.inj (Tryd.func5.symm.trans hfn)).symm
      exact ⟨by kernel_rfl, fun j t ht => by
        rw [Tryd.params5] at ht
        have hm : t ∈ [24, 9, 2] := by simpa using Array.mem_of_getElem? ht
        have hall : ([24, 9, 2].all fun u => !Tryd.prog.wantsStandIn u) = true := by kernel_rfl
        exact (show Tryd.prog.wantsStandIn t = false by simpa using List.all_eq_true.1 hall t hm)⟩)
    (by kernel_rfl)
end Go.Proofs.YtkcdijhfiahibaaDoor

