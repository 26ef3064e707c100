
/-
  For any three numbers a, b and c the law WideRing returns true: where they are valid and of at most 100 limbs, sums and differences, products and sums of products of package wide agree as the laws of rings ask, and where they are not, the chapter's examples hold. Conditions: the library's tables of de Bruijn and of powers of ten hold what their initialisers lay (the card ties them to the program's text); no other condition.
-/
import Derived.Test.YtkajmglpmdhmnaaDoorRows
import Derived.ProofKit
import Derived.SizedLaws
import Derived.Lib.SmallJoins
import Derived.LaidMore
import Derived.OpenShut
import Derived.Stop.LaidErr
import Derived.MakeChecks
import Derived.SevenTiedAt
import Derived.Test.YtkajmglpmdhmnaaDoorTie
import Derived.Test.YtkajmglpmdhmnaaDoorCards
import Derived.Test.YtkajmglpmdhmnaaDoorGRing4
/- The law's 'alive': the chapter's examples hold. -/
namespace Go.Proofs.YtkajmglpmdhmnaaDoor
open Go.RowKit

theorem ex_dm1 (w : World) (A B : Option Addr) (n m ca cb : Nat) (hA : Lm w w.heap.size A n ca (digs 7)) (hB : Lm w w.heap.size B m cb (digs 2)) :
    Calls Tryd.prog 21 #[.agg #[.bool true, .slice A n ca], .agg #[.bool false, .slice B m cb]] w (RWW w true (digs 4) false (digs 1) 0) :=
  divmod_down w true false A B n m ca cb 7 2 hA hB (by decide) (by omega) (.inl ⟨rfl, rfl⟩) (by decide)
theorem ex_dm2 (w : World) (A B : Option Addr) (n m ca cb : Nat) (hA : Lm w w.heap.size A n ca (digs 7)) (hB : Lm w w.heap.size B m cb (digs 2)) :
    Calls Tryd.prog 21 #[.agg #[.bool false, .slice A n ca], .agg #[.bool true, .slice B m cb]] w (RWW w true (digs 4) true (digs 1) 0) :=
  divmod_down w false true A B n m ca cb 7 2 hA hB (by decide) (by omega) (.inr ⟨rfl, rfl⟩) (by decide)
theorem ex_sh (w : World) (A : Option Addr) (n c : Nat) (hA : Lm w w.heap.size A n c (digs 5)) (hT : TabD w) :
    Calls Tryd.prog 9 #[.agg #[.bool true, .slice A n c], .int .i64 (-1)] w (RW w true (digs 3) 0) :=
  shift_down_lost w A n c 5 1 (-1) hA (by decide) rfl (by omega) (by omega) hT (by decide)
theorem ex_gcd (w : World) (A B : Option Addr) (n m ca cb : Nat) (hA : Lm w w.heap.size A n ca (digs 12)) (hB : Lm w w.heap.size B m cb (digs 18)) :
    Calls Tryd.prog 7 #[.agg #[.bool true, .slice A n ca], .agg #[.bool false, .slice B m cb]] w (RW w false (digs 6) 0) :=
  gcd_small w true false A B n m ca cb 12 18 hA hB (by decide) (by rw [← hA.len]; decide) (by rw [← hB.len]; decide)
theorem ex_sq (w : World) (A : Option Addr) (n c : Nat) (hA : Lm w w.heap.size A n c (digs 99)) :
    Calls Tryd.prog 13 #[.agg #[.bool false, .slice A n c]] w (RW w false (digs 9) 0) :=
  (sqrt_ok w A n c 99 hA (by decide)).mono fun e w' ⟨r, hr, h⟩ => by
    obtain rfl : r = 9 := hr.uniq ⟨by decide, by decide⟩
    exact h
theorem dec_2_64 : Lib.decDigits 18446744073709551616 = [49, 56, 52, 52, 54, 55, 52, 52, 48, 55, 51, 55, 48, 57, 53, 53, 49, 54, 49, 54] := by
  simp [dec_big, dec_small]
theorem digs_2_64 : digs 18446744073709551616 = [0, 0, 1] := (eq_digs (xs := [0, 0, 1]) (by unfold Good; decide) (by unfold Norm; decide) (by decide)).symm
theorem ex_txt (w : World) (A : Option Addr) (n c : Nat) (hA : Lm w w.heap.size A n c [0, 0, 1]) (hT : TabU w) :
    Calls Tryd.prog 59 #[.agg #[.bool false, .slice A n c]] w fun e w' => e = .returned (.tuple #[.string ⟨#[49, 56, 52, 52, 54, 55, 52, 52, 48, 55, 51, 55, 48, 57, 53, 53, 49, 54, 49, 54]⟩, .int .i64 0]) ∧ Below w.heap.size w w' := by
  rw [← digs_2_64] at hA
  have h := text_ok w false A n c 18446744073709551616 hA (by rw [digs_2_64]; decide) hT
  have e : txt false 18446744073709551616 = [49, 56, 52, 52, 54, 55, 52, 52, 48, 55, 51, 55, 48, 57, 53, 53, 49, 54, 49, 54] := by
    unfold txt
    rw [dec_2_64]
    rfl
  rw [e] at h
  exact h
theorem Lm.three (w : World) (k : Nat) (t : TypeId) (hk : w.heap.size = k) : Lm (w.alloc (.cells #[.int .u32 0, .int .u32 0, .int .u32 1] t)) (k + 1) (some ⟨k, 0, none⟩) 3 3 [0, 0, 1] := by
  subst hk
  exact ⟨rfl, by unfold Good; decide, Nat.le_refl _, by omega, fun h => (by cases h), fun _ => ⟨_, 0, rfl, by omega, fun j hj => by
    match j, hj with
    | 0, _ => go_simp
    | 1, _ => go_simp
    | 2, _ => go_simp⟩⟩

set_option maxRecDepth 100000 in
set_option maxHeartbeats 4000000 in
theorem alive_any (w : World) (hD : TabD w) (hU : TabU w) :
    Calls Tryd.prog 25 #[] w fun e w' => e = .returned (.bool true) ∧ Below w.heap.size w w' := by
  have TD := Lib.hid hD
  have TU := Lib.hid hU
  have HB : Hid (Below w.heap.size w w) := Below.refl _ _
  clear hD hU
  go_enter Tryd.func25, Tryd.ntmps25
  go_wp2_with fail
  refine (from_any _ (-7) (by omega) (by omega)).mono ?_
  rintro e w1 ⟨Aa, na, ca, rfl, ha, hb1⟩
  have QTD := Lib.hid (TD.out.via hb1)
  have QTU := Lib.hid (TU.out.via hb1)
  have QHB := Lib.hid (HB.out.trans (hb1.mono HB.out.size))
  clear TD TU HB
  have TD := QTD
  clear QTD
  have TU := QTU
  clear QTU
  have HB := QHB
  clear QHB
  have La : Hid (Lm w1 w1.heap.size Aa na ca (digs 7)) := ha
  clear ha
  clear hb1
  go_wp2_with fail
  refine (from_any _ (2) (by omega) (by omega)).mono ?_
  rintro e w2 ⟨Ab, nb, cb, rfl, hb, hb2⟩
  have QLa := Lib.hid ((La.out.via hb2))
  have QTD := Lib.hid (TD.out.via hb2)
  have QTU := Lib.hid (TU.out.via hb2)
  have QHB := Lib.hid (HB.out.trans (hb2.mono HB.out.size))
  clear La TD TU HB
  have La := QLa
  clear QLa
  have TD := QTD
  clear QTD
  have TU := QTU
  clear QTU
  have HB := QHB
  clear QHB
  have Lb : Hid (Lm w2 w2.heap.size Ab nb cb (digs 2)) := hb
  clear hb
  clear hb2
  go_wp2_with fail
  refine (ex_dm1 _ _ _ _ _ _ _ La.out Lb.out).mono ?_
  rintro e w3 ⟨Aq, nq, cq, Ar, nr, cr, rfl, hq, hr, hb3⟩
  have QLa := Lib.hid ((La.out.via hb3))
  have QLb := Lib.hid ((Lb.out.via hb3))
  have QTD := Lib.hid (TD.out.via hb3)
  have QTU := Lib.hid (TU.out.via hb3)
  have QHB := Lib.hid (HB.out.trans (hb3.mono HB.out.size))
  clear La Lb TD TU HB
  have La := QLa
  clear QLa
  have Lb := QLb
  clear QLb
  have TD := QTD
  clear QTD
  have TU := QTU
  clear QTU
  have HB := QHB
  clear QHB
  have Lq := Lib.hid hq
  have Lr := Lib.hid hr
  clear hq hr
  clear hb3
  go_wp2_with fail
  refine (from_any _ (7) (by omega) (by omega)).mono ?_
  rintro e w4 ⟨Ac, nc, cc, rfl, hc, hb4⟩
  have QLq := Lib.hid ((((Lq.out.box _).box _).via hb4))
  have QLr := Lib.hid ((((Lr.out.box _).box _).via hb4))
  have QTD := Lib.hid (((TD.out.box _).box _).via hb4)
  have QTU := Lib.hid (((TU.out.box _).box _).via hb4)
  have QHB := Lib.hid (HB.out.trans ((bbox (bbox hb4)).mono HB.out.size))
  have ⟨N1, N2⟩ := boxes2 hb4
  have Pq := Lib.hid N1
  have Pr_ := Lib.hid N2
  clear N1 N2
  clear Lq Lr TD TU HB
  have Lq := QLq
  clear QLq
  have Lr := QLr
  clear QLr
  have TD := QTD
  clear QTD
  have TU := QTU
  clear QTU
  have HB := QHB
  clear QHB
  have Lc : Hid (Lm w4 w4.heap.size Ac nc cc (digs 7)) := hc
  clear hc
  clear hb4
  go_wp2_with fail
  refine (from_any _ (-2) (by omega) (by omega)).mono ?_
  rintro e w5 ⟨Ad, nd, cd, rfl, hd, hb5⟩
  have QLq := Lib.hid ((Lq.out.via hb5))
  have QLr := Lib.hid ((Lr.out.via hb5))
  have QLc := Lib.hid ((Lc.out.via hb5))
  have QPq := Lib.hid (Pq.out.via hb5)
  have QPr_ := Lib.hid (Pr_.out.via hb5)
  have QTD := Lib.hid (TD.out.via hb5)
  have QTU := Lib.hid (TU.out.via hb5)
  have QHB := Lib.hid (HB.out.trans (hb5.mono HB.out.size))
  clear Lq Lr Lc Pq Pr_ TD TU HB
  have Lq := QLq
  clear QLq
  have Lr := QLr
  clear QLr
  have Lc := QLc
  clear QLc
  have Pq := QPq
  clear QPq
  have Pr_ := QPr_
  clear QPr_
  have TD := QTD
  clear QTD
  have TU := QTU
  clear QTU
  have HB := QHB
  clear QHB
  have Ld : Hid (Lm w5 w5.heap.size Ad nd cd (digs 2)) := hd
  clear hd
  clear hb5
  go_wp2_with fail
  refine (ex_dm2 _ _ _ _ _ _ _ Lc.out Ld.out).mono ?_
  rintro e w6 ⟨Ap, np, cp, As, ns, cs, rfl, hp, hs, hb6⟩
  have QLq := Lib.hid ((Lq.out.via hb6))
  have QLr := Lib.hid ((Lr.out.via hb6))
  have QLc := Lib.hid ((Lc.out.via hb6))
  have QLd := Lib.hid ((Ld.out.via hb6))
  have QPq := Lib.hid (Pq.out.via hb6)
  have QPr_ := Lib.hid (Pr_.out.via hb6)
  have QTD := Lib.hid (TD.out.via hb6)
  have QTU := Lib.hid (TU.out.via hb6)
  have QHB := Lib.hid (HB.out.trans (hb6.mono HB.out.size))
  clear Lq Lr Lc Ld Pq Pr_ TD TU HB
  have Lq := QLq
  clear QLq
  have Lr := QLr
  clear QLr
  have Lc := QLc
  clear QLc
  have Ld := QLd
  clear QLd
  have Pq := QPq
  clear QPq
  have Pr_ := QPr_
  clear QPr_
  have TD := QTD
  clear QTD
  have TU := QTU
  clear QTU
  have HB := QHB
  clear QHB
  have Lp := Lib.hid hp
  have Ls := Lib.hid hs
  clear hp hs
  clear hb6
  go_wp2_with fail
  refine (from_any _ (-5) (by omega) (by omega)).mono ?_
  rintro e w7 ⟨Ae, ne, ce, rfl, he, hb7⟩
  have QLq := Lib.hid ((((Lq.out.box _).box _).via hb7))
  have QLr := Lib.hid ((((Lr.out.box _).box _).via hb7))
  have QLp := Lib.hid ((((Lp.out.box _).box _).via hb7))
  have QLs := Lib.hid ((((Ls.out.box _).box _).via hb7))
  have QPq := Lib.hid (((Pq.out.alloc _).alloc _).via hb7)
  have QPr_ := Lib.hid (((Pr_.out.alloc _).alloc _).via hb7)
  have QTD := Lib.hid (((TD.out.box _).box _).via hb7)
  have QTU := Lib.hid (((TU.out.box _).box _).via hb7)
  have QHB := Lib.hid (HB.out.trans ((bbox (bbox hb7)).mono HB.out.size))
  have ⟨N1, N2⟩ := boxes2 hb7
  have Pp := Lib.hid N1
  have Ps := Lib.hid N2
  clear N1 N2
  clear Lq Lr Lp Ls Pq Pr_ TD TU HB
  have Lq := QLq
  clear QLq
  have Lr := QLr
  clear QLr
  have Lp := QLp
  clear QLp
  have Ls := QLs
  clear QLs
  have Pq := QPq
  clear QPq
  have Pr_ := QPr_
  clear QPr_
  have TD := QTD
  clear QTD
  have TU := QTU
  clear QTU
  have HB := QHB
  clear QHB
  have Le : Hid (Lm w7 w7.heap.size Ae ne ce (digs 5)) := he
  clear he
  clear hb7
  go_wp2_with fail
  refine (ex_sh _ _ _ _ Le.out TD.out).mono ?_
  rintro e w8 ⟨Ax, nx, cx, rfl, hx, hb8⟩
  have QLq := Lib.hid ((Lq.out.via hb8))
  have QLr := Lib.hid ((Lr.out.via hb8))
  have QLp := Lib.hid ((Lp.out.via hb8))
  have QLs := Lib.hid ((Ls.out.via hb8))
  have QLe := Lib.hid ((Le.out.via hb8))
  have QPq := Lib.hid (Pq.out.via hb8)
  have QPr_ := Lib.hid (Pr_.out.via hb8)
  have QPp := Lib.hid (Pp.out.via hb8)
  have QPs := Lib.hid (Ps.out.via hb8)
  have QTD := Lib.hid (TD.out.via hb8)
  have QTU := Lib.hid (TU.out.via hb8)
  have QHB := Lib.hid (HB.out.trans (hb8.mono HB.out.size))
  clear Lq Lr Lp Ls Le Pq Pr_ Pp Ps TD TU HB
  have Lq := QLq
  clear QLq
  have Lr := QLr
  clear QLr
  have Lp := QLp
  clear QLp
  have Ls := QLs
  clear QLs
  have Le := QLe
  clear QLe
  have Pq := QPq
  clear QPq
  have Pr_ := QPr_
  clear QPr_
  have Pp := QPp
  clear QPp
  have Ps := QPs
  clear QPs
  have TD := QTD
  clear QTD
  have TU := QTU
  clear QTU
  have HB := QHB
  clear QHB
  have Lx := Lib.hid hx
  clear hx
  clear hb8
  go_wp2_with fail
  refine (from_any _ (-12) (by omega) (by omega)).mono ?_
  rintro e w9 ⟨Af, nf, cf, rfl, hf, hb9⟩
  have QLq := Lib.hid (((Lq.out.box _).via hb9))
  have QLr := Lib.hid (((Lr.out.box _).via hb9))
  have QLp := Lib.hid (((Lp.out.box _).via hb9))
  have QLs := Lib.hid (((Ls.out.box _).via hb9))
  have QLx := Lib.hid (((Lx.out.box _).via hb9))
  have QPq := Lib.hid ((Pq.out.alloc _).via hb9)
  have QPr_ := Lib.hid ((Pr_.out.alloc _).via hb9)
  have QPp := Lib.hid ((Pp.out.alloc _).via hb9)
  have QPs := Lib.hid ((Ps.out.alloc _).via hb9)
  have QTD := Lib.hid ((TD.out.box _).via hb9)
  have QTU := Lib.hid ((TU.out.box _).via hb9)
  have QHB := Lib.hid (HB.out.trans ((bbox hb9).mono HB.out.size))
  have Px := Lib.hid ((Pr.new _ _ rfl _ _ _).via hb9)
  clear Lq Lr Lp Ls Lx Pq Pr_ Pp Ps TD TU HB
  have Lq := QLq
  clear QLq
  have Lr := QLr
  clear QLr
  have Lp := QLp
  clear QLp
  have Ls := QLs
  clear QLs
  have Lx := QLx
  clear QLx
  have Pq := QPq
  clear QPq
  have Pr_ := QPr_
  clear QPr_
  have Pp := QPp
  clear QPp
  have Ps := QPs
  clear QPs
  have TD := QTD
  clear QTD
  have TU := QTU
  clear QTU
  have HB := QHB
  clear QHB
  have Lf : Hid (Lm w9 w9.heap.size Af nf cf (digs 12)) := hf
  clear hf
  clear hb9
  go_wp2_with fail
  refine (from_any _ (18) (by omega) (by omega)).mono ?_
  rintro e w10 ⟨Ag, ng, cg, rfl, hg, hb10⟩
  have QLq := Lib.hid ((Lq.out.via hb10))
  have QLr := Lib.hid ((Lr.out.via hb10))
  have QLp := Lib.hid ((Lp.out.via hb10))
  have QLs := Lib.hid ((Ls.out.via hb10))
  have QLx := Lib.hid ((Lx.out.via hb10))
  have QLf := Lib.hid ((Lf.out.via hb10))
  have QPq := Lib.hid (Pq.out.via hb10)
  have QPr_ := Lib.hid (Pr_.out.via hb10)
  have QPp := Lib.hid (Pp.out.via hb10)
  have QPs := Lib.hid (Ps.out.via hb10)
  have QPx := Lib.hid (Px.out.via hb10)
  have QTD := Lib.hid (TD.out.via hb10)
  have QTU := Lib.hid (TU.out.via hb10)
  have QHB := Lib.hid (HB.out.trans (hb10.mono HB.out.size))
  clear Lq Lr Lp Ls Lx Lf Pq Pr_ Pp Ps Px TD TU HB
  have Lq := QLq
  clear QLq
  have Lr := QLr
  clear QLr
  have Lp := QLp
  clear QLp
  have Ls := QLs
  clear QLs
  have Lx := QLx
  clear QLx
  have Lf := QLf
  clear QLf
  have Pq := QPq
  clear QPq
  have Pr_ := QPr_
  clear QPr_
  have Pp := QPp
  clear QPp
  have Ps := QPs
  clear QPs
  have Px := QPx
  clear QPx
  have TD := QTD
  clear QTD
  have TU := QTU
  clear QTU
  have HB := QHB
  clear QHB
  have Lg : Hid (Lm w10 w10.heap.size Ag ng cg (digs 18)) := hg
  clear hg
  clear hb10
  go_wp2_with fail
  refine (ex_gcd _ _ _ _ _ _ _ Lf.out Lg.out).mono ?_
  rintro e w11 ⟨Ay, ny, cy, rfl, hy, hb11⟩
  have QLq := Lib.hid ((Lq.out.via hb11))
  have QLr := Lib.hid ((Lr.out.via hb11))
  have QLp := Lib.hid ((Lp.out.via hb11))
  have QLs := Lib.hid ((Ls.out.via hb11))
  have QLx := Lib.hid ((Lx.out.via hb11))
  have QLf := Lib.hid ((Lf.out.via hb11))
  have QLg := Lib.hid ((Lg.out.via hb11))
  have QPq := Lib.hid (Pq.out.via hb11)
  have QPr_ := Lib.hid (Pr_.out.via hb11)
  have QPp := Lib.hid (Pp.out.via hb11)
  have QPs := Lib.hid (Ps.out.via hb11)
  have QPx := Lib.hid (Px.out.via hb11)
  have QTD := Lib.hid (TD.out.via hb11)
  have QTU := Lib.hid (TU.out.via hb11)
  have QHB := Lib.hid (HB.out.trans (hb11.mono HB.out.size))
  clear Lq Lr Lp Ls Lx Lf Lg Pq Pr_ Pp Ps Px TD TU HB
  have Lq := QLq
  clear QLq
  have Lr := QLr
  clear QLr
  have Lp := QLp
  clear QLp
  have Ls := QLs
  clear QLs
  have Lx := QLx
  clear QLx
  have Lf := QLf
  clear QLf
  have Lg := QLg
  clear QLg
  have Pq := QPq
  clear QPq
  have Pr_ := QPr_
  clear QPr_
  have Pp := QPp
  clear QPp
  have Ps := QPs
  clear QPs
  have Px := QPx
  clear QPx
  have TD := QTD
  clear QTD
  have TU := QTU
  clear QTU
  have HB := QHB
  clear QHB
  have Ly := Lib.hid hy
  clear hy
  clear hb11
  go_wp2_with fail
  refine (from_any _ (99) (by omega) (by omega)).mono ?_
  rintro e w12 ⟨Ah, nh, ch, rfl, hh, hb12⟩
  have QLq := Lib.hid (((Lq.out.box _).via hb12))
  have QLr := Lib.hid (((Lr.out.box _).via hb12))
  have QLp := Lib.hid (((Lp.out.box _).via hb12))
  have QLs := Lib.hid (((Ls.out.box _).via hb12))
  have QLx := Lib.hid (((Lx.out.box _).via hb12))
  have QLy := Lib.hid (((Ly.out.box _).via hb12))
  have QPq := Lib.hid ((Pq.out.alloc _).via hb12)
  have QPr_ := Lib.hid ((Pr_.out.alloc _).via hb12)
  have QPp := Lib.hid ((Pp.out.alloc _).via hb12)
  have QPs := Lib.hid ((Ps.out.alloc _).via hb12)
  have QPx := Lib.hid ((Px.out.alloc _).via hb12)
  have QTD := Lib.hid ((TD.out.box _).via hb12)
  have QTU := Lib.hid ((TU.out.box _).via hb12)
  have QHB := Lib.hid (HB.out.trans ((bbox hb12).mono HB.out.size))
  have Py := Lib.hid ((Pr.new _ _ rfl _ _ _).via hb12)
  clear Lq Lr Lp Ls Lx Ly Pq Pr_ Pp Ps Px TD TU HB
  have Lq := QLq
  clear QLq
  have Lr := QLr
  clear QLr
  have Lp := QLp
  clear QLp
  have Ls := QLs
  clear QLs
  have Lx := QLx
  clear QLx
  have Ly := QLy
  clear QLy
  have Pq := QPq
  clear QPq
  have Pr_ := QPr_
  clear QPr_
  have Pp := QPp
  clear QPp
  have Ps := QPs
  clear QPs
  have Px := QPx
  clear QPx
  have TD := QTD
  clear QTD
  have TU := QTU
  clear QTU
  have HB := QHB
  clear QHB
  have Lh : Hid (Lm w12 w12.heap.size Ah nh ch (digs 99)) := hh
  clear hh
  clear hb12
  go_wp2_with fail
  refine (ex_sq _ _ _ _ Lh.out).mono ?_
  rintro e w13 ⟨Az, nz, cz, rfl, hz, hb13⟩
  have QLq := Lib.hid ((Lq.out.via hb13))
  have QLr := Lib.hid ((Lr.out.via hb13))
  have QLp := Lib.hid ((Lp.out.via hb13))
  have QLs := Lib.hid ((Ls.out.via hb13))
  have QLx := Lib.hid ((Lx.out.via hb13))
  have QLy := Lib.hid ((Ly.out.via hb13))
  have QLh := Lib.hid ((Lh.out.via hb13))
  have QPq := Lib.hid (Pq.out.via hb13)
  have QPr_ := Lib.hid (Pr_.out.via hb13)
  have QPp := Lib.hid (Pp.out.via hb13)
  have QPs := Lib.hid (Ps.out.via hb13)
  have QPx := Lib.hid (Px.out.via hb13)
  have QPy := Lib.hid (Py.out.via hb13)
  have QTD := Lib.hid (TD.out.via hb13)
  have QTU := Lib.hid (TU.out.via hb13)
  have QHB := Lib.hid (HB.out.trans (hb13.mono HB.out.size))
  clear Lq Lr Lp Ls Lx Ly Lh Pq Pr_ Pp Ps Px Py TD TU HB
  have Lq := QLq
  clear QLq
  have Lr := QLr
  clear QLr
  have Lp := QLp
  clear QLp
  have Ls := QLs
  clear QLs
  have Lx := QLx
  clear QLx
  have Ly := QLy
  clear QLy
  have Lh := QLh
  clear QLh
  have Pq := QPq
  clear QPq
  have Pr_ := QPr_
  clear QPr_
  have Pp := QPp
  clear QPp
  have Ps := QPs
  clear QPs
  have Px := QPx
  clear QPx
  have Py := QPy
  clear QPy
  have TD := QTD
  clear QTD
  have TU := QTU
  clear QTU
  have HB := QHB
  clear QHB
  have Lz := Lib.hid hz
  clear hz
  clear hb13
  go_wp2_with fail
  refine (whole_any _ _ _ _ _ [0, 0, 1] ((Lm.three _ (w13.heap.size + 1) _ (by simp)).mono (by simp))).mono ?_
  rintro e w14 ⟨rfl, hb14⟩
  have QLq := Lib.hid ((((Lq.out.box _).box _).via hb14))
  have QLr := Lib.hid ((((Lr.out.box _).box _).via hb14))
  have QLp := Lib.hid ((((Lp.out.box _).box _).via hb14))
  have QLs := Lib.hid ((((Ls.out.box _).box _).via hb14))
  have QLx := Lib.hid ((((Lx.out.box _).box _).via hb14))
  have QLy := Lib.hid ((((Ly.out.box _).box _).via hb14))
  have QLz := Lib.hid ((((Lz.out.box _).box _).via hb14))
  have QPq := Lib.hid (((Pq.out.alloc _).alloc _).via hb14)
  have QPr_ := Lib.hid (((Pr_.out.alloc _).alloc _).via hb14)
  have QPp := Lib.hid (((Pp.out.alloc _).alloc _).via hb14)
  have QPs := Lib.hid (((Ps.out.alloc _).alloc _).via hb14)
  have QPx := Lib.hid (((Px.out.alloc _).alloc _).via hb14)
  have QPy := Lib.hid (((Py.out.alloc _).alloc _).via hb14)
  have QTD := Lib.hid (((TD.out.box _).box _).via hb14)
  have QTU := Lib.hid (((TU.out.box _).box _).via hb14)
  have QHB := Lib.hid (HB.out.trans ((bbox (bbox hb14)).mono HB.out.size))
  have Pz := Lib.hid (((Pr.new _ _ rfl _ _ _).alloc _).via hb14)
  clear Lq Lr Lp Ls Lx Ly Lz Pq Pr_ Pp Ps Px Py TD TU HB
  have Lq := QLq
  clear QLq
  have Lr := QLr
  clear QLr
  have Lp := QLp
  clear QLp
  have Ls := QLs
  clear QLs
  have Lx := QLx
  clear QLx
  have Ly := QLy
  clear QLy
  have Lz := QLz
  clear QLz
  have Pq := QPq
  clear QPq
  have Pr_ := QPr_
  clear QPr_
  have Pp := QPp
  clear QPp
  have Ps := QPs
  clear QPs
  have Px := QPx
  clear QPx
  have Py := QPy
  clear QPy
  have TD := QTD
  clear QTD
  have TU := QTU
  clear QTU
  have HB := QHB
  clear QHB
  have L3 := Lib.hid (((Lm.three _ (w13.heap.size + 1) _ (by simp)).mono (by simp)).via hb14)
  clear hb14
  go_wp2_with fail
  refine (ex_txt _ _ _ _ L3.out TU.out).mono ?_
  rintro e w15 ⟨rfl, hb15⟩
  have QLq := Lib.hid ((Lq.out.via hb15))
  have QLr := Lib.hid ((Lr.out.via hb15))
  have QLp := Lib.hid ((Lp.out.via hb15))
  have QLs := Lib.hid ((Ls.out.via hb15))
  have QLx := Lib.hid ((Lx.out.via hb15))
  have QLy := Lib.hid ((Ly.out.via hb15))
  have QLz := Lib.hid ((Lz.out.via hb15))
  have QL3 := Lib.hid ((L3.out.via hb15))
  have QPq := Lib.hid (Pq.out.via hb15)
  have QPr_ := Lib.hid (Pr_.out.via hb15)
  have QPp := Lib.hid (Pp.out.via hb15)
  have QPs := Lib.hid (Ps.out.via hb15)
  have QPx := Lib.hid (Px.out.via hb15)
  have QPy := Lib.hid (Py.out.via hb15)
  have QPz := Lib.hid (Pz.out.via hb15)
  have QTD := Lib.hid (TD.out.via hb15)
  have QTU := Lib.hid (TU.out.via hb15)
  have QHB := Lib.hid (HB.out.trans (hb15.mono HB.out.size))
  clear Lq Lr Lp Ls Lx Ly Lz L3 Pq Pr_ Pp Ps Px Py Pz TD TU HB
  have Lq := QLq
  clear QLq
  have Lr := QLr
  clear QLr
  have Lp := QLp
  clear QLp
  have Ls := QLs
  clear QLs
  have Lx := QLx
  clear QLx
  have Ly := QLy
  clear QLy
  have Lz := QLz
  clear QLz
  have L3 := QL3
  clear QL3
  have Pq := QPq
  clear QPq
  have Pr_ := QPr_
  clear QPr_
  have Pp := QPp
  clear QPp
  have Ps := QPs
  clear QPs
  have Px := QPx
  clear QPx
  have Py := QPy
  clear QPy
  have Pz := QPz
  clear QPz
  have TD := QTD
  clear QTD
  have TU := QTU
  clear QTU
  have HB := QHB
  clear QHB
  clear hb15
  clear L3
  have ⟨c0, c1, _, _, _⟩ := Pq.out
  go_wp2_with fail
  refine (lsame_true _ true _ _ _ 4 (-4) Lq.out (by decide) (by decide) (by omega) (by omega)).mono ?_
  rintro e w16 ⟨rfl, hb16⟩
  have QLq := Lib.hid ((Lq.out.via hb16))
  have QLr := Lib.hid ((Lr.out.via hb16))
  have QLp := Lib.hid ((Lp.out.via hb16))
  have QLs := Lib.hid ((Ls.out.via hb16))
  have QLx := Lib.hid ((Lx.out.via hb16))
  have QLy := Lib.hid ((Ly.out.via hb16))
  have QLz := Lib.hid ((Lz.out.via hb16))
  have QPq := Lib.hid (Pq.out.via hb16)
  have QPr_ := Lib.hid (Pr_.out.via hb16)
  have QPp := Lib.hid (Pp.out.via hb16)
  have QPs := Lib.hid (Ps.out.via hb16)
  have QPx := Lib.hid (Px.out.via hb16)
  have QPy := Lib.hid (Py.out.via hb16)
  have QPz := Lib.hid (Pz.out.via hb16)
  have QTD := Lib.hid (TD.out.via hb16)
  have QTU := Lib.hid (TU.out.via hb16)
  have QHB := Lib.hid (HB.out.trans (hb16.mono HB.out.size))
  clear Lq Lr Lp Ls Lx Ly Lz Pq Pr_ Pp Ps Px Py Pz TD TU HB
  have Lq := QLq
  clear QLq
  have Lr := QLr
  clear QLr
  have Lp := QLp
  clear QLp
  have Ls := QLs
  clear QLs
  have Lx := QLx
  clear QLx
  have Ly := QLy
  clear QLy
  have Lz := QLz
  clear QLz
  have Pq := QPq
  clear QPq
  have Pr_ := QPr_
  clear QPr_
  have Pp := QPp
  clear QPp
  have Ps := QPs
  clear QPs
  have Px := QPx
  clear QPx
  have Py := QPy
  clear QPy
  have Pz := QPz
  clear QPz
  have TD := QTD
  clear QTD
  have TU := QTU
  clear QTU
  have HB := QHB
  clear QHB
  clear c0 c1
  clear hb16
  have ⟨c0, c1, _, _, _⟩ := Pr_.out
  go_wp2_with fail
  refine (lsame_true _ false _ _ _ 1 (1) Lr.out (by decide) (by decide) (by omega) (by omega)).mono ?_
  rintro e w17 ⟨rfl, hb17⟩
  have QLq := Lib.hid ((Lq.out.via hb17))
  have QLr := Lib.hid ((Lr.out.via hb17))
  have QLp := Lib.hid ((Lp.out.via hb17))
  have QLs := Lib.hid ((Ls.out.via hb17))
  have QLx := Lib.hid ((Lx.out.via hb17))
  have QLy := Lib.hid ((Ly.out.via hb17))
  have QLz := Lib.hid ((Lz.out.via hb17))
  have QPq := Lib.hid (Pq.out.via hb17)
  have QPr_ := Lib.hid (Pr_.out.via hb17)
  have QPp := Lib.hid (Pp.out.via hb17)
  have QPs := Lib.hid (Ps.out.via hb17)
  have QPx := Lib.hid (Px.out.via hb17)
  have QPy := Lib.hid (Py.out.via hb17)
  have QPz := Lib.hid (Pz.out.via hb17)
  have QTD := Lib.hid (TD.out.via hb17)
  have QTU := Lib.hid (TU.out.via hb17)
  have QHB := Lib.hid (HB.out.trans (hb17.mono HB.out.size))
  clear Lq Lr Lp Ls Lx Ly Lz Pq Pr_ Pp Ps Px Py Pz TD TU HB
  have Lq := QLq
  clear QLq
  have Lr := QLr
  clear QLr
  have Lp := QLp
  clear QLp
  have Ls := QLs
  clear QLs
  have Lx := QLx
  clear QLx
  have Ly := QLy
  clear QLy
  have Lz := QLz
  clear QLz
  have Pq := QPq
  clear QPq
  have Pr_ := QPr_
  clear QPr_
  have Pp := QPp
  clear QPp
  have Ps := QPs
  clear QPs
  have Px := QPx
  clear QPx
  have Py := QPy
  clear QPy
  have Pz := QPz
  clear QPz
  have TD := QTD
  clear QTD
  have TU := QTU
  clear QTU
  have HB := QHB
  clear QHB
  clear c0 c1
  clear hb17
  have ⟨c0, c1, _, _, _⟩ := Pp.out
  go_wp2_with fail
  refine (lsame_true _ true _ _ _ 4 (-4) Lp.out (by decide) (by decide) (by omega) (by omega)).mono ?_
  rintro e w18 ⟨rfl, hb18⟩
  have QLq := Lib.hid ((Lq.out.via hb18))
  have QLr := Lib.hid ((Lr.out.via hb18))
  have QLp := Lib.hid ((Lp.out.via hb18))
  have QLs := Lib.hid ((Ls.out.via hb18))
  have QLx := Lib.hid ((Lx.out.via hb18))
  have QLy := Lib.hid ((Ly.out.via hb18))
  have QLz := Lib.hid ((Lz.out.via hb18))
  have QPq := Lib.hid (Pq.out.via hb18)
  have QPr_ := Lib.hid (Pr_.out.via hb18)
  have QPp := Lib.hid (Pp.out.via hb18)
  have QPs := Lib.hid (Ps.out.via hb18)
  have QPx := Lib.hid (Px.out.via hb18)
  have QPy := Lib.hid (Py.out.via hb18)
  have QPz := Lib.hid (Pz.out.via hb18)
  have QTD := Lib.hid (TD.out.via hb18)
  have QTU := Lib.hid (TU.out.via hb18)
  have QHB := Lib.hid (HB.out.trans (hb18.mono HB.out.size))
  clear Lq Lr Lp Ls Lx Ly Lz Pq Pr_ Pp Ps Px Py Pz TD TU HB
  have Lq := QLq
  clear QLq
  have Lr := QLr
  clear QLr
  have Lp := QLp
  clear QLp
  have Ls := QLs
  clear QLs
  have Lx := QLx
  clear QLx
  have Ly := QLy
  clear QLy
  have Lz := QLz
  clear QLz
  have Pq := QPq
  clear QPq
  have Pr_ := QPr_
  clear QPr_
  have Pp := QPp
  clear QPp
  have Ps := QPs
  clear QPs
  have Px := QPx
  clear QPx
  have Py := QPy
  clear QPy
  have Pz := QPz
  clear QPz
  have TD := QTD
  clear QTD
  have TU := QTU
  clear QTU
  have HB := QHB
  clear QHB
  clear c0 c1
  clear hb18
  have ⟨c0, c1, _, _, _⟩ := Ps.out
  go_wp2_with fail
  refine (lsame_true _ true _ _ _ 1 (-1) Ls.out (by decide) (by decide) (by omega) (by omega)).mono ?_
  rintro e w19 ⟨rfl, hb19⟩
  have QLq := Lib.hid ((Lq.out.via hb19))
  have QLr := Lib.hid ((Lr.out.via hb19))
  have QLp := Lib.hid ((Lp.out.via hb19))
  have QLs := Lib.hid ((Ls.out.via hb19))
  have QLx := Lib.hid ((Lx.out.via hb19))
  have QLy := Lib.hid ((Ly.out.via hb19))
  have QLz := Lib.hid ((Lz.out.via hb19))
  have QPq := Lib.hid (Pq.out.via hb19)
  have QPr_ := Lib.hid (Pr_.out.via hb19)
  have QPp := Lib.hid (Pp.out.via hb19)
  have QPs := Lib.hid (Ps.out.via hb19)
  have QPx := Lib.hid (Px.out.via hb19)
  have QPy := Lib.hid (Py.out.via hb19)
  have QPz := Lib.hid (Pz.out.via hb19)
  have QTD := Lib.hid (TD.out.via hb19)
  have QTU := Lib.hid (TU.out.via hb19)
  have QHB := Lib.hid (HB.out.trans (hb19.mono HB.out.size))
  clear Lq Lr Lp Ls Lx Ly Lz Pq Pr_ Pp Ps Px Py Pz TD TU HB
  have Lq := QLq
  clear QLq
  have Lr := QLr
  clear QLr
  have Lp := QLp
  clear QLp
  have Ls := QLs
  clear QLs
  have Lx := QLx
  clear QLx
  have Ly := QLy
  clear QLy
  have Lz := QLz
  clear QLz
  have Pq := QPq
  clear QPq
  have Pr_ := QPr_
  clear QPr_
  have Pp := QPp
  clear QPp
  have Ps := QPs
  clear QPs
  have Px := QPx
  clear QPx
  have Py := QPy
  clear QPy
  have Pz := QPz
  clear QPz
  have TD := QTD
  clear QTD
  have TU := QTU
  clear QTU
  have HB := QHB
  clear QHB
  clear c0 c1
  clear hb19
  have ⟨c0, c1, _, _, _⟩ := Px.out
  go_wp2_with fail
  refine (lsame_true _ true _ _ _ 3 (-3) Lx.out (by decide) (by decide) (by omega) (by omega)).mono ?_
  rintro e w20 ⟨rfl, hb20⟩
  have QLq := Lib.hid ((Lq.out.via hb20))
  have QLr := Lib.hid ((Lr.out.via hb20))
  have QLp := Lib.hid ((Lp.out.via hb20))
  have QLs := Lib.hid ((Ls.out.via hb20))
  have QLx := Lib.hid ((Lx.out.via hb20))
  have QLy := Lib.hid ((Ly.out.via hb20))
  have QLz := Lib.hid ((Lz.out.via hb20))
  have QPq := Lib.hid (Pq.out.via hb20)
  have QPr_ := Lib.hid (Pr_.out.via hb20)
  have QPp := Lib.hid (Pp.out.via hb20)
  have QPs := Lib.hid (Ps.out.via hb20)
  have QPx := Lib.hid (Px.out.via hb20)
  have QPy := Lib.hid (Py.out.via hb20)
  have QPz := Lib.hid (Pz.out.via hb20)
  have QTD := Lib.hid (TD.out.via hb20)
  have QTU := Lib.hid (TU.out.via hb20)
  have QHB := Lib.hid (HB.out.trans (hb20.mono HB.out.size))
  clear Lq Lr Lp Ls Lx Ly Lz Pq Pr_ Pp Ps Px Py Pz TD TU HB
  have Lq := QLq
  clear QLq
  have Lr := QLr
  clear QLr
  have Lp := QLp
  clear QLp
  have Ls := QLs
  clear QLs
  have Lx := QLx
  clear QLx
  have Ly := QLy
  clear QLy
  have Lz := QLz
  clear QLz
  have Pq := QPq
  clear QPq
  have Pr_ := QPr_
  clear QPr_
  have Pp := QPp
  clear QPp
  have Ps := QPs
  clear QPs
  have Px := QPx
  clear QPx
  have Py := QPy
  clear QPy
  have Pz := QPz
  clear QPz
  have TD := QTD
  clear QTD
  have TU := QTU
  clear QTU
  have HB := QHB
  clear QHB
  clear c0 c1
  clear hb20
  have ⟨c0, c1, _, _, _⟩ := Py.out
  go_wp2_with fail
  refine (lsame_true _ false _ _ _ 6 (6) Ly.out (by decide) (by decide) (by omega) (by omega)).mono ?_
  rintro e w21 ⟨rfl, hb21⟩
  have QLq := Lib.hid ((Lq.out.via hb21))
  have QLr := Lib.hid ((Lr.out.via hb21))
  have QLp := Lib.hid ((Lp.out.via hb21))
  have QLs := Lib.hid ((Ls.out.via hb21))
  have QLx := Lib.hid ((Lx.out.via hb21))
  have QLy := Lib.hid ((Ly.out.via hb21))
  have QLz := Lib.hid ((Lz.out.via hb21))
  have QPq := Lib.hid (Pq.out.via hb21)
  have QPr_ := Lib.hid (Pr_.out.via hb21)
  have QPp := Lib.hid (Pp.out.via hb21)
  have QPs := Lib.hid (Ps.out.via hb21)
  have QPx := Lib.hid (Px.out.via hb21)
  have QPy := Lib.hid (Py.out.via hb21)
  have QPz := Lib.hid (Pz.out.via hb21)
  have QTD := Lib.hid (TD.out.via hb21)
  have QTU := Lib.hid (TU.out.via hb21)
  have QHB := Lib.hid (HB.out.trans (hb21.mono HB.out.size))
  clear Lq Lr Lp Ls Lx Ly Lz Pq Pr_ Pp Ps Px Py Pz TD TU HB
  have Lq := QLq
  clear QLq
  have Lr := QLr
  clear QLr
  have Lp := QLp
  clear QLp
  have Ls := QLs
  clear QLs
  have Lx := QLx
  clear QLx
  have Ly := QLy
  clear QLy
  have Lz := QLz
  clear QLz
  have Pq := QPq
  clear QPq
  have Pr_ := QPr_
  clear QPr_
  have Pp := QPp
  clear QPp
  have Ps := QPs
  clear QPs
  have Px := QPx
  clear QPx
  have Py := QPy
  clear QPy
  have Pz := QPz
  clear QPz
  have TD := QTD
  clear QTD
  have TU := QTU
  clear QTU
  have HB := QHB
  clear QHB
  clear c0 c1
  clear hb21
  have ⟨c0, c1, _, _, _⟩ := Pz.out
  go_wp2_with fail
  refine (lsame_true _ false _ _ _ 9 (9) Lz.out (by decide) (by decide) (by omega) (by omega)).mono ?_
  rintro e w22 ⟨rfl, hb22⟩
  have QLq := Lib.hid ((Lq.out.via hb22))
  have QLr := Lib.hid ((Lr.out.via hb22))
  have QLp := Lib.hid ((Lp.out.via hb22))
  have QLs := Lib.hid ((Ls.out.via hb22))
  have QLx := Lib.hid ((Lx.out.via hb22))
  have QLy := Lib.hid ((Ly.out.via hb22))
  have QLz := Lib.hid ((Lz.out.via hb22))
  have QPq := Lib.hid (Pq.out.via hb22)
  have QPr_ := Lib.hid (Pr_.out.via hb22)
  have QPp := Lib.hid (Pp.out.via hb22)
  have QPs := Lib.hid (Ps.out.via hb22)
  have QPx := Lib.hid (Px.out.via hb22)
  have QPy := Lib.hid (Py.out.via hb22)
  have QPz := Lib.hid (Pz.out.via hb22)
  have QTD := Lib.hid (TD.out.via hb22)
  have QTU := Lib.hid (TU.out.via hb22)
  have QHB := Lib.hid (HB.out.trans (hb22.mono HB.out.size))
  clear Lq Lr Lp Ls Lx Ly Lz Pq Pr_ Pp Ps Px Py Pz TD TU HB
  have Lq := QLq
  clear QLq
  have Lr := QLr
  clear QLr
  have Lp := QLp
  clear QLp
  have Ls := QLs
  clear QLs
  have Lx := QLx
  clear QLx
  have Ly := QLy
  clear QLy
  have Lz := QLz
  clear QLz
  have Pq := QPq
  clear QPq
  have Pr_ := QPr_
  clear QPr_
  have Pp := QPp
  clear QPp
  have Ps := QPs
  clear QPs
  have Px := QPx
  clear QPx
  have Py := QPy
  clear QPy
  have Pz := QPz
  clear QPz
  have TD := QTD
  clear QTD
  have TU := QTU
  clear QTU
  have HB := QHB
  clear QHB
  clear c0 c1
  clear hb22
  go_wp2
  go_ret
  exact ⟨rfl, HB.out⟩
end Go.Proofs.YtkajmglpmdhmnaaDoor

/- What a tied row's condition gives: the library's tables lie in their variables; numbers that come in; the witness. -/
namespace Go.Proofs.YtkajmglpmdhmnaaDoor
section
open Go.ChangeShapes Go.WideShapes Go.ChangeAt Go.RowKit Go.Joins

theorem cells_u32 : Tryd.prog.cellsOf 39 = 1 := by kernel_rfl
theorem cells_wide : Tryd.prog.cellsOf 24 = 2 := by kernel_rfl
theorem laidOut : laidOutB Tryd.prog = true := by kernel_rfl
theorem own : ownKnob Tryd.prog.godebug = none := by kernel_rfl
theorem wf_u32 {n : Int} (h : (Lit.int .u32 n).wf = true) : 0 ≤ n ∧ n < 4294967296 := by
  have h1 : IntKind.u32.min = 0 := rfl
  have h2 : IntKind.u32.max = 4294967295 := rfl
  simp only [Lit.wf, Bool.and_eq_true, decide_eq_true_eq] at h
  omega

set_option maxRecDepth 100000 in
theorem open_wide {H : Type} {enc : TypeId × Value → H} {w : World} {b0 : Nat} {v : Value} {d : DataW H} {p : List MemPlace}
    (hv : Value.okWide Tryd.prog w .any b0 24 v) (h : DataW.Trod enc Tryd.prog w 0 (fun _ => true) true 24 v d p) (hlt : ∀ x ∈ p, x.block < w.heap.size) :
    ∃ neg A n c xs, v = .agg #[.bool neg, .slice A n c] ∧ Lm w w.heap.size A n c xs := by
  obtain ⟨v0, v1, y0, y1, fuel, rfl, rfl, rfl, h0, h1⟩ := open_agg2 Tryd.underlying24 (by kernel_rfl) cells_wide hv h
  obtain ⟨neg, e0, rfl⟩ := DataW.trod_bool Tryd.underlying4 h0
  obtain rfl : v0 = .bool neg := by simpa using e0
  rcases open_ints Tryd.underlying22 Tryd.underlying39 cells_u32 h1 with ⟨e1, rfl⟩ | ⟨a, len, cap, zs, e1, _, hl, hm, hz, rfl, hcell, hwz⟩
  · obtain rfl : v1 = .slice none 0 0 := by simpa using e1
    exact ⟨neg, none, 0, 0, [], rfl, Lm.nil _ _⟩
  · obtain rfl : v1 = .slice (some a) len cap := by simpa using e1
    simp only [if_true] at hz
    have hget : ∀ j, j < len → (((zs.take len).map Int.toNat)[j]?.getD 0 : Nat) = (zs.getD j 0).toNat ∧ 0 ≤ zs.getD j 0 := by
      intro j hj
      have hjz : j < zs.length := by omega
      have e2 : (zs.take len)[j]? = some zs[j] := by rw [List.getElem?_take_of_lt hj, List.getElem?_eq_getElem hjz]
      have e3 : zs.getD j 0 = zs[j] := by simp [List.getD, List.getElem?_eq_getElem hjz]
      rw [List.getElem?_map, e2, e3]
      exact ⟨rfl, (wf_u32 (hwz _ (List.getElem_mem hjz))).1⟩
    refine ⟨neg, some a, len, cap, (zs.take len).map Int.toNat, rfl, by simp; omega, ?_, hl, by simp only [maxLen] at hm; omega, (fun e => by cases e), fun hn => ?_⟩
    · intro x hx
      obtain ⟨y, hy, rfl⟩ := List.mem_map.1 hx
      have := wf_u32 (hwz y (List.mem_of_mem_take hy))
      omega
    · obtain ⟨b, off, spot⟩ := a
      have hspot : spot = none := by simpa [Addr.add] using World.cell?_spot (hcell 0 (by omega))
      subst hspot
      have hbW : b < w.heap.size := hlt (.cell b off) (by simp only [List.mem_append]; exact .inr (MemPlace.mem_row.2 ⟨0, by omega, by simp⟩))
      refine ⟨b, off, rfl, hbW, fun j hj => ?_⟩
      have hcj := hcell j (by omega)
      rw [add_plain] at hcj
      rw [hcj, (hget j hj).1, Int.toNat_of_nonneg (hget j hj).2]
end
/-- The three tables, as the rows list them. -/
def laid3 : List (String × DataW Unit) := [("math/bits.deBruijn32tab", Rows.laid_math_bits_deBruijn32tab), ("math/bits.deBruijn64tab", Rows.laid_math_bits_deBruijn64tab), ("internal/strconv.uint64pow10", Rows.laid_internal_strconv_uint64pow10)]
theorem gD32 : Tryd.prog.globalNamed "math/bits.deBruijn32tab" = some 0 := by kernel_rfl
theorem gU64 : Tryd.prog.globalNamed "internal/strconv.uint64pow10" = some 1 := by kernel_rfl
theorem tabD_of {W : World} {rest : List (String × DataW Unit)} (h : laidMet Tryd.prog (("math/bits.deBruijn32tab", Rows.laid_math_bits_deBruijn32tab) :: rest) W) : TabD W := by
  have hT : Lib.TabIs Tryd.prog W "math/bits.deBruijn32tab" .u8 (List.map (fun (n : Nat) => (n : Int)) Lib.deBruijn32tab) := Lib.tabIs_of_head (n := 32) (t := 105) (e := 5) gD32 (by kernel_rfl) (by kernel_rfl) Tryd.underlying5 (by kernel_rfl) (by kernel_rfl) h
  intro j hj
  rw [hT.cell gD32 j (by rw [List.length_map]; exact hj)]
  have : j < Lib.deBruijn32tab.length := hj
  simp [List.getD, List.getElem?_map, List.getElem?_eq_getElem this]
theorem tabs_of {W : World} (h : laidMetH Tryd.prog laid3 W) : TabD W ∧ TabU W := by
  rw [MakeChecks.laidMetH_plain _ _ _ (by kernel_rfl)] at h
  refine ⟨tabD_of h, ?_⟩
  exact Lib.tabIs_of_head (n := 20) (t := 119) (e := 71) gU64 (by kernel_rfl) (by kernel_rfl) Tryd.underlying71 (by kernel_rfl) (by kernel_rfl) h.tail.tail
/-- The door's own heap meets the condition. -/
theorem door_met (os : Os) (args : Array Value) : laidMetH Tryd.prog laid3 ((World.doorLaid Tryd.prog 24 os).forCall (fun _ _ => 0) ⟨#[], args, []⟩).memory :=
  laidMetH_of_parts3 (fuel := 8) (laidMet_of_run' 8 (by kernel_rfl) (by kernel_rfl)) (by kernel_rfl) (by kernel_rfl)
end Go.Proofs.YtkajmglpmdhmnaaDoor

/- The law's 'long': whether one of three numbers is not valid, or has too many limbs. -/
namespace Go.Proofs.YtkajmglpmdhmnaaDoor
open Go.RowKit
theorem bxs3 {w w1 : World} {t0 t1 t2 : TypeId} {a0 a1 b0 b1 c0 c1 : Value} (hb : Below (((w.alloc (.cells #[a0, a1] t0)).alloc (.cells #[b0, b1] t1)).alloc (.cells #[c0, c1] t2)).heap.size (((w.alloc (.cells #[a0, a1] t0)).alloc (.cells #[b0, b1] t1)).alloc (.cells #[c0, c1] t2)) w1) :
    Pr w1 w.heap.size a0 a1 ∧ Pr w1 (w.heap.size + 1) b0 b1 ∧ Pr w1 (w.heap.size + 1 + 1) c0 c1 :=
  ⟨(((Pr.new w _ rfl a0 a1 t0).alloc _).alloc _).via hb, ((Pr.new _ _ (by simp) b0 b1 t1).alloc _).via hb, (Pr.new _ _ (by simp) c0 c1 t2).via hb⟩
section
variable (w : World) (na nb nc : Bool) (A B C : Option Addr) (n m k ca cb cc : Nat) (xs ys zs : List Nat) (q : Int) (hA : Lm w w.heap.size A n ca xs) (hB : Lm w w.heap.size B m cb ys) (hC : Lm w w.heap.size C k cc zs)
include hA hB hC
set_option maxRecDepth 100000 in
set_option maxHeartbeats 1000000 in
theorem long_a (k0 : chk na xs = 8) :
    Calls Tryd.prog 27 #[.int .i64 q, .agg #[.bool na, .slice A n ca], .agg #[.bool nb, .slice B m cb], .agg #[.bool nc, .slice C k cc]] w fun e w' => e = .returned (.bool true) ∧ Below w.heap.size w w' := by
  have h1a := hA.cap
  have h2a := hA.max
  have HA := Lib.hid hA
  have h1b := hB.cap
  have h2b := hB.max
  have HB := Lib.hid hB
  have h1c := hC.cap
  have h2c := hC.max
  have HC := Lib.hid hC
  clear hA hB hC
  have K0 := Lib.hid k0
  clear k0
  go_enter Tryd.func27, Tryd.ntmps27
  go_wp2_with fail
  refine (rcheck_bad _ _ _ _ _ _ (((HA.out.box _).box _).box _) K0.out).mono ?_
  rintro e w1 ⟨rfl, hb1⟩
  have ⟨P1, P2, P3⟩ := bxs3 hb1
  have HBl := Lib.hid (bbox (bbox (bbox hb1)))
  have MA := Lib.hid ((((HA.out.box _).box _).box _).via hb1)
  have MB := Lib.hid ((((HB.out.box _).box _).box _).via hb1)
  have MC := Lib.hid ((((HC.out.box _).box _).box _).via hb1)
  clear hb1
  have ⟨u0, u1, _, _, _⟩ := P1
  have ⟨u2, u3, _, _, _⟩ := P2
  have ⟨u4, u5, _, _, _⟩ := P3
  go_wp2
  go_ret
  first | exact ⟨rfl, HBl.out⟩ | exact ⟨ret_bool (by simp; omega), HBl.out⟩ | exact ⟨ret_bool (by simp [g0, g1, g2]), HBl.out⟩
set_option maxRecDepth 100000 in
set_option maxHeartbeats 1000000 in
theorem long_b (k0 : chk na xs = 0) (k1 : chk nb ys = 8) :
    Calls Tryd.prog 27 #[.int .i64 q, .agg #[.bool na, .slice A n ca], .agg #[.bool nb, .slice B m cb], .agg #[.bool nc, .slice C k cc]] w fun e w' => e = .returned (.bool true) ∧ Below w.heap.size w w' := by
  have h1a := hA.cap
  have h2a := hA.max
  have HA := Lib.hid hA
  have h1b := hB.cap
  have h2b := hB.max
  have HB := Lib.hid hB
  have h1c := hC.cap
  have h2c := hC.max
  have HC := Lib.hid hC
  clear hA hB hC
  have K0 := Lib.hid k0
  clear k0
  have K1 := Lib.hid k1
  clear k1
  go_enter Tryd.func27, Tryd.ntmps27
  go_wp2_with fail
  refine (rcheck_ok _ _ _ _ _ _ (((HA.out.box _).box _).box _) K0.out).mono ?_
  rintro e w1 ⟨rfl, hb1⟩
  have ⟨P1, P2, P3⟩ := bxs3 hb1
  have HBl := Lib.hid (bbox (bbox (bbox hb1)))
  have MA := Lib.hid ((((HA.out.box _).box _).box _).via hb1)
  have MB := Lib.hid ((((HB.out.box _).box _).box _).via hb1)
  have MC := Lib.hid ((((HC.out.box _).box _).box _).via hb1)
  clear hb1
  have ⟨u0, u1, _, _, _⟩ := P1
  have ⟨u2, u3, _, _, _⟩ := P2
  have ⟨u4, u5, _, _, _⟩ := P3
  go_wp2_with fail
  refine (rcheck_bad _ _ _ _ _ _ MB.out K1.out).mono ?_
  rintro e w2 ⟨rfl, hb2⟩
  have QP1 := P1.via hb2
  have QP2 := P2.via hb2
  have QP3 := P3.via hb2
  have QMA := Lib.hid (MA.out.via hb2)
  have QMB := Lib.hid (MB.out.via hb2)
  have QMC := Lib.hid (MC.out.via hb2)
  have QB := Lib.hid (HBl.out.trans (hb2.mono HBl.out.size))
  clear P1 P2 P3 MA MB MC HBl hb2 u0 u1 u2 u3 u4 u5
  have P1 := QP1
  clear QP1
  have P2 := QP2
  clear QP2
  have P3 := QP3
  clear QP3
  have MA := QMA
  clear QMA
  have MB := QMB
  clear QMB
  have MC := QMC
  clear QMC
  have HBl := QB
  clear QB
  have ⟨u0, u1, _, _, _⟩ := P1
  have ⟨u2, u3, _, _, _⟩ := P2
  have ⟨u4, u5, _, _, _⟩ := P3
  go_wp2
  go_ret
  first | exact ⟨rfl, HBl.out⟩ | exact ⟨ret_bool (by simp; omega), HBl.out⟩ | exact ⟨ret_bool (by simp [g0, g1, g2]), HBl.out⟩
set_option maxRecDepth 100000 in
set_option maxHeartbeats 1000000 in
theorem long_c (k0 : chk na xs = 0) (k1 : chk nb ys = 0) (k2 : chk nc zs = 8) :
    Calls Tryd.prog 27 #[.int .i64 q, .agg #[.bool na, .slice A n ca], .agg #[.bool nb, .slice B m cb], .agg #[.bool nc, .slice C k cc]] w fun e w' => e = .returned (.bool true) ∧ Below w.heap.size w w' := by
  have h1a := hA.cap
  have h2a := hA.max
  have HA := Lib.hid hA
  have h1b := hB.cap
  have h2b := hB.max
  have HB := Lib.hid hB
  have h1c := hC.cap
  have h2c := hC.max
  have HC := Lib.hid hC
  clear hA hB hC
  have K0 := Lib.hid k0
  clear k0
  have K1 := Lib.hid k1
  clear k1
  have K2 := Lib.hid k2
  clear k2
  go_enter Tryd.func27, Tryd.ntmps27
  go_wp2_with fail
  refine (rcheck_ok _ _ _ _ _ _ (((HA.out.box _).box _).box _) K0.out).mono ?_
  rintro e w1 ⟨rfl, hb1⟩
  have ⟨P1, P2, P3⟩ := bxs3 hb1
  have HBl := Lib.hid (bbox (bbox (bbox hb1)))
  have MA := Lib.hid ((((HA.out.box _).box _).box _).via hb1)
  have MB := Lib.hid ((((HB.out.box _).box _).box _).via hb1)
  have MC := Lib.hid ((((HC.out.box _).box _).box _).via hb1)
  clear hb1
  have ⟨u0, u1, _, _, _⟩ := P1
  have ⟨u2, u3, _, _, _⟩ := P2
  have ⟨u4, u5, _, _, _⟩ := P3
  go_wp2_with fail
  refine (rcheck_ok _ _ _ _ _ _ MB.out K1.out).mono ?_
  rintro e w2 ⟨rfl, hb2⟩
  have QP1 := P1.via hb2
  have QP2 := P2.via hb2
  have QP3 := P3.via hb2
  have QMA := Lib.hid (MA.out.via hb2)
  have QMB := Lib.hid (MB.out.via hb2)
  have QMC := Lib.hid (MC.out.via hb2)
  have QB := Lib.hid (HBl.out.trans (hb2.mono HBl.out.size))
  clear P1 P2 P3 MA MB MC HBl hb2 u0 u1 u2 u3 u4 u5
  have P1 := QP1
  clear QP1
  have P2 := QP2
  clear QP2
  have P3 := QP3
  clear QP3
  have MA := QMA
  clear QMA
  have MB := QMB
  clear QMB
  have MC := QMC
  clear QMC
  have HBl := QB
  clear QB
  have ⟨u0, u1, _, _, _⟩ := P1
  have ⟨u2, u3, _, _, _⟩ := P2
  have ⟨u4, u5, _, _, _⟩ := P3
  go_wp2_with fail
  refine (rcheck_bad _ _ _ _ _ _ MC.out K2.out).mono ?_
  rintro e w3 ⟨rfl, hb3⟩
  have QP1 := P1.via hb3
  have QP2 := P2.via hb3
  have QP3 := P3.via hb3
  have QMA := Lib.hid (MA.out.via hb3)
  have QMB := Lib.hid (MB.out.via hb3)
  have QMC := Lib.hid (MC.out.via hb3)
  have QB := Lib.hid (HBl.out.trans (hb3.mono HBl.out.size))
  clear P1 P2 P3 MA MB MC HBl hb3 u0 u1 u2 u3 u4 u5
  have P1 := QP1
  clear QP1
  have P2 := QP2
  clear QP2
  have P3 := QP3
  clear QP3
  have MA := QMA
  clear QMA
  have MB := QMB
  clear QMB
  have MC := QMC
  clear QMC
  have HBl := QB
  clear QB
  have ⟨u0, u1, _, _, _⟩ := P1
  have ⟨u2, u3, _, _, _⟩ := P2
  have ⟨u4, u5, _, _, _⟩ := P3
  go_wp2
  go_ret
  first | exact ⟨rfl, HBl.out⟩ | exact ⟨ret_bool (by simp; omega), HBl.out⟩ | exact ⟨ret_bool (by simp [g0, g1, g2]), HBl.out⟩
set_option maxRecDepth 100000 in
set_option maxHeartbeats 1000000 in
theorem long_d (k0 : chk na xs = 0) (k1 : chk nb ys = 0) (k2 : chk nc zs = 0) (g0 : q < (n : Int)) :
    Calls Tryd.prog 27 #[.int .i64 q, .agg #[.bool na, .slice A n ca], .agg #[.bool nb, .slice B m cb], .agg #[.bool nc, .slice C k cc]] w fun e w' => e = .returned (.bool true) ∧ Below w.heap.size w w' := by
  have h1a := hA.cap
  have h2a := hA.max
  have HA := Lib.hid hA
  have h1b := hB.cap
  have h2b := hB.max
  have HB := Lib.hid hB
  have h1c := hC.cap
  have h2c := hC.max
  have HC := Lib.hid hC
  clear hA hB hC
  have K0 := Lib.hid k0
  clear k0
  have K1 := Lib.hid k1
  clear k1
  have K2 := Lib.hid k2
  clear k2
  go_enter Tryd.func27, Tryd.ntmps27
  go_wp2_with fail
  refine (rcheck_ok _ _ _ _ _ _ (((HA.out.box _).box _).box _) K0.out).mono ?_
  rintro e w1 ⟨rfl, hb1⟩
  have ⟨P1, P2, P3⟩ := bxs3 hb1
  have HBl := Lib.hid (bbox (bbox (bbox hb1)))
  have MA := Lib.hid ((((HA.out.box _).box _).box _).via hb1)
  have MB := Lib.hid ((((HB.out.box _).box _).box _).via hb1)
  have MC := Lib.hid ((((HC.out.box _).box _).box _).via hb1)
  clear hb1
  have ⟨u0, u1, _, _, _⟩ := P1
  have ⟨u2, u3, _, _, _⟩ := P2
  have ⟨u4, u5, _, _, _⟩ := P3
  go_wp2_with fail
  refine (rcheck_ok _ _ _ _ _ _ MB.out K1.out).mono ?_
  rintro e w2 ⟨rfl, hb2⟩
  have QP1 := P1.via hb2
  have QP2 := P2.via hb2
  have QP3 := P3.via hb2
  have QMA := Lib.hid (MA.out.via hb2)
  have QMB := Lib.hid (MB.out.via hb2)
  have QMC := Lib.hid (MC.out.via hb2)
  have QB := Lib.hid (HBl.out.trans (hb2.mono HBl.out.size))
  clear P1 P2 P3 MA MB MC HBl hb2 u0 u1 u2 u3 u4 u5
  have P1 := QP1
  clear QP1
  have P2 := QP2
  clear QP2
  have P3 := QP3
  clear QP3
  have MA := QMA
  clear QMA
  have MB := QMB
  clear QMB
  have MC := QMC
  clear QMC
  have HBl := QB
  clear QB
  have ⟨u0, u1, _, _, _⟩ := P1
  have ⟨u2, u3, _, _, _⟩ := P2
  have ⟨u4, u5, _, _, _⟩ := P3
  go_wp2_with fail
  refine (rcheck_ok _ _ _ _ _ _ MC.out K2.out).mono ?_
  rintro e w3 ⟨rfl, hb3⟩
  have QP1 := P1.via hb3
  have QP2 := P2.via hb3
  have QP3 := P3.via hb3
  have QMA := Lib.hid (MA.out.via hb3)
  have QMB := Lib.hid (MB.out.via hb3)
  have QMC := Lib.hid (MC.out.via hb3)
  have QB := Lib.hid (HBl.out.trans (hb3.mono HBl.out.size))
  clear P1 P2 P3 MA MB MC HBl hb3 u0 u1 u2 u3 u4 u5
  have P1 := QP1
  clear QP1
  have P2 := QP2
  clear QP2
  have P3 := QP3
  clear QP3
  have MA := QMA
  clear QMA
  have MB := QMB
  clear QMB
  have MC := QMC
  clear QMC
  have HBl := QB
  clear QB
  have ⟨u0, u1, _, _, _⟩ := P1
  have ⟨u2, u3, _, _, _⟩ := P2
  have ⟨u4, u5, _, _, _⟩ := P3
  go_wp2
  go_ret
  first | exact ⟨rfl, HBl.out⟩ | exact ⟨ret_bool (by simp; omega), HBl.out⟩ | exact ⟨ret_bool (by simp [g0, g1, g2]), HBl.out⟩
set_option maxRecDepth 100000 in
set_option maxHeartbeats 1000000 in
theorem long_e (k0 : chk na xs = 0) (k1 : chk nb ys = 0) (k2 : chk nc zs = 0) (g0 : (n : Int) ≤ q) (g1 : q < (m : Int)) :
    Calls Tryd.prog 27 #[.int .i64 q, .agg #[.bool na, .slice A n ca], .agg #[.bool nb, .slice B m cb], .agg #[.bool nc, .slice C k cc]] w fun e w' => e = .returned (.bool true) ∧ Below w.heap.size w w' := by
  have h1a := hA.cap
  have h2a := hA.max
  have HA := Lib.hid hA
  have h1b := hB.cap
  have h2b := hB.max
  have HB := Lib.hid hB
  have h1c := hC.cap
  have h2c := hC.max
  have HC := Lib.hid hC
  clear hA hB hC
  have K0 := Lib.hid k0
  clear k0
  have K1 := Lib.hid k1
  clear k1
  have K2 := Lib.hid k2
  clear k2
  go_enter Tryd.func27, Tryd.ntmps27
  go_wp2_with fail
  refine (rcheck_ok _ _ _ _ _ _ (((HA.out.box _).box _).box _) K0.out).mono ?_
  rintro e w1 ⟨rfl, hb1⟩
  have ⟨P1, P2, P3⟩ := bxs3 hb1
  have HBl := Lib.hid (bbox (bbox (bbox hb1)))
  have MA := Lib.hid ((((HA.out.box _).box _).box _).via hb1)
  have MB := Lib.hid ((((HB.out.box _).box _).box _).via hb1)
  have MC := Lib.hid ((((HC.out.box _).box _).box _).via hb1)
  clear hb1
  have ⟨u0, u1, _, _, _⟩ := P1
  have ⟨u2, u3, _, _, _⟩ := P2
  have ⟨u4, u5, _, _, _⟩ := P3
  go_wp2_with fail
  refine (rcheck_ok _ _ _ _ _ _ MB.out K1.out).mono ?_
  rintro e w2 ⟨rfl, hb2⟩
  have QP1 := P1.via hb2
  have QP2 := P2.via hb2
  have QP3 := P3.via hb2
  have QMA := Lib.hid (MA.out.via hb2)
  have QMB := Lib.hid (MB.out.via hb2)
  have QMC := Lib.hid (MC.out.via hb2)
  have QB := Lib.hid (HBl.out.trans (hb2.mono HBl.out.size))
  clear P1 P2 P3 MA MB MC HBl hb2 u0 u1 u2 u3 u4 u5
  have P1 := QP1
  clear QP1
  have P2 := QP2
  clear QP2
  have P3 := QP3
  clear QP3
  have MA := QMA
  clear QMA
  have MB := QMB
  clear QMB
  have MC := QMC
  clear QMC
  have HBl := QB
  clear QB
  have ⟨u0, u1, _, _, _⟩ := P1
  have ⟨u2, u3, _, _, _⟩ := P2
  have ⟨u4, u5, _, _, _⟩ := P3
  go_wp2_with fail
  refine (rcheck_ok _ _ _ _ _ _ MC.out K2.out).mono ?_
  rintro e w3 ⟨rfl, hb3⟩
  have QP1 := P1.via hb3
  have QP2 := P2.via hb3
  have QP3 := P3.via hb3
  have QMA := Lib.hid (MA.out.via hb3)
  have QMB := Lib.hid (MB.out.via hb3)
  have QMC := Lib.hid (MC.out.via hb3)
  have QB := Lib.hid (HBl.out.trans (hb3.mono HBl.out.size))
  clear P1 P2 P3 MA MB MC HBl hb3 u0 u1 u2 u3 u4 u5
  have P1 := QP1
  clear QP1
  have P2 := QP2
  clear QP2
  have P3 := QP3
  clear QP3
  have MA := QMA
  clear QMA
  have MB := QMB
  clear QMB
  have MC := QMC
  clear QMC
  have HBl := QB
  clear QB
  have ⟨u0, u1, _, _, _⟩ := P1
  have ⟨u2, u3, _, _, _⟩ := P2
  have ⟨u4, u5, _, _, _⟩ := P3
  go_wp2
  go_ret
  first | exact ⟨rfl, HBl.out⟩ | exact ⟨ret_bool (by simp; omega), HBl.out⟩ | exact ⟨ret_bool (by simp [g0, g1, g2]), HBl.out⟩
set_option maxRecDepth 100000 in
set_option maxHeartbeats 1000000 in
theorem long_f (k0 : chk na xs = 0) (k1 : chk nb ys = 0) (k2 : chk nc zs = 0) (g0 : (n : Int) ≤ q) (g1 : (m : Int) ≤ q) (g2 : q < (k : Int)) :
    Calls Tryd.prog 27 #[.int .i64 q, .agg #[.bool na, .slice A n ca], .agg #[.bool nb, .slice B m cb], .agg #[.bool nc, .slice C k cc]] w fun e w' => e = .returned (.bool true) ∧ Below w.heap.size w w' := by
  have h1a := hA.cap
  have h2a := hA.max
  have HA := Lib.hid hA
  have h1b := hB.cap
  have h2b := hB.max
  have HB := Lib.hid hB
  have h1c := hC.cap
  have h2c := hC.max
  have HC := Lib.hid hC
  clear hA hB hC
  have K0 := Lib.hid k0
  clear k0
  have K1 := Lib.hid k1
  clear k1
  have K2 := Lib.hid k2
  clear k2
  go_enter Tryd.func27, Tryd.ntmps27
  go_wp2_with fail
  refine (rcheck_ok _ _ _ _ _ _ (((HA.out.box _).box _).box _) K0.out).mono ?_
  rintro e w1 ⟨rfl, hb1⟩
  have ⟨P1, P2, P3⟩ := bxs3 hb1
  have HBl := Lib.hid (bbox (bbox (bbox hb1)))
  have MA := Lib.hid ((((HA.out.box _).box _).box _).via hb1)
  have MB := Lib.hid ((((HB.out.box _).box _).box _).via hb1)
  have MC := Lib.hid ((((HC.out.box _).box _).box _).via hb1)
  clear hb1
  have ⟨u0, u1, _, _, _⟩ := P1
  have ⟨u2, u3, _, _, _⟩ := P2
  have ⟨u4, u5, _, _, _⟩ := P3
  go_wp2_with fail
  refine (rcheck_ok _ _ _ _ _ _ MB.out K1.out).mono ?_
  rintro e w2 ⟨rfl, hb2⟩
  have QP1 := P1.via hb2
  have QP2 := P2.via hb2
  have QP3 := P3.via hb2
  have QMA := Lib.hid (MA.out.via hb2)
  have QMB := Lib.hid (MB.out.via hb2)
  have QMC := Lib.hid (MC.out.via hb2)
  have QB := Lib.hid (HBl.out.trans (hb2.mono HBl.out.size))
  clear P1 P2 P3 MA MB MC HBl hb2 u0 u1 u2 u3 u4 u5
  have P1 := QP1
  clear QP1
  have P2 := QP2
  clear QP2
  have P3 := QP3
  clear QP3
  have MA := QMA
  clear QMA
  have MB := QMB
  clear QMB
  have MC := QMC
  clear QMC
  have HBl := QB
  clear QB
  have ⟨u0, u1, _, _, _⟩ := P1
  have ⟨u2, u3, _, _, _⟩ := P2
  have ⟨u4, u5, _, _, _⟩ := P3
  go_wp2_with fail
  refine (rcheck_ok _ _ _ _ _ _ MC.out K2.out).mono ?_
  rintro e w3 ⟨rfl, hb3⟩
  have QP1 := P1.via hb3
  have QP2 := P2.via hb3
  have QP3 := P3.via hb3
  have QMA := Lib.hid (MA.out.via hb3)
  have QMB := Lib.hid (MB.out.via hb3)
  have QMC := Lib.hid (MC.out.via hb3)
  have QB := Lib.hid (HBl.out.trans (hb3.mono HBl.out.size))
  clear P1 P2 P3 MA MB MC HBl hb3 u0 u1 u2 u3 u4 u5
  have P1 := QP1
  clear QP1
  have P2 := QP2
  clear QP2
  have P3 := QP3
  clear QP3
  have MA := QMA
  clear QMA
  have MB := QMB
  clear QMB
  have MC := QMC
  clear QMC
  have HBl := QB
  clear QB
  have ⟨u0, u1, _, _, _⟩ := P1
  have ⟨u2, u3, _, _, _⟩ := P2
  have ⟨u4, u5, _, _, _⟩ := P3
  go_wp2
  go_ret
  first | exact ⟨rfl, HBl.out⟩ | exact ⟨ret_bool (by simp; omega), HBl.out⟩ | exact ⟨ret_bool (by simp [g0, g1, g2]), HBl.out⟩
set_option maxRecDepth 100000 in
set_option maxHeartbeats 1000000 in
theorem long_no (k0 : chk na xs = 0) (k1 : chk nb ys = 0) (k2 : chk nc zs = 0) (g0 : (n : Int) ≤ q) (g1 : (m : Int) ≤ q) (g2 : (k : Int) ≤ q) :
    Calls Tryd.prog 27 #[.int .i64 q, .agg #[.bool na, .slice A n ca], .agg #[.bool nb, .slice B m cb], .agg #[.bool nc, .slice C k cc]] w fun e w' => e = .returned (.bool false) ∧ Below w.heap.size w w' := by
  have h1a := hA.cap
  have h2a := hA.max
  have HA := Lib.hid hA
  have h1b := hB.cap
  have h2b := hB.max
  have HB := Lib.hid hB
  have h1c := hC.cap
  have h2c := hC.max
  have HC := Lib.hid hC
  clear hA hB hC
  have K0 := Lib.hid k0
  clear k0
  have K1 := Lib.hid k1
  clear k1
  have K2 := Lib.hid k2
  clear k2
  go_enter Tryd.func27, Tryd.ntmps27
  go_wp2_with fail
  refine (rcheck_ok _ _ _ _ _ _ (((HA.out.box _).box _).box _) K0.out).mono ?_
  rintro e w1 ⟨rfl, hb1⟩
  have ⟨P1, P2, P3⟩ := bxs3 hb1
  have HBl := Lib.hid (bbox (bbox (bbox hb1)))
  have MA := Lib.hid ((((HA.out.box _).box _).box _).via hb1)
  have MB := Lib.hid ((((HB.out.box _).box _).box _).via hb1)
  have MC := Lib.hid ((((HC.out.box _).box _).box _).via hb1)
  clear hb1
  have ⟨u0, u1, _, _, _⟩ := P1
  have ⟨u2, u3, _, _, _⟩ := P2
  have ⟨u4, u5, _, _, _⟩ := P3
  go_wp2_with fail
  refine (rcheck_ok _ _ _ _ _ _ MB.out K1.out).mono ?_
  rintro e w2 ⟨rfl, hb2⟩
  have QP1 := P1.via hb2
  have QP2 := P2.via hb2
  have QP3 := P3.via hb2
  have QMA := Lib.hid (MA.out.via hb2)
  have QMB := Lib.hid (MB.out.via hb2)
  have QMC := Lib.hid (MC.out.via hb2)
  have QB := Lib.hid (HBl.out.trans (hb2.mono HBl.out.size))
  clear P1 P2 P3 MA MB MC HBl hb2 u0 u1 u2 u3 u4 u5
  have P1 := QP1
  clear QP1
  have P2 := QP2
  clear QP2
  have P3 := QP3
  clear QP3
  have MA := QMA
  clear QMA
  have MB := QMB
  clear QMB
  have MC := QMC
  clear QMC
  have HBl := QB
  clear QB
  have ⟨u0, u1, _, _, _⟩ := P1
  have ⟨u2, u3, _, _, _⟩ := P2
  have ⟨u4, u5, _, _, _⟩ := P3
  go_wp2_with fail
  refine (rcheck_ok _ _ _ _ _ _ MC.out K2.out).mono ?_
  rintro e w3 ⟨rfl, hb3⟩
  have QP1 := P1.via hb3
  have QP2 := P2.via hb3
  have QP3 := P3.via hb3
  have QMA := Lib.hid (MA.out.via hb3)
  have QMB := Lib.hid (MB.out.via hb3)
  have QMC := Lib.hid (MC.out.via hb3)
  have QB := Lib.hid (HBl.out.trans (hb3.mono HBl.out.size))
  clear P1 P2 P3 MA MB MC HBl hb3 u0 u1 u2 u3 u4 u5
  have P1 := QP1
  clear QP1
  have P2 := QP2
  clear QP2
  have P3 := QP3
  clear QP3
  have MA := QMA
  clear QMA
  have MB := QMB
  clear QMB
  have MC := QMC
  clear QMC
  have HBl := QB
  clear QB
  have ⟨u0, u1, _, _, _⟩ := P1
  have ⟨u2, u3, _, _, _⟩ := P2
  have ⟨u4, u5, _, _, _⟩ := P3
  go_wp2
  go_ret
  first | exact ⟨rfl, HBl.out⟩ | exact ⟨ret_bool (by simp; omega), HBl.out⟩ | exact ⟨ret_bool (by simp [g0, g1, g2]), HBl.out⟩
theorem long_any : (chk na xs = 0 ∧ chk nb ys = 0 ∧ chk nc zs = 0 ∧ (n : Int) ≤ q ∧ (m : Int) ≤ q ∧ (k : Int) ≤ q ∧
      Calls Tryd.prog 27 #[.int .i64 q, .agg #[.bool na, .slice A n ca], .agg #[.bool nb, .slice B m cb], .agg #[.bool nc, .slice C k cc]] w fun e w' => e = .returned (.bool false) ∧ Below w.heap.size w w') ∨
    Calls Tryd.prog 27 #[.int .i64 q, .agg #[.bool na, .slice A n ca], .agg #[.bool nb, .slice B m cb], .agg #[.bool nc, .slice C k cc]] w fun e w' => e = .returned (.bool true) ∧ Below w.heap.size w w' := by
  rcases chk_cases na xs with k0 | k0
  · rcases chk_cases nb ys with k1 | k1
    · rcases chk_cases nc zs with k2 | k2
      · by_cases g0 : (n : Int) ≤ q
        · by_cases g1 : (m : Int) ≤ q
          · by_cases g2 : (k : Int) ≤ q
            · exact .inl ⟨k0, k1, k2, g0, g1, g2, long_no w na nb nc A B C n m k ca cb cc xs ys zs q hA hB hC k0 k1 k2 g0 g1 g2⟩
            · exact .inr (long_f w na nb nc A B C n m k ca cb cc xs ys zs q hA hB hC k0 k1 k2 g0 g1 (by omega))
          · exact .inr (long_e w na nb nc A B C n m k ca cb cc xs ys zs q hA hB hC k0 k1 k2 g0 (by omega))
        · exact .inr (long_d w na nb nc A B C n m k ca cb cc xs ys zs q hA hB hC k0 k1 k2 (by omega))
      · exact .inr (long_c w na nb nc A B C n m k ca cb cc xs ys zs q hA hB hC k0 k1 k2)
    · exact .inr (long_b w na nb nc A B C n m k ca cb cc xs ys zs q hA hB hC k0 k1)
  · exact .inr (long_a w na nb nc A B C n m k ca cb cc xs ys zs q hA hB hC k0)
end
end Go.Proofs.YtkajmglpmdhmnaaDoor

/- Arithmetic on numbers of known size, in whole numbers. -/
namespace Go.Proofs.YtkajmglpmdhmnaaDoor
open Go.RowKit

/-- A whole number's size in limbs. -/
def Sz (k : Nat) (z : Int) : Prop := z.natAbs < 4294967296 ^ k
theorem Sz.mono {k l : Nat} {z : Int} (h : Sz k z) (hl : k ≤ l) : Sz l z := Nat.lt_of_lt_of_le h (pow_mono_ hl)
theorem Sz.len {k : Nat} {z : Int} (h : Sz k z) : (digs z.natAbs).length ≤ k := digs_len.2 h
theorem Sz.of_len {k : Nat} {z : Int} (h : (digs z.natAbs).length ≤ k) : Sz k z := digs_len.1 h
theorem Sz.add {k : Nat} {x y : Int} (hx : Sz k x) (hy : Sz k y) : Sz (k + 1) (x + y) := by
  unfold Sz at *
  rw [pow_succ_]
  omega
theorem Sz.neg {k : Nat} {x : Int} (hx : Sz k x) : Sz k (-x) := by unfold Sz at *; omega
theorem Sz.sub {k : Nat} {x y : Int} (hx : Sz k x) (hy : Sz k y) : Sz (k + 1) (x - y) := by
  unfold Sz at *
  rw [pow_succ_]
  omega
theorem Sz.mul {k l : Nat} {x y : Int} (hx : Sz k x) (hy : Sz l y) : Sz (k + l) (x * y) := by
  unfold Sz at *
  rw [Int.natAbs_mul, pow_add_]
  exact Nat.mul_lt_mul_of_lt_of_le hx (Nat.le_of_lt hy) (pow_pos_ _)
theorem Sz.abs {k : Nat} {x : Int} (hx : Sz k x) : Sz k (x.natAbs : Int) := hx
theorem toI_self (z : Int) : toI (decide (z < 0)) z.natAbs = z := by
  unfold toI
  by_cases h : z < 0
  · rw [if_pos (by simpa using h)]; omega
  · rw [if_neg (by simpa using h)]; omega
theorem chk_z {z : Int} {k : Nat} (h : Sz k z) (hk : k ≤ 4096) : chk (decide (z < 0)) (digs z.natAbs) = 0 :=
  chk_ok.2 ⟨Nat.le_trans h.len hk, digs_norm _, fun hn e => by have h1 := digs_nil.1 e; have h2 : z < 0 := (by simpa using hn); omega⟩
theorem chkB_z {x y : Int} {k l : Nat} (hx : Sz k x) (hk : k ≤ 4096) (hy : Sz l y) (hl : l ≤ 4096) : chkB (decide (x < 0)) (digs x.natAbs) (decide (y < 0)) (digs y.natAbs) = 0 :=
  chkB_ok.2 ⟨chk_z hx hk, chk_z hy hl⟩
/-- A valid number that came in, as a whole number. -/
theorem of_chk {neg : Bool} {xs : List Nat} (hc : chk neg xs = 0) (g : Good xs) {k : Nat} (hk : xs.length ≤ k) : ∃ z : Int, neg = decide (z < 0) ∧ xs = digs z.natAbs ∧ Sz k z := by
  have h1 := chk_digs hc g
  have h2 := (chk_ok.1 hc).2.2
  refine ⟨toI neg (val xs), ?_, by rw [toI_abs]; exact h1, by unfold Sz; rw [toI_abs]; exact Nat.lt_of_lt_of_le (val_lt g) (pow_mono_ hk)⟩
  have h3 : neg = true → 0 < val xs := fun hn => val_pos (chk_ok.1 hc).2.1 (h2 hn)
  unfold toI
  cases neg
  · rw [if_neg (by simp)]; simp
  · rw [if_pos rfl]; have := h3 rfl; simp; omega
/-- A call returns the number z, without an error. -/
def RN (w : World) (z : Int) (e : Ending) (w' : World) : Prop := ∃ A n c, e = .returned (.tuple #[.agg #[.bool (decide (z < 0)), .slice A n c], .int .i64 0]) ∧ Lm w' w'.heap.size A n c (digs z.natAbs) ∧ Below w.heap.size w w'
theorem mkN_z {z : Int} {k : Nat} (h : Sz k z) (hk : k ≤ 4096) : mkN (decide (z < 0)) z.natAbs = decide (z < 0) ∧ mkL z.natAbs = digs z.natAbs ∧ mkE z.natAbs = 0 := by
  have hl := Nat.le_trans h.len hk
  refine ⟨?_, by unfold mkL; rw [if_pos hl], by unfold mkE; rw [if_pos hl]⟩
  unfold mkN
  rw [decide_eq_true hl, Bool.true_and]
  by_cases hz : z < 0
  · rw [decide_eq_true hz, decide_eq_true (show z.natAbs ≠ 0 by omega)]; rfl
  · rw [decide_eq_false hz]; rfl
theorem rz_rn {w : World} {z : Int} {k : Nat} (h : Sz k z) (hk : k ≤ 4096) {e : Ending} {w' : World} (hr : RZ w z e w') : RN w z e w' := by
  obtain ⟨h1, h2, h3⟩ := mkN_z h hk
  unfold RZ at hr
  rw [h1, h2, h3] at hr
  exact hr
section
variable (w : World) (A B : Option Addr) (n m ca cb k : Nat) (x y : Int) (hA : Lm w w.heap.size A n ca (digs x.natAbs)) (hB : Lm w w.heap.size B m cb (digs y.natAbs)) (hx : Sz k x) (hy : Sz k y) (hk : k ≤ 2000)
include hA hB hx hy hk
theorem add_z : Calls Tryd.prog 19 #[.agg #[.bool (decide (x < 0)), .slice A n ca], .agg #[.bool (decide (y < 0)), .slice B m cb]] w (RN w (x + y)) := by
  have h := add_ok w _ _ A B n m ca cb _ _ hA hB (chkB_z hx (by omega) hy (by omega))
  rw [toI_self, toI_self] at h
  exact h.mono fun e w' hr => rz_rn (hx.add hy) (by omega) hr
theorem sub_z : Calls Tryd.prog 28 #[.agg #[.bool (decide (x < 0)), .slice A n ca], .agg #[.bool (decide (y < 0)), .slice B m cb]] w (RN w (x - y)) := by
  have h := sub_ok w _ _ A B n m ca cb _ _ hA hB (chkB_z hx (by omega) hy (by omega))
  rw [toI_self, toI_self] at h
  exact h.mono fun e w' hr => rz_rn (hx.sub hy) (by omega) hr
theorem mul_z : Calls Tryd.prog 22 #[.agg #[.bool (decide (x < 0)), .slice A n ca], .agg #[.bool (decide (y < 0)), .slice B m cb]] w (RN w (x * y)) := by
  have h := mul_ok w _ _ A B n m ca cb _ _ hA hB (chkB_z hx (by omega) hy (by omega))
  have e1 := rz_of w (decide (x < 0) != decide (y < 0)) (x.natAbs * y.natAbs) (z := x * y) (by rw [← toI_mul, toI_self, toI_self])
  rw [e1] at h
  exact h.mono fun e w' hr => rz_rn (hx.mul hy) (by omega) hr
theorem add_n {na nb : Bool} (ha : decide (x < 0) = na) (hb : decide (y < 0) = nb) : Calls Tryd.prog 19 #[.agg #[.bool na, .slice A n ca], .agg #[.bool nb, .slice B m cb]] w (RN w (x + y)) := by
  subst ha hb
  exact add_z w A B n m ca cb k x y hA hB hx hy hk
theorem sub_n {na nb : Bool} (ha : decide (x < 0) = na) (hb : decide (y < 0) = nb) : Calls Tryd.prog 28 #[.agg #[.bool na, .slice A n ca], .agg #[.bool nb, .slice B m cb]] w (RN w (x - y)) := by
  subst ha hb
  exact sub_z w A B n m ca cb k x y hA hB hx hy hk
theorem mul_n {na nb : Bool} (ha : decide (x < 0) = na) (hb : decide (y < 0) = nb) : Calls Tryd.prog 22 #[.agg #[.bool na, .slice A n ca], .agg #[.bool nb, .slice B m cb]] w (RN w (x * y)) := by
  subst ha hb
  exact mul_z w A B n m ca cb k x y hA hB hx hy hk
end
end Go.Proofs.YtkajmglpmdhmnaaDoor

/- The law WideRing at any three numbers: the walk. -/
namespace Go.Proofs.YtkajmglpmdhmnaaDoor
open Go.RowKit

theorem sameB_z {x y : Int} (h : x = y) : sameB (decide (x < 0)) (digs x.natAbs) (decide (y < 0)) (digs y.natAbs) = true := by subst h; exact sameB_self _ _

theorem rsame_n (w : World) (A B : Option Addr) (n m ca cb : Nat) (x y : Int) {na nb : Bool} (hA : Lm w w.heap.size A n ca (digs x.natAbs)) (hB : Lm w w.heap.size B m cb (digs y.natAbs)) (ha : decide (x < 0) = na) (hb : decide (y < 0) = nb) (h : x = y) :
    Calls Tryd.prog 15 #[.agg #[.bool na, .slice A n ca], .agg #[.bool nb, .slice B m cb]] w fun e w' => e = .returned (.bool true) ∧ Below w.heap.size w w' := by
  subst ha hb
  have e := rsame_any w (decide (x < 0)) (decide (y < 0)) A B n m ca cb _ _ hA hB
  rw [sameB_z h] at e
  exact e

set_option maxRecDepth 100000 in
set_option maxHeartbeats 1000000 in
theorem ring_long (w : World) (na nb nc : Bool) (A B C : Option Addr) (n m k ca cb cc : Nat) (xs ys zs : List Nat) (hA : Lm w w.heap.size A n ca xs) (hB : Lm w w.heap.size B m cb ys) (hC : Lm w w.heap.size C k cc zs) (hD : TabD w) (hU : TabU w)
    (hl : ∀ W : World, Lm W W.heap.size A n ca xs → Lm W W.heap.size B m cb ys → Lm W W.heap.size C k cc zs → Calls Tryd.prog 27 #[.int .i64 100, .agg #[.bool na, .slice A n ca], .agg #[.bool nb, .slice B m cb], .agg #[.bool nc, .slice C k cc]] W fun e w' => e = .returned (.bool true) ∧ Below W.heap.size W w') :
    Calls Tryd.prog 5 #[.agg #[.bool na, .slice A n ca], .agg #[.bool nb, .slice B m cb], .agg #[.bool nc, .slice C k cc]] w fun e w' => e = .returned (.bool true) ∧ Below w.heap.size w w' := by
  have LA := Lib.hid hA
  have LB := Lib.hid hB
  have LC := Lib.hid hC
  have TD := Lib.hid hD
  have TU := Lib.hid hU
  have HL := Lib.hid hl
  have HB : Hid (Below w.heap.size w w) := Below.refl _ _
  clear hA hB hC hD hU hl
  go_enter Tryd.func5, Tryd.ntmps5
  go_wp2_with fail
  refine (alive_any _ (((TD.out.box _).box _).box _) (((TU.out.box _).box _).box _)).mono ?_
  rintro e w1 ⟨rfl, hb1⟩
  have QLA := Lib.hid ((((LA.out.box _).box _).box _).via hb1)
  have QLB := Lib.hid ((((LB.out.box _).box _).box _).via hb1)
  have QLC := Lib.hid ((((LC.out.box _).box _).box _).via hb1)
  have QTD := Lib.hid ((((TD.out.box _).box _).box _).via hb1)
  have QTU := Lib.hid ((((TU.out.box _).box _).box _).via hb1)
  have QHB := Lib.hid (HB.out.trans ((bbox (bbox (bbox hb1))).mono HB.out.size))
  have ⟨N0, N1, N2⟩ := bxs3 hb1
  have PA := Lib.hid N0
  have PB := Lib.hid N1
  have PC := Lib.hid N2
  clear N0 N1 N2
  clear LA LB LC TD TU HB
  have LA := QLA
  clear QLA
  have LB := QLB
  clear QLB
  have LC := QLC
  clear QLC
  have TD := QTD
  clear QTD
  have TU := QTU
  clear QTU
  have HB := QHB
  clear QHB
  clear hb1
  have ⟨c0, c1, _, _, _⟩ := PA.out
  have ⟨c2, c3, _, _, _⟩ := PB.out
  have ⟨c4, c5, _, _, _⟩ := PC.out
  go_wp2_with fail
  refine (HL.out _ LA.out LB.out LC.out).mono ?_
  rintro e w2 ⟨rfl, hb2⟩
  have QLA := Lib.hid (LA.out.via hb2)
  have QLB := Lib.hid (LB.out.via hb2)
  have QLC := Lib.hid (LC.out.via hb2)
  have QPA := Lib.hid (PA.out.via hb2)
  have QPB := Lib.hid (PB.out.via hb2)
  have QPC := Lib.hid (PC.out.via hb2)
  have QTD := Lib.hid (TD.out.via hb2)
  have QTU := Lib.hid (TU.out.via hb2)
  have QHB := Lib.hid (HB.out.trans (hb2.mono HB.out.size))
  clear LA LB LC PA PB PC TD TU HB
  have LA := QLA
  clear QLA
  have LB := QLB
  clear QLB
  have LC := QLC
  clear QLC
  have PA := QPA
  clear QPA
  have PB := QPB
  clear QPB
  have PC := QPC
  clear QPC
  have TD := QTD
  clear QTD
  have TU := QTU
  clear QTU
  have HB := QHB
  clear QHB
  clear c0 c1 c2 c3 c4 c5
  clear hb2
  go_wp2
  go_ret
  exact ⟨rfl, HB.out⟩

set_option maxRecDepth 100000 in
set_option maxHeartbeats 4000000 in
theorem ring_short (w : World) (A B C : Option Addr) (n m k ca cb cc : Nat) (x y z : Int) (hA : Lm w w.heap.size A n ca (digs x.natAbs)) (hB : Lm w w.heap.size B m cb (digs y.natAbs)) (hC : Lm w w.heap.size C k cc (digs z.natAbs)) (hD : TabD w) (hU : TabU w)
    (hx : Sz 100 x) (hy : Sz 100 y) (hz : Sz 100 z) :
    Calls Tryd.prog 5 #[.agg #[.bool (decide (x < 0)), .slice A n ca], .agg #[.bool (decide (y < 0)), .slice B m cb], .agg #[.bool (decide (z < 0)), .slice C k cc]] w fun e w' => e = .returned (.bool true) ∧ Below w.heap.size w w' := by
  have LA := Lib.hid hA
  have LB := Lib.hid hB
  have LC := Lib.hid hC
  have TD := Lib.hid hD
  have TU := Lib.hid hU
  have SX := Lib.hid hx
  have SY := Lib.hid hy
  have SZ := Lib.hid hz
  have hn : n ≤ 100 := by rw [← hA.len]; exact hx.len
  have hm : m ≤ 100 := by rw [← hB.len]; exact hy.len
  have hk : k ≤ 100 := by rw [← hC.len]; exact hz.len
  have HB : Hid (Below w.heap.size w w) := Below.refl _ _
  have GX := Lib.hid (digs_good x.natAbs)
  have GY := Lib.hid (digs_good y.natAbs)
  have hal := hA.cap
  have haz := hA.max
  clear hA hB hC hD hU hx hy hz
  obtain ⟨nx, hnx⟩ : ∃ b, decide (x < 0) = b := ⟨_, rfl⟩
  obtain ⟨ny, hny⟩ : ∃ b, decide (y < 0) = b := ⟨_, rfl⟩
  obtain ⟨nz, hnz⟩ : ∃ b, decide (z < 0) = b := ⟨_, rfl⟩
  have HX := Lib.hid hnx
  have HY := Lib.hid hny
  have HZ := Lib.hid hnz
  rw [hnx, hny, hnz]
  clear hnx hny hnz
  go_enter Tryd.func5, Tryd.ntmps5
  go_wp2_with fail
  refine (alive_any _ (((TD.out.box _).box _).box _) (((TU.out.box _).box _).box _)).mono ?_
  rintro e w1 ⟨rfl, hb1⟩
  have QLA := Lib.hid ((((LA.out.box _).box _).box _).via hb1)
  have QLB := Lib.hid ((((LB.out.box _).box _).box _).via hb1)
  have QLC := Lib.hid ((((LC.out.box _).box _).box _).via hb1)
  have QTD := Lib.hid ((((TD.out.box _).box _).box _).via hb1)
  have QTU := Lib.hid ((((TU.out.box _).box _).box _).via hb1)
  have QHB := Lib.hid (HB.out.trans ((bbox (bbox (bbox hb1))).mono HB.out.size))
  have ⟨N0, N1, N2⟩ := bxs3 hb1
  have PA := Lib.hid N0
  have PB := Lib.hid N1
  have PC := Lib.hid N2
  clear N0 N1 N2
  clear LA LB LC TD TU HB
  have LA := QLA
  clear QLA
  have LB := QLB
  clear QLB
  have LC := QLC
  clear QLC
  have TD := QTD
  clear QTD
  have TU := QTU
  clear QTU
  have HB := QHB
  clear QHB
  clear hb1
  have ⟨c0, c1, _, _, _⟩ := PA.out
  have ⟨c2, c3, _, _, _⟩ := PB.out
  have ⟨c4, c5, _, _, _⟩ := PC.out
  go_wp2_with fail
  refine (long_no _ _ _ _ _ _ _ n m k _ _ _ _ _ _ 100 LA.out LB.out LC.out (by rw [← HX.out]; exact chk_z SX.out (by omega)) (by rw [← HY.out]; exact chk_z SY.out (by omega)) (by rw [← HZ.out]; exact chk_z SZ.out (by omega)) (by omega) (by omega) (by omega)).mono ?_
  rintro e w2 ⟨rfl, hb2⟩
  have QLA := Lib.hid (LA.out.via hb2)
  have QLB := Lib.hid (LB.out.via hb2)
  have QLC := Lib.hid (LC.out.via hb2)
  have QPA := Lib.hid (PA.out.via hb2)
  have QPB := Lib.hid (PB.out.via hb2)
  have QPC := Lib.hid (PC.out.via hb2)
  have QTD := Lib.hid (TD.out.via hb2)
  have QTU := Lib.hid (TU.out.via hb2)
  have QHB := Lib.hid (HB.out.trans (hb2.mono HB.out.size))
  clear LA LB LC PA PB PC TD TU HB
  have LA := QLA
  clear QLA
  have LB := QLB
  clear QLB
  have LC := QLC
  clear QLC
  have PA := QPA
  clear QPA
  have PB := QPB
  clear QPB
  have PC := QPC
  clear QPC
  have TD := QTD
  clear QTD
  have TU := QTU
  clear QTU
  have HB := QHB
  clear QHB
  clear c0 c1 c2 c3 c4 c5
  clear hb2
  have ⟨c0, c1, _, _, _⟩ := PA.out
  have ⟨c2, c3, _, _, _⟩ := PB.out
  go_wp2_with fail
  refine (add_n _ _ _ _ _ _ _ 300 (x) (y) LA.out LB.out (SX.out.mono (by omega)) (SY.out.mono (by omega)) (by omega) HX.out HY.out).mono ?_
  rintro e w3 ⟨As, ns, cs, rfl, hs, hb3⟩
  have QLA := Lib.hid (LA.out.via hb3)
  have QLB := Lib.hid (LB.out.via hb3)
  have QLC := Lib.hid (LC.out.via hb3)
  have QPA := Lib.hid (PA.out.via hb3)
  have QPB := Lib.hid (PB.out.via hb3)
  have QPC := Lib.hid (PC.out.via hb3)
  have QTD := Lib.hid (TD.out.via hb3)
  have QTU := Lib.hid (TU.out.via hb3)
  have QHB := Lib.hid (HB.out.trans (hb3.mono HB.out.size))
  clear LA LB LC PA PB PC TD TU HB
  have LA := QLA
  clear QLA
  have LB := QLB
  clear QLB
  have LC := QLC
  clear QLC
  have PA := QPA
  clear QPA
  have PB := QPB
  clear QPB
  have PC := QPC
  clear QPC
  have TD := QTD
  clear QTD
  have TU := QTU
  clear QTU
  have HB := QHB
  clear QHB
  have Ls := Lib.hid hs
  have Ss : Hid (Sz 101 (x + y)) := SX.out.add SY.out
  clear hs
  obtain ⟨gs, hgs⟩ : ∃ b, decide (x + y < 0) = b := ⟨_, rfl⟩
  have Hs := Lib.hid hgs
  rw [hgs]
  clear hgs
  clear c0 c1 c2 c3
  clear hb3
  have ⟨c0, c1, _, _, _⟩ := PB.out
  have ⟨c2, c3, _, _, _⟩ := PA.out
  go_wp2_with fail
  refine (add_n _ _ _ _ _ _ _ 300 (y) (x) (LB.out.box _) (LA.out.box _) (SY.out.mono (by omega)) (SX.out.mono (by omega)) (by omega) HY.out HX.out).mono ?_
  rintro e w4 ⟨At, nt, ct, rfl, ht, hb4⟩
  have QLA := Lib.hid ((LA.out.box _).via hb4)
  have QLB := Lib.hid ((LB.out.box _).via hb4)
  have QLC := Lib.hid ((LC.out.box _).via hb4)
  have QLs := Lib.hid ((Ls.out.box _).via hb4)
  have QPA := Lib.hid ((PA.out.alloc _).via hb4)
  have QPB := Lib.hid ((PB.out.alloc _).via hb4)
  have QPC := Lib.hid ((PC.out.alloc _).via hb4)
  have QTD := Lib.hid ((TD.out.box _).via hb4)
  have QTU := Lib.hid ((TU.out.box _).via hb4)
  have QHB := Lib.hid (HB.out.trans ((bbox hb4).mono HB.out.size))
  have Ps := Lib.hid ((Pr.new _ _ rfl _ _ _).via hb4)
  clear LA LB LC Ls PA PB PC TD TU HB
  have LA := QLA
  clear QLA
  have LB := QLB
  clear QLB
  have LC := QLC
  clear QLC
  have Ls := QLs
  clear QLs
  have PA := QPA
  clear QPA
  have PB := QPB
  clear QPB
  have PC := QPC
  clear QPC
  have TD := QTD
  clear QTD
  have TU := QTU
  clear QTU
  have HB := QHB
  clear QHB
  have Lt := Lib.hid ht
  have St : Hid (Sz 101 (y + x)) := SY.out.add SX.out
  clear ht
  obtain ⟨gt, hgt⟩ : ∃ b, decide (y + x < 0) = b := ⟨_, rfl⟩
  have Ht := Lib.hid hgt
  rw [hgt]
  clear hgt
  clear c0 c1 c2 c3
  clear hb4
  have ⟨c0, c1, _, _, _⟩ := Ps.out
  have ⟨c2, c3, _, _, _⟩ := PB.out
  go_wp2_with fail
  refine (sub_n _ _ _ _ _ _ _ 300 (x + y) (y) (Ls.out.box _) (LB.out.box _) (Ss.out.mono (by omega)) (SY.out.mono (by omega)) (by omega) Hs.out HY.out).mono ?_
  rintro e w5 ⟨Ad, nd, cd, rfl, hd, hb5⟩
  have QLA := Lib.hid ((LA.out.box _).via hb5)
  have QLB := Lib.hid ((LB.out.box _).via hb5)
  have QLC := Lib.hid ((LC.out.box _).via hb5)
  have QLs := Lib.hid ((Ls.out.box _).via hb5)
  have QLt := Lib.hid ((Lt.out.box _).via hb5)
  have QPA := Lib.hid ((PA.out.alloc _).via hb5)
  have QPB := Lib.hid ((PB.out.alloc _).via hb5)
  have QPC := Lib.hid ((PC.out.alloc _).via hb5)
  have QPs := Lib.hid ((Ps.out.alloc _).via hb5)
  have QTD := Lib.hid ((TD.out.box _).via hb5)
  have QTU := Lib.hid ((TU.out.box _).via hb5)
  have QHB := Lib.hid (HB.out.trans ((bbox hb5).mono HB.out.size))
  have Pt := Lib.hid ((Pr.new _ _ rfl _ _ _).via hb5)
  clear LA LB LC Ls Lt PA PB PC Ps TD TU HB
  have LA := QLA
  clear QLA
  have LB := QLB
  clear QLB
  have LC := QLC
  clear QLC
  have Ls := QLs
  clear QLs
  have Lt := QLt
  clear QLt
  have PA := QPA
  clear QPA
  have PB := QPB
  clear QPB
  have PC := QPC
  clear QPC
  have Ps := QPs
  clear QPs
  have TD := QTD
  clear QTD
  have TU := QTU
  clear QTU
  have HB := QHB
  clear QHB
  have Ld := Lib.hid hd
  have Sd : Hid (Sz 102 (x + y - y)) := Ss.out.sub (SY.out.mono (by omega))
  clear hd
  obtain ⟨gd, hgd⟩ : ∃ b, decide (x + y - y < 0) = b := ⟨_, rfl⟩
  have Hd := Lib.hid hgd
  rw [hgd]
  clear hgd
  clear c0 c1 c2 c3
  clear hb5
  have ⟨c0, c1, _, _, _⟩ := Ps.out
  have ⟨c2, c3, _, _, _⟩ := PC.out
  go_wp2_with fail
  refine (mul_n _ _ _ _ _ _ _ 300 (x + y) (z) (Ls.out.box _) (LC.out.box _) (Ss.out.mono (by omega)) (SZ.out.mono (by omega)) (by omega) Hs.out HZ.out).mono ?_
  rintro e w6 ⟨Ap, np, cp, rfl, hp, hb6⟩
  have QLA := Lib.hid ((LA.out.box _).via hb6)
  have QLB := Lib.hid ((LB.out.box _).via hb6)
  have QLC := Lib.hid ((LC.out.box _).via hb6)
  have QLs := Lib.hid ((Ls.out.box _).via hb6)
  have QLt := Lib.hid ((Lt.out.box _).via hb6)
  have QLd := Lib.hid ((Ld.out.box _).via hb6)
  have QPA := Lib.hid ((PA.out.alloc _).via hb6)
  have QPB := Lib.hid ((PB.out.alloc _).via hb6)
  have QPC := Lib.hid ((PC.out.alloc _).via hb6)
  have QPs := Lib.hid ((Ps.out.alloc _).via hb6)
  have QPt := Lib.hid ((Pt.out.alloc _).via hb6)
  have QTD := Lib.hid ((TD.out.box _).via hb6)
  have QTU := Lib.hid ((TU.out.box _).via hb6)
  have QHB := Lib.hid (HB.out.trans ((bbox hb6).mono HB.out.size))
  have Pd := Lib.hid ((Pr.new _ _ rfl _ _ _).via hb6)
  clear LA LB LC Ls Lt Ld PA PB PC Ps Pt TD TU HB
  have LA := QLA
  clear QLA
  have LB := QLB
  clear QLB
  have LC := QLC
  clear QLC
  have Ls := QLs
  clear QLs
  have Lt := QLt
  clear QLt
  have Ld := QLd
  clear QLd
  have PA := QPA
  clear QPA
  have PB := QPB
  clear QPB
  have PC := QPC
  clear QPC
  have Ps := QPs
  clear QPs
  have Pt := QPt
  clear QPt
  have TD := QTD
  clear QTD
  have TU := QTU
  clear QTU
  have HB := QHB
  clear QHB
  have Lp := Lib.hid hp
  have Sp : Hid (Sz 201 ((x + y) * z)) := Ss.out.mul SZ.out
  clear hp
  obtain ⟨gp, hgp⟩ : ∃ b, decide ((x + y) * z < 0) = b := ⟨_, rfl⟩
  have Hp := Lib.hid hgp
  rw [hgp]
  clear hgp
  clear c0 c1 c2 c3
  clear hb6
  have ⟨c0, c1, _, _, _⟩ := PA.out
  have ⟨c2, c3, _, _, _⟩ := PC.out
  go_wp2_with fail
  refine (mul_n _ _ _ _ _ _ _ 300 (x) (z) (LA.out.box _) (LC.out.box _) (SX.out.mono (by omega)) (SZ.out.mono (by omega)) (by omega) HX.out HZ.out).mono ?_
  rintro e w7 ⟨Ae, ne, ce, rfl, he, hb7⟩
  have QLA := Lib.hid ((LA.out.box _).via hb7)
  have QLB := Lib.hid ((LB.out.box _).via hb7)
  have QLC := Lib.hid ((LC.out.box _).via hb7)
  have QLs := Lib.hid ((Ls.out.box _).via hb7)
  have QLt := Lib.hid ((Lt.out.box _).via hb7)
  have QLd := Lib.hid ((Ld.out.box _).via hb7)
  have QLp := Lib.hid ((Lp.out.box _).via hb7)
  have QPA := Lib.hid ((PA.out.alloc _).via hb7)
  have QPB := Lib.hid ((PB.out.alloc _).via hb7)
  have QPC := Lib.hid ((PC.out.alloc _).via hb7)
  have QPs := Lib.hid ((Ps.out.alloc _).via hb7)
  have QPt := Lib.hid ((Pt.out.alloc _).via hb7)
  have QPd := Lib.hid ((Pd.out.alloc _).via hb7)
  have QTD := Lib.hid ((TD.out.box _).via hb7)
  have QTU := Lib.hid ((TU.out.box _).via hb7)
  have QHB := Lib.hid (HB.out.trans ((bbox hb7).mono HB.out.size))
  have Pp := Lib.hid ((Pr.new _ _ rfl _ _ _).via hb7)
  clear LA LB LC Ls Lt Ld Lp PA PB PC Ps Pt Pd TD TU HB
  have LA := QLA
  clear QLA
  have LB := QLB
  clear QLB
  have LC := QLC
  clear QLC
  have Ls := QLs
  clear QLs
  have Lt := QLt
  clear QLt
  have Ld := QLd
  clear QLd
  have Lp := QLp
  clear QLp
  have PA := QPA
  clear QPA
  have PB := QPB
  clear QPB
  have PC := QPC
  clear QPC
  have Ps := QPs
  clear QPs
  have Pt := QPt
  clear QPt
  have Pd := QPd
  clear QPd
  have TD := QTD
  clear QTD
  have TU := QTU
  clear QTU
  have HB := QHB
  clear QHB
  have Le := Lib.hid he
  have Se : Hid (Sz 200 (x * z)) := SX.out.mul SZ.out
  clear he
  obtain ⟨ge, hge⟩ : ∃ b, decide (x * z < 0) = b := ⟨_, rfl⟩
  have He := Lib.hid hge
  rw [hge]
  clear hge
  clear c0 c1 c2 c3
  clear hb7
  have ⟨c0, c1, _, _, _⟩ := PC.out
  have ⟨c2, c3, _, _, _⟩ := PB.out
  go_wp2_with fail
  refine (mul_n _ _ _ _ _ _ _ 300 (z) (y) (LC.out.box _) (LB.out.box _) (SZ.out.mono (by omega)) (SY.out.mono (by omega)) (by omega) HZ.out HY.out).mono ?_
  rintro e w8 ⟨Af, nf, cf, rfl, hf, hb8⟩
  have QLA := Lib.hid ((LA.out.box _).via hb8)
  have QLB := Lib.hid ((LB.out.box _).via hb8)
  have QLC := Lib.hid ((LC.out.box _).via hb8)
  have QLs := Lib.hid ((Ls.out.box _).via hb8)
  have QLt := Lib.hid ((Lt.out.box _).via hb8)
  have QLd := Lib.hid ((Ld.out.box _).via hb8)
  have QLp := Lib.hid ((Lp.out.box _).via hb8)
  have QLe := Lib.hid ((Le.out.box _).via hb8)
  have QPA := Lib.hid ((PA.out.alloc _).via hb8)
  have QPB := Lib.hid ((PB.out.alloc _).via hb8)
  have QPC := Lib.hid ((PC.out.alloc _).via hb8)
  have QPs := Lib.hid ((Ps.out.alloc _).via hb8)
  have QPt := Lib.hid ((Pt.out.alloc _).via hb8)
  have QPd := Lib.hid ((Pd.out.alloc _).via hb8)
  have QPp := Lib.hid ((Pp.out.alloc _).via hb8)
  have QTD := Lib.hid ((TD.out.box _).via hb8)
  have QTU := Lib.hid ((TU.out.box _).via hb8)
  have QHB := Lib.hid (HB.out.trans ((bbox hb8).mono HB.out.size))
  have Pe := Lib.hid ((Pr.new _ _ rfl _ _ _).via hb8)
  clear LA LB LC Ls Lt Ld Lp Le PA PB PC Ps Pt Pd Pp TD TU HB
  have LA := QLA
  clear QLA
  have LB := QLB
  clear QLB
  have LC := QLC
  clear QLC
  have Ls := QLs
  clear QLs
  have Lt := QLt
  clear QLt
  have Ld := QLd
  clear QLd
  have Lp := QLp
  clear QLp
  have Le := QLe
  clear QLe
  have PA := QPA
  clear QPA
  have PB := QPB
  clear QPB
  have PC := QPC
  clear QPC
  have Ps := QPs
  clear QPs
  have Pt := QPt
  clear QPt
  have Pd := QPd
  clear QPd
  have Pp := QPp
  clear QPp
  have TD := QTD
  clear QTD
  have TU := QTU
  clear QTU
  have HB := QHB
  clear QHB
  have Lf := Lib.hid hf
  have Sf : Hid (Sz 200 (z * y)) := SZ.out.mul SY.out
  clear hf
  obtain ⟨gf, hgf⟩ : ∃ b, decide (z * y < 0) = b := ⟨_, rfl⟩
  have Hf := Lib.hid hgf
  rw [hgf]
  clear hgf
  clear c0 c1 c2 c3
  clear hb8
  have ⟨c0, c1, _, _, _⟩ := Pe.out
  go_wp2_with fail
  refine (add_n _ _ _ _ _ _ _ 300 (x * z) (z * y) (Le.out.box _) (Lf.out.box _) (Se.out.mono (by omega)) (Sf.out.mono (by omega)) (by omega) He.out Hf.out).mono ?_
  rintro e w9 ⟨Ah, nh, ch, rfl, hh, hb9⟩
  have QLA := Lib.hid ((LA.out.box _).via hb9)
  have QLB := Lib.hid ((LB.out.box _).via hb9)
  have QLC := Lib.hid ((LC.out.box _).via hb9)
  have QLs := Lib.hid ((Ls.out.box _).via hb9)
  have QLt := Lib.hid ((Lt.out.box _).via hb9)
  have QLd := Lib.hid ((Ld.out.box _).via hb9)
  have QLp := Lib.hid ((Lp.out.box _).via hb9)
  have QLe := Lib.hid ((Le.out.box _).via hb9)
  have QLf := Lib.hid ((Lf.out.box _).via hb9)
  have QPA := Lib.hid ((PA.out.alloc _).via hb9)
  have QPB := Lib.hid ((PB.out.alloc _).via hb9)
  have QPC := Lib.hid ((PC.out.alloc _).via hb9)
  have QPs := Lib.hid ((Ps.out.alloc _).via hb9)
  have QPt := Lib.hid ((Pt.out.alloc _).via hb9)
  have QPd := Lib.hid ((Pd.out.alloc _).via hb9)
  have QPp := Lib.hid ((Pp.out.alloc _).via hb9)
  have QPe := Lib.hid ((Pe.out.alloc _).via hb9)
  have QTD := Lib.hid ((TD.out.box _).via hb9)
  have QTU := Lib.hid ((TU.out.box _).via hb9)
  have QHB := Lib.hid (HB.out.trans ((bbox hb9).mono HB.out.size))
  have Pf := Lib.hid ((Pr.new _ _ rfl _ _ _).via hb9)
  clear LA LB LC Ls Lt Ld Lp Le Lf PA PB PC Ps Pt Pd Pp Pe TD TU HB
  have LA := QLA
  clear QLA
  have LB := QLB
  clear QLB
  have LC := QLC
  clear QLC
  have Ls := QLs
  clear QLs
  have Lt := QLt
  clear QLt
  have Ld := QLd
  clear QLd
  have Lp := QLp
  clear QLp
  have Le := QLe
  clear QLe
  have Lf := QLf
  clear QLf
  have PA := QPA
  clear QPA
  have PB := QPB
  clear QPB
  have PC := QPC
  clear QPC
  have Ps := QPs
  clear QPs
  have Pt := QPt
  clear QPt
  have Pd := QPd
  clear QPd
  have Pp := QPp
  clear QPp
  have Pe := QPe
  clear QPe
  have TD := QTD
  clear QTD
  have TU := QTU
  clear QTU
  have HB := QHB
  clear QHB
  have Lh := Lib.hid hh
  have Sh : Hid (Sz 201 (x * z + z * y)) := Se.out.add Sf.out
  clear hh
  obtain ⟨gh, hgh⟩ : ∃ b, decide (x * z + z * y < 0) = b := ⟨_, rfl⟩
  have Hh := Lib.hid hgh
  rw [hgh]
  clear hgh
  clear c0 c1
  clear hb9
  have ⟨c0, c1, _, _, _⟩ := PA.out
  go_wp2_with fail
  refine (sub_n _ _ _ _ _ _ _ 300 (x) (x) (LA.out.box _) (LA.out.box _) (SX.out.mono (by omega)) (SX.out.mono (by omega)) (by omega) HX.out HX.out).mono ?_
  rintro e w10 ⟨Aq, nq, cq, rfl, hq, hb10⟩
  have QLA := Lib.hid ((LA.out.box _).via hb10)
  have QLB := Lib.hid ((LB.out.box _).via hb10)
  have QLC := Lib.hid ((LC.out.box _).via hb10)
  have QLs := Lib.hid ((Ls.out.box _).via hb10)
  have QLt := Lib.hid ((Lt.out.box _).via hb10)
  have QLd := Lib.hid ((Ld.out.box _).via hb10)
  have QLp := Lib.hid ((Lp.out.box _).via hb10)
  have QLe := Lib.hid ((Le.out.box _).via hb10)
  have QLf := Lib.hid ((Lf.out.box _).via hb10)
  have QLh := Lib.hid ((Lh.out.box _).via hb10)
  have QPA := Lib.hid ((PA.out.alloc _).via hb10)
  have QPB := Lib.hid ((PB.out.alloc _).via hb10)
  have QPC := Lib.hid ((PC.out.alloc _).via hb10)
  have QPs := Lib.hid ((Ps.out.alloc _).via hb10)
  have QPt := Lib.hid ((Pt.out.alloc _).via hb10)
  have QPd := Lib.hid ((Pd.out.alloc _).via hb10)
  have QPp := Lib.hid ((Pp.out.alloc _).via hb10)
  have QPe := Lib.hid ((Pe.out.alloc _).via hb10)
  have QPf := Lib.hid ((Pf.out.alloc _).via hb10)
  have QTD := Lib.hid ((TD.out.box _).via hb10)
  have QTU := Lib.hid ((TU.out.box _).via hb10)
  have QHB := Lib.hid (HB.out.trans ((bbox hb10).mono HB.out.size))
  have Ph := Lib.hid ((Pr.new _ _ rfl _ _ _).via hb10)
  clear LA LB LC Ls Lt Ld Lp Le Lf Lh PA PB PC Ps Pt Pd Pp Pe Pf TD TU HB
  have LA := QLA
  clear QLA
  have LB := QLB
  clear QLB
  have LC := QLC
  clear QLC
  have Ls := QLs
  clear QLs
  have Lt := QLt
  clear QLt
  have Ld := QLd
  clear QLd
  have Lp := QLp
  clear QLp
  have Le := QLe
  clear QLe
  have Lf := QLf
  clear QLf
  have Lh := QLh
  clear QLh
  have PA := QPA
  clear QPA
  have PB := QPB
  clear QPB
  have PC := QPC
  clear QPC
  have Ps := QPs
  clear QPs
  have Pt := QPt
  clear QPt
  have Pd := QPd
  clear QPd
  have Pp := QPp
  clear QPp
  have Pe := QPe
  clear QPe
  have Pf := QPf
  clear QPf
  have TD := QTD
  clear QTD
  have TU := QTU
  clear QTU
  have HB := QHB
  clear QHB
  have Lq := Lib.hid hq
  have Sq : Hid (Sz 101 (x - x)) := SX.out.sub SX.out
  clear hq
  obtain ⟨gq, hgq⟩ : ∃ b, decide (x - x < 0) = b := ⟨_, rfl⟩
  have Hq := Lib.hid hgq
  rw [hgq]
  clear hgq
  clear c0 c1
  clear hb10
  obtain rfl : nq = 0 := by have e := Lq.out.len; rw [Int.sub_self] at e; exact e.symm
  obtain rfl : gq = false := by rw [← Hq.out, Int.sub_self]; rfl
  have ⟨c0, c1, _, _, _⟩ := Ps.out
  have ⟨c2, c3, _, _, _⟩ := Pt.out
  go_wp2_with fail
  refine (rsame_n _ _ _ _ _ _ _ (x + y) (y + x) (Ls.out.box _) (Lt.out.box _) Hs.out Ht.out (Int.add_comm _ _)).mono ?_
  rintro e w11 ⟨rfl, hb11⟩
  have QLA := Lib.hid ((LA.out.box _).via hb11)
  have QLB := Lib.hid ((LB.out.box _).via hb11)
  have QLC := Lib.hid ((LC.out.box _).via hb11)
  have QLs := Lib.hid ((Ls.out.box _).via hb11)
  have QLt := Lib.hid ((Lt.out.box _).via hb11)
  have QLd := Lib.hid ((Ld.out.box _).via hb11)
  have QLp := Lib.hid ((Lp.out.box _).via hb11)
  have QLe := Lib.hid ((Le.out.box _).via hb11)
  have QLf := Lib.hid ((Lf.out.box _).via hb11)
  have QLh := Lib.hid ((Lh.out.box _).via hb11)
  have QLq := Lib.hid ((Lq.out.box _).via hb11)
  have QPA := Lib.hid ((PA.out.alloc _).via hb11)
  have QPB := Lib.hid ((PB.out.alloc _).via hb11)
  have QPC := Lib.hid ((PC.out.alloc _).via hb11)
  have QPs := Lib.hid ((Ps.out.alloc _).via hb11)
  have QPt := Lib.hid ((Pt.out.alloc _).via hb11)
  have QPd := Lib.hid ((Pd.out.alloc _).via hb11)
  have QPp := Lib.hid ((Pp.out.alloc _).via hb11)
  have QPe := Lib.hid ((Pe.out.alloc _).via hb11)
  have QPf := Lib.hid ((Pf.out.alloc _).via hb11)
  have QPh := Lib.hid ((Ph.out.alloc _).via hb11)
  have QTD := Lib.hid ((TD.out.box _).via hb11)
  have QTU := Lib.hid ((TU.out.box _).via hb11)
  have QHB := Lib.hid (HB.out.trans ((bbox hb11).mono HB.out.size))
  have Pq := Lib.hid ((Pr.new _ _ rfl _ _ _).via hb11)
  clear LA LB LC Ls Lt Ld Lp Le Lf Lh Lq PA PB PC Ps Pt Pd Pp Pe Pf Ph TD TU HB
  have LA := QLA
  clear QLA
  have LB := QLB
  clear QLB
  have LC := QLC
  clear QLC
  have Ls := QLs
  clear QLs
  have Lt := QLt
  clear QLt
  have Ld := QLd
  clear QLd
  have Lp := QLp
  clear QLp
  have Le := QLe
  clear QLe
  have Lf := QLf
  clear QLf
  have Lh := QLh
  clear QLh
  have Lq := QLq
  clear QLq
  have PA := QPA
  clear QPA
  have PB := QPB
  clear QPB
  have PC := QPC
  clear QPC
  have Ps := QPs
  clear QPs
  have Pt := QPt
  clear QPt
  have Pd := QPd
  clear QPd
  have Pp := QPp
  clear QPp
  have Pe := QPe
  clear QPe
  have Pf := QPf
  clear QPf
  have Ph := QPh
  clear QPh
  have TD := QTD
  clear QTD
  have TU := QTU
  clear QTU
  have HB := QHB
  clear QHB
  clear c0 c1 c2 c3
  clear hb11
  have ⟨c0, c1, _, _, _⟩ := Pd.out
  have ⟨c2, c3, _, _, _⟩ := PA.out
  go_wp2_with fail
  refine (rsame_n _ _ _ _ _ _ _ (x + y - y) (x) Ld.out LA.out Hd.out HX.out (by omega)).mono ?_
  rintro e w12 ⟨rfl, hb12⟩
  have QLA := Lib.hid (LA.out.via hb12)
  have QLB := Lib.hid (LB.out.via hb12)
  have QLC := Lib.hid (LC.out.via hb12)
  have QLs := Lib.hid (Ls.out.via hb12)
  have QLt := Lib.hid (Lt.out.via hb12)
  have QLd := Lib.hid (Ld.out.via hb12)
  have QLp := Lib.hid (Lp.out.via hb12)
  have QLe := Lib.hid (Le.out.via hb12)
  have QLf := Lib.hid (Lf.out.via hb12)
  have QLh := Lib.hid (Lh.out.via hb12)
  have QLq := Lib.hid (Lq.out.via hb12)
  have QPA := Lib.hid (PA.out.via hb12)
  have QPB := Lib.hid (PB.out.via hb12)
  have QPC := Lib.hid (PC.out.via hb12)
  have QPs := Lib.hid (Ps.out.via hb12)
  have QPt := Lib.hid (Pt.out.via hb12)
  have QPd := Lib.hid (Pd.out.via hb12)
  have QPp := Lib.hid (Pp.out.via hb12)
  have QPe := Lib.hid (Pe.out.via hb12)
  have QPf := Lib.hid (Pf.out.via hb12)
  have QPh := Lib.hid (Ph.out.via hb12)
  have QPq := Lib.hid (Pq.out.via hb12)
  have QTD := Lib.hid (TD.out.via hb12)
  have QTU := Lib.hid (TU.out.via hb12)
  have QHB := Lib.hid (HB.out.trans (hb12.mono HB.out.size))
  clear LA LB LC Ls Lt Ld Lp Le Lf Lh Lq PA PB PC Ps Pt Pd Pp Pe Pf Ph Pq TD TU HB
  have LA := QLA
  clear QLA
  have LB := QLB
  clear QLB
  have LC := QLC
  clear QLC
  have Ls := QLs
  clear QLs
  have Lt := QLt
  clear QLt
  have Ld := QLd
  clear QLd
  have Lp := QLp
  clear QLp
  have Le := QLe
  clear QLe
  have Lf := QLf
  clear QLf
  have Lh := QLh
  clear QLh
  have Lq := QLq
  clear QLq
  have PA := QPA
  clear QPA
  have PB := QPB
  clear QPB
  have PC := QPC
  clear QPC
  have Ps := QPs
  clear QPs
  have Pt := QPt
  clear QPt
  have Pd := QPd
  clear QPd
  have Pp := QPp
  clear QPp
  have Pe := QPe
  clear QPe
  have Pf := QPf
  clear QPf
  have Ph := QPh
  clear QPh
  have Pq := QPq
  clear QPq
  have TD := QTD
  clear QTD
  have TU := QTU
  clear QTU
  have HB := QHB
  clear QHB
  clear c0 c1 c2 c3
  clear hb12
  have ⟨c0, c1, _, _, _⟩ := Pp.out
  have ⟨c2, c3, _, _, _⟩ := Ph.out
  go_wp2_with fail
  refine (rsame_n _ _ _ _ _ _ _ ((x + y) * z) (x * z + z * y) Lp.out Lh.out Hp.out Hh.out (by rw [Int.add_mul, Int.mul_comm y z])).mono ?_
  rintro e w13 ⟨rfl, hb13⟩
  have QLA := Lib.hid (LA.out.via hb13)
  have QLB := Lib.hid (LB.out.via hb13)
  have QLC := Lib.hid (LC.out.via hb13)
  have QLs := Lib.hid (Ls.out.via hb13)
  have QLt := Lib.hid (Lt.out.via hb13)
  have QLd := Lib.hid (Ld.out.via hb13)
  have QLp := Lib.hid (Lp.out.via hb13)
  have QLe := Lib.hid (Le.out.via hb13)
  have QLf := Lib.hid (Lf.out.via hb13)
  have QLh := Lib.hid (Lh.out.via hb13)
  have QLq := Lib.hid (Lq.out.via hb13)
  have QPA := Lib.hid (PA.out.via hb13)
  have QPB := Lib.hid (PB.out.via hb13)
  have QPC := Lib.hid (PC.out.via hb13)
  have QPs := Lib.hid (Ps.out.via hb13)
  have QPt := Lib.hid (Pt.out.via hb13)
  have QPd := Lib.hid (Pd.out.via hb13)
  have QPp := Lib.hid (Pp.out.via hb13)
  have QPe := Lib.hid (Pe.out.via hb13)
  have QPf := Lib.hid (Pf.out.via hb13)
  have QPh := Lib.hid (Ph.out.via hb13)
  have QPq := Lib.hid (Pq.out.via hb13)
  have QTD := Lib.hid (TD.out.via hb13)
  have QTU := Lib.hid (TU.out.via hb13)
  have QHB := Lib.hid (HB.out.trans (hb13.mono HB.out.size))
  clear LA LB LC Ls Lt Ld Lp Le Lf Lh Lq PA PB PC Ps Pt Pd Pp Pe Pf Ph Pq TD TU HB
  have LA := QLA
  clear QLA
  have LB := QLB
  clear QLB
  have LC := QLC
  clear QLC
  have Ls := QLs
  clear QLs
  have Lt := QLt
  clear QLt
  have Ld := QLd
  clear QLd
  have Lp := QLp
  clear QLp
  have Le := QLe
  clear QLe
  have Lf := QLf
  clear QLf
  have Lh := QLh
  clear QLh
  have Lq := QLq
  clear QLq
  have PA := QPA
  clear QPA
  have PB := QPB
  clear QPB
  have PC := QPC
  clear QPC
  have Ps := QPs
  clear QPs
  have Pt := QPt
  clear QPt
  have Pd := QPd
  clear QPd
  have Pp := QPp
  clear QPp
  have Pe := QPe
  clear QPe
  have Pf := QPf
  clear QPf
  have Ph := QPh
  clear QPh
  have Pq := QPq
  clear QPq
  have TD := QTD
  clear QTD
  have TU := QTU
  clear QTU
  have HB := QHB
  clear QHB
  clear c0 c1 c2 c3
  clear hb13
  have ⟨c0, c1, _, _, _⟩ := Pq.out
  have ⟨c2, c3, _, _, _⟩ := Pp.out
  go_wp2_with fail
  refine (rcheck_ok _ _ _ _ _ _ Lp.out (by rw [← Hp.out]; exact chk_z Sp.out (by omega))).mono ?_
  rintro e w14 ⟨rfl, hb14⟩
  have QLA := Lib.hid (LA.out.via hb14)
  have QLB := Lib.hid (LB.out.via hb14)
  have QLC := Lib.hid (LC.out.via hb14)
  have QLs := Lib.hid (Ls.out.via hb14)
  have QLt := Lib.hid (Lt.out.via hb14)
  have QLd := Lib.hid (Ld.out.via hb14)
  have QLp := Lib.hid (Lp.out.via hb14)
  have QLe := Lib.hid (Le.out.via hb14)
  have QLf := Lib.hid (Lf.out.via hb14)
  have QLh := Lib.hid (Lh.out.via hb14)
  have QLq := Lib.hid (Lq.out.via hb14)
  have QPA := Lib.hid (PA.out.via hb14)
  have QPB := Lib.hid (PB.out.via hb14)
  have QPC := Lib.hid (PC.out.via hb14)
  have QPs := Lib.hid (Ps.out.via hb14)
  have QPt := Lib.hid (Pt.out.via hb14)
  have QPd := Lib.hid (Pd.out.via hb14)
  have QPp := Lib.hid (Pp.out.via hb14)
  have QPe := Lib.hid (Pe.out.via hb14)
  have QPf := Lib.hid (Pf.out.via hb14)
  have QPh := Lib.hid (Ph.out.via hb14)
  have QPq := Lib.hid (Pq.out.via hb14)
  have QTD := Lib.hid (TD.out.via hb14)
  have QTU := Lib.hid (TU.out.via hb14)
  have QHB := Lib.hid (HB.out.trans (hb14.mono HB.out.size))
  clear LA LB LC Ls Lt Ld Lp Le Lf Lh Lq PA PB PC Ps Pt Pd Pp Pe Pf Ph Pq TD TU HB
  have LA := QLA
  clear QLA
  have LB := QLB
  clear QLB
  have LC := QLC
  clear QLC
  have Ls := QLs
  clear QLs
  have Lt := QLt
  clear QLt
  have Ld := QLd
  clear QLd
  have Lp := QLp
  clear QLp
  have Le := QLe
  clear QLe
  have Lf := QLf
  clear QLf
  have Lh := QLh
  clear QLh
  have Lq := QLq
  clear QLq
  have PA := QPA
  clear QPA
  have PB := QPB
  clear QPB
  have PC := QPC
  clear QPC
  have Ps := QPs
  clear QPs
  have Pt := QPt
  clear QPt
  have Pd := QPd
  clear QPd
  have Pp := QPp
  clear QPp
  have Pe := QPe
  clear QPe
  have Pf := QPf
  clear QPf
  have Ph := QPh
  clear QPh
  have Pq := QPq
  clear QPq
  have TD := QTD
  clear QTD
  have TU := QTU
  clear QTU
  have HB := QHB
  clear QHB
  clear c0 c1 c2 c3
  clear hb14
  go_wp2
  go_ret
  exact ⟨rfl, HB.out⟩
end Go.Proofs.YtkajmglpmdhmnaaDoor

namespace Go.Proofs.YtkajmglpmdhmnaaDoor
open Go.ChangeShapes Go.WideShapes Go.ChangeAt Go.RowKit

theorem ring_any (w : World) (na nb nc : Bool) (A B C : Option Addr) (n m k ca cb cc : Nat) (xs ys zs : List Nat) (hA : Lm w w.heap.size A n ca xs) (hB : Lm w w.heap.size B m cb ys) (hC : Lm w w.heap.size C k cc zs) (hD : TabD w) (hU : TabU w) :
    Calls Tryd.prog 5 #[.agg #[.bool na, .slice A n ca], .agg #[.bool nb, .slice B m cb], .agg #[.bool nc, .slice C k cc]] w fun e w' => e = .returned (.bool true) ∧ Below w.heap.size w w' := by
  by_cases h : chk na xs = 0 ∧ chk nb ys = 0 ∧ chk nc zs = 0 ∧ (n : Int) ≤ 100 ∧ (m : Int) ≤ 100 ∧ (k : Int) ≤ 100
  · obtain ⟨k0, k1, k2, g0, g1, g2⟩ := h
    obtain ⟨x, rfl, rfl, hx⟩ := of_chk k0 hA.good (k := 100) (by rw [hA.len]; omega)
    obtain ⟨y, rfl, rfl, hy⟩ := of_chk k1 hB.good (k := 100) (by rw [hB.len]; omega)
    obtain ⟨z, rfl, rfl, hz⟩ := of_chk k2 hC.good (k := 100) (by rw [hC.len]; omega)
    exact ring_short w A B C n m k ca cb cc x y z hA hB hC hD hU hx hy hz
  · refine ring_long w na nb nc A B C n m k ca cb cc xs ys zs hA hB hC hD hU fun W h1 h2 h3 => ?_
    rcases long_any W na nb nc A B C n m k ca cb cc xs ys zs 100 h1 h2 h3 with ⟨a, b, c, d, e, f, _⟩ | h4
    · exact absurd ⟨a, b, c, d, e, f⟩ h
    · exact h4

set_option maxRecDepth 100000 in
theorem ring_lifted (os : Os) (started : os.Started) (H : Type) (enc : TypeId × Value → H) :
    ReturnsInHanded {} Tryd.checked os 5 .any (fun w args => (Rows.wideRingSpec.pre enc Tryd.prog Tryd.f5 [] false w args ∧ laidMetH Tryd.prog laid3 w) ∧ sizedMet enc Tryd.prog Tryd.f5 (OpenSpec.ofChange Rows.wideRingSpec) false w args)
      (Rows.wideRingSpec.post enc Tryd.prog Tryd.f5 false true false false) := by
  refine returnsInHanded_of_change_and (C := Tryd.checked) (X := fun w _ => laidMetH Tryd.prog laid3 w) (fun _ _ _ hh h => h.of_heap hh) own started (by kernel_rfl) Tryd.func5
    (ChangeSpec.witness_shaped (enc := enc) (C := Tryd.checked) (os := os) (X := fun w _ => laidMetH Tryd.prog laid3 w) false (World.doorLaid Tryd.prog 24 os) #[.agg #[.bool false, .slice none 0 0], .agg #[.bool false, .slice none 0 0], .agg #[.bool false, .slice none 0 0]] 8 rfl (World.shaped_of_RefB (by kernel_rfl) (by kernel_rfl)) (by kernel_rfl) (by kernel_rfl) (by kernel_rfl) (door_met os _)) ?_
  intro W base args ds gs before hval0 hW _ _ hL _
  obtain ⟨hTD, hTU⟩ := tabs_of hL
  have hval : ∀ (j : Nat) t v, Tryd.f5.params[j]? = some t → args[j]? = some v → Value.okWide Tryd.prog W .any base t v := hval0
  have hW' := hW
  obtain ⟨p, q, hA0, hV, rfl, hfz, hnd⟩ := hW
  have hA : DataW.TrodAll enc Tryd.prog W 0 (fun _ => true) true Tryd.f5.params.toList args.toList ds p := hA0
  rw [Tryd.params5] at hA hval
  obtain ⟨v0, v1, v2, d0, d1, d2, p0, p1, p2, rfl, rfl, rfl, h0, h1, h2⟩ := trodAll_three hA
  obtain ⟨rfl, rfl⟩ := trodVars_none hV
  clear hA0 hval0
  simp only [List.append_nil] at hW'
  have hlt : ∀ x ∈ p0 ++ (p1 ++ p2), x.block < W.heap.size := fun x hx => by simpa using hW'.lt x (by rw [List.append_assoc]; exact hx)
  have hlt0 : ∀ x ∈ p0, x.block < W.heap.size := fun x hx => hlt x (List.mem_append_left _ hx)
  have hlt1 : ∀ x ∈ p1, x.block < W.heap.size := fun x hx => hlt x (List.mem_append_right _ (List.mem_append_left _ hx))
  have hlt2 : ∀ x ∈ p2, x.block < W.heap.size := fun x hx => hlt x (List.mem_append_right _ (List.mem_append_right _ hx))
  obtain ⟨na, A, n, ca, xs, rfl, hLA⟩ := open_wide (hval 0 24 v0 rfl rfl) h0 hlt0
  obtain ⟨nb, B, m, cb, ys, rfl, hLB⟩ := open_wide (hval 1 24 v1 rfl rfl) h1 hlt1
  obtain ⟨nc, C, k, cc, zs, rfl, hLC⟩ := open_wide (hval 2 24 v2 rfl rfl) h2 hlt2
  refine (ring_any W na nb nc A B C n m k ca cb cc xs ys zs hLA hLB hLC hTD hTU).mono fun e W' ⟨he, hb⟩ => ?_
  subst he
  rw [List.append_assoc] at hW'
  exact ⟨_, rfl, _, _, _, [], p0 ++ (p1 ++ p2), [], hW', trodAll_mk1 (shut_bool Tryd.underlying4 _),
    trodAll_mk3 (Below.trod laidOut (by kernel_rfl) (of_decide_eq_true (by kernel_rfl)) h0 hb hlt0) (Below.trod laidOut (by kernel_rfl) (of_decide_eq_true (by kernel_rfl)) h1 hb hlt1) (Below.trod laidOut (by kernel_rfl) (of_decide_eq_true (by kernel_rfl)) h2 hb hlt2), rfl, hb.frame _, fun h => by cases h⟩

theorem ring_row : Rows.WideRingSaid :=
  OpenClaim.holds_of_wide 5 Tryd.f5 rfl rfl rfl rfl rfl rfl rfl ⟨rfl, rfl, rfl, rfl, rfl⟩ rfl rfl rfl rfl rfl (by kernel_rfl) Tryd.func5 (by kernel_rfl)
    (of_decide_eq_true (by kernel_rfl)) (by unfold Func.isWrapper; first | (rw [if_pos (by decide +kernel)]; kernel_rfl) | (rw [if_neg (by decide +kernel)]; exact ⟨rfl, rfl⟩))
    (fun os started H enc _ => ring_lifted os started H enc)

theorem ring_holds : Rows.WideRingCardSaid :=
  Claim7.holds_tied_plain_at .later [] [.data, .data, .data] true (Rows.wideRingCard.stood.harness) false
    ring_row (fun _ h => by cases h) (by kernel_rfl) (fun _ h => by cases h) wideRing_row_tie rfl ⟨rfl, rfl⟩ (by kernel_rfl) rfl
    (fun f fn hf hfn => by
      obtain rfl : f = 5 := Option.some.inj ((show Tryd.prog.funcNamed "planisphere/planispherelaw01.WideRing" = some 5 by kernel_rfl).symm.trans hf) |>.symm
      obtain rfl : fn = Tryd.f5 := (Option.some.inj (Tryd.func5.symm.trans hfn)).symm
      exact ⟨by kernel_rfl, fun j t ht => by
        rw [Tryd.params5] at ht
        have hm : t ∈ [24, 24, 24] := by simpa using Array.mem_of_getElem? ht
        have hall : ([24, 24, 24].all fun u => !Tryd.prog.wantsStandIn u) = true := by kernel_rfl
        exact (show Tryd.prog.wantsStandIn t = false by simpa using List.all_eq_true.1 hall t hm)⟩)
    (by kernel_rfl)
end Go.Proofs.YtkajmglpmdhmnaaDoor

