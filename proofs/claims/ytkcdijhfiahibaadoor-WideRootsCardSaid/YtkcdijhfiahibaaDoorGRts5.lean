/- Lemmas, part 5. -/
import Derived.Test.YtkcdijhfiahibaaDoorRows
import Derived.ProofKit
import Derived.SizedLaws
import Derived.Lib.SmallJoins
import Derived.LaidMore
import Derived.OpenShut
import Derived.Stop.LaidErr
import Derived.MakeChecks
import Derived.SevenTiedAt
import Derived.IntWalk
import Derived.Test.YtkcdijhfiahibaaDoorGRts4
/- The law's 'alive': the chapter's examples hold. -/
namespace Go.Proofs.YtkcdijhfiahibaaDoor
open Go.RowKit

theorem ex_dm1 (w : World) (A B : Option Addr) (n m ca cb : Nat) (hA : Lm w w.heap.size A n ca (digs 7)) (hB : Lm w w.heap.size B m cb (digs 2)) :
    Calls Tryd.prog 8 #[.agg #[.bool true, .slice A n ca], .agg #[.bool false, .slice B m cb]] w (RWW w true (digs 4) false (digs 1) 0) :=
  divmod_down w true false A B n m ca cb 7 2 hA hB (by decide) (by omega) (.inl ⟨rfl, rfl⟩) (by decide)
theorem ex_dm2 (w : World) (A B : Option Addr) (n m ca cb : Nat) (hA : Lm w w.heap.size A n ca (digs 7)) (hB : Lm w w.heap.size B m cb (digs 2)) :
    Calls Tryd.prog 8 #[.agg #[.bool false, .slice A n ca], .agg #[.bool true, .slice B m cb]] w (RWW w true (digs 4) true (digs 1) 0) :=
  divmod_down w false true A B n m ca cb 7 2 hA hB (by decide) (by omega) (.inr ⟨rfl, rfl⟩) (by decide)
theorem ex_sh (w : World) (A : Option Addr) (n c : Nat) (hA : Lm w w.heap.size A n c (digs 5)) (hT : TabD w) :
    Calls Tryd.prog 19 #[.agg #[.bool true, .slice A n c], .int .i64 (-1)] w (RW w true (digs 3) 0) :=
  shift_down_lost w A n c 5 1 (-1) hA (by decide) rfl (by omega) (by omega) hT (by decide)
theorem ex_gcd (w : World) (A B : Option Addr) (n m ca cb : Nat) (hA : Lm w w.heap.size A n ca (digs 12)) (hB : Lm w w.heap.size B m cb (digs 18)) :
    Calls Tryd.prog 21 #[.agg #[.bool true, .slice A n ca], .agg #[.bool false, .slice B m cb]] w (RW w false (digs 6) 0) :=
  gcd_small w true false A B n m ca cb 12 18 hA hB (by decide) (by rw [← hA.len]; decide) (by rw [← hB.len]; decide)
theorem ex_sq (w : World) (A : Option Addr) (n c : Nat) (hA : Lm w w.heap.size A n c (digs 99)) :
    Calls Tryd.prog 15 #[.agg #[.bool false, .slice A n c]] w (RW w false (digs 9) 0) :=
  (sqrt_ok w A n c 99 hA (by decide)).mono fun e w' ⟨r, hr, h⟩ => by
    obtain rfl : r = 9 := hr.uniq ⟨by decide, by decide⟩
    exact h
theorem dec_2_64 : Lib.decDigits 18446744073709551616 = [49, 56, 52, 52, 54, 55, 52, 52, 48, 55, 51, 55, 48, 57, 53, 53, 49, 54, 49, 54] := by
  simp [dec_big, dec_small]
theorem digs_2_64 : digs 18446744073709551616 = [0, 0, 1] := (eq_digs (xs := [0, 0, 1]) (by unfold Good; decide) (by unfold Norm; decide) (by decide)).symm
theorem ex_txt (w : World) (A : Option Addr) (n c : Nat) (hA : Lm w w.heap.size A n c [0, 0, 1]) (hT : TabU w) :
    Calls Tryd.prog 26 #[.agg #[.bool false, .slice A n c]] w fun e w' => e = .returned (.tuple #[.string ⟨#[49, 56, 52, 52, 54, 55, 52, 52, 48, 55, 51, 55, 48, 57, 53, 53, 49, 54, 49, 54]⟩, .int .i64 0]) ∧ Below w.heap.size w w' := by
  rw [← digs_2_64] at hA
  have h := text_ok w false A n c 18446744073709551616 hA (by rw [digs_2_64]; decide) hT
  have e : txt false 18446744073709551616 = [49, 56, 52, 52, 54, 55, 52, 52, 48, 55, 51, 55, 48, 57, 53, 53, 49, 54, 49, 54] := by
    unfold txt
    rw [dec_2_64]
    rfl
  rw [e] at h
  exact h
theorem Lm.three (w : World) (k : Nat) (t : TypeId) (hk : w.heap.size = k) : Lm (w.alloc (.cells #[.int .u32 0, .int .u32 0, .int .u32 1] t)) (k + 1) (some ⟨k, 0, none⟩) 3 3 [0, 0, 1] := by
  subst hk
  exact ⟨rfl, by unfold Good; decide, Nat.le_refl _, by omega, fun h => (by cases h), fun _ => ⟨_, 0, rfl, by omega, fun j hj => by
    match j, hj with
    | 0, _ => go_simp
    | 1, _ => go_simp
    | 2, _ => go_simp⟩⟩

set_option maxRecDepth 100000 in
set_option maxHeartbeats 4000000 in
theorem alive_any (w : World) (hD : TabD w) (hU : TabU w) :
    Calls Tryd.prog 6 #[] w fun e w' => e = .returned (.bool true) ∧ Below w.heap.size w w' := by
  have TD := Lib.hid hD
  have TU := Lib.hid hU
  have HB : Hid (Below w.heap.size w w) := Below.refl _ _
  clear hD hU
  go_enter Tryd.func6, Tryd.ntmps6
  go_wp2_with fail
  refine (from_any _ (-7) (by omega) (by omega)).mono ?_
  rintro e w1 ⟨Aa, na, ca, rfl, ha, hb1⟩
  have QTD := Lib.hid (TD.out.via hb1)
  have QTU := Lib.hid (TU.out.via hb1)
  have QHB := Lib.hid (HB.out.trans (hb1.mono HB.out.size))
  clear TD TU HB
  have TD := QTD
  clear QTD
  have TU := QTU
  clear QTU
  have HB := QHB
  clear QHB
  have La : Hid (Lm w1 w1.heap.size Aa na ca (digs 7)) := ha
  clear ha
  clear hb1
  go_wp2_with fail
  refine (from_any _ (2) (by omega) (by omega)).mono ?_
  rintro e w2 ⟨Ab, nb, cb, rfl, hb, hb2⟩
  have QLa := Lib.hid ((La.out.via hb2))
  have QTD := Lib.hid (TD.out.via hb2)
  have QTU := Lib.hid (TU.out.via hb2)
  have QHB := Lib.hid (HB.out.trans (hb2.mono HB.out.size))
  clear La TD TU HB
  have La := QLa
  clear QLa
  have TD := QTD
  clear QTD
  have TU := QTU
  clear QTU
  have HB := QHB
  clear QHB
  have Lb : Hid (Lm w2 w2.heap.size Ab nb cb (digs 2)) := hb
  clear hb
  clear hb2
  go_wp2_with fail
  refine (ex_dm1 _ _ _ _ _ _ _ La.out Lb.out).mono ?_
  rintro e w3 ⟨Aq, nq, cq, Ar, nr, cr, rfl, hq, hr, hb3⟩
  have QLa := Lib.hid ((La.out.via hb3))
  have QLb := Lib.hid ((Lb.out.via hb3))
  have QTD := Lib.hid (TD.out.via hb3)
  have QTU := Lib.hid (TU.out.via hb3)
  have QHB := Lib.hid (HB.out.trans (hb3.mono HB.out.size))
  clear La Lb TD TU HB
  have La := QLa
  clear QLa
  have Lb := QLb
  clear QLb
  have TD := QTD
  clear QTD
  have TU := QTU
  clear QTU
  have HB := QHB
  clear QHB
  have Lq := Lib.hid hq
  have Lr := Lib.hid hr
  clear hq hr
  clear hb3
  go_wp2_with fail
  refine (from_any _ (7) (by omega) (by omega)).mono ?_
  rintro e w4 ⟨Ac, nc, cc, rfl, hc, hb4⟩
  have QLq := Lib.hid ((((Lq.out.box _).box _).via hb4))
  have QLr := Lib.hid ((((Lr.out.box _).box _).via hb4))
  have QTD := Lib.hid (((TD.out.box _).box _).via hb4)
  have QTU := Lib.hid (((TU.out.box _).box _).via hb4)
  have QHB := Lib.hid (HB.out.trans ((bbox (bbox hb4)).mono HB.out.size))
  have ⟨N1, N2⟩ := boxes2 hb4
  have Pq := Lib.hid N1
  have Pr_ := Lib.hid N2
  clear N1 N2
  clear Lq Lr TD TU HB
  have Lq := QLq
  clear QLq
  have Lr := QLr
  clear QLr
  have TD := QTD
  clear QTD
  have TU := QTU
  clear QTU
  have HB := QHB
  clear QHB
  have Lc : Hid (Lm w4 w4.heap.size Ac nc cc (digs 7)) := hc
  clear hc
  clear hb4
  go_wp2_with fail
  refine (from_any _ (-2) (by omega) (by omega)).mono ?_
  rintro e w5 ⟨Ad, nd, cd, rfl, hd, hb5⟩
  have QLq := Lib.hid ((Lq.out.via hb5))
  have QLr := Lib.hid ((Lr.out.via hb5))
  have QLc := Lib.hid ((Lc.out.via hb5))
  have QPq := Lib.hid (Pq.out.via hb5)
  have QPr_ := Lib.hid (Pr_.out.via hb5)
  have QTD := Lib.hid (TD.out.via hb5)
  have QTU := Lib.hid (TU.out.via hb5)
  have QHB := Lib.hid (HB.out.trans (hb5.mono HB.out.size))
  clear Lq Lr Lc Pq Pr_ TD TU HB
  have Lq := QLq
  clear QLq
  have Lr := QLr
  clear QLr
  have Lc := QLc
  clear QLc
  have Pq := QPq
  clear QPq
  have Pr_ := QPr_
  clear QPr_
  have TD := QTD
  clear QTD
  have TU := QTU
  clear QTU
  have HB := QHB
  clear QHB
  have Ld : Hid (Lm w5 w5.heap.size Ad nd cd (digs 2)) := hd
  clear hd
  clear hb5
  go_wp2_with fail
  refine (ex_dm2 _ _ _ _ _ _ _ Lc.out Ld.out).mono ?_
  rintro e w6 ⟨Ap, np, cp, As, ns, cs, rfl, hp, hs, hb6⟩
  have QLq := Lib.hid ((Lq.out.via hb6))
  have QLr := Lib.hid ((Lr.out.via hb6))
  have QLc := Lib.hid ((Lc.out.via hb6))
  have QLd := Lib.hid ((Ld.out.via hb6))
  have QPq := Lib.hid (Pq.out.via hb6)
  have QPr_ := Lib.hid (Pr_.out.via hb6)
  have QTD := Lib.hid (TD.out.via hb6)
  have QTU := Lib.hid (TU.out.via hb6)
  have QHB := Lib.hid (HB.out.trans (hb6.mono HB.out.size))
  clear Lq Lr Lc Ld Pq Pr_ TD TU HB
  have Lq := QLq
  clear QLq
  have Lr := QLr
  clear QLr
  have Lc := QLc
  clear QLc
  have Ld := QLd
  clear QLd
  have Pq := QPq
  clear QPq
  have Pr_ := QPr_
  clear QPr_
  have TD := QTD
  clear QTD
  have TU := QTU
  clear QTU
  have HB := QHB
  clear QHB
  have Lp := Lib.hid hp
  have Ls := Lib.hid hs
  clear hp hs
  clear hb6
  go_wp2_with fail
  refine (from_any _ (-5) (by omega) (by omega)).mono ?_
  rintro e w7 ⟨Ae, ne, ce, rfl, he, hb7⟩
  have QLq := Lib.hid ((((Lq.out.box _).box _).via hb7))
  have QLr := Lib.hid ((((Lr.out.box _).box _).via hb7))
  have QLp := Lib.hid ((((Lp.out.box _).box _).via hb7))
  have QLs := Lib.hid ((((Ls.out.box _).box _).via hb7))
  have QPq := Lib.hid (((Pq.out.alloc _).alloc _).via hb7)
  have QPr_ := Lib.hid (((Pr_.out.alloc _).alloc _).via hb7)
  have QTD := Lib.hid (((TD.out.box _).box _).via hb7)
  have QTU := Lib.hid (((TU.out.box _).box _).via hb7)
  have QHB := Lib.hid (HB.out.trans ((bbox (bbox hb7)).mono HB.out.size))
  have ⟨N1, N2⟩ := boxes2 hb7
  have Pp := Lib.hid N1
  have Ps := Lib.hid N2
  clear N1 N2
  clear Lq Lr Lp Ls Pq Pr_ TD TU HB
  have Lq := QLq
  clear QLq
  have Lr := QLr
  clear QLr
  have Lp := QLp
  clear QLp
  have Ls := QLs
  clear QLs
  have Pq := QPq
  clear QPq
  have Pr_ := QPr_
  clear QPr_
  have TD := QTD
  clear QTD
  have TU := QTU
  clear QTU
  have HB := QHB
  clear QHB
  have Le : Hid (Lm w7 w7.heap.size Ae ne ce (digs 5)) := he
  clear he
  clear hb7
  go_wp2_with fail
  refine (ex_sh _ _ _ _ Le.out TD.out).mono ?_
  rintro e w8 ⟨Ax, nx, cx, rfl, hx, hb8⟩
  have QLq := Lib.hid ((Lq.out.via hb8))
  have QLr := Lib.hid ((Lr.out.via hb8))
  have QLp := Lib.hid ((Lp.out.via hb8))
  have QLs := Lib.hid ((Ls.out.via hb8))
  have QLe := Lib.hid ((Le.out.via hb8))
  have QPq := Lib.hid (Pq.out.via hb8)
  have QPr_ := Lib.hid (Pr_.out.via hb8)
  have QPp := Lib.hid (Pp.out.via hb8)
  have QPs := Lib.hid (Ps.out.via hb8)
  have QTD := Lib.hid (TD.out.via hb8)
  have QTU := Lib.hid (TU.out.via hb8)
  have QHB := Lib.hid (HB.out.trans (hb8.mono HB.out.size))
  clear Lq Lr Lp Ls Le Pq Pr_ Pp Ps TD TU HB
  have Lq := QLq
  clear QLq
  have Lr := QLr
  clear QLr
  have Lp := QLp
  clear QLp
  have Ls := QLs
  clear QLs
  have Le := QLe
  clear QLe
  have Pq := QPq
  clear QPq
  have Pr_ := QPr_
  clear QPr_
  have Pp := QPp
  clear QPp
  have Ps := QPs
  clear QPs
  have TD := QTD
  clear QTD
  have TU := QTU
  clear QTU
  have HB := QHB
  clear QHB
  have Lx := Lib.hid hx
  clear hx
  clear hb8
  go_wp2_with fail
  refine (from_any _ (-12) (by omega) (by omega)).mono ?_
  rintro e w9 ⟨Af, nf, cf, rfl, hf, hb9⟩
  have QLq := Lib.hid (((Lq.out.box _).via hb9))
  have QLr := Lib.hid (((Lr.out.box _).via hb9))
  have QLp := Lib.hid (((Lp.out.box _).via hb9))
  have QLs := Lib.hid (((Ls.out.box _).via hb9))
  have QLx := Lib.hid (((Lx.out.box _).via hb9))
  have QPq := Lib.hid ((Pq.out.alloc _).via hb9)
  have QPr_ := Lib.hid ((Pr_.out.alloc _).via hb9)
  have QPp := Lib.hid ((Pp.out.alloc _).via hb9)
  have QPs := Lib.hid ((Ps.out.alloc _).via hb9)
  have QTD := Lib.hid ((TD.out.box _).via hb9)
  have QTU := Lib.hid ((TU.out.box _).via hb9)
  have QHB := Lib.hid (HB.out.trans ((bbox hb9).mono HB.out.size))
  have Px := Lib.hid ((Pr.new _ _ rfl _ _ _).via hb9)
  clear Lq Lr Lp Ls Lx Pq Pr_ Pp Ps TD TU HB
  have Lq := QLq
  clear QLq
  have Lr := QLr
  clear QLr
  have Lp := QLp
  clear QLp
  have Ls := QLs
  clear QLs
  have Lx := QLx
  clear QLx
  have Pq := QPq
  clear QPq
  have Pr_ := QPr_
  clear QPr_
  have Pp := QPp
  clear QPp
  have Ps := QPs
  clear QPs
  have TD := QTD
  clear QTD
  have TU := QTU
  clear QTU
  have HB := QHB
  clear QHB
  have Lf : Hid (Lm w9 w9.heap.size Af nf cf (digs 12)) := hf
  clear hf
  clear hb9
  go_wp2_with fail
  refine (from_any _ (18) (by omega) (by omega)).mono ?_
  rintro e w10 ⟨Ag, ng, cg, rfl, hg, hb10⟩
  have QLq := Lib.hid ((Lq.out.via hb10))
  have QLr := Lib.hid ((Lr.out.via hb10))
  have QLp := Lib.hid ((Lp.out.via hb10))
  have QLs := Lib.hid ((Ls.out.via hb10))
  have QLx := Lib.hid ((Lx.out.via hb10))
  have QLf := Lib.hid ((Lf.out.via hb10))
  have QPq := Lib.hid (Pq.out.via hb10)
  have QPr_ := Lib.hid (Pr_.out.via hb10)
  have QPp := Lib.hid (Pp.out.via hb10)
  have QPs := Lib.hid (Ps.out.via hb10)
  have QPx := Lib.hid (Px.out.via hb10)
  have QTD := Lib.hid (TD.out.via hb10)
  have QTU := Lib.hid (TU.out.via hb10)
  have QHB := Lib.hid (HB.out.trans (hb10.mono HB.out.size))
  clear Lq Lr Lp Ls Lx Lf Pq Pr_ Pp Ps Px TD TU HB
  have Lq := QLq
  clear QLq
  have Lr := QLr
  clear QLr
  have Lp := QLp
  clear QLp
  have Ls := QLs
  clear QLs
  have Lx := QLx
  clear QLx
  have Lf := QLf
  clear QLf
  have Pq := QPq
  clear QPq
  have Pr_ := QPr_
  clear QPr_
  have Pp := QPp
  clear QPp
  have Ps := QPs
  clear QPs
  have Px := QPx
  clear QPx
  have TD := QTD
  clear QTD
  have TU := QTU
  clear QTU
  have HB := QHB
  clear QHB
  have Lg : Hid (Lm w10 w10.heap.size Ag ng cg (digs 18)) := hg
  clear hg
  clear hb10
  go_wp2_with fail
  refine (ex_gcd _ _ _ _ _ _ _ Lf.out Lg.out).mono ?_
  rintro e w11 ⟨Ay, ny, cy, rfl, hy, hb11⟩
  have QLq := Lib.hid ((Lq.out.via hb11))
  have QLr := Lib.hid ((Lr.out.via hb11))
  have QLp := Lib.hid ((Lp.out.via hb11))
  have QLs := Lib.hid ((Ls.out.via hb11))
  have QLx := Lib.hid ((Lx.out.via hb11))
  have QLf := Lib.hid ((Lf.out.via hb11))
  have QLg := Lib.hid ((Lg.out.via hb11))
  have QPq := Lib.hid (Pq.out.via hb11)
  have QPr_ := Lib.hid (Pr_.out.via hb11)
  have QPp := Lib.hid (Pp.out.via hb11)
  have QPs := Lib.hid (Ps.out.via hb11)
  have QPx := Lib.hid (Px.out.via hb11)
  have QTD := Lib.hid (TD.out.via hb11)
  have QTU := Lib.hid (TU.out.via hb11)
  have QHB := Lib.hid (HB.out.trans (hb11.mono HB.out.size))
  clear Lq Lr Lp Ls Lx Lf Lg Pq Pr_ Pp Ps Px TD TU HB
  have Lq := QLq
  clear QLq
  have Lr := QLr
  clear QLr
  have Lp := QLp
  clear QLp
  have Ls := QLs
  clear QLs
  have Lx := QLx
  clear QLx
  have Lf := QLf
  clear QLf
  have Lg := QLg
  clear QLg
  have Pq := QPq
  clear QPq
  have Pr_ := QPr_
  clear QPr_
  have Pp := QPp
  clear QPp
  have Ps := QPs
  clear QPs
  have Px := QPx
  clear QPx
  have TD := QTD
  clear QTD
  have TU := QTU
  clear QTU
  have HB := QHB
  clear QHB
  have Ly := Lib.hid hy
  clear hy
  clear hb11
  go_wp2_with fail
  refine (from_any _ (99) (by omega) (by omega)).mono ?_
  rintro e w12 ⟨Ah, nh, ch, rfl, hh, hb12⟩
  have QLq := Lib.hid (((Lq.out.box _).via hb12))
  have QLr := Lib.hid (((Lr.out.box _).via hb12))
  have QLp := Lib.hid (((Lp.out.box _).via hb12))
  have QLs := Lib.hid (((Ls.out.box _).via hb12))
  have QLx := Lib.hid (((Lx.out.box _).via hb12))
  have QLy := Lib.hid (((Ly.out.box _).via hb12))
  have QPq := Lib.hid ((Pq.out.alloc _).via hb12)
  have QPr_ := Lib.hid ((Pr_.out.alloc _).via hb12)
  have QPp := Lib.hid ((Pp.out.alloc _).via hb12)
  have QPs := Lib.hid ((Ps.out.alloc _).via hb12)
  have QPx := Lib.hid ((Px.out.alloc _).via hb12)
  have QTD := Lib.hid ((TD.out.box _).via hb12)
  have QTU := Lib.hid ((TU.out.box _).via hb12)
  have QHB := Lib.hid (HB.out.trans ((bbox hb12).mono HB.out.size))
  have Py := Lib.hid ((Pr.new _ _ rfl _ _ _).via hb12)
  clear Lq Lr Lp Ls Lx Ly Pq Pr_ Pp Ps Px TD TU HB
  have Lq := QLq
  clear QLq
  have Lr := QLr
  clear QLr
  have Lp := QLp
  clear QLp
  have Ls := QLs
  clear QLs
  have Lx := QLx
  clear QLx
  have Ly := QLy
  clear QLy
  have Pq := QPq
  clear QPq
  have Pr_ := QPr_
  clear QPr_
  have Pp := QPp
  clear QPp
  have Ps := QPs
  clear QPs
  have Px := QPx
  clear QPx
  have TD := QTD
  clear QTD
  have TU := QTU
  clear QTU
  have HB := QHB
  clear QHB
  have Lh : Hid (Lm w12 w12.heap.size Ah nh ch (digs 99)) := hh
  clear hh
  clear hb12
  go_wp2_with fail
  refine (ex_sq _ _ _ _ Lh.out).mono ?_
  rintro e w13 ⟨Az, nz, cz, rfl, hz, hb13⟩
  have QLq := Lib.hid ((Lq.out.via hb13))
  have QLr := Lib.hid ((Lr.out.via hb13))
  have QLp := Lib.hid ((Lp.out.via hb13))
  have QLs := Lib.hid ((Ls.out.via hb13))
  have QLx := Lib.hid ((Lx.out.via hb13))
  have QLy := Lib.hid ((Ly.out.via hb13))
  have QLh := Lib.hid ((Lh.out.via hb13))
  have QPq := Lib.hid (Pq.out.via hb13)
  have QPr_ := Lib.hid (Pr_.out.via hb13)
  have QPp := Lib.hid (Pp.out.via hb13)
  have QPs := Lib.hid (Ps.out.via hb13)
  have QPx := Lib.hid (Px.out.via hb13)
  have QPy := Lib.hid (Py.out.via hb13)
  have QTD := Lib.hid (TD.out.via hb13)
  have QTU := Lib.hid (TU.out.via hb13)
  have QHB := Lib.hid (HB.out.trans (hb13.mono HB.out.size))
  clear Lq Lr Lp Ls Lx Ly Lh Pq Pr_ Pp Ps Px Py TD TU HB
  have Lq := QLq
  clear QLq
  have Lr := QLr
  clear QLr
  have Lp := QLp
  clear QLp
  have Ls := QLs
  clear QLs
  have Lx := QLx
  clear QLx
  have Ly := QLy
  clear QLy
  have Lh := QLh
  clear QLh
  have Pq := QPq
  clear QPq
  have Pr_ := QPr_
  clear QPr_
  have Pp := QPp
  clear QPp
  have Ps := QPs
  clear QPs
  have Px := QPx
  clear QPx
  have Py := QPy
  clear QPy
  have TD := QTD
  clear QTD
  have TU := QTU
  clear QTU
  have HB := QHB
  clear QHB
  have Lz := Lib.hid hz
  clear hz
  clear hb13
  go_wp2_with fail
  refine (whole_any _ _ _ _ _ [0, 0, 1] ((Lm.three _ (w13.heap.size + 1) _ (by simp)).mono (by simp))).mono ?_
  rintro e w14 ⟨rfl, hb14⟩
  have QLq := Lib.hid ((((Lq.out.box _).box _).via hb14))
  have QLr := Lib.hid ((((Lr.out.box _).box _).via hb14))
  have QLp := Lib.hid ((((Lp.out.box _).box _).via hb14))
  have QLs := Lib.hid ((((Ls.out.box _).box _).via hb14))
  have QLx := Lib.hid ((((Lx.out.box _).box _).via hb14))
  have QLy := Lib.hid ((((Ly.out.box _).box _).via hb14))
  have QLz := Lib.hid ((((Lz.out.box _).box _).via hb14))
  have QPq := Lib.hid (((Pq.out.alloc _).alloc _).via hb14)
  have QPr_ := Lib.hid (((Pr_.out.alloc _).alloc _).via hb14)
  have QPp := Lib.hid (((Pp.out.alloc _).alloc _).via hb14)
  have QPs := Lib.hid (((Ps.out.alloc _).alloc _).via hb14)
  have QPx := Lib.hid (((Px.out.alloc _).alloc _).via hb14)
  have QPy := Lib.hid (((Py.out.alloc _).alloc _).via hb14)
  have QTD := Lib.hid (((TD.out.box _).box _).via hb14)
  have QTU := Lib.hid (((TU.out.box _).box _).via hb14)
  have QHB := Lib.hid (HB.out.trans ((bbox (bbox hb14)).mono HB.out.size))
  have Pz := Lib.hid (((Pr.new _ _ rfl _ _ _).alloc _).via hb14)
  clear Lq Lr Lp Ls Lx Ly Lz Pq Pr_ Pp Ps Px Py TD TU HB
  have Lq := QLq
  clear QLq
  have Lr := QLr
  clear QLr
  have Lp := QLp
  clear QLp
  have Ls := QLs
  clear QLs
  have Lx := QLx
  clear QLx
  have Ly := QLy
  clear QLy
  have Lz := QLz
  clear QLz
  have Pq := QPq
  clear QPq
  have Pr_ := QPr_
  clear QPr_
  have Pp := QPp
  clear QPp
  have Ps := QPs
  clear QPs
  have Px := QPx
  clear QPx
  have Py := QPy
  clear QPy
  have TD := QTD
  clear QTD
  have TU := QTU
  clear QTU
  have HB := QHB
  clear QHB
  have L3 := Lib.hid (((Lm.three _ (w13.heap.size + 1) _ (by simp)).mono (by simp)).via hb14)
  clear hb14
  go_wp2_with fail
  refine (ex_txt _ _ _ _ L3.out TU.out).mono ?_
  rintro e w15 ⟨rfl, hb15⟩
  have QLq := Lib.hid ((Lq.out.via hb15))
  have QLr := Lib.hid ((Lr.out.via hb15))
  have QLp := Lib.hid ((Lp.out.via hb15))
  have QLs := Lib.hid ((Ls.out.via hb15))
  have QLx := Lib.hid ((Lx.out.via hb15))
  have QLy := Lib.hid ((Ly.out.via hb15))
  have QLz := Lib.hid ((Lz.out.via hb15))
  have QL3 := Lib.hid ((L3.out.via hb15))
  have QPq := Lib.hid (Pq.out.via hb15)
  have QPr_ := Lib.hid (Pr_.out.via hb15)
  have QPp := Lib.hid (Pp.out.via hb15)
  have QPs := Lib.hid (Ps.out.via hb15)
  have QPx := Lib.hid (Px.out.via hb15)
  have QPy := Lib.hid (Py.out.via hb15)
  have QPz := Lib.hid (Pz.out.via hb15)
  have QTD := Lib.hid (TD.out.via hb15)
  have QTU := Lib.hid (TU.out.via hb15)
  have QHB := Lib.hid (HB.out.trans (hb15.mono HB.out.size))
  clear Lq Lr Lp Ls Lx Ly Lz L3 Pq Pr_ Pp Ps Px Py Pz TD TU HB
  have Lq := QLq
  clear QLq
  have Lr := QLr
  clear QLr
  have Lp := QLp
  clear QLp
  have Ls := QLs
  clear QLs
  have Lx := QLx
  clear QLx
  have Ly := QLy
  clear QLy
  have Lz := QLz
  clear QLz
  have L3 := QL3
  clear QL3
  have Pq := QPq
  clear QPq
  have Pr_ := QPr_
  clear QPr_
  have Pp := QPp
  clear QPp
  have Ps := QPs
  clear QPs
  have Px := QPx
  clear QPx
  have Py := QPy
  clear QPy
  have Pz := QPz
  clear QPz
  have TD := QTD
  clear QTD
  have TU := QTU
  clear QTU
  have HB := QHB
  clear QHB
  clear hb15
  clear L3
  have ⟨c0, c1, _, _, _⟩ := Pq.out
  go_wp2_with fail
  refine (lsame_true _ true _ _ _ 4 (-4) Lq.out (by decide) (by decide) (by omega) (by omega)).mono ?_
  rintro e w16 ⟨rfl, hb16⟩
  have QLq := Lib.hid ((Lq.out.via hb16))
  have QLr := Lib.hid ((Lr.out.via hb16))
  have QLp := Lib.hid ((Lp.out.via hb16))
  have QLs := Lib.hid ((Ls.out.via hb16))
  have QLx := Lib.hid ((Lx.out.via hb16))
  have QLy := Lib.hid ((Ly.out.via hb16))
  have QLz := Lib.hid ((Lz.out.via hb16))
  have QPq := Lib.hid (Pq.out.via hb16)
  have QPr_ := Lib.hid (Pr_.out.via hb16)
  have QPp := Lib.hid (Pp.out.via hb16)
  have QPs := Lib.hid (Ps.out.via hb16)
  have QPx := Lib.hid (Px.out.via hb16)
  have QPy := Lib.hid (Py.out.via hb16)
  have QPz := Lib.hid (Pz.out.via hb16)
  have QTD := Lib.hid (TD.out.via hb16)
  have QTU := Lib.hid (TU.out.via hb16)
  have QHB := Lib.hid (HB.out.trans (hb16.mono HB.out.size))
  clear Lq Lr Lp Ls Lx Ly Lz Pq Pr_ Pp Ps Px Py Pz TD TU HB
  have Lq := QLq
  clear QLq
  have Lr := QLr
  clear QLr
  have Lp := QLp
  clear QLp
  have Ls := QLs
  clear QLs
  have Lx := QLx
  clear QLx
  have Ly := QLy
  clear QLy
  have Lz := QLz
  clear QLz
  have Pq := QPq
  clear QPq
  have Pr_ := QPr_
  clear QPr_
  have Pp := QPp
  clear QPp
  have Ps := QPs
  clear QPs
  have Px := QPx
  clear QPx
  have Py := QPy
  clear QPy
  have Pz := QPz
  clear QPz
  have TD := QTD
  clear QTD
  have TU := QTU
  clear QTU
  have HB := QHB
  clear QHB
  clear c0 c1
  clear hb16
  have ⟨c0, c1, _, _, _⟩ := Pr_.out
  go_wp2_with fail
  refine (lsame_true _ false _ _ _ 1 (1) Lr.out (by decide) (by decide) (by omega) (by omega)).mono ?_
  rintro e w17 ⟨rfl, hb17⟩
  have QLq := Lib.hid ((Lq.out.via hb17))
  have QLr := Lib.hid ((Lr.out.via hb17))
  have QLp := Lib.hid ((Lp.out.via hb17))
  have QLs := Lib.hid ((Ls.out.via hb17))
  have QLx := Lib.hid ((Lx.out.via hb17))
  have QLy := Lib.hid ((Ly.out.via hb17))
  have QLz := Lib.hid ((Lz.out.via hb17))
  have QPq := Lib.hid (Pq.out.via hb17)
  have QPr_ := Lib.hid (Pr_.out.via hb17)
  have QPp := Lib.hid (Pp.out.via hb17)
  have QPs := Lib.hid (Ps.out.via hb17)
  have QPx := Lib.hid (Px.out.via hb17)
  have QPy := Lib.hid (Py.out.via hb17)
  have QPz := Lib.hid (Pz.out.via hb17)
  have QTD := Lib.hid (TD.out.via hb17)
  have QTU := Lib.hid (TU.out.via hb17)
  have QHB := Lib.hid (HB.out.trans (hb17.mono HB.out.size))
  clear Lq Lr Lp Ls Lx Ly Lz Pq Pr_ Pp Ps Px Py Pz TD TU HB
  have Lq := QLq
  clear QLq
  have Lr := QLr
  clear QLr
  have Lp := QLp
  clear QLp
  have Ls := QLs
  clear QLs
  have Lx := QLx
  clear QLx
  have Ly := QLy
  clear QLy
  have Lz := QLz
  clear QLz
  have Pq := QPq
  clear QPq
  have Pr_ := QPr_
  clear QPr_
  have Pp := QPp
  clear QPp
  have Ps := QPs
  clear QPs
  have Px := QPx
  clear QPx
  have Py := QPy
  clear QPy
  have Pz := QPz
  clear QPz
  have TD := QTD
  clear QTD
  have TU := QTU
  clear QTU
  have HB := QHB
  clear QHB
  clear c0 c1
  clear hb17
  have ⟨c0, c1, _, _, _⟩ := Pp.out
  go_wp2_with fail
  refine (lsame_true _ true _ _ _ 4 (-4) Lp.out (by decide) (by decide) (by omega) (by omega)).mono ?_
  rintro e w18 ⟨rfl, hb18⟩
  have QLq := Lib.hid ((Lq.out.via hb18))
  have QLr := Lib.hid ((Lr.out.via hb18))
  have QLp := Lib.hid ((Lp.out.via hb18))
  have QLs := Lib.hid ((Ls.out.via hb18))
  have QLx := Lib.hid ((Lx.out.via hb18))
  have QLy := Lib.hid ((Ly.out.via hb18))
  have QLz := Lib.hid ((Lz.out.via hb18))
  have QPq := Lib.hid (Pq.out.via hb18)
  have QPr_ := Lib.hid (Pr_.out.via hb18)
  have QPp := Lib.hid (Pp.out.via hb18)
  have QPs := Lib.hid (Ps.out.via hb18)
  have QPx := Lib.hid (Px.out.via hb18)
  have QPy := Lib.hid (Py.out.via hb18)
  have QPz := Lib.hid (Pz.out.via hb18)
  have QTD := Lib.hid (TD.out.via hb18)
  have QTU := Lib.hid (TU.out.via hb18)
  have QHB := Lib.hid (HB.out.trans (hb18.mono HB.out.size))
  clear Lq Lr Lp Ls Lx Ly Lz Pq Pr_ Pp Ps Px Py Pz TD TU HB
  have Lq := QLq
  clear QLq
  have Lr := QLr
  clear QLr
  have Lp := QLp
  clear QLp
  have Ls := QLs
  clear QLs
  have Lx := QLx
  clear QLx
  have Ly := QLy
  clear QLy
  have Lz := QLz
  clear QLz
  have Pq := QPq
  clear QPq
  have Pr_ := QPr_
  clear QPr_
  have Pp := QPp
  clear QPp
  have Ps := QPs
  clear QPs
  have Px := QPx
  clear QPx
  have Py := QPy
  clear QPy
  have Pz := QPz
  clear QPz
  have TD := QTD
  clear QTD
  have TU := QTU
  clear QTU
  have HB := QHB
  clear QHB
  clear c0 c1
  clear hb18
  have ⟨c0, c1, _, _, _⟩ := Ps.out
  go_wp2_with fail
  refine (lsame_true _ true _ _ _ 1 (-1) Ls.out (by decide) (by decide) (by omega) (by omega)).mono ?_
  rintro e w19 ⟨rfl, hb19⟩
  have QLq := Lib.hid ((Lq.out.via hb19))
  have QLr := Lib.hid ((Lr.out.via hb19))
  have QLp := Lib.hid ((Lp.out.via hb19))
  have QLs := Lib.hid ((Ls.out.via hb19))
  have QLx := Lib.hid ((Lx.out.via hb19))
  have QLy := Lib.hid ((Ly.out.via hb19))
  have QLz := Lib.hid ((Lz.out.via hb19))
  have QPq := Lib.hid (Pq.out.via hb19)
  have QPr_ := Lib.hid (Pr_.out.via hb19)
  have QPp := Lib.hid (Pp.out.via hb19)
  have QPs := Lib.hid (Ps.out.via hb19)
  have QPx := Lib.hid (Px.out.via hb19)
  have QPy := Lib.hid (Py.out.via hb19)
  have QPz := Lib.hid (Pz.out.via hb19)
  have QTD := Lib.hid (TD.out.via hb19)
  have QTU := Lib.hid (TU.out.via hb19)
  have QHB := Lib.hid (HB.out.trans (hb19.mono HB.out.size))
  clear Lq Lr Lp Ls Lx Ly Lz Pq Pr_ Pp Ps Px Py Pz TD TU HB
  have Lq := QLq
  clear QLq
  have Lr := QLr
  clear QLr
  have Lp := QLp
  clear QLp
  have Ls := QLs
  clear QLs
  have Lx := QLx
  clear QLx
  have Ly := QLy
  clear QLy
  have Lz := QLz
  clear QLz
  have Pq := QPq
  clear QPq
  have Pr_ := QPr_
  clear QPr_
  have Pp := QPp
  clear QPp
  have Ps := QPs
  clear QPs
  have Px := QPx
  clear QPx
  have Py := QPy
  clear QPy
  have Pz := QPz
  clear QPz
  have TD := QTD
  clear QTD
  have TU := QTU
  clear QTU
  have HB := QHB
  clear QHB
  clear c0 c1
  clear hb19
  have ⟨c0, c1, _, _, _⟩ := Px.out
  go_wp2_with fail
  refine (lsame_true _ true _ _ _ 3 (-3) Lx.out (by decide) (by decide) (by omega) (by omega)).mono ?_
  rintro e w20 ⟨rfl, hb20⟩
  have QLq := Lib.hid ((Lq.out.via hb20))
  have QLr := Lib.hid ((Lr.out.via hb20))
  have QLp := Lib.hid ((Lp.out.via hb20))
  have QLs := Lib.hid ((Ls.out.via hb20))
  have QLx := Lib.hid ((Lx.out.via hb20))
  have QLy := Lib.hid ((Ly.out.via hb20))
  have QLz := Lib.hid ((Lz.out.via hb20))
  have QPq := Lib.hid (Pq.out.via hb20)
  have QPr_ := Lib.hid (Pr_.out.via hb20)
  have QPp := Lib.hid (Pp.out.via hb20)
  have QPs := Lib.hid (Ps.out.via hb20)
  have QPx := Lib.hid (Px.out.via hb20)
  have QPy := Lib.hid (Py.out.via hb20)
  have QPz := Lib.hid (Pz.out.via hb20)
  have QTD := Lib.hid (TD.out.via hb20)
  have QTU := Lib.hid (TU.out.via hb20)
  have QHB := Lib.hid (HB.out.trans (hb20.mono HB.out.size))
  clear Lq Lr Lp Ls Lx Ly Lz Pq Pr_ Pp Ps Px Py Pz TD TU HB
  have Lq := QLq
  clear QLq
  have Lr := QLr
  clear QLr
  have Lp := QLp
  clear QLp
  have Ls := QLs
  clear QLs
  have Lx := QLx
  clear QLx
  have Ly := QLy
  clear QLy
  have Lz := QLz
  clear QLz
  have Pq := QPq
  clear QPq
  have Pr_ := QPr_
  clear QPr_
  have Pp := QPp
  clear QPp
  have Ps := QPs
  clear QPs
  have Px := QPx
  clear QPx
  have Py := QPy
  clear QPy
  have Pz := QPz
  clear QPz
  have TD := QTD
  clear QTD
  have TU := QTU
  clear QTU
  have HB := QHB
  clear QHB
  clear c0 c1
  clear hb20
  have ⟨c0, c1, _, _, _⟩ := Py.out
  go_wp2_with fail
  refine (lsame_true _ false _ _ _ 6 (6) Ly.out (by decide) (by decide) (by omega) (by omega)).mono ?_
  rintro e w21 ⟨rfl, hb21⟩
  have QLq := Lib.hid ((Lq.out.via hb21))
  have QLr := Lib.hid ((Lr.out.via hb21))
  have QLp := Lib.hid ((Lp.out.via hb21))
  have QLs := Lib.hid ((Ls.out.via hb21))
  have QLx := Lib.hid ((Lx.out.via hb21))
  have QLy := Lib.hid ((Ly.out.via hb21))
  have QLz := Lib.hid ((Lz.out.via hb21))
  have QPq := Lib.hid (Pq.out.via hb21)
  have QPr_ := Lib.hid (Pr_.out.via hb21)
  have QPp := Lib.hid (Pp.out.via hb21)
  have QPs := Lib.hid (Ps.out.via hb21)
  have QPx := Lib.hid (Px.out.via hb21)
  have QPy := Lib.hid (Py.out.via hb21)
  have QPz := Lib.hid (Pz.out.via hb21)
  have QTD := Lib.hid (TD.out.via hb21)
  have QTU := Lib.hid (TU.out.via hb21)
  have QHB := Lib.hid (HB.out.trans (hb21.mono HB.out.size))
  clear Lq Lr Lp Ls Lx Ly Lz Pq Pr_ Pp Ps Px Py Pz TD TU HB
  have Lq := QLq
  clear QLq
  have Lr := QLr
  clear QLr
  have Lp := QLp
  clear QLp
  have Ls := QLs
  clear QLs
  have Lx := QLx
  clear QLx
  have Ly := QLy
  clear QLy
  have Lz := QLz
  clear QLz
  have Pq := QPq
  clear QPq
  have Pr_ := QPr_
  clear QPr_
  have Pp := QPp
  clear QPp
  have Ps := QPs
  clear QPs
  have Px := QPx
  clear QPx
  have Py := QPy
  clear QPy
  have Pz := QPz
  clear QPz
  have TD := QTD
  clear QTD
  have TU := QTU
  clear QTU
  have HB := QHB
  clear QHB
  clear c0 c1
  clear hb21
  have ⟨c0, c1, _, _, _⟩ := Pz.out
  go_wp2_with fail
  refine (lsame_true _ false _ _ _ 9 (9) Lz.out (by decide) (by decide) (by omega) (by omega)).mono ?_
  rintro e w22 ⟨rfl, hb22⟩
  have QLq := Lib.hid ((Lq.out.via hb22))
  have QLr := Lib.hid ((Lr.out.via hb22))
  have QLp := Lib.hid ((Lp.out.via hb22))
  have QLs := Lib.hid ((Ls.out.via hb22))
  have QLx := Lib.hid ((Lx.out.via hb22))
  have QLy := Lib.hid ((Ly.out.via hb22))
  have QLz := Lib.hid ((Lz.out.via hb22))
  have QPq := Lib.hid (Pq.out.via hb22)
  have QPr_ := Lib.hid (Pr_.out.via hb22)
  have QPp := Lib.hid (Pp.out.via hb22)
  have QPs := Lib.hid (Ps.out.via hb22)
  have QPx := Lib.hid (Px.out.via hb22)
  have QPy := Lib.hid (Py.out.via hb22)
  have QPz := Lib.hid (Pz.out.via hb22)
  have QTD := Lib.hid (TD.out.via hb22)
  have QTU := Lib.hid (TU.out.via hb22)
  have QHB := Lib.hid (HB.out.trans (hb22.mono HB.out.size))
  clear Lq Lr Lp Ls Lx Ly Lz Pq Pr_ Pp Ps Px Py Pz TD TU HB
  have Lq := QLq
  clear QLq
  have Lr := QLr
  clear QLr
  have Lp := QLp
  clear QLp
  have Ls := QLs
  clear QLs
  have Lx := QLx
  clear QLx
  have Ly := QLy
  clear QLy
  have Lz := QLz
  clear QLz
  have Pq := QPq
  clear QPq
  have Pr_ := QPr_
  clear QPr_
  have Pp := QPp
  clear QPp
  have Ps := QPs
  clear QPs
  have Px := QPx
  clear QPx
  have Py := QPy
  clear QPy
  have Pz := QPz
  clear QPz
  have TD := QTD
  clear QTD
  have TU := QTU
  clear QTU
  have HB := QHB
  clear QHB
  clear c0 c1
  clear hb22
  go_wp2
  go_ret
  exact ⟨rfl, HB.out⟩
end Go.Proofs.YtkcdijhfiahibaaDoor

/- What a tied row's condition gives: the library's tables lie in their variables; numbers that come in; the witness. -/
namespace Go.Proofs.YtkcdijhfiahibaaDoor
section
open Go.ChangeShapes Go.WideShapes Go.ChangeAt Go.RowKit Go.Joins

theorem cells_u32 : Tryd.prog.cellsOf 53 = 1 := by kernel_rfl
theorem cells_wide : Tryd.prog.cellsOf 24 = 2 := by kernel_rfl
theorem laidOut : laidOutB Tryd.prog = true := by kernel_rfl
theorem own : ownKnob Tryd.prog.godebug = none := by kernel_rfl
theorem wf_u32 {n : Int} (h : (Lit.int .u32 n).wf = true) : 0 ≤ n ∧ n < 4294967296 := by
  have h1 : IntKind.u32.min = 0 := rfl
  have h2 : IntKind.u32.max = 4294967295 := rfl
  simp only [Lit.wf, Bool.and_eq_true, decide_eq_true_eq] at h
  omega

set_option maxRecDepth 100000 in
theorem open_wide {H : Type} {enc : TypeId × Value → H} {w : World} {b0 : Nat} {v : Value} {d : DataW H} {p : List MemPlace}
    (hv : Value.okWide Tryd.prog w .any b0 24 v) (h : DataW.Trod enc Tryd.prog w 0 (fun _ => true) true 24 v d p) (hlt : ∀ x ∈ p, x.block < w.heap.size) :
    ∃ neg A n c xs, v = .agg #[.bool neg, .slice A n c] ∧ Lm w w.heap.size A n c xs := by
  obtain ⟨v0, v1, y0, y1, fuel, rfl, rfl, rfl, h0, h1⟩ := open_agg2 Tryd.underlying24 (by kernel_rfl) cells_wide hv h
  obtain ⟨neg, e0, rfl⟩ := DataW.trod_bool Tryd.underlying4 h0
  obtain rfl : v0 = .bool neg := by simpa using e0
  rcases open_ints Tryd.underlying22 Tryd.underlying53 cells_u32 h1 with ⟨e1, rfl⟩ | ⟨a, len, cap, zs, e1, _, hl, hm, hz, rfl, hcell, hwz⟩
  · obtain rfl : v1 = .slice none 0 0 := by simpa using e1
    exact ⟨neg, none, 0, 0, [], rfl, Lm.nil _ _⟩
  · obtain rfl : v1 = .slice (some a) len cap := by simpa using e1
    simp only [if_true] at hz
    have hget : ∀ j, j < len → (((zs.take len).map Int.toNat)[j]?.getD 0 : Nat) = (zs.getD j 0).toNat ∧ 0 ≤ zs.getD j 0 := by
      intro j hj
      have hjz : j < zs.length := by omega
      have e2 : (zs.take len)[j]? = some zs[j] := by rw [List.getElem?_take_of_lt hj, List.getElem?_eq_getElem hjz]
      have e3 : zs.getD j 0 = zs[j] := by simp [List.getD, List.getElem?_eq_getElem hjz]
      rw [List.getElem?_map, e2, e3]
      exact ⟨rfl, (wf_u32 (hwz _ (List.getElem_mem hjz))).1⟩
    refine ⟨neg, some a, len, cap, (zs.take len).map Int.toNat, rfl, by simp; omega, ?_, hl, by simp only [maxLen] at hm; omega, (fun e => by cases e), fun hn => ?_⟩
    · intro x hx
      obtain ⟨y, hy, rfl⟩ := List.mem_map.1 hx
      have := wf_u32 (hwz y (List.mem_of_mem_take hy))
      omega
    · obtain ⟨b, off, spot⟩ := a
      have hspot : spot = none := by simpa [Addr.add] using World.cell?_spot (hcell 0 (by omega))
      subst hspot
      have hbW : b < w.heap.size := hlt (.cell b off) (by simp only [List.mem_append]; exact .inr (MemPlace.mem_row.2 ⟨0, by omega, by simp⟩))
      refine ⟨b, off, rfl, hbW, fun j hj => ?_⟩
      have hcj := hcell j (by omega)
      rw [add_plain] at hcj
      rw [hcj, (hget j hj).1, Int.toNat_of_nonneg (hget j hj).2]
end
/-- The three tables, as the rows list them. -/
def laid3 : List (String × DataW Unit) := [("math/bits.deBruijn32tab", Rows.laid_math_bits_deBruijn32tab), ("math/bits.deBruijn64tab", Rows.laid_math_bits_deBruijn64tab), ("internal/strconv.uint64pow10", Rows.laid_internal_strconv_uint64pow10)]
theorem gD32 : Tryd.prog.globalNamed "math/bits.deBruijn32tab" = some 0 := by kernel_rfl
theorem gU64 : Tryd.prog.globalNamed "internal/strconv.uint64pow10" = some 1 := by kernel_rfl
theorem tabD_of {W : World} {rest : List (String × DataW Unit)} (h : laidMet Tryd.prog (("math/bits.deBruijn32tab", Rows.laid_math_bits_deBruijn32tab) :: rest) W) : TabD W := by
  have hT : Lib.TabIs Tryd.prog W "math/bits.deBruijn32tab" .u8 (List.map (fun (n : Nat) => (n : Int)) Lib.deBruijn32tab) := Lib.tabIs_of_head (n := 32) (t := 102) (e := 5) gD32 (by kernel_rfl) (by kernel_rfl) Tryd.underlying5 (by kernel_rfl) (by kernel_rfl) h
  intro j hj
  rw [hT.cell gD32 j (by rw [List.length_map]; exact hj)]
  have : j < Lib.deBruijn32tab.length := hj
  simp [List.getD, List.getElem?_map, List.getElem?_eq_getElem this]
theorem tabs_of {W : World} (h : laidMetH Tryd.prog laid3 W) : TabD W ∧ TabU W := by
  rw [MakeChecks.laidMetH_plain _ _ _ (by kernel_rfl)] at h
  refine ⟨tabD_of h, ?_⟩
  exact Lib.tabIs_of_head (n := 20) (t := 117) (e := 63) gU64 (by kernel_rfl) (by kernel_rfl) Tryd.underlying63 (by kernel_rfl) (by kernel_rfl) h.tail.tail
/-- The door's own heap meets the condition. -/
theorem door_met (os : Os) (args : Array Value) : laidMetH Tryd.prog laid3 ((World.doorLaid Tryd.prog 24 os).forCall (fun _ _ => 0) ⟨#[], args, []⟩).memory :=
  laidMetH_of_parts3 (fuel := 8) (laidMet_of_run' 8 (by kernel_rfl) (by kernel_rfl)) (by kernel_rfl) (by kernel_rfl)
end Go.Proofs.YtkcdijhfiahibaaDoor

/- The law's 'long': whether one of three numbers is not valid, or has too many limbs. -/
namespace Go.Proofs.YtkcdijhfiahibaaDoor
open Go.RowKit
theorem bxs3 {w w1 : World} {t0 t1 t2 : TypeId} {a0 a1 b0 b1 c0 c1 : Value} (hb : Below (((w.alloc (.cells #[a0, a1] t0)).alloc (.cells #[b0, b1] t1)).alloc (.cells #[c0, c1] t2)).heap.size (((w.alloc (.cells #[a0, a1] t0)).alloc (.cells #[b0, b1] t1)).alloc (.cells #[c0, c1] t2)) w1) :
    Pr w1 w.heap.size a0 a1 ∧ Pr w1 (w.heap.size + 1) b0 b1 ∧ Pr w1 (w.heap.size + 1 + 1) c0 c1 :=
  ⟨(((Pr.new w _ rfl a0 a1 t0).alloc _).alloc _).via hb, ((Pr.new _ _ (by simp) b0 b1 t1).alloc _).via hb, (Pr.new _ _ (by simp) c0 c1 t2).via hb⟩
section
variable (w : World) (na nb nc : Bool) (A B C : Option Addr) (n m k ca cb cc : Nat) (xs ys zs : List Nat) (q : Int) (hA : Lm w w.heap.size A n ca xs) (hB : Lm w w.heap.size B m cb ys) (hC : Lm w w.heap.size C k cc zs)
include hA hB hC
set_option maxRecDepth 100000 in
set_option maxHeartbeats 1000000 in
theorem long_a (k0 : chk na xs = 8) :
    Calls Tryd.prog 7 #[.int .i64 q, .agg #[.bool na, .slice A n ca], .agg #[.bool nb, .slice B m cb], .agg #[.bool nc, .slice C k cc]] w fun e w' => e = .returned (.bool true) ∧ Below w.heap.size w w' := by
  have h1a := hA.cap
  have h2a := hA.max
  have HA := Lib.hid hA
  have h1b := hB.cap
  have h2b := hB.max
  have HB := Lib.hid hB
  have h1c := hC.cap
  have h2c := hC.max
  have HC := Lib.hid hC
  clear hA hB hC
  have K0 := Lib.hid k0
  clear k0
  go_enter Tryd.func7, Tryd.ntmps7
  go_wp2_with fail
  refine (rcheck_bad _ _ _ _ _ _ (((HA.out.box _).box _).box _) K0.out).mono ?_
  rintro e w1 ⟨rfl, hb1⟩
  have ⟨P1, P2, P3⟩ := bxs3 hb1
  have HBl := Lib.hid (bbox (bbox (bbox hb1)))
  have MA := Lib.hid ((((HA.out.box _).box _).box _).via hb1)
  have MB := Lib.hid ((((HB.out.box _).box _).box _).via hb1)
  have MC := Lib.hid ((((HC.out.box _).box _).box _).via hb1)
  clear hb1
  have ⟨u0, u1, _, _, _⟩ := P1
  have ⟨u2, u3, _, _, _⟩ := P2
  have ⟨u4, u5, _, _, _⟩ := P3
  go_wp2
  go_ret
  first | exact ⟨rfl, HBl.out⟩ | exact ⟨ret_bool (by simp; omega), HBl.out⟩ | exact ⟨ret_bool (by simp [g0, g1, g2]), HBl.out⟩
set_option maxRecDepth 100000 in
set_option maxHeartbeats 1000000 in
theorem long_b (k0 : chk na xs = 0) (k1 : chk nb ys = 8) :
    Calls Tryd.prog 7 #[.int .i64 q, .agg #[.bool na, .slice A n ca], .agg #[.bool nb, .slice B m cb], .agg #[.bool nc, .slice C k cc]] w fun e w' => e = .returned (.bool true) ∧ Below w.heap.size w w' := by
  have h1a := hA.cap
  have h2a := hA.max
  have HA := Lib.hid hA
  have h1b := hB.cap
  have h2b := hB.max
  have HB := Lib.hid hB
  have h1c := hC.cap
  have h2c := hC.max
  have HC := Lib.hid hC
  clear hA hB hC
  have K0 := Lib.hid k0
  clear k0
  have K1 := Lib.hid k1
  clear k1
  go_enter Tryd.func7, Tryd.ntmps7
  go_wp2_with fail
  refine (rcheck_ok _ _ _ _ _ _ (((HA.out.box _).box _).box _) K0.out).mono ?_
  rintro e w1 ⟨rfl, hb1⟩
  have ⟨P1, P2, P3⟩ := bxs3 hb1
  have HBl := Lib.hid (bbox (bbox (bbox hb1)))
  have MA := Lib.hid ((((HA.out.box _).box _).box _).via hb1)
  have MB := Lib.hid ((((HB.out.box _).box _).box _).via hb1)
  have MC := Lib.hid ((((HC.out.box _).box _).box _).via hb1)
  clear hb1
  have ⟨u0, u1, _, _, _⟩ := P1
  have ⟨u2, u3, _, _, _⟩ := P2
  have ⟨u4, u5, _, _, _⟩ := P3
  go_wp2_with fail
  refine (rcheck_bad _ _ _ _ _ _ MB.out K1.out).mono ?_
  rintro e w2 ⟨rfl, hb2⟩
  have QP1 := P1.via hb2
  have QP2 := P2.via hb2
  have QP3 := P3.via hb2
  have QMA := Lib.hid (MA.out.via hb2)
  have QMB := Lib.hid (MB.out.via hb2)
  have QMC := Lib.hid (MC.out.via hb2)
  have QB := Lib.hid (HBl.out.trans (hb2.mono HBl.out.size))
  clear P1 P2 P3 MA MB MC HBl hb2 u0 u1 u2 u3 u4 u5
  have P1 := QP1
  clear QP1
  have P2 := QP2
  clear QP2
  have P3 := QP3
  clear QP3
  have MA := QMA
  clear QMA
  have MB := QMB
  clear QMB
  have MC := QMC
  clear QMC
  have HBl := QB
  clear QB
  have ⟨u0, u1, _, _, _⟩ := P1
  have ⟨u2, u3, _, _, _⟩ := P2
  have ⟨u4, u5, _, _, _⟩ := P3
  go_wp2
  go_ret
  first | exact ⟨rfl, HBl.out⟩ | exact ⟨ret_bool (by simp; omega), HBl.out⟩ | exact ⟨ret_bool (by simp [g0, g1, g2]), HBl.out⟩
set_option maxRecDepth 100000 in
set_option maxHeartbeats 1000000 in
theorem long_c (k0 : chk na xs = 0) (k1 : chk nb ys = 0) (k2 : chk nc zs = 8) :
    Calls Tryd.prog 7 #[.int .i64 q, .agg #[.bool na, .slice A n ca], .agg #[.bool nb, .slice B m cb], .agg #[.bool nc, .slice C k cc]] w fun e w' => e = .returned (.bool true) ∧ Below w.heap.size w w' := by
  have h1a := hA.cap
  have h2a := hA.max
  have HA := Lib.hid hA
  have h1b := hB.cap
  have h2b := hB.max
  have HB := Lib.hid hB
  have h1c := hC.cap
  have h2c := hC.max
  have HC := Lib.hid hC
  clear hA hB hC
  have K0 := Lib.hid k0
  clear k0
  have K1 := Lib.hid k1
  clear k1
  have K2 := Lib.hid k2
  clear k2
  go_enter Tryd.func7, Tryd.ntmps7
  go_wp2_with fail
  refine (rcheck_ok _ _ _ _ _ _ (((HA.out.box _).box _).box _) K0.out).mono ?_
  rintro e w1 ⟨rfl, hb1⟩
  have ⟨P1, P2, P3⟩ := bxs3 hb1
  have HBl := Lib.hid (bbox (bbox (bbox hb1)))
  have MA := Lib.hid ((((HA.out.box _).box _).box _).via hb1)
  have MB := Lib.hid ((((HB.out.box _).box _).box _).via hb1)
  have MC := Lib.hid ((((HC.out.box _).box _).box _).via hb1)
  clear hb1
  have ⟨u0, u1, _, _, _⟩ := P1
  have ⟨u2, u3, _, _, _⟩ := P2
  have ⟨u4, u5, _, _, _⟩ := P3
  go_wp2_with fail
  refine (rcheck_ok _ _ _ _ _ _ MB.out K1.out).mono ?_
  rintro e w2 ⟨rfl, hb2⟩
  have QP1 := P1.via hb2
  have QP2 := P2.via hb2
  have QP3 := P3.via hb2
  have QMA := Lib.hid (MA.out.via hb2)
  have QMB := Lib.hid (MB.out.via hb2)
  have QMC := Lib.hid (MC.out.via hb2)
  have QB := Lib.hid (HBl.out.trans (hb2.mono HBl.out.size))
  clear P1 P2 P3 MA MB MC HBl hb2 u0 u1 u2 u3 u4 u5
  have P1 := QP1
  clear QP1
  have P2 := QP2
  clear QP2
  have P3 := QP3
  clear QP3
  have MA := QMA
  clear QMA
  have MB := QMB
  clear QMB
  have MC := QMC
  clear QMC
  have HBl := QB
  clear QB
  have ⟨u0, u1, _, _, _⟩ := P1
  have ⟨u2, u3, _, _, _⟩ := P2
  have ⟨u4, u5, _, _, _⟩ := P3
  go_wp2_with fail
  refine (rcheck_bad _ _ _ _ _ _ MC.out K2.out).mono ?_
  rintro e w3 ⟨rfl, hb3⟩
  have QP1 := P1.via hb3
  have QP2 := P2.via hb3
  have QP3 := P3.via hb3
  have QMA := Lib.hid (MA.out.via hb3)
  have QMB := Lib.hid (MB.out.via hb3)
  have QMC := Lib.hid (MC.out.via hb3)
  have QB := Lib.hid (HBl.out.trans (hb3.mono HBl.out.size))
  clear P1 P2 P3 MA MB MC HBl hb3 u0 u1 u2 u3 u4 u5
  have P1 := QP1
  clear QP1
  have P2 := QP2
  clear QP2
  have P3 := QP3
  clear QP3
  have MA := QMA
  clear QMA
  have MB := QMB
  clear QMB
  have MC := QMC
  clear QMC
  have HBl := QB
  clear QB
  have ⟨u0, u1, _, _, _⟩ := P1
  have ⟨u2, u3, _, _, _⟩ := P2
  have ⟨u4, u5, _, _, _⟩ := P3
  go_wp2
  go_ret
  first | exact ⟨rfl, HBl.out⟩ | exact ⟨ret_bool (by simp; omega), HBl.out⟩ | exact ⟨ret_bool (by simp [g0, g1, g2]), HBl.out⟩
set_option maxRecDepth 100000 in
set_option maxHeartbeats 1000000 in
theorem long_d (k0 : chk na xs = 0) (k1 : chk nb ys = 0) (k2 : chk nc zs = 0) (g0 : q < (n : Int)) :
    Calls Tryd.prog 7 #[.int .i64 q, .agg #[.bool na, .slice A n ca], .agg #[.bool nb, .slice B m cb], .agg #[.bool nc, .slice C k cc]] w fun e w' => e = .returned (.bool true) ∧ Below w.heap.size w w' := by
  have h1a := hA.cap
  have h2a := hA.max
  have HA := Lib.hid hA
  have h1b := hB.cap
  have h2b := hB.max
  have HB := Lib.hid hB
  have h1c := hC.cap
  have h2c := hC.max
  have HC := Lib.hid hC
  clear hA hB hC
  have K0 := Lib.hid k0
  clear k0
  have K1 := Lib.hid k1
  clear k1
  have K2 := Lib.hid k2
  clear k2
  go_enter Tryd.func7, Tryd.ntmps7
  go_wp2_with fail
  refine (rcheck_ok _ _ _ _ _ _ (((HA.out.box _).box _).box _) K0.out).mono ?_
  rintro e w1 ⟨rfl, hb1⟩
  have ⟨P1, P2, P3⟩ := bxs3 hb1
  have HBl := Lib.hid (bbox (bbox (bbox hb1)))
  have MA := Lib.hid ((((HA.out.box _).box _).box _).via hb1)
  have MB := Lib.hid ((((HB.out.box _).box _).box _).via hb1)
  have MC := Lib.hid ((((HC.out.box _).box _).box _).via hb1)
  clear hb1
  have ⟨u0, u1, _, _, _⟩ := P1
  have ⟨u2, u3, _, _, _⟩ := P2
  have ⟨u4, u5, _, _, _⟩ := P3
  go_wp2_with fail
  refine (rcheck_ok _ _ _ _ _ _ MB.out K1.out).mono ?_
  rintro e w2 ⟨rfl, hb2⟩
  have QP1 := P1.via hb2
  have QP2 := P2.via hb2
  have QP3 := P3.via hb2
  have QMA := Lib.hid (MA.out.via hb2)
  have QMB := Lib.hid (MB.out.via hb2)
  have QMC := Lib.hid (MC.out.via hb2)
  have QB := Lib.hid (HBl.out.trans (hb2.mono HBl.out.size))
  clear P1 P2 P3 MA MB MC HBl hb2 u0 u1 u2 u3 u4 u5
  have P1 := QP1
  clear QP1
  have P2 := QP2
  clear QP2
  have P3 := QP3
  clear QP3
  have MA := QMA
  clear QMA
  have MB := QMB
  clear QMB
  have MC := QMC
  clear QMC
  have HBl := QB
  clear QB
  have ⟨u0, u1, _, _, _⟩ := P1
  have ⟨u2, u3, _, _, _⟩ := P2
  have ⟨u4, u5, _, _, _⟩ := P3
  go_wp2_with fail
  refine (rcheck_ok _ _ _ _ _ _ MC.out K2.out).mono ?_
  rintro e w3 ⟨rfl, hb3⟩
  have QP1 := P1.via hb3
  have QP2 := P2.via hb3
  have QP3 := P3.via hb3
  have QMA := Lib.hid (MA.out.via hb3)
  have QMB := Lib.hid (MB.out.via hb3)
  have QMC := Lib.hid (MC.out.via hb3)
  have QB := Lib.hid (HBl.out.trans (hb3.mono HBl.out.size))
  clear P1 P2 P3 MA MB MC HBl hb3 u0 u1 u2 u3 u4 u5
  have P1 := QP1
  clear QP1
  have P2 := QP2
  clear QP2
  have P3 := QP3
  clear QP3
  have MA := QMA
  clear QMA
  have MB := QMB
  clear QMB
  have MC := QMC
  clear QMC
  have HBl := QB
  clear QB
  have ⟨u0, u1, _, _, _⟩ := P1
  have ⟨u2, u3, _, _, _⟩ := P2
  have ⟨u4, u5, _, _, _⟩ := P3
  go_wp2
  go_ret
  first | exact ⟨rfl, HBl.out⟩ | exact ⟨ret_bool (by simp; omega), HBl.out⟩ | exact ⟨ret_bool (by simp [g0, g1, g2]), HBl.out⟩
set_option maxRecDepth 100000 in
set_option maxHeartbeats 1000000 in
theorem long_e (k0 : chk na xs = 0) (k1 : chk nb ys = 0) (k2 : chk nc zs = 0) (g0 : (n : Int) ≤ q) (g1 : q < (m : Int)) :
    Calls Tryd.prog 7 #[.int .i64 q, .agg #[.bool na, .slice A n ca], .agg #[.bool nb, .slice B m cb], .agg #[.bool nc, .slice C k cc]] w fun e w' => e = .returned (.bool true) ∧ Below w.heap.size w w' := by
  have h1a := hA.cap
  have h2a := hA.max
  have HA := Lib.hid hA
  have h1b := hB.cap
  have h2b := hB.max
  have HB := Lib.hid hB
  have h1c := hC.cap
  have h2c := hC.max
  have HC := Lib.hid hC
  clear hA hB hC
  have K0 := Lib.hid k0
  clear k0
  have K1 := Lib.hid k1
  clear k1
  have K2 := Lib.hid k2
  clear k2
  go_enter Tryd.func7, Tryd.ntmps7
  go_wp2_with fail
  refine (rcheck_ok _ _ _ _ _ _ (((HA.out.box _).box _).box _) K0.out).mono ?_
  rintro e w1 ⟨rfl, hb1⟩
  have ⟨P1, P2, P3⟩ := bxs3 hb1
  have HBl := Lib.hid (bbox (bbox (bbox hb1)))
  have MA := Lib.hid ((((HA.out.box _).box _).box _).via hb1)
  have MB := Lib.hid ((((HB.out.box _).box _).box _).via hb1)
  have MC := Lib.hid ((((HC.out.box _).box _).box _).via hb1)
  clear hb1
  have ⟨u0, u1, _, _, _⟩ := P1
  have ⟨u2, u3, _, _, _⟩ := P2
  have ⟨u4, u5, _, _, _⟩ := P3
  go_wp2_with fail
  refine (rcheck_ok _ _ _ _ _ _ MB.out K1.out).mono ?_
  rintro e w2 ⟨rfl, hb2⟩
  have QP1 := P1.via hb2
  have QP2 := P2.via hb2
  have QP3 := P3.via hb2
  have QMA := Lib.hid (MA.out.via hb2)
  have QMB := Lib.hid (MB.out.via hb2)
  have QMC := Lib.hid (MC.out.via hb2)
  have QB := Lib.hid (HBl.out.trans (hb2.mono HBl.out.size))
  clear P1 P2 P3 MA MB MC HBl hb2 u0 u1 u2 u3 u4 u5
  have P1 := QP1
  clear QP1
  have P2 := QP2
  clear QP2
  have P3 := QP3
  clear QP3
  have MA := QMA
  clear QMA
  have MB := QMB
  clear QMB
  have MC := QMC
  clear QMC
  have HBl := QB
  clear QB
  have ⟨u0, u1, _, _, _⟩ := P1
  have ⟨u2, u3, _, _, _⟩ := P2
  have ⟨u4, u5, _, _, _⟩ := P3
  go_wp2_with fail
  refine (rcheck_ok _ _ _ _ _ _ MC.out K2.out).mono ?_
  rintro e w3 ⟨rfl, hb3⟩
  have QP1 := P1.via hb3
  have QP2 := P2.via hb3
  have QP3 := P3.via hb3
  have QMA := Lib.hid (MA.out.via hb3)
  have QMB := Lib.hid (MB.out.via hb3)
  have QMC := Lib.hid (MC.out.via hb3)
  have QB := Lib.hid (HBl.out.trans (hb3.mono HBl.out.size))
  clear P1 P2 P3 MA MB MC HBl hb3 u0 u1 u2 u3 u4 u5
  have P1 := QP1
  clear QP1
  have P2 := QP2
  clear QP2
  have P3 := QP3
  clear QP3
  have MA := QMA
  clear QMA
  have MB := QMB
  clear QMB
  have MC := QMC
  clear QMC
  have HBl := QB
  clear QB
  have ⟨u0, u1, _, _, _⟩ := P1
  have ⟨u2, u3, _, _, _⟩ := P2
  have ⟨u4, u5, _, _, _⟩ := P3
  go_wp2
  go_ret
  first | exact ⟨rfl, HBl.out⟩ | exact ⟨ret_bool (by simp; omega), HBl.out⟩ | exact ⟨ret_bool (by simp [g0, g1, g2]), HBl.out⟩
set_option maxRecDepth 100000 in
set_option maxHeartbeats 1000000 in
theorem long_f (k0 : chk na xs = 0) (k1 : chk nb ys = 0) (k2 : chk nc zs = 0) (g0 : (n : Int) ≤ q) (g1 : (m : Int) ≤ q) (g2 : q < (k : Int)) :
    Calls Tryd.prog 7 #[.int .i64 q, .agg #[.bool na, .slice A n ca], .agg #[.bool nb, .slice B m cb], .agg #[.bool nc, .slice C k cc]] w fun e w' => e = .returned (.bool true) ∧ Below w.heap.size w w' := by
  have h1a := hA.cap
  have h2a := hA.max
  have HA := Lib.hid hA
  have h1b := hB.cap
  have h2b := hB.max
  have HB := Lib.hid hB
  have h1c := hC.cap
  have h2c := hC.max
  have HC := Lib.hid hC
  clear hA hB hC
  have K0 := Lib.hid k0
  clear k0
  have K1 := Lib.hid k1
  clear k1
  have K2 := Lib.hid k2
  clear k2
  go_enter Tryd.func7, Tryd.ntmps7
  go_wp2_with fail
  refine (rcheck_ok _ _ _ _ _ _ (((HA.out.box _).box _).box _) K0.out).mono ?_
  rintro e w1 ⟨rfl, hb1⟩
  have ⟨P1, P2, P3⟩ := bxs3 hb1
  have HBl := Lib.hid (bbox (bbox (bbox hb1)))
  have MA := Lib.hid ((((HA.out.box _).box _).box _).via hb1)
  have MB := Lib.hid ((((HB.out.box _).box _).box _).via hb1)
  have MC := Lib.hid ((((HC.out.box _).box _).box _).via hb1)
  clear hb1
  have ⟨u0, u1, _, _, _⟩ := P1
  have ⟨u2, u3, _, _, _⟩ := P2
  have ⟨u4, u5, _, _, _⟩ := P3
  go_wp2_with fail
  refine (rcheck_ok _ _ _ _ _ _ MB.out K1.out).mono ?_
  rintro e w2 ⟨rfl, hb2⟩
  have QP1 := P1.via hb2
  have QP2 := P2.via hb2
  have QP3 := P3.via hb2
  have QMA := Lib.hid (MA.out.via hb2)
  have QMB := Lib.hid (MB.out.via hb2)
  have QMC := Lib.hid (MC.out.via hb2)
  have QB := Lib.hid (HBl.out.trans (hb2.mono HBl.out.size))
  clear P1 P2 P3 MA MB MC HBl hb2 u0 u1 u2 u3 u4 u5
  have P1 := QP1
  clear QP1
  have P2 := QP2
  clear QP2
  have P3 := QP3
  clear QP3
  have MA := QMA
  clear QMA
  have MB := QMB
  clear QMB
  have MC := QMC
  clear QMC
  have HBl := QB
  clear QB
  have ⟨u0, u1, _, _, _⟩ := P1
  have ⟨u2, u3, _, _, _⟩ := P2
  have ⟨u4, u5, _, _, _⟩ := P3
  go_wp2_with fail
  refine (rcheck_ok _ _ _ _ _ _ MC.out K2.out).mono ?_
  rintro e w3 ⟨rfl, hb3⟩
  have QP1 := P1.via hb3
  have QP2 := P2.via hb3
  have QP3 := P3.via hb3
  have QMA := Lib.hid (MA.out.via hb3)
  have QMB := Lib.hid (MB.out.via hb3)
  have QMC := Lib.hid (MC.out.via hb3)
  have QB := Lib.hid (HBl.out.trans (hb3.mono HBl.out.size))
  clear P1 P2 P3 MA MB MC HBl hb3 u0 u1 u2 u3 u4 u5
  have P1 := QP1
  clear QP1
  have P2 := QP2
  clear QP2
  have P3 := QP3
  clear QP3
  have MA := QMA
  clear QMA
  have MB := QMB
  clear QMB
  have MC := QMC
  clear QMC
  have HBl := QB
  clear QB
  have ⟨u0, u1, _, _, _⟩ := P1
  have ⟨u2, u3, _, _, _⟩ := P2
  have ⟨u4, u5, _, _, _⟩ := P3
  go_wp2
  go_ret
  first | exact ⟨rfl, HBl.out⟩ | exact ⟨ret_bool (by simp; omega), HBl.out⟩ | exact ⟨ret_bool (by simp [g0, g1, g2]), HBl.out⟩
set_option maxRecDepth 100000 in
set_option maxHeartbeats 1000000 in
theorem long_no (k0 : chk na xs = 0) (k1 : chk nb ys = 0) (k2 : chk nc zs = 0) (g0 : (n : Int) ≤ q) (g1 : (m : Int) ≤ q) (g2 : (k : Int) ≤ q) :
    Calls Tryd.prog 7 #[.int .i64 q, .agg #[.bool na, .slice A n ca], .agg #[.bool nb, .slice B m cb], .agg #[.bool nc, .slice C k cc]] w fun e w' => e = .returned (.bool false) ∧ Below w.heap.size w w' := by
  have h1a := hA.cap
  have h2a := hA.max
  have HA := Lib.hid hA
  have h1b := hB.cap
  have h2b := hB.max
  have HB := Lib.hid hB
  have h1c := hC.cap
  have h2c := hC.max
  have HC := Lib.hid hC
  clear hA hB hC
  have K0 := Lib.hid k0
  clear k0
  have K1 := Lib.hid k1
  clear k1
  have K2 := Lib.hid k2
  clear k2
  go_enter Tryd.func7, Tryd.ntmps7
  go_wp2_with fail
  refine (rcheck_ok _ _ _ _ _ _ (((HA.out.box _).box _).box _) K0.out).mono ?_
  rintro e w1 ⟨rfl, hb1⟩
  have ⟨P1, P2, P3⟩ := bxs3 hb1
  have HBl := Lib.hid (bbox (bbox (bbox hb1)))
  have MA := Lib.hid ((((HA.out.box _).box _).box _).via hb1)
  have MB := Lib.hid ((((HB.out.box _).box _).box _).via hb1)
  have MC := Lib.hid ((((HC.out.box _).box _).box _).via hb1)
  clear hb1
  have ⟨u0, u1, _, _, _⟩ := P1
  have ⟨u2, u3, _, _, _⟩ := P2
  have ⟨u4, u5, _, _, _⟩ := P3
  go_wp2_with fail
  refine (rcheck_ok _ _ _ _ _ _ MB.out K1.out).mono ?_
  rintro e w2 ⟨rfl, hb2⟩
  have QP1 := P1.via hb2
  have QP2 := P2.via hb2
  have QP3 := P3.via hb2
  have QMA := Lib.hid (MA.out.via hb2)
  have QMB := Lib.hid (MB.out.via hb2)
  have QMC := Lib.hid (MC.out.via hb2)
  have QB := Lib.hid (HBl.out.trans (hb2.mono HBl.out.size))
  clear P1 P2 P3 MA MB MC HBl hb2 u0 u1 u2 u3 u4 u5
  have P1 := QP1
  clear QP1
  have P2 := QP2
  clear QP2
  have P3 := QP3
  clear QP3
  have MA := QMA
  clear QMA
  have MB := QMB
  clear QMB
  have MC := QMC
  clear QMC
  have HBl := QB
  clear QB
  have ⟨u0, u1, _, _, _⟩ := P1
  have ⟨u2, u3, _, _, _⟩ := P2
  have ⟨u4, u5, _, _, _⟩ := P3
  go_wp2_with fail
  refine (rcheck_ok _ _ _ _ _ _ MC.out K2.out).mono ?_
  rintro e w3 ⟨rfl, hb3⟩
  have QP1 := P1.via hb3
  have QP2 := P2.via hb3
  have QP3 := P3.via hb3
  have QMA := Lib.hid (MA.out.via hb3)
  have QMB := Lib.hid (MB.out.via hb3)
  have QMC := Lib.hid (MC.out.via hb3)
  have QB := Lib.hid (HBl.out.trans (hb3.mono HBl.out.size))
  clear P1 P2 P3 MA MB MC HBl hb3 u0 u1 u2 u3 u4 u5
  have P1 := QP1
  clear QP1
  have P2 := QP2
  clear QP2
  have P3 := QP3
  clear QP3
  have MA := QMA
  clear QMA
  have MB := QMB
  clear QMB
  have MC := QMC
  clear QMC
  have HBl := QB
  clear QB
  have ⟨u0, u1, _, _, _⟩ := P1
  have ⟨u2, u3, _, _, _⟩ := P2
  have ⟨u4, u5, _, _, _⟩ := P3
  go_wp2
  go_ret
  first | exact ⟨rfl, HBl.out⟩ | exact ⟨ret_bool (by simp; omega), HBl.out⟩ | exact ⟨ret_bool (by simp [g0, g1, g2]), HBl.out⟩
theorem long_any : (chk na xs = 0 ∧ chk nb ys = 0 ∧ chk nc zs = 0 ∧ (n : Int) ≤ q ∧ (m : Int) ≤ q ∧ (k : Int) ≤ q ∧
      Calls Tryd.prog 7 #[.int .i64 q, .agg #[.bool na, .slice A n ca], .agg #[.bool nb, .slice B m cb], .agg #[.bool nc, .slice C k cc]] w fun e w' => e = .returned (.bool false) ∧ Below w.heap.size w w') ∨
    Calls Tryd.prog 7 #[.int .i64 q, .agg #[.bool na, .slice A n ca], .agg #[.bool nb, .slice B m cb], .agg #[.bool nc, .slice C k cc]] w fun e w' => e = .returned (.bool true) ∧ Below w.heap.size w w' := by
  rcases chk_cases na xs with k0 | k0
  · rcases chk_cases nb ys with k1 | k1
    · rcases chk_cases nc zs with k2 | k2
      · by_cases g0 : (n : Int) ≤ q
        · by_cases g1 : (m : Int) ≤ q
          · by_cases g2 : (k : Int) ≤ q
            · exact .inl ⟨k0, k1, k2, g0, g1, g2, long_no w na nb nc A B C n m k ca cb cc xs ys zs q hA hB hC k0 k1 k2 g0 g1 g2⟩
            · exact .inr (long_f w na nb nc A B C n m k ca cb cc xs ys zs q hA hB hC k0 k1 k2 g0 g1 (by omega))
          · exact .inr (long_e w na nb nc A B C n m k ca cb cc xs ys zs q hA hB hC k0 k1 k2 g0 (by omega))
        · exact .inr (long_d w na nb nc A B C n m k ca cb cc xs ys zs q hA hB hC k0 k1 k2 (by omega))
      · exact .inr (long_c w na nb nc A B C n m k ca cb cc xs ys zs q hA hB hC k0 k1 k2)
    · exact .inr (long_b w na nb nc A B C n m k ca cb cc xs ys zs q hA hB hC k0 k1)
  · exact .inr (long_a w na nb nc A B C n m k ca cb cc xs ys zs q hA hB hC k0)
end
end Go.Proofs.YtkcdijhfiahibaaDoor

/- Arithmetic on numbers of known size, in whole numbers. -/
namespace Go.Proofs.YtkcdijhfiahibaaDoor
open Go.RowKit

/-- A whole number's size in limbs. -/
def Sz (k : Nat) (z : Int) : Prop := z.natAbs < 4294967296 ^ k
theorem Sz.mono {k l : Nat} {z : Int} (h : Sz k z) (hl : k ≤ l) : Sz l z := Nat.lt_of_lt_of_le h (pow_mono_ hl)
theorem Sz.len {k : Nat} {z : Int} (h : Sz k z) : (digs z.natAbs).length ≤ k := digs_len.2 h
theorem Sz.of_len {k : Nat} {z : Int} (h : (digs z.natAbs).length ≤ k) : Sz k z := digs_len.1 h
theorem Sz.add {k : Nat} {x y : Int} (hx : Sz k x) (hy : Sz k y) : Sz (k + 1) (x + y) := by
  unfold Sz at *
  rw [pow_succ_]
  omega
theorem Sz.neg {k : Nat} {x : Int} (hx : Sz k x) : Sz k (-x) := by unfold Sz at *; omega
theorem Sz.sub {k : Nat} {x y : Int} (hx : Sz k x) (hy : Sz k y) : Sz (k + 1) (x - y) := by
  unfold Sz at *
  rw [pow_succ_]
  omega
theorem Sz.mul {k l : Nat} {x y : Int} (hx : Sz k x) (hy : Sz l y) : Sz (k + l) (x * y) := by
  unfold Sz at *
  rw [Int.natAbs_mul, pow_add_]
  exact Nat.mul_lt_mul_of_lt_of_le hx (Nat.le_of_lt hy) (pow_pos_ _)
theorem Sz.abs {k : Nat} {x : Int} (hx : Sz k x) : Sz k (x.natAbs : Int) := hx
theorem toI_self (z : Int) : toI (decide (z < 0)) z.natAbs = z := by
  unfold toI
  by_cases h : z < 0
  · rw [if_pos (by simpa using h)]; omega
  · rw [if_neg (by simpa using h)]; omega
theorem chk_z {z : Int} {k : Nat} (h : Sz k z) (hk : k ≤ 4096) : chk (decide (z < 0)) (digs z.natAbs) = 0 :=
  chk_ok.2 ⟨Nat.le_trans h.len hk, digs_norm _, fun hn e => by have h1 := digs_nil.1 e; have h2 : z < 0 := (by simpa using hn); omega⟩
theorem chkB_z {x y : Int} {k l : Nat} (hx : Sz k x) (hk : k ≤ 4096) (hy : Sz l y) (hl : l ≤ 4096) : chkB (decide (x < 0)) (digs x.natAbs) (decide (y < 0)) (digs y.natAbs) = 0 :=
  chkB_ok.2 ⟨chk_z hx hk, chk_z hy hl⟩
/-- A valid number that came in, as a whole number. -/
theorem of_chk {neg : Bool} {xs : List Nat} (hc : chk neg xs = 0) (g : Good xs) {k : Nat} (hk : xs.length ≤ k) : ∃ z : Int, neg = decide (z < 0) ∧ xs = digs z.natAbs ∧ Sz k z := by
  have h1 := chk_digs hc g
  have h2 := (chk_ok.1 hc).2.2
  refine ⟨toI neg (val xs), ?_, by rw [toI_abs]; exact h1, by unfold Sz; rw [toI_abs]; exact Nat.lt_of_lt_of_le (val_lt g) (pow_mono_ hk)⟩
  have h3 : neg = true → 0 < val xs := fun hn => val_pos (chk_ok.1 hc).2.1 (h2 hn)
  unfold toI
  cases neg
  · rw [if_neg (by simp)]; simp
  · rw [if_pos rfl]; have := h3 rfl; simp; omega
/-- A call returns the number z, without an error. -/
def RN (w : World) (z : Int) (e : Ending) (w' : World) : Prop := ∃ A n c, e = .returned (.tuple #[.agg #[.bool (decide (z < 0)), .slice A n c], .int .i64 0]) ∧ Lm w' w'.heap.size A n c (digs z.natAbs) ∧ Below w.heap.size w w'
theorem mkN_z {z : Int} {k : Nat} (h : Sz k z) (hk : k ≤ 4096) : mkN (decide (z < 0)) z.natAbs = decide (z < 0) ∧ mkL z.natAbs = digs z.natAbs ∧ mkE z.natAbs = 0 := by
  have hl := Nat.le_trans h.len hk
  refine ⟨?_, by unfold mkL; rw [if_pos hl], by unfold mkE; rw [if_pos hl]⟩
  unfold mkN
  rw [decide_eq_true hl, Bool.true_and]
  by_cases hz : z < 0
  · rw [decide_eq_true hz, decide_eq_true (show z.natAbs ≠ 0 by omega)]; rfl
  · rw [decide_eq_false hz]; rfl
theorem rz_rn {w : World} {z : Int} {k : Nat} (h : Sz k z) (hk : k ≤ 4096) {e : Ending} {w' : World} (hr : RZ w z e w') : RN w z e w' := by
  obtain ⟨h1, h2, h3⟩ := mkN_z h hk
  unfold RZ at hr
  rw [h1, h2, h3] at hr
  exact hr
section
variable (w : World) (A B : Option Addr) (n m ca cb k : Nat) (x y : Int) (hA : Lm w w.heap.size A n ca (digs x.natAbs)) (hB : Lm w w.heap.size B m cb (digs y.natAbs)) (hx : Sz k x) (hy : Sz k y) (hk : k ≤ 2000)
include hA hB hx hy hk
theorem add_z : Calls Tryd.prog 22 #[.agg #[.bool (decide (x < 0)), .slice A n ca], .agg #[.bool (decide (y < 0)), .slice B m cb]] w (RN w (x + y)) := by
  have h := add_ok w _ _ A B n m ca cb _ _ hA hB (chkB_z hx (by omega) hy (by omega))
  rw [toI_self, toI_self] at h
  exact h.mono fun e w' hr => rz_rn (hx.add hy) (by omega) hr
theorem mul_z : Calls Tryd.prog 20 #[.agg #[.bool (decide (x < 0)), .slice A n ca], .agg #[.bool (decide (y < 0)), .slice B m cb]] w (RN w (x * y)) := by
  have h := mul_ok w _ _ A B n m ca cb _ _ hA hB (chkB_z hx (by omega) hy (by omega))
  have e1 := rz_of w (decide (x < 0) != decide (y < 0)) (x.natAbs * y.natAbs) (z := x * y) (by rw [← toI_mul, toI_self, toI_self])
  rw [e1] at h
  exact h.mono fun e w' hr => rz_rn (hx.mul hy) (by omega) hr
theorem add_n {na nb : Bool} (ha : decide (x < 0) = na) (hb : decide (y < 0) = nb) : Calls Tryd.prog 22 #[.agg #[.bool na, .slice A n ca], .agg #[.bool nb, .slice B m cb]] w (RN w (x + y)) := by
  subst ha hb
  exact add_z w A B n m ca cb k x y hA hB hx hy hk
theorem mul_n {na nb : Bool} (ha : decide (x < 0) = na) (hb : decide (y < 0) = nb) : Calls Tryd.prog 20 #[.agg #[.bool na, .slice A n ca], .agg #[.bool nb, .slice B m cb]] w (RN w (x * y)) := by
  subst ha hb
  exact mul_z w A B n m ca cb k x y hA hB hx hy hk
end
end Go.Proofs.YtkcdijhfiahibaaDoor

/- The reference's plus and minus. -/
namespace Go.Proofs.YtkcdijhfiahibaaDoor
open Go.RowKit

/-- A call returns limbs, just N of them, that stand for v. -/
def RL (w : World) (N v : Nat) (e : Ending) (w' : World) : Prop := ∃ A c ts, e = .returned (.slice A N c) ∧ Lm w' w'.heap.size A N c ts ∧ val ts = v ∧ Below w.heap.size w w'
theorem getD_over {xs : List Nat} {k : Nat} (h : xs.length ≤ k) : xs[k]?.getD 0 = 0 := by rw [List.getElem?_eq_none h]; rfl

set_option maxRecDepth 100000 in
set_option maxHeartbeats 1000000 in
theorem rplus_any (w : World) (A B : Option Addr) (n m ca cb N : Nat) (xs ys : List Nat) (v : Nat) (hA : Lm w w.heap.size A n ca xs) (hB : Lm w w.heap.size B m cb ys) (hN : N = max n m) (hn : N ≤ 100000000) (hv : val xs + val ys = v) :
    Calls Tryd.prog 66 #[.slice A n ca, .slice B m cb] w (RL w (N + 1) v) := by
  have h1 := hA.cap
  have h2 := hA.max
  have h3 := hB.cap
  have h4 := hB.max
  have hN1 : n ≤ N := by omega
  have hN2 : m ≤ N := by omega
  have HN := Lib.hid hN
  have HA := Lib.hid hA
  have HB := Lib.hid hB
  have HV := Lib.hid hv
  clear hA hB hv hN
  go_enter Tryd.func66, Tryd.ntmps66
  go_wp2
  go_loopw [5, 6, 7] (fun u cy i wr => ∃ k : Nat, k ≤ N ∧ i = .int .i64 k ∧ cy = .int .u64 ((addK xs ys k).2 : Nat) ∧ Ow wr w.heap.size u (addK xs ys k).1 ∧ Below w.heap.size w wr) (fun _ _ i _ => N - (intOf i).toNat)
  case atStart => exact ⟨0, Nat.zero_le _, rfl, rfl, Ow.nil _ _, Below.refl _ _⟩
  case round =>
    obtain ⟨k, hk, rfl, rfl, hO, hb⟩ := hrel
    have hcy := addK_carry HA.out.good HB.out.good k
    have HLn := Lib.hid (addK_len xs ys k)
    have hgx := HA.out.good.get k
    have hgy := HB.out.good.get k
    have HS : Hid (addK xs ys (k + 1) = ((addK xs ys k).1 ++ [((addK xs ys k).2 + (xs[k]?.getD 0 + ys[k]?.getD 0)) % 4294967296], ((addK xs ys k).2 + (xs[k]?.getD 0 + ys[k]?.getD 0)) / 4294967296)) := (rfl : _ = _)
    have HO := Lib.hid hO
    have HBl := Lib.hid hb
    clear hO hb
    by_cases hlt : k < N
    · have HR : Hid (∀ (u' : Value) (w1 : World) (E : Int), E = (((addK xs ys k).2 + (xs[k]?.getD 0 + ys[k]?.getD 0) : Nat) : Int) → Ow w1 w.heap.size u' ((addK xs ys k).1 ++ [((addK xs ys k).2 + (xs[k]?.getD 0 + ys[k]?.getD 0)) % 4294967296]) → Below w.heap.size w w1 →
          ∃ k' : Nat, k' ≤ N ∧ Value.int .i64 ((k : Int) + 1) = .int .i64 k' ∧ Value.int .u64 (E / 4294967296) = .int .u64 ((addK xs ys k').2 : Nat) ∧ Ow w1 w.heap.size u' (addK xs ys k').1 ∧ Below w.heap.size w w1) := by
        intro u' w1 E hE h5 h6
        refine ⟨k + 1, by omega, by go_num, ?_, ?_, h6⟩
        · rw [HS.out, hE]
          exact congrArg (Value.int IntKind.u64) (Int.natCast_ediv _ _).symm
        · rw [HS.out]; exact h5
      by_cases ha : k < n
      · obtain ⟨b, bo, rfl, hbb, hcx⟩ := (HA.out.below HBl.out).cell ha
        by_cases hm : k < m
        · obtain ⟨b', bo', rfl, hbb', hcy'⟩ := (HB.out.below HBl.out).cell hm
          go_wp2_with (at_builtin; refine wpList_append_u32 _ rfl _ _ rfl w.heap.size _ _ rfl HO.out _ (((addK xs ys k).2 + (xs[k]?.getD 0 + ys[k]?.getD 0)) % 4294967296) 1 (by omega) (by have := HLn.out; omega) HBl.out.size rfl ?_; intro u' w1 hO1 hg1)
          go_roundw
          case rel => exact HR.out _ _ _ (by omega) hO1 (HO.out.below HBl.out HBl.out.size hg1)
          case measure => simp [intOf]; omega
        · have HZ := Lib.hid (getD_over (xs := ys) (k := k) (by rw [HB.out.len]; omega))
          go_wp2_with (at_builtin; refine wpList_append_u32 _ rfl _ _ rfl w.heap.size _ _ rfl HO.out _ (((addK xs ys k).2 + (xs[k]?.getD 0 + ys[k]?.getD 0)) % 4294967296) 1 (by have := HZ.out; omega) (by have := HLn.out; omega) HBl.out.size rfl ?_; intro u' w1 hO1 hg1)
          go_roundw
          case rel => exact HR.out _ _ _ (by have := HZ.out; omega) hO1 (HO.out.below HBl.out HBl.out.size hg1)
          case measure => simp [intOf]; omega
      · have hm : k < m := by have := HN.out; omega
        obtain ⟨b', bo', rfl, hbb', hcy'⟩ := (HB.out.below HBl.out).cell hm
        have HZ := Lib.hid (getD_over (xs := xs) (k := k) (by rw [HA.out.len]; omega))
        go_wp2_with (at_builtin; refine wpList_append_u32 _ rfl _ _ rfl w.heap.size _ _ rfl HO.out _ (((addK xs ys k).2 + (xs[k]?.getD 0 + ys[k]?.getD 0)) % 4294967296) 1 (by have := HZ.out; omega) (by have := HLn.out; omega) HBl.out.size rfl ?_; intro u' w1 hO1 hg1)
        go_roundw
        case rel => exact HR.out _ _ _ (by have := HZ.out; omega) hO1 (HO.out.below HBl.out HBl.out.size hg1)
        case measure => simp [intOf]; omega
    · obtain rfl : k = N := by omega
      have ha : ¬ k < n := by omega
      have hm : ¬ k < m := by omega
      have HVs : Hid (val ((addK xs ys k).1 ++ [(addK xs ys k).2]) = v) := by
        show _ = _
        rw [val_snoc, addK_len, addK_val, List.take_of_length_le (by rw [HA.out.len]; omega), List.take_of_length_le (by rw [HB.out.len]; omega), HV.out]
      have HG : Hid (Good ((addK xs ys k).1 ++ [(addK xs ys k).2])) := (addK_good _ _ _).append (Good.nil.cons (by omega))
      go_wp2_with (at_builtin; refine wpList_append_u32 _ rfl _ _ rfl w.heap.size _ _ rfl HO.out _ ((addK xs ys k).2) 1 (by omega) (by have := HLn.out; omega) HBl.out.size rfl ?_; intro u' w1 hO1 hg1)
      go_ret
      obtain ⟨A1, c1, rfl, hL1⟩ := hO1.lm HG.out
      have hlen : ((addK xs ys k).1 ++ [(addK xs ys k).2]).length = k + 1 := by rw [List.length_append, HLn.out]; rfl
      rw [hlen] at hL1 ⊢
      exact ⟨A1, c1, _, rfl, hL1, HVs.out, HO.out.below HBl.out HBl.out.size hg1⟩


set_option maxRecDepth 100000 in
set_option maxHeartbeats 1000000 in
theorem rminus_any (w : World) (A B : Option Addr) (n m ca cb : Nat) (xs ys : List Nat) (v : Nat) (hA : Lm w w.heap.size A n ca xs) (hB : Lm w w.heap.size B m cb ys) (hge : m ≤ n) (hn : n ≤ 100000000) (hle : val ys ≤ val xs) (hv : val xs - val ys = v) :
    Calls Tryd.prog 67 #[.slice A n ca, .slice B m cb] w fun e w' => ∃ A' c', e = .returned (.slice A' (digs v).length c') ∧ Lm w' w'.heap.size A' (digs v).length c' (digs v) ∧ Below w.heap.size w w' := by
  have h1 := hA.cap
  have h2 := hA.max
  have h3 := hB.cap
  have h4 := hB.max
  have HA := Lib.hid hA
  have HB := Lib.hid hB
  have HV := Lib.hid hv
  have HLe := Lib.hid hle
  clear hA hB hv hle
  go_enter Tryd.func67, Tryd.ntmps67
  go_wp2
  go_loopw [5, 6, 7] (fun u cy i wr => ∃ k : Nat, k ≤ n ∧ i = .int .i64 k ∧ cy = .int .i64 ((subK xs ys k).2 : Nat) ∧ Ow wr w.heap.size u (subK xs ys k).1 ∧ Below w.heap.size w wr) (fun _ _ i _ => n - (intOf i).toNat)
  case atStart => exact ⟨0, Nat.zero_le _, rfl, rfl, Ow.nil _ _, Below.refl _ _⟩
  case round =>
    obtain ⟨k, hk, rfl, rfl, hO, hb⟩ := hrel
    have hcy := subK_carry xs ys k
    have HLn := Lib.hid (subK_len xs ys k)
    have hgx := HA.out.good.get k
    have hgy := HB.out.good.get k
    have HS : Hid (subK xs ys (k + 1) = ((subK xs ys k).1 ++ [(xs[k]?.getD 0 + 8589934592 - ys[k]?.getD 0 - (subK xs ys k).2) % 4294967296], if xs[k]?.getD 0 < ys[k]?.getD 0 + (subK xs ys k).2 then 1 else 0)) := (rfl : _ = _)
    have HO := Lib.hid hO
    have HBl := Lib.hid hb
    clear hO hb
    by_cases hlt : k < n
    · have HR : Hid (∀ (u' : Value) (w1 : World) (E : Int), E = ((if xs[k]?.getD 0 < ys[k]?.getD 0 + (subK xs ys k).2 then 1 else 0 : Nat) : Int) → Ow w1 w.heap.size u' ((subK xs ys k).1 ++ [(xs[k]?.getD 0 + 8589934592 - ys[k]?.getD 0 - (subK xs ys k).2) % 4294967296]) → Below w.heap.size w w1 →
          ∃ k' : Nat, k' ≤ n ∧ Value.int .i64 ((k : Int) + 1) = .int .i64 k' ∧ Value.int .i64 E = .int .i64 ((subK xs ys k').2 : Nat) ∧ Ow w1 w.heap.size u' (subK xs ys k').1 ∧ Below w.heap.size w w1) := by
        intro u' w1 E hE h5 h6
        refine ⟨k + 1, by omega, by go_num, ?_, ?_, h6⟩
        · rw [HS.out, hE]
        · rw [HS.out]; exact h5
      obtain ⟨b, bo, rfl, hbb, hcx⟩ := (HA.out.below HBl.out).cell hlt
      by_cases hm : k < m
      · obtain ⟨b', bo', rfl, hbb', hcy'⟩ := (HB.out.below HBl.out).cell hm
        by_cases hng : xs[k]?.getD 0 < ys[k]?.getD 0 + (subK xs ys k).2
        · have HNg := Lib.hid hng
          have hngi : ((xs[k]?.getD 0 : Nat) : Int) - (((subK xs ys k).2 : Nat) : Int) - ((ys[k]?.getD 0 : Nat) : Int) < 0 := by omega
          go_wp2_with (at_builtin; refine wpList_append_u32 _ rfl _ _ rfl w.heap.size _ _ rfl HO.out _ ((xs[k]?.getD 0 + 8589934592 - ys[k]?.getD 0 - (subK xs ys k).2) % 4294967296) 1 (by omega) (by have := HLn.out; omega) HBl.out.size rfl ?_; intro u' w1 hO1 hg1)
          go_roundw
          case rel => exact HR.out _ _ _ (by rw [if_pos HNg.out]; rfl) hO1 (HO.out.below HBl.out HBl.out.size hg1)
          case measure => simp [intOf]; omega
        · have HNg := Lib.hid hng
          have hngi : 0 ≤ ((xs[k]?.getD 0 : Nat) : Int) - (((subK xs ys k).2 : Nat) : Int) - ((ys[k]?.getD 0 : Nat) : Int) := by omega
          have hngd : decide (((xs[k]?.getD 0 : Nat) : Int) - (((subK xs ys k).2 : Nat) : Int) - ((ys[k]?.getD 0 : Nat) : Int) < 0) = false := by simp; omega
          go_wp2_with (at_builtin; refine wpList_append_u32 _ rfl _ _ rfl w.heap.size _ _ rfl HO.out _ ((xs[k]?.getD 0 + 8589934592 - ys[k]?.getD 0 - (subK xs ys k).2) % 4294967296) 1 (by omega) (by have := HLn.out; omega) HBl.out.size rfl ?_; intro u' w1 hO1 hg1)
          go_roundw
          case rel => exact HR.out _ _ _ (by rw [if_neg HNg.out]; rfl) hO1 (HO.out.below HBl.out HBl.out.size hg1)
          case measure => simp [intOf]; omega
      · have HZ := Lib.hid (getD_over (xs := ys) (k := k) (by rw [HB.out.len]; omega))
        by_cases hng : xs[k]?.getD 0 < ys[k]?.getD 0 + (subK xs ys k).2
        · have HNg := Lib.hid hng
          have hngi : ((xs[k]?.getD 0 : Nat) : Int) - (((subK xs ys k).2 : Nat) : Int) < 0 := by have := HZ.out; omega
          go_wp2_with (at_builtin; refine wpList_append_u32 _ rfl _ _ rfl w.heap.size _ _ rfl HO.out _ ((xs[k]?.getD 0 + 8589934592 - ys[k]?.getD 0 - (subK xs ys k).2) % 4294967296) 1 (by have := HZ.out; omega) (by have := HLn.out; omega) HBl.out.size rfl ?_; intro u' w1 hO1 hg1)
          go_roundw
          case rel => exact HR.out _ _ _ (by rw [if_pos HNg.out]; rfl) hO1 (HO.out.below HBl.out HBl.out.size hg1)
          case measure => simp [intOf]; omega
        · have HNg := Lib.hid hng
          have hngi : 0 ≤ ((xs[k]?.getD 0 : Nat) : Int) - (((subK xs ys k).2 : Nat) : Int) := by have := HZ.out; omega
          have hngd : decide (((xs[k]?.getD 0 : Nat) : Int) - (((subK xs ys k).2 : Nat) : Int) < 0) = false := by have := HZ.out; simp; omega
          go_wp2_with (at_builtin; refine wpList_append_u32 _ rfl _ _ rfl w.heap.size _ _ rfl HO.out _ ((xs[k]?.getD 0 + 8589934592 - ys[k]?.getD 0 - (subK xs ys k).2) % 4294967296) 1 (by have := HZ.out; omega) (by have := HLn.out; omega) HBl.out.size rfl ?_; intro u' w1 hO1 hg1)
          go_roundw
          case rel => exact HR.out _ _ _ (by rw [if_neg HNg.out]; rfl) hO1 (HO.out.below HBl.out HBl.out.size hg1)
          case measure => simp [intOf]; omega
    · obtain rfl : k = n := by omega
      have hvl : Hid (val (subK xs ys k).1 = v) := by
        have e := subK_val HA.out.good HB.out.good k
        have hc1 := subK_carry xs ys k
        have hlt2 := val_lt (subK_good xs ys k)
        rw [subK_len] at hlt2
        rw [List.take_of_length_le (by rw [HB.out.len]; exact hge), List.take_of_length_le (by rw [HA.out.len]; exact Nat.le_refl _)] at e
        have hv := HV.out
        have hle := HLe.out
        show _ = _
        rcases Nat.eq_zero_or_pos (subK xs ys k).2 with h0 | h0
        · rw [h0, Nat.mul_zero] at e
          omega
        · have h2 : (subK xs ys k).2 = 1 := by omega
          rw [h2, Nat.mul_one] at e
          omega
      obtain ⟨A1, c1, rfl, hL1⟩ := HO.out.lm (subK_good xs ys k)
      rw [HLn.out] at hL1 ⊢
      have HL1 := Lib.hid hL1
      clear hL1
      go_wp2_with fail
      refine (rtrim_any _ _ _ _ _ v HL1.out hvl.out (by omega)).mono ?_
      rintro e w2 ⟨A2, c2, rfl, hL2, hb2⟩
      go_wp2
      go_ret
      exact ⟨A2, c2, rfl, hL2, HBl.out.trans (hb2.mono HBl.out.size)⟩

end Go.Proofs.YtkcdijhfiahibaaDoor

/- The reference's sum. -/
namespace Go.Proofs.YtkcdijhfiahibaaDoor
open Go.RowKit

/-- Three boxes of two cells. -/
theorem boxes3 (w : World) (t0 t1 t2 : TypeId) (a0 a1 b0 b1 q0 q1 : Value) :
    Pr (((w.alloc (.cells #[a0, a1] t0)).alloc (.cells #[b0, b1] t1)).alloc (.cells #[q0, q1] t2)) w.heap.size a0 a1 ∧ Pr (((w.alloc (.cells #[a0, a1] t0)).alloc (.cells #[b0, b1] t1)).alloc (.cells #[q0, q1] t2)) (w.heap.size + 1) b0 b1 ∧ Pr (((w.alloc (.cells #[a0, a1] t0)).alloc (.cells #[b0, b1] t1)).alloc (.cells #[q0, q1] t2)) (w.heap.size + 1 + 1) q0 q1 :=
  ⟨((Pr.new w w.heap.size rfl a0 a1 t0).alloc _).alloc _, (Pr.new (w.alloc (.cells #[a0, a1] t0)) (w.heap.size + 1) (by simp) b0 b1 t1).alloc _, Pr.new ((w.alloc (.cells #[a0, a1] t0)).alloc (.cells #[b0, b1] t1)) (w.heap.size + 1 + 1) (by simp) q0 q1 t2⟩
theorem below3 (w : World) (o1 o2 o3 : Obj) : Below w.heap.size w (((w.alloc o1).alloc o2).alloc o3) := (((Below.refl _ _).alloc (Nat.le_refl _) _).alloc (by simp) _).alloc (by simp; omega) _

set_option maxRecDepth 100000 in
set_option maxHeartbeats 1000000 in
theorem rsum_same (w : World) (na nb : Bool) (A B : Option Addr) (n m ca cb a b : Nat) (hA : Lm w w.heap.size A n ca (digs a)) (hB : Lm w w.heap.size B m cb (digs b)) (hn : n ≤ 10000000) (hm : m ≤ 10000000) (hs : na = nb) :
    Calls Tryd.prog 39 #[.agg #[.bool na, .slice A n ca], .agg #[.bool nb, .slice B m cb]] w (RW w (mkN na (a + b)) (mkL (a + b)) (mkE (a + b))) := by
  have HA := Lib.hid hA
  have HB := Lib.hid hB
  have HP : Hid (val (digs a) + val (digs b) = a + b) := by show _ = _; rw [digs_val, digs_val]
  subst hs
  clear hA hB
  cases na
  · go_enter Tryd.func39, Tryd.ntmps39
    go_wp2_with fail
    have ⟨PA, PB, PR⟩ := boxes3 w 24 24 24 (.bool false) (.slice A n ca) (.bool false) (.slice B m cb) (.bool false) (.slice none 0 0)
    have HB0 := Lib.hid (below3 w (.cells #[.bool false, .slice A n ca] 24) (.cells #[.bool false, .slice B m cb] 24) (.cells #[.bool false, .slice none 0 0] 24))
    have LA := Lib.hid (((HA.out.box (.cells #[.bool false, .slice A n ca] 24)).box (.cells #[.bool false, .slice B m cb] 24)).box (.cells #[.bool false, .slice none 0 0] 24))
    have LB := Lib.hid (((HB.out.box (.cells #[.bool false, .slice A n ca] 24)).box (.cells #[.bool false, .slice B m cb] 24)).box (.cells #[.bool false, .slice none 0 0] 24))
    generalize ((w.alloc (.cells #[.bool false, .slice A n ca] 24)).alloc (.cells #[.bool false, .slice B m cb] 24)).alloc (.cells #[.bool false, .slice none 0 0] 24) = w1 at *
    have ⟨a0, a1, _, _, _⟩ := PA
    have ⟨b0, b1, _, _, _⟩ := PB
    have ⟨r0, r1, rf0, rf1, rl⟩ := PR
    go_region_held3 (fun w' => (w'.cell? ⟨w.heap.size, 0, none⟩ = some (.bool false) ∧ w'.cell? ⟨w.heap.size, 1, none⟩ = some (.slice A n ca)) ∧ (w'.cell? ⟨w.heap.size + 1, 0, none⟩ = some (.bool false) ∧ w'.cell? ⟨w.heap.size + 1, 1, none⟩ = some (.slice B m cb)))
      (first | exact ⟨⟨a0, a1⟩, ⟨b0, b1⟩⟩ | exact ⟨⟨PAs.c0, PAs.c1⟩, ⟨PBs.c0, PBs.c1⟩⟩ | exact ⟨⟨PAt.c0, PAt.c1⟩, ⟨PBt.c0, PBt.c1⟩⟩ | exact ⟨⟨PAu.c0, PAu.c1⟩, ⟨PBu.c0, PBu.c1⟩⟩ | go_keep)
      (first
       | (go_at_call 66; refine (rplus_any _ _ _ _ _ _ _ (max n m) (digs a) (digs b) (a + b) LA.out.drew LB.out.drew rfl (by omega) HP.out).mono ?_; rintro e ws ⟨As, cs, ts, rfl, hLs, hvs, hbs⟩; have HVS := Lib.hid hvs; clear hvs; have Bs := (Below.refl w1.heap.size w1).drew.trans hbs; have PAs := PA.via Bs; have PBs := PB.via Bs; have PRs := PR.via Bs)
       | (go_at_call 37; refine (rmade_any _ _ _ _ _ ts (a + b) hLs HVS.out (by omega)).mono ?_; rintro e wt ⟨At, nt, ct, rfl, hLt, hbt⟩; have PAt := PAs.via hbt; have PBt := PBs.via hbt; have PRt := PRs.via hbt; have HBt : Hid (Below w.heap.size w wt) := HB0.out.trans ((Bs.trans (hbt.mono Bs.size)).mono HB0.out.size); have ⟨r0t, r1t, rf0t, rf1t, rlt⟩ := PRt; have PAu := PAt.far (h := w.heap.size + 1 + 1) (by omega) (.bool (mkN false (a + b))) (.slice At nt ct); have PBu := PBt.far (h := w.heap.size + 1 + 1) (by omega) (.bool (mkN false (a + b))) (.slice At nt ct)))
    go_wp2
    exact post_ws Tryd.results39 rfl rfl PRt.c0 PRt.c1 ⟨At, nt, ct, rfl, hLt.setP PRt _ _, below_set2 HBt.out (by omega) _ _⟩
  · go_enter Tryd.func39, Tryd.ntmps39
    go_wp2_with fail
    have ⟨PA, PB, PR⟩ := boxes3 w 24 24 24 (.bool true) (.slice A n ca) (.bool true) (.slice B m cb) (.bool false) (.slice none 0 0)
    have HB0 := Lib.hid (below3 w (.cells #[.bool true, .slice A n ca] 24) (.cells #[.bool true, .slice B m cb] 24) (.cells #[.bool false, .slice none 0 0] 24))
    have LA := Lib.hid (((HA.out.box (.cells #[.bool true, .slice A n ca] 24)).box (.cells #[.bool true, .slice B m cb] 24)).box (.cells #[.bool false, .slice none 0 0] 24))
    have LB := Lib.hid (((HB.out.box (.cells #[.bool true, .slice A n ca] 24)).box (.cells #[.bool true, .slice B m cb] 24)).box (.cells #[.bool false, .slice none 0 0] 24))
    generalize ((w.alloc (.cells #[.bool true, .slice A n ca] 24)).alloc (.cells #[.bool true, .slice B m cb] 24)).alloc (.cells #[.bool false, .slice none 0 0] 24) = w1 at *
    have ⟨a0, a1, _, _, _⟩ := PA
    have ⟨b0, b1, _, _, _⟩ := PB
    have ⟨r0, r1, rf0, rf1, rl⟩ := PR
    go_region_held3 (fun w' => (w'.cell? ⟨w.heap.size, 0, none⟩ = some (.bool true) ∧ w'.cell? ⟨w.heap.size, 1, none⟩ = some (.slice A n ca)) ∧ (w'.cell? ⟨w.heap.size + 1, 0, none⟩ = some (.bool true) ∧ w'.cell? ⟨w.heap.size + 1, 1, none⟩ = some (.slice B m cb)))
      (first | exact ⟨⟨a0, a1⟩, ⟨b0, b1⟩⟩ | exact ⟨⟨PAs.c0, PAs.c1⟩, ⟨PBs.c0, PBs.c1⟩⟩ | exact ⟨⟨PAt.c0, PAt.c1⟩, ⟨PBt.c0, PBt.c1⟩⟩ | exact ⟨⟨PAu.c0, PAu.c1⟩, ⟨PBu.c0, PBu.c1⟩⟩ | go_keep)
      (first
       | (go_at_call 66; refine (rplus_any _ _ _ _ _ _ _ (max n m) (digs a) (digs b) (a + b) LA.out.drew LB.out.drew rfl (by omega) HP.out).mono ?_; rintro e ws ⟨As, cs, ts, rfl, hLs, hvs, hbs⟩; have HVS := Lib.hid hvs; clear hvs; have Bs := (Below.refl w1.heap.size w1).drew.trans hbs; have PAs := PA.via Bs; have PBs := PB.via Bs; have PRs := PR.via Bs)
       | (go_at_call 37; refine (rmade_any _ _ _ _ _ ts (a + b) hLs HVS.out (by omega)).mono ?_; rintro e wt ⟨At, nt, ct, rfl, hLt, hbt⟩; have PAt := PAs.via hbt; have PBt := PBs.via hbt; have PRt := PRs.via hbt; have HBt : Hid (Below w.heap.size w wt) := HB0.out.trans ((Bs.trans (hbt.mono Bs.size)).mono HB0.out.size); have ⟨r0t, r1t, rf0t, rf1t, rlt⟩ := PRt; have PAu := PAt.far (h := w.heap.size + 1 + 1) (by omega) (.bool (mkN true (a + b))) (.slice At nt ct); have PBu := PBt.far (h := w.heap.size + 1 + 1) (by omega) (.bool (mkN true (a + b))) (.slice At nt ct)))
    go_wp2
    exact post_ws Tryd.results39 rfl rfl PRt.c0 PRt.c1 ⟨At, nt, ct, rfl, hLt.setP PRt _ _, below_set2 HBt.out (by omega) _ _⟩
set_option maxRecDepth 100000 in
set_option maxHeartbeats 1000000 in
theorem rsum_more (w : World) (na nb : Bool) (A B : Option Addr) (n m ca cb a b : Nat) (hA : Lm w w.heap.size A n ca (digs a)) (hB : Lm w w.heap.size B m cb (digs b)) (hn : n ≤ 10000000) (_ : m ≤ 10000000) (hs : na = true ∧ nb = false ∨ na = false ∧ nb = true) (hle : b ≤ a) :
    Calls Tryd.prog 39 #[.agg #[.bool na, .slice A n ca], .agg #[.bool nb, .slice B m cb]] w (RW w (mkN na (a - b)) (mkL (a - b)) (mkE (a - b))) := by
  have HA := Lib.hid hA
  have HB := Lib.hid hB
  obtain ⟨z, hz, HC⟩ : ∃ z : Int, 0 ≤ z ∧ Hid (cmpL (digs a) (digs b) = z) := ⟨_, by rw [cmpL_norm (digs_good _) (digs_good _) (digs_norm _) (digs_norm _), digs_val, digs_val]; unfold cmpN; rw [if_neg (by omega)]; split <;> decide, rfl⟩
  have HP : Hid (val (digs a) - val (digs b) = a - b) := by show _ = _; rw [digs_val, digs_val]
  have HLe : Hid (val (digs b) ≤ val (digs a)) := by show _ ≤ _; rw [digs_val, digs_val]; exact hle
  have hml : m ≤ n := by rw [← hA.len, ← hB.len]; exact digs_mono hle
  have hsz : (digs (a - b)).length ≤ n := by rw [← hA.len]; exact digs_mono (Nat.sub_le _ _)
  clear hA hB
  rcases hs with ⟨rfl, rfl⟩ | ⟨rfl, rfl⟩
  · go_enter Tryd.func39, Tryd.ntmps39
    go_wp2_with fail
    have ⟨PA, PB, PR⟩ := boxes3 w 24 24 24 (.bool true) (.slice A n ca) (.bool false) (.slice B m cb) (.bool false) (.slice none 0 0)
    have HB0 := Lib.hid (below3 w (.cells #[.bool true, .slice A n ca] 24) (.cells #[.bool false, .slice B m cb] 24) (.cells #[.bool false, .slice none 0 0] 24))
    have LA := Lib.hid (((HA.out.box (.cells #[.bool true, .slice A n ca] 24)).box (.cells #[.bool false, .slice B m cb] 24)).box (.cells #[.bool false, .slice none 0 0] 24))
    have LB := Lib.hid (((HB.out.box (.cells #[.bool true, .slice A n ca] 24)).box (.cells #[.bool false, .slice B m cb] 24)).box (.cells #[.bool false, .slice none 0 0] 24))
    generalize ((w.alloc (.cells #[.bool true, .slice A n ca] 24)).alloc (.cells #[.bool false, .slice B m cb] 24)).alloc (.cells #[.bool false, .slice none 0 0] 24) = w1 at *
    have ⟨a0, a1, _, _, _⟩ := PA
    have ⟨b0, b1, _, _, _⟩ := PB
    have ⟨r0, r1, rf0, rf1, rl⟩ := PR
    refine (rcompare_any A B n m ca cb (digs a) (digs b) w1 LA.out LB.out).mono ?_
    rintro e w2 ⟨he, d, rfl⟩
    rw [HC.out] at he
    subst he
    have PA2 := PA.drewN d
    have PB2 := PB.drewN d
    have PR2 := PR.drewN d
    have HB2 : Hid (Below w.heap.size w (w1.drewN d)) := bdrewN HB0.out d
    have LA2 := Lib.hid (LA.out.drewN d)
    have LB2 := Lib.hid (LB.out.drewN d)
    clear PA PB PR HB0 LA LB a0 a1 b0 b1 r0 r1 rf0 rf1 rl
    generalize w1.drewN d = w3 at *
    have PA := PA2
    have PB := PB2
    have PR := PR2
    have HB0 := HB2
    have LA := LA2
    have LB := LB2
    clear PA2 PB2 PR2 HB2 LA2 LB2
    have ⟨a0, a1, _, _, _⟩ := PA
    have ⟨b0, b1, _, _, _⟩ := PB
    have ⟨r0, r1, rf0, rf1, rl⟩ := PR
    go_wp2_with fail
    go_region_held3 (fun w' => (w'.cell? ⟨w.heap.size, 0, none⟩ = some (.bool true) ∧ w'.cell? ⟨w.heap.size, 1, none⟩ = some (.slice A n ca)) ∧ (w'.cell? ⟨w.heap.size + 1, 0, none⟩ = some (.bool false) ∧ w'.cell? ⟨w.heap.size + 1, 1, none⟩ = some (.slice B m cb)))
      (first | exact ⟨⟨a0, a1⟩, ⟨b0, b1⟩⟩ | exact ⟨⟨PAs.c0, PAs.c1⟩, ⟨PBs.c0, PBs.c1⟩⟩ | exact ⟨⟨PAt.c0, PAt.c1⟩, ⟨PBt.c0, PBt.c1⟩⟩ | exact ⟨⟨PAu.c0, PAu.c1⟩, ⟨PBu.c0, PBu.c1⟩⟩ | go_keep)
      (first
       | (go_at_call 67; refine (rminus_any _ _ _ _ _ _ _ (digs a) (digs b) (a - b) LA.out.drew LB.out.drew hml (by omega) HLe.out HP.out).mono ?_; rintro e ws ⟨As, cs, rfl, hLs, hbs⟩; have Bs := (Below.refl w3.heap.size w3).drew.trans hbs; have PAs := PA.via Bs; have PBs := PB.via Bs; have PRs := PR.via Bs)
       | (go_at_call 37; refine (rmade_any _ _ _ _ _ (digs (a - b)) (a - b) hLs (digs_val _) (by omega)).mono ?_; rintro e wt ⟨At, nt, ct, rfl, hLt, hbt⟩; have PAt := PAs.via hbt; have PBt := PBs.via hbt; have PRt := PRs.via hbt; have HBt : Hid (Below w.heap.size w wt) := HB0.out.trans ((Bs.trans (hbt.mono Bs.size)).mono HB0.out.size); have ⟨r0t, r1t, rf0t, rf1t, rlt⟩ := PRt; have PAu := PAt.far (h := w.heap.size + 1 + 1) (by omega) (.bool (mkN true (a - b))) (.slice At nt ct); have PBu := PBt.far (h := w.heap.size + 1 + 1) (by omega) (.bool (mkN true (a - b))) (.slice At nt ct)))
    go_wp2
    exact post_ws Tryd.results39 rfl rfl PRt.c0 PRt.c1 ⟨At, nt, ct, rfl, hLt.setP PRt _ _, below_set2 HBt.out (by omega) _ _⟩
  · go_enter Tryd.func39, Tryd.ntmps39
    go_wp2_with fail
    have ⟨PA, PB, PR⟩ := boxes3 w 24 24 24 (.bool false) (.slice A n ca) (.bool true) (.slice B m cb) (.bool false) (.slice none 0 0)
    have HB0 := Lib.hid (below3 w (.cells #[.bool false, .slice A n ca] 24) (.cells #[.bool true, .slice B m cb] 24) (.cells #[.bool false, .slice none 0 0] 24))
    have LA := Lib.hid (((HA.out.box (.cells #[.bool false, .slice A n ca] 24)).box (.cells #[.bool true, .slice B m cb] 24)).box (.cells #[.bool false, .slice none 0 0] 24))
    have LB := Lib.hid (((HB.out.box (.cells #[.bool false, .slice A n ca] 24)).box (.cells #[.bool true, .slice B m cb] 24)).box (.cells #[.bool false, .slice none 0 0] 24))
    generalize ((w.alloc (.cells #[.bool false, .slice A n ca] 24)).alloc (.cells #[.bool true, .slice B m cb] 24)).alloc (.cells #[.bool false, .slice none 0 0] 24) = w1 at *
    have ⟨a0, a1, _, _, _⟩ := PA
    have ⟨b0, b1, _, _, _⟩ := PB
    have ⟨r0, r1, rf0, rf1, rl⟩ := PR
    refine (rcompare_any A B n m ca cb (digs a) (digs b) w1 LA.out LB.out).mono ?_
    rintro e w2 ⟨he, d, rfl⟩
    rw [HC.out] at he
    subst he
    have PA2 := PA.drewN d
    have PB2 := PB.drewN d
    have PR2 := PR.drewN d
    have HB2 : Hid (Below w.heap.size w (w1.drewN d)) := bdrewN HB0.out d
    have LA2 := Lib.hid (LA.out.drewN d)
    have LB2 := Lib.hid (LB.out.drewN d)
    clear PA PB PR HB0 LA LB a0 a1 b0 b1 r0 r1 rf0 rf1 rl
    generalize w1.drewN d = w3 at *
    have PA := PA2
    have PB := PB2
    have PR := PR2
    have HB0 := HB2
    have LA := LA2
    have LB := LB2
    clear PA2 PB2 PR2 HB2 LA2 LB2
    have ⟨a0, a1, _, _, _⟩ := PA
    have ⟨b0, b1, _, _, _⟩ := PB
    have ⟨r0, r1, rf0, rf1, rl⟩ := PR
    go_wp2_with fail
    go_region_held3 (fun w' => (w'.cell? ⟨w.heap.size, 0, none⟩ = some (.bool false) ∧ w'.cell? ⟨w.heap.size, 1, none⟩ = some (.slice A n ca)) ∧ (w'.cell? ⟨w.heap.size + 1, 0, none⟩ = some (.bool true) ∧ w'.cell? ⟨w.heap.size + 1, 1, none⟩ = some (.slice B m cb)))
      (first | exact ⟨⟨a0, a1⟩, ⟨b0, b1⟩⟩ | exact ⟨⟨PAs.c0, PAs.c1⟩, ⟨PBs.c0, PBs.c1⟩⟩ | exact ⟨⟨PAt.c0, PAt.c1⟩, ⟨PBt.c0, PBt.c1⟩⟩ | exact ⟨⟨PAu.c0, PAu.c1⟩, ⟨PBu.c0, PBu.c1⟩⟩ | go_keep)
      (first
       | (go_at_call 67; refine (rminus_any _ _ _ _ _ _ _ (digs a) (digs b) (a - b) LA.out.drew LB.out.drew hml (by omega) HLe.out HP.out).mono ?_; rintro e ws ⟨As, cs, rfl, hLs, hbs⟩; have Bs := (Below.refl w3.heap.size w3).drew.trans hbs; have PAs := PA.via Bs; have PBs := PB.via Bs; have PRs := PR.via Bs)
       | (go_at_call 37; refine (rmade_any _ _ _ _ _ (digs (a - b)) (a - b) hLs (digs_val _) (by omega)).mono ?_; rintro e wt ⟨At, nt, ct, rfl, hLt, hbt⟩; have PAt := PAs.via hbt; have PBt := PBs.via hbt; have PRt := PRs.via hbt; have HBt : Hid (Below w.heap.size w wt) := HB0.out.trans ((Bs.trans (hbt.mono Bs.size)).mono HB0.out.size); have ⟨r0t, r1t, rf0t, rf1t, rlt⟩ := PRt; have PAu := PAt.far (h := w.heap.size + 1 + 1) (by omega) (.bool (mkN false (a - b))) (.slice At nt ct); have PBu := PBt.far (h := w.heap.size + 1 + 1) (by omega) (.bool (mkN false (a - b))) (.slice At nt ct)))
    go_wp2
    exact post_ws Tryd.results39 rfl rfl PRt.c0 PRt.c1 ⟨At, nt, ct, rfl, hLt.setP PRt _ _, below_set2 HBt.out (by omega) _ _⟩
set_option maxRecDepth 100000 in
set_option maxHeartbeats 1000000 in
theorem rsum_less (w : World) (na nb : Bool) (A B : Option Addr) (n m ca cb a b : Nat) (hA : Lm w w.heap.size A n ca (digs a)) (hB : Lm w w.heap.size B m cb (digs b)) (_ : n ≤ 10000000) (hm : m ≤ 10000000) (hs : na = true ∧ nb = false ∨ na = false ∧ nb = true) (hlt : a < b) :
    Calls Tryd.prog 39 #[.agg #[.bool na, .slice A n ca], .agg #[.bool nb, .slice B m cb]] w (RW w (mkN nb (b - a)) (mkL (b - a)) (mkE (b - a))) := by
  have HA := Lib.hid hA
  have HB := Lib.hid hB
  have HC : Hid (cmpL (digs a) (digs b) = -1) := by show _ = _; rw [cmpL_norm (digs_good _) (digs_good _) (digs_norm _) (digs_norm _), digs_val, digs_val]; exact cmpN_lt hlt
  have HP : Hid (val (digs b) - val (digs a) = b - a) := by show _ = _; rw [digs_val, digs_val]
  have HLe : Hid (val (digs a) ≤ val (digs b)) := by show _ ≤ _; rw [digs_val, digs_val]; exact Nat.le_of_lt hlt
  have hml : n ≤ m := by rw [← hA.len, ← hB.len]; exact digs_mono (Nat.le_of_lt hlt)
  have hsz : (digs (b - a)).length ≤ m := by rw [← hB.len]; exact digs_mono (Nat.sub_le _ _)
  clear hA hB
  rcases hs with ⟨rfl, rfl⟩ | ⟨rfl, rfl⟩
  · go_enter Tryd.func39, Tryd.ntmps39
    go_wp2_with fail
    have ⟨PA, PB, PR⟩ := boxes3 w 24 24 24 (.bool true) (.slice A n ca) (.bool false) (.slice B m cb) (.bool false) (.slice none 0 0)
    have HB0 := Lib.hid (below3 w (.cells #[.bool true, .slice A n ca] 24) (.cells #[.bool false, .slice B m cb] 24) (.cells #[.bool false, .slice none 0 0] 24))
    have LA := Lib.hid (((HA.out.box (.cells #[.bool true, .slice A n ca] 24)).box (.cells #[.bool false, .slice B m cb] 24)).box (.cells #[.bool false, .slice none 0 0] 24))
    have LB := Lib.hid (((HB.out.box (.cells #[.bool true, .slice A n ca] 24)).box (.cells #[.bool false, .slice B m cb] 24)).box (.cells #[.bool false, .slice none 0 0] 24))
    generalize ((w.alloc (.cells #[.bool true, .slice A n ca] 24)).alloc (.cells #[.bool false, .slice B m cb] 24)).alloc (.cells #[.bool false, .slice none 0 0] 24) = w1 at *
    have ⟨a0, a1, _, _, _⟩ := PA
    have ⟨b0, b1, _, _, _⟩ := PB
    have ⟨r0, r1, rf0, rf1, rl⟩ := PR
    refine (rcompare_any A B n m ca cb (digs a) (digs b) w1 LA.out LB.out).mono ?_
    rintro e w2 ⟨he, d, rfl⟩
    rw [HC.out] at he
    subst he
    have PA2 := PA.drewN d
    have PB2 := PB.drewN d
    have PR2 := PR.drewN d
    have HB2 : Hid (Below w.heap.size w (w1.drewN d)) := bdrewN HB0.out d
    have LA2 := Lib.hid (LA.out.drewN d)
    have LB2 := Lib.hid (LB.out.drewN d)
    clear PA PB PR HB0 LA LB a0 a1 b0 b1 r0 r1 rf0 rf1 rl
    generalize w1.drewN d = w3 at *
    have PA := PA2
    have PB := PB2
    have PR := PR2
    have HB0 := HB2
    have LA := LA2
    have LB := LB2
    clear PA2 PB2 PR2 HB2 LA2 LB2
    have ⟨a0, a1, _, _, _⟩ := PA
    have ⟨b0, b1, _, _, _⟩ := PB
    have ⟨r0, r1, rf0, rf1, rl⟩ := PR
    go_wp2_with fail
    go_region_held3 (fun w' => (w'.cell? ⟨w.heap.size, 0, none⟩ = some (.bool true) ∧ w'.cell? ⟨w.heap.size, 1, none⟩ = some (.slice A n ca)) ∧ (w'.cell? ⟨w.heap.size + 1, 0, none⟩ = some (.bool false) ∧ w'.cell? ⟨w.heap.size + 1, 1, none⟩ = some (.slice B m cb)))
      (first | exact ⟨⟨a0, a1⟩, ⟨b0, b1⟩⟩ | exact ⟨⟨PAs.c0, PAs.c1⟩, ⟨PBs.c0, PBs.c1⟩⟩ | exact ⟨⟨PAt.c0, PAt.c1⟩, ⟨PBt.c0, PBt.c1⟩⟩ | exact ⟨⟨PAu.c0, PAu.c1⟩, ⟨PBu.c0, PBu.c1⟩⟩ | go_keep)
      (first
       | (go_at_call 67; refine (rminus_any _ _ _ _ _ _ _ (digs b) (digs a) (b - a) LB.out.drew LA.out.drew hml (by omega) HLe.out HP.out).mono ?_; rintro e ws ⟨As, cs, rfl, hLs, hbs⟩; have Bs := (Below.refl w3.heap.size w3).drew.trans hbs; have PAs := PA.via Bs; have PBs := PB.via Bs; have PRs := PR.via Bs)
       | (go_at_call 37; refine (rmade_any _ _ _ _ _ (digs (b - a)) (b - a) hLs (digs_val _) (by omega)).mono ?_; rintro e wt ⟨At, nt, ct, rfl, hLt, hbt⟩; have PAt := PAs.via hbt; have PBt := PBs.via hbt; have PRt := PRs.via hbt; have HBt : Hid (Below w.heap.size w wt) := HB0.out.trans ((Bs.trans (hbt.mono Bs.size)).mono HB0.out.size); have ⟨r0t, r1t, rf0t, rf1t, rlt⟩ := PRt; have PAu := PAt.far (h := w.heap.size + 1 + 1) (by omega) (.bool (mkN false (b - a))) (.slice At nt ct); have PBu := PBt.far (h := w.heap.size + 1 + 1) (by omega) (.bool (mkN false (b - a))) (.slice At nt ct)))
    go_wp2
    exact post_ws Tryd.results39 rfl rfl PRt.c0 PRt.c1 ⟨At, nt, ct, rfl, hLt.setP PRt _ _, below_set2 HBt.out (by omega) _ _⟩
  · go_enter Tryd.func39, Tryd.ntmps39
    go_wp2_with fail
    have ⟨PA, PB, PR⟩ := boxes3 w 24 24 24 (.bool false) (.slice A n ca) (.bool true) (.slice B m cb) (.bool false) (.slice none 0 0)
    have HB0 := Lib.hid (below3 w (.cells #[.bool false, .slice A n ca] 24) (.cells #[.bool true, .slice B m cb] 24) (.cells #[.bool false, .slice none 0 0] 24))
    have LA := Lib.hid (((HA.out.box (.cells #[.bool false, .slice A n ca] 24)).box (.cells #[.bool true, .slice B m cb] 24)).box (.cells #[.bool false, .slice none 0 0] 24))
    have LB := Lib.hid (((HB.out.box (.cells #[.bool false, .slice A n ca] 24)).box (.cells #[.bool true, .slice B m cb] 24)).box (.cells #[.bool false, .slice none 0 0] 24))
    generalize ((w.alloc (.cells #[.bool false, .slice A n ca] 24)).alloc (.cells #[.bool true, .slice B m cb] 24)).alloc (.cells #[.bool false, .slice none 0 0] 24) = w1 at *
    have ⟨a0, a1, _, _, _⟩ := PA
    have ⟨b0, b1, _, _, _⟩ := PB
    have ⟨r0, r1, rf0, rf1, rl⟩ := PR
    refine (rcompare_any A B n m ca cb (digs a) (digs b) w1 LA.out LB.out).mono ?_
    rintro e w2 ⟨he, d, rfl⟩
    rw [HC.out] at he
    subst he
    have PA2 := PA.drewN d
    have PB2 := PB.drewN d
    have PR2 := PR.drewN d
    have HB2 : Hid (Below w.heap.size w (w1.drewN d)) := bdrewN HB0.out d
    have LA2 := Lib.hid (LA.out.drewN d)
    have LB2 := Lib.hid (LB.out.drewN d)
    clear PA PB PR HB0 LA LB a0 a1 b0 b1 r0 r1 rf0 rf1 rl
    generalize w1.drewN d = w3 at *
    have PA := PA2
    have PB := PB2
    have PR := PR2
    have HB0 := HB2
    have LA := LA2
    have LB := LB2
    clear PA2 PB2 PR2 HB2 LA2 LB2
    have ⟨a0, a1, _, _, _⟩ := PA
    have ⟨b0, b1, _, _, _⟩ := PB
    have ⟨r0, r1, rf0, rf1, rl⟩ := PR
    go_wp2_with fail
    go_region_held3 (fun w' => (w'.cell? ⟨w.heap.size, 0, none⟩ = some (.bool false) ∧ w'.cell? ⟨w.heap.size, 1, none⟩ = some (.slice A n ca)) ∧ (w'.cell? ⟨w.heap.size + 1, 0, none⟩ = some (.bool true) ∧ w'.cell? ⟨w.heap.size + 1, 1, none⟩ = some (.slice B m cb)))
      (first | exact ⟨⟨a0, a1⟩, ⟨b0, b1⟩⟩ | exact ⟨⟨PAs.c0, PAs.c1⟩, ⟨PBs.c0, PBs.c1⟩⟩ | exact ⟨⟨PAt.c0, PAt.c1⟩, ⟨PBt.c0, PBt.c1⟩⟩ | exact ⟨⟨PAu.c0, PAu.c1⟩, ⟨PBu.c0, PBu.c1⟩⟩ | go_keep)
      (first
       | (go_at_call 67; refine (rminus_any _ _ _ _ _ _ _ (digs b) (digs a) (b - a) LB.out.drew LA.out.drew hml (by omega) HLe.out HP.out).mono ?_; rintro e ws ⟨As, cs, rfl, hLs, hbs⟩; have Bs := (Below.refl w3.heap.size w3).drew.trans hbs; have PAs := PA.via Bs; have PBs := PB.via Bs; have PRs := PR.via Bs)
       | (go_at_call 37; refine (rmade_any _ _ _ _ _ (digs (b - a)) (b - a) hLs (digs_val _) (by omega)).mono ?_; rintro e wt ⟨At, nt, ct, rfl, hLt, hbt⟩; have PAt := PAs.via hbt; have PBt := PBs.via hbt; have PRt := PRs.via hbt; have HBt : Hid (Below w.heap.size w wt) := HB0.out.trans ((Bs.trans (hbt.mono Bs.size)).mono HB0.out.size); have ⟨r0t, r1t, rf0t, rf1t, rlt⟩ := PRt; have PAu := PAt.far (h := w.heap.size + 1 + 1) (by omega) (.bool (mkN true (b - a))) (.slice At nt ct); have PBu := PBt.far (h := w.heap.size + 1 + 1) (by omega) (.bool (mkN true (b - a))) (.slice At nt ct)))
    go_wp2
    exact post_ws Tryd.results39 rfl rfl PRt.c0 PRt.c1 ⟨At, nt, ct, rfl, hLt.setP PRt _ _, below_set2 HBt.out (by omega) _ _⟩
theorem rsum_any (w : World) (na nb : Bool) (A B : Option Addr) (n m ca cb a b : Nat) (hA : Lm w w.heap.size A n ca (digs a)) (hB : Lm w w.heap.size B m cb (digs b)) (hn : n ≤ 10000000) (hm : m ≤ 10000000) :
    Calls Tryd.prog 39 #[.agg #[.bool na, .slice A n ca], .agg #[.bool nb, .slice B m cb]] w (RZ w (toI na a + toI nb b)) := by
  by_cases hs : na = nb
  · rw [← rz_of w na (a + b) (toI_same hs a b)]
    exact rsum_same w na nb A B n m ca cb a b hA hB hn hm hs
  · have h2 : na = true ∧ nb = false ∨ na = false ∧ nb = true := by cases na <;> cases nb <;> simp at hs ⊢
    rcases Nat.lt_or_ge a b with h | h
    · have e := toI_less hs h
      have hnn : (!na) = nb := by cases na <;> cases nb <;> simp at hs ⊢
      rw [hnn] at e
      rw [← rz_of w nb (b - a) e]
      exact rsum_less w na nb A B n m ca cb a b hA hB hn hm h2 h
    · rw [← rz_of w na (a - b) (toI_more hs h)]
      exact rsum_more w na nb A B n m ca cb a b hA hB hn hm h2 h
end Go.Proofs.YtkcdijhfiahibaaDoor

/- The reference's Add and Sub. -/
namespace Go.Proofs.YtkcdijhfiahibaaDoor
open Go.RowKit

set_option maxRecDepth 100000 in
set_option maxHeartbeats 1000000 in
theorem radd_bad (w : World) (na nb : Bool) (A B : Option Addr) (n m ca cb : Nat) (xs ys : List Nat) (hA : Lm w w.heap.size A n ca xs) (hB : Lm w w.heap.size B m cb ys) (hv : chkB na xs nb ys = 8) :
    Calls Tryd.prog 11 #[.agg #[.bool na, .slice A n ca], .agg #[.bool nb, .slice B m cb]] w (RW w false [] 8) := by
  have HA := Lib.hid hA
  have HB := Lib.hid hB
  have HV := Lib.hid hv
  clear hv
  go_enter Tryd.func11, Tryd.ntmps11
  go_wp2_with fail
  refine (rboth_any _ _ _ _ _ _ _ _ _ _ _ (((HA.out.box _).box _).box _) (((HB.out.box _).box _).box _) 8 HV.out).mono ?_
  rintro e w1 ⟨rfl, hb1⟩
  have ⟨hx0, hx1, hy0, hy1, hz0, hz1, hf0, hf1, hsz⟩ := box3 hb1
  go_wp2_with fail
  refine (rboth_any _ _ _ _ _ _ _ _ _ _ _ ((((HA.out.box _).box _).box _).via hb1) ((((HB.out.box _).box _).box _).via hb1) 8 HV.out).mono ?_
  rintro e w2 ⟨rfl, hb2⟩
  have hky2 := keep2 hb2 hsz ⟨hz0, hz1⟩
  have ⟨hkf0, hkf1⟩ := keepF hb2 hsz ⟨hf0, hf1⟩
  go_wp2
  exact post_ws Tryd.results11 rfl rfl hky2.1 hky2.2 ⟨none, 0, 0, rfl, Lm.nil _ _, below_set2 ((bbox (bbox (bbox hb1))).trans (hb2.mono (by omega))) (by omega) _ _⟩

set_option maxRecDepth 100000 in
set_option maxHeartbeats 1000000 in
theorem radd_ok (w : World) (na nb : Bool) (A B : Option Addr) (n m ca cb a b : Nat) (hA : Lm w w.heap.size A n ca (digs a)) (hB : Lm w w.heap.size B m cb (digs b)) (hv : chkB na (digs a) nb (digs b) = 0) :
    Calls Tryd.prog 11 #[.agg #[.bool na, .slice A n ca], .agg #[.bool nb, .slice B m cb]] w (RZ w (toI na a + toI nb b)) := by
  have h41 := (chk_ok.1 (chkB_ok.1 hv).1).1
  have h42 := (chk_ok.1 (chkB_ok.1 hv).2).1
  rw [hA.len] at h41
  rw [hB.len] at h42
  have HA := Lib.hid hA
  have HB := Lib.hid hB
  have HV := Lib.hid hv
  clear hv
  go_enter Tryd.func11, Tryd.ntmps11
  go_wp2_with fail
  refine (rboth_any _ _ _ _ _ _ _ _ _ _ _ (((HA.out.box _).box _).box _) (((HB.out.box _).box _).box _) 0 HV.out).mono ?_
  rintro e w1 ⟨rfl, hb1⟩
  have ⟨hx0, hx1, hy0, hy1, hz0, hz1, hf0, hf1, hsz⟩ := box3 hb1
  go_wp2_with fail
  refine (rsum_any _ _ _ _ _ _ _ _ _ a b ((((HA.out.box _).box _).box _).via hb1) ((((HB.out.box _).box _).box _).via hb1) (by omega) (by omega)).mono ?_
  rintro e w2 ⟨A2, n2, c2, rfl, hL2, hb2⟩
  have hky2 := keep2 hb2 hsz ⟨hz0, hz1⟩
  have ⟨hkf0, hkf1⟩ := keepF hb2 hsz ⟨hf0, hf1⟩
  go_wp2
  exact post_ws Tryd.results11 rfl rfl hky2.1 hky2.2 ⟨A2, n2, c2, rfl, hL2.set2 hky2.1 hky2.2 _ _, below_set2 ((bbox (bbox (bbox hb1))).trans (hb2.mono (by omega))) (by omega) _ _⟩

end Go.Proofs.YtkcdijhfiahibaaDoor

/- The reference's times. -/
namespace Go.Proofs.YtkcdijhfiahibaaDoor
open Go.RowKit

theorem grownBy_drewN {w w' : World} {row : Option Nat} (h : w.grownBy w' row) (d : Nat) : w.grownBy (w'.drewN d) row := ⟨h.os, h.tape, h.output, h.size, h.block⟩
theorem Ld.drewN {w : World} {g : Nat} {cs : List Nat} (h : Ld w g cs) (d : Nat) : Ld (w.drewN d) g cs := h

set_option maxRecDepth 100000 in
set_option maxHeartbeats 1000000 in
theorem rtimes_any (w : World) (A B : Option Addr) (n m ca cb : Nat) (xs ys : List Nat) (v : Nat) (hA : Lm w w.heap.size A n ca xs) (hB : Lm w w.heap.size B m cb ys) (hn : n ≤ 100000000) (hm : m ≤ 100000000) (hv : val ys * val xs = v) :
    Calls Tryd.prog 38 #[.slice A n ca, .slice B m cb] w (RL w (n + m) v) := by
  have h1 := hA.cap
  have h2 := hA.max
  have h3 := hB.cap
  have h4 := hB.max
  have HA := Lib.hid hA
  have HB := Lib.hid hB
  have hA0 := hA.good
  have hB0 := hB.good
  have HV := Lib.hid hv
  clear hA hB hv
  have hmk := fun w => run_make_u32 ((n : Int) + (m : Int)) ((n : Int) + (m : Int)) (n + m) (by omega) (by omega) (by omega) w
  go_enter Tryd.func38, Tryd.ntmps38
  go_wp2
  clear hmk
  go_loopw [6] (fun i wr => ∃ (k : Nat) (ps : List Nat), k ≤ n ∧ i = .int .i64 k ∧ Ld wr w.heap.size ps ∧ Good ps ∧ ps.length = m + n ∧ val (ps.take (m + k)) = val ys * val (xs.take k) ∧ (∀ j, m + k ≤ j → ps[j]?.getD 0 = 0) ∧ Below w.heap.size w wr) (fun i _ => n - (intOf i).toNat)
  case atStart => exact ⟨0, zer (n + m), Nat.zero_le _, rfl, Ld.new _ _, zer_good _, by rw [zer_len, Nat.add_comm], by rw [zer_val]; simp [val_nil], fun j _ => zer_get _ _, (Below.refl _ _).alloc (Nat.le_refl _) _⟩
  case round =>
    obtain ⟨k, ps, hk, rfl, hL, hG, hlen, hval, hz, hb⟩ := hrel
    have HL := Lib.hid hL
    have HG := Lib.hid hG
    have HLen := Lib.hid hlen
    have HVal := Lib.hid hval
    have HZ := Lib.hid hz
    have HBl := Lib.hid hb
    clear hL hG hlen hval hz hb
    by_cases hlt : k < n
    · obtain ⟨b, bo, rfl, hbb, hcx⟩ := HA.out.cell hlt
      have hxg := hA0.get k
      have HS := Lib.hid (prod_step HB.out.len HLen.out hlt HVal.out)
      have hgs := HL.out.lt
      have HX := Lib.hid (HA.out.below HBl.out)
      have HY := Lib.hid (HB.out.below HBl.out)
      go_wp2
      go_loopw [7, 8] (fun cy i wz => ∃ k2 : Nat, k2 ≤ m ∧ i = .int .i64 k2 ∧ cy = .int .u64 ((mulK (ps.drop k) ys (xs[k]?.getD 0) k2).2 : Nat) ∧ Ld wz w.heap.size (spl ps k (mulK (ps.drop k) ys (xs[k]?.getD 0) k2).1) ∧ wr.grownBy wz (some w.heap.size)) (fun _ i _ => m - (intOf i).toNat)
      case atStart => exact ⟨0, Nat.zero_le _, rfl, rfl, by show Ld wr w.heap.size (spl ps k []); rw [spl_nil]; exact HL.out, World.grownBy.refl wr _⟩
      case round =>
        obtain ⟨k2, hk2, rfl, rfl, hLk, hgk⟩ := hrel
        by_cases hlt2 : k2 < m
        · have hlen := mulK_len (ps.drop k) ys (xs[k]?.getD 0) k2
          have hcx2 := ((HX.out.grownLt hgk (Nat.le_of_lt hgs)).cell hlt)
          obtain ⟨b1, bo1, e1, _, hcx⟩ := hcx2
          cases e1
          obtain ⟨b2, bo2, rfl, hb2, hcy⟩ := (HY.out.grownLt hgk (Nat.le_of_lt hgs)).cell hlt2
          have hct := hLk.cell (i := k + k2) (by rw [spl_len (by rw [hlen, HLen.out]; omega), HLen.out]; omega)
          have hat := spl_at (cs := ps) (off := k) (ts := (mulK (ps.drop k) ys (xs[k]?.getD 0) k2).1) (by rw [hlen, HLen.out]; omega)
          rw [hlen] at hat
          rw [hat] at hct
          have hfr := hLk.frozen (k + k2)
          have hcar := mulK_carry (HG.out.drop k) hB0 hxg k2
          have hyg := hB0.get k2
          have hpg := HG.out.get (k + k2)
          have hmul := mul_bd hyg hxg
          obtain ⟨S, hS⟩ : ∃ S : Nat, S = (mulK (ps.drop k) ys (xs[k]?.getD 0) k2).2 + (ys[k2]?.getD 0 * xs[k]?.getD 0 + ps[k + k2]?.getD 0) := ⟨_, rfl⟩
          have HE : Hid (IntKind.u64.wrap ((((mulK (ps.drop k) ys (xs[k]?.getD 0) k2).2 : Nat) : Int) + IntKind.u64.wrap (IntKind.u64.wrap (((xs[k]?.getD 0 : Nat) : Int) * ((ys[k2]?.getD 0 : Nat) : Int)) + ((ps[k + k2]?.getD 0 : Nat) : Int))) = (S : Int)) := by
            show _ = _
            rw [← Int.natCast_mul, Nat.mul_comm, hS, IntKind.wrap_u64, IntKind.wrap_u64, IntKind.wrap_u64]
            omega
          have HS2 : Hid ((mulK (ps.drop k) ys (xs[k]?.getD 0) (k2 + 1)) = ((mulK (ps.drop k) ys (xs[k]?.getD 0) k2).1 ++ [((mulK (ps.drop k) ys (xs[k]?.getD 0) k2).2 + (ys[k2]?.getD 0 * xs[k]?.getD 0 + ps[k + k2]?.getD 0)) % 4294967296], ((mulK (ps.drop k) ys (xs[k]?.getD 0) k2).2 + (ys[k2]?.getD 0 * xs[k]?.getD 0 + ps[k + k2]?.getD 0)) / 4294967296)) := by
            show _ = _
            rw [← List.getElem?_drop]; rfl
          rw [← hS] at HS2
          have HSb : Hid (S < 18446744073709551616) := by show _ < _; omega
          have HK := Lib.hid hLk
          have HSet := Lib.hid (spl_set (cs := ps) (off := k) (ts := (mulK (ps.drop k) ys (xs[k]?.getD 0) k2).1) (S % 4294967296) (by rw [hlen, HLen.out]; omega))
          have HLn := Lib.hid hlen
          clear hLk hat hlen hS
          have hs1 : IntKind.i64.wrap ((k : Int) + (k2 : Int)) = (k : Int) + (k2 : Int) := IntWalk.i64_in _ (by omega)
          have hs2 : (0 : Int) ≤ (k : Int) + (k2 : Int) := by omega
          have hs3 : ((k : Int) + (k2 : Int)).toNat = k + k2 := by omega
          have hs4 : (k : Int) + (k2 : Int) < ((n + m : Nat) : Int) := by omega
          go_wp2
          go_quiet (fail)
          clear hs1
          go_wp2
          rw [HE.out]
          go_roundw
          case rel =>
            refine ⟨k2 + 1, by omega, by go_num, ?_, ?_, ?_⟩
            · rw [HS2.out]
              exact congrArg (Value.int IntKind.u64) (Int.natCast_ediv _ _).symm
            · have e := (HK.out.drewN nq).set_ (k + k2) (S % 4294967296)
              have e2 := HSet.out
              rw [HLn.out] at e2
              rw [e2] at e
              rw [HS2.out]
              simp only [Int.natCast_emod] at e
              exact e
            · exact grownBy_trans (grownBy_drewN hgk nq) (grownBy_setCellAt _ _ _ _)
          case measure => simp [intOf]; omega
        · obtain rfl : k2 = m := by omega
          have hml := mulK_len (ps.drop k) ys (xs[k]?.getD 0) k2
          have hcar := mulK_carry (HG.out.drop k) hB0 hxg k2
          have hsl : (spl ps k (mulK (ps.drop k) ys (xs[k]?.getD 0) k2).1).length = k2 + n := by rw [spl_len (by rw [hml, HLen.out]; omega), HLen.out]
          have hct := hLk.cell (i := k + k2) (by rw [hsl]; omega)
          have hfr := hLk.frozen (k + k2)
          have HL1 := Lib.hid hLk
          have HG1 := Lib.hid hgk
          have HML := Lib.hid hml
          clear hLk hgk hml hsl
          go_wp2
          go_roundw
          case rel =>
            have e2 := HL1.out.set_ (k + k2) (mulK (ps.drop k) ys (xs[k]?.getD 0) k2).2
            have e3 := spl_set (cs := ps) (off := k) (ts := (mulK (ps.drop k) ys (xs[k]?.getD 0) k2).1) (mulK (ps.drop k) ys (xs[k]?.getD 0) k2).2 (by rw [HML.out, HLen.out]; omega)
            rw [HML.out] at e3
            rw [e3] at e2
            have hl2 : k + ((mulK (ps.drop k) ys (xs[k]?.getD 0) k2).1 ++ [(mulK (ps.drop k) ys (xs[k]?.getD 0) k2).2]).length ≤ ps.length := by
              rw [List.length_append, HML.out, HLen.out]
              show k + (k2 + 1) ≤ k2 + n
              omega
            refine ⟨k + 1, _, by omega, by go_num, e2, ?_, ?_, HS.out, fun j hj => ?_, ?_⟩
            · exact spl_good HG.out ((mulK_good _ _ _ _).append (Good.nil.cons (mulK_carry (HG.out.drop _) hB0 hxg k2)))
            · rw [spl_len hl2, HLen.out]
            · rw [spl_after hl2 (by rw [List.length_append, HML.out]; show k + (k2 + 1) ≤ j; omega)]
              exact HZ.out j (by omega)
            · exact (HBl.out.grown HG1.out (by have := HBl.out.size; omega) (fun b e => by injection e with e; omega)).setCell (p := ⟨w.heap.size, k + k2, none⟩) (Nat.le_refl _) _
          case measure => simp [intOf]; omega
    · obtain rfl : k = n := by omega
      have hvs : Hid (val ps = v) := by
        have e := HVal.out
        rw [List.take_of_length_le (by rw [HLen.out]; exact Nat.le_refl _), List.take_of_length_le (by rw [HA.out.len]; exact Nat.le_refl _), HV.out] at e
        exact e
      have hlm : Hid (Lm wr wr.heap.size (some ⟨w.heap.size, 0, none⟩) (k + m) (k + m) ps) := by
        have e := HL.out.lm HG.out (off := 0) (n := k + m) (c := k + m) (by rw [HLen.out]; omega) (Nat.le_refl _) (by omega)
        rw [List.drop_zero, List.take_of_length_le (by rw [HLen.out]; omega)] at e
        exact e
      go_wp2
      go_ret
      exact ⟨_, _, ps, rfl, hlm.out, hvs.out, HBl.out⟩
end Go.Proofs.YtkcdijhfiahibaaDoor

/- The reference's Mul. -/
namespace Go.Proofs.YtkcdijhfiahibaaDoor
open Go.RowKit

set_option maxRecDepth 100000 in
set_option maxHeartbeats 1000000 in
theorem rmul_bad (w : World) (na nb : Bool) (A B : Option Addr) (n m ca cb : Nat) (xs ys : List Nat) (hA : Lm w w.heap.size A n ca xs) (hB : Lm w w.heap.size B m cb ys) (hv : chkB na xs nb ys = 8) :
    Calls Tryd.prog 10 #[.agg #[.bool na, .slice A n ca], .agg #[.bool nb, .slice B m cb]] w (RW w false [] 8) := by
  have HA := Lib.hid hA
  have HB := Lib.hid hB
  have HV := Lib.hid hv
  clear hv
  go_enter Tryd.func10, Tryd.ntmps10
  go_wp2_with fail
  refine (rboth_any _ _ _ _ _ _ _ _ _ _ _ (((HA.out.box _).box _).box _) (((HB.out.box _).box _).box _) 8 HV.out).mono ?_
  rintro e w1 ⟨rfl, hb1⟩
  have ⟨hx0, hx1, hy0, hy1, hz0, hz1, hf0, hf1, hsz⟩ := box3 hb1
  go_wp2_with fail
  refine (rboth_any _ _ _ _ _ _ _ _ _ _ _ ((((HA.out.box _).box _).box _).via hb1) ((((HB.out.box _).box _).box _).via hb1) 8 HV.out).mono ?_
  rintro e w2 ⟨rfl, hb2⟩
  have hky2 := keep2 hb2 hsz ⟨hz0, hz1⟩
  have ⟨hkf0, hkf1⟩ := keepF hb2 hsz ⟨hf0, hf1⟩
  go_wp2
  exact post_ws Tryd.results10 rfl rfl hky2.1 hky2.2 ⟨none, 0, 0, rfl, Lm.nil _ _, below_set2 ((bbox (bbox (bbox hb1))).trans (hb2.mono (by omega))) (by omega) _ _⟩

set_option maxRecDepth 100000 in
set_option maxHeartbeats 1000000 in
theorem rmul_ok (w : World) (na nb : Bool) (A B : Option Addr) (n m ca cb a b : Nat) (hA : Lm w w.heap.size A n ca (digs a)) (hB : Lm w w.heap.size B m cb (digs b)) (hv : chkB na (digs a) nb (digs b) = 0) :
    Calls Tryd.prog 10 #[.agg #[.bool na, .slice A n ca], .agg #[.bool nb, .slice B m cb]] w (RW w (mkN (na != nb) (a * b)) (mkL (a * b)) (mkE (a * b))) := by
  have h41 := (chk_ok.1 (chkB_ok.1 hv).1).1
  have h42 := (chk_ok.1 (chkB_ok.1 hv).2).1
  rw [hA.len] at h41
  rw [hB.len] at h42
  have HA := Lib.hid hA
  have HB := Lib.hid hB
  have HV := Lib.hid hv
  have HP : Hid (val (digs b) * val (digs a) = a * b) := by show _ = _; rw [digs_val, digs_val, Nat.mul_comm]
  clear hv hA hB
  cases na <;> cases nb
  · go_enter Tryd.func10, Tryd.ntmps10
    go_wp2_with fail
    refine (rboth_any _ _ _ _ _ _ _ _ _ _ _ (((HA.out.box _).box _).box _) (((HB.out.box _).box _).box _) 0 HV.out).mono ?_
    rintro e w1 ⟨rfl, hb1⟩
    have ⟨PA0, PB0, PR0⟩ := boxes3 w 24 24 24 (.bool false) (.slice A n ca) (.bool false) (.slice B m cb) (.bool false) (.slice none 0 0)
    have PA := PA0.via hb1
    have PB := PB0.via hb1
    have PR := PR0.via hb1
    have LA := Lib.hid ((((HA.out.box _).box _).box _).via hb1)
    have LB := Lib.hid ((((HB.out.box _).box _).box _).via hb1)
    have HB0 := Lib.hid (bbox (bbox (bbox hb1)))
    clear PA0 PB0 PR0 hb1
    have ⟨a0, a1, _, _, _⟩ := PA
    have ⟨b0, b1, _, _, _⟩ := PB
    have ⟨r0, r1, rf0, rf1, rl⟩ := PR
    go_wp2_with fail
    go_region_held3 (fun w' => (w'.cell? ⟨w.heap.size, 0, none⟩ = some (.bool false) ∧ w'.cell? ⟨w.heap.size, 1, none⟩ = some (.slice A n ca)) ∧ (w'.cell? ⟨w.heap.size + 1, 0, none⟩ = some (.bool false) ∧ w'.cell? ⟨w.heap.size + 1, 1, none⟩ = some (.slice B m cb)))
      (first | exact ⟨⟨a0, a1⟩, ⟨b0, b1⟩⟩ | exact ⟨⟨PAs.c0, PAs.c1⟩, ⟨PBs.c0, PBs.c1⟩⟩ | exact ⟨⟨PAt.c0, PAt.c1⟩, ⟨PBt.c0, PBt.c1⟩⟩ | exact ⟨⟨PAu.c0, PAu.c1⟩, ⟨PBu.c0, PBu.c1⟩⟩ | go_keep)
      (first
       | (go_at_call 38; refine (rtimes_any _ _ _ _ _ _ _ (digs a) (digs b) (a * b) LA.out.drew LB.out.drew (by omega) (by omega) HP.out).mono ?_; rintro e ws ⟨As, cs, ts, rfl, hLs, hvs, hbs⟩; have HVS := Lib.hid hvs; clear hvs; have Bs := (Below.refl w1.heap.size w1).drew.trans hbs; have PAs := PA.via Bs; have PBs := PB.via Bs; have PRs := PR.via Bs)
       | (go_at_call 37; refine (rmade_any _ _ _ _ _ ts (a * b) hLs HVS.out (by omega)).mono ?_; rintro e wt ⟨At, nt, ct, rfl, hLt, hbt⟩; have PAt := PAs.via hbt; have PBt := PBs.via hbt; have PRt := PRs.via hbt; have HBt : Hid (Below w.heap.size w wt) := HB0.out.trans ((Bs.trans (hbt.mono Bs.size)).mono HB0.out.size); have ⟨r0t, r1t, rf0t, rf1t, rlt⟩ := PRt; have PAu := PAt.far (h := w.heap.size + 1 + 1) (by omega) (.bool (mkN false (a * b))) (.slice At nt ct); have PBu := PBt.far (h := w.heap.size + 1 + 1) (by omega) (.bool (mkN false (a * b))) (.slice At nt ct)))
    go_wp2
    exact post_ws Tryd.results10 rfl rfl PRt.c0 PRt.c1 ⟨At, nt, ct, rfl, hLt.setP PRt _ _, below_set2 HBt.out (by omega) _ _⟩
  · go_enter Tryd.func10, Tryd.ntmps10
    go_wp2_with fail
    refine (rboth_any _ _ _ _ _ _ _ _ _ _ _ (((HA.out.box _).box _).box _) (((HB.out.box _).box _).box _) 0 HV.out).mono ?_
    rintro e w1 ⟨rfl, hb1⟩
    have ⟨PA0, PB0, PR0⟩ := boxes3 w 24 24 24 (.bool false) (.slice A n ca) (.bool true) (.slice B m cb) (.bool false) (.slice none 0 0)
    have PA := PA0.via hb1
    have PB := PB0.via hb1
    have PR := PR0.via hb1
    have LA := Lib.hid ((((HA.out.box _).box _).box _).via hb1)
    have LB := Lib.hid ((((HB.out.box _).box _).box _).via hb1)
    have HB0 := Lib.hid (bbox (bbox (bbox hb1)))
    clear PA0 PB0 PR0 hb1
    have ⟨a0, a1, _, _, _⟩ := PA
    have ⟨b0, b1, _, _, _⟩ := PB
    have ⟨r0, r1, rf0, rf1, rl⟩ := PR
    go_wp2_with fail
    go_region_held3 (fun w' => (w'.cell? ⟨w.heap.size, 0, none⟩ = some (.bool false) ∧ w'.cell? ⟨w.heap.size, 1, none⟩ = some (.slice A n ca)) ∧ (w'.cell? ⟨w.heap.size + 1, 0, none⟩ = some (.bool true) ∧ w'.cell? ⟨w.heap.size + 1, 1, none⟩ = some (.slice B m cb)))
      (first | exact ⟨⟨a0, a1⟩, ⟨b0, b1⟩⟩ | exact ⟨⟨PAs.c0, PAs.c1⟩, ⟨PBs.c0, PBs.c1⟩⟩ | exact ⟨⟨PAt.c0, PAt.c1⟩, ⟨PBt.c0, PBt.c1⟩⟩ | exact ⟨⟨PAu.c0, PAu.c1⟩, ⟨PBu.c0, PBu.c1⟩⟩ | go_keep)
      (first
       | (go_at_call 38; refine (rtimes_any _ _ _ _ _ _ _ (digs a) (digs b) (a * b) LA.out.drew LB.out.drew (by omega) (by omega) HP.out).mono ?_; rintro e ws ⟨As, cs, ts, rfl, hLs, hvs, hbs⟩; have HVS := Lib.hid hvs; clear hvs; have Bs := (Below.refl w1.heap.size w1).drew.trans hbs; have PAs := PA.via Bs; have PBs := PB.via Bs; have PRs := PR.via Bs)
       | (go_at_call 37; refine (rmade_any _ _ _ _ _ ts (a * b) hLs HVS.out (by omega)).mono ?_; rintro e wt ⟨At, nt, ct, rfl, hLt, hbt⟩; have PAt := PAs.via hbt; have PBt := PBs.via hbt; have PRt := PRs.via hbt; have HBt : Hid (Below w.heap.size w wt) := HB0.out.trans ((Bs.trans (hbt.mono Bs.size)).mono HB0.out.size); have ⟨r0t, r1t, rf0t, rf1t, rlt⟩ := PRt; have PAu := PAt.far (h := w.heap.size + 1 + 1) (by omega) (.bool (mkN true (a * b))) (.slice At nt ct); have PBu := PBt.far (h := w.heap.size + 1 + 1) (by omega) (.bool (mkN true (a * b))) (.slice At nt ct)))
    go_wp2
    exact post_ws Tryd.results10 rfl rfl PRt.c0 PRt.c1 ⟨At, nt, ct, rfl, hLt.setP PRt _ _, below_set2 HBt.out (by omega) _ _⟩
  · go_enter Tryd.func10, Tryd.ntmps10
    go_wp2_with fail
    refine (rboth_any _ _ _ _ _ _ _ _ _ _ _ (((HA.out.box _).box _).box _) (((HB.out.box _).box _).box _) 0 HV.out).mono ?_
    rintro e w1 ⟨rfl, hb1⟩
    have ⟨PA0, PB0, PR0⟩ := boxes3 w 24 24 24 (.bool true) (.slice A n ca) (.bool false) (.slice B m cb) (.bool false) (.slice none 0 0)
    have PA := PA0.via hb1
    have PB := PB0.via hb1
    have PR := PR0.via hb1
    have LA := Lib.hid ((((HA.out.box _).box _).box _).via hb1)
    have LB := Lib.hid ((((HB.out.box _).box _).box _).via hb1)
    have HB0 := Lib.hid (bbox (bbox (bbox hb1)))
    clear PA0 PB0 PR0 hb1
    have ⟨a0, a1, _, _, _⟩ := PA
    have ⟨b0, b1, _, _, _⟩ := PB
    have ⟨r0, r1, rf0, rf1, rl⟩ := PR
    go_wp2_with fail
    go_region_held3 (fun w' => (w'.cell? ⟨w.heap.size, 0, none⟩ = some (.bool true) ∧ w'.cell? ⟨w.heap.size, 1, none⟩ = some (.slice A n ca)) ∧ (w'.cell? ⟨w.heap.size + 1, 0, none⟩ = some (.bool false) ∧ w'.cell? ⟨w.heap.size + 1, 1, none⟩ = some (.slice B m cb)))
      (first | exact ⟨⟨a0, a1⟩, ⟨b0, b1⟩⟩ | exact ⟨⟨PAs.c0, PAs.c1⟩, ⟨PBs.c0, PBs.c1⟩⟩ | exact ⟨⟨PAt.c0, PAt.c1⟩, ⟨PBt.c0, PBt.c1⟩⟩ | exact ⟨⟨PAu.c0, PAu.c1⟩, ⟨PBu.c0, PBu.c1⟩⟩ | go_keep)
      (first
       | (go_at_call 38; refine (rtimes_any _ _ _ _ _ _ _ (digs a) (digs b) (a * b) LA.out.drew LB.out.drew (by omega) (by omega) HP.out).mono ?_; rintro e ws ⟨As, cs, ts, rfl, hLs, hvs, hbs⟩; have HVS := Lib.hid hvs; clear hvs; have Bs := (Below.refl w1.heap.size w1).drew.trans hbs; have PAs := PA.via Bs; have PBs := PB.via Bs; have PRs := PR.via Bs)
       | (go_at_call 37; refine (rmade_any _ _ _ _ _ ts (a * b) hLs HVS.out (by omega)).mono ?_; rintro e wt ⟨At, nt, ct, rfl, hLt, hbt⟩; have PAt := PAs.via hbt; have PBt := PBs.via hbt; have PRt := PRs.via hbt; have HBt : Hid (Below w.heap.size w wt) := HB0.out.trans ((Bs.trans (hbt.mono Bs.size)).mono HB0.out.size); have ⟨r0t, r1t, rf0t, rf1t, rlt⟩ := PRt; have PAu := PAt.far (h := w.heap.size + 1 + 1) (by omega) (.bool (mkN true (a * b))) (.slice At nt ct); have PBu := PBt.far (h := w.heap.size + 1 + 1) (by omega) (.bool (mkN true (a * b))) (.slice At nt ct)))
    go_wp2
    exact post_ws Tryd.results10 rfl rfl PRt.c0 PRt.c1 ⟨At, nt, ct, rfl, hLt.setP PRt _ _, below_set2 HBt.out (by omega) _ _⟩
  · go_enter Tryd.func10, Tryd.ntmps10
    go_wp2_with fail
    refine (rboth_any _ _ _ _ _ _ _ _ _ _ _ (((HA.out.box _).box _).box _) (((HB.out.box _).box _).box _) 0 HV.out).mono ?_
    rintro e w1 ⟨rfl, hb1⟩
    have ⟨PA0, PB0, PR0⟩ := boxes3 w 24 24 24 (.bool true) (.slice A n ca) (.bool true) (.slice B m cb) (.bool false) (.slice none 0 0)
    have PA := PA0.via hb1
    have PB := PB0.via hb1
    have PR := PR0.via hb1
    have LA := Lib.hid ((((HA.out.box _).box _).box _).via hb1)
    have LB := Lib.hid ((((HB.out.box _).box _).box _).via hb1)
    have HB0 := Lib.hid (bbox (bbox (bbox hb1)))
    clear PA0 PB0 PR0 hb1
    have ⟨a0, a1, _, _, _⟩ := PA
    have ⟨b0, b1, _, _, _⟩ := PB
    have ⟨r0, r1, rf0, rf1, rl⟩ := PR
    go_wp2_with fail
    go_region_held3 (fun w' => (w'.cell? ⟨w.heap.size, 0, none⟩ = some (.bool true) ∧ w'.cell? ⟨w.heap.size, 1, none⟩ = some (.slice A n ca)) ∧ (w'.cell? ⟨w.heap.size + 1, 0, none⟩ = some (.bool true) ∧ w'.cell? ⟨w.heap.size + 1, 1, none⟩ = some (.slice B m cb)))
      (first | exact ⟨⟨a0, a1⟩, ⟨b0, b1⟩⟩ | exact ⟨⟨PAs.c0, PAs.c1⟩, ⟨PBs.c0, PBs.c1⟩⟩ | exact ⟨⟨PAt.c0, PAt.c1⟩, ⟨PBt.c0, PBt.c1⟩⟩ | exact ⟨⟨PAu.c0, PAu.c1⟩, ⟨PBu.c0, PBu.c1⟩⟩ | go_keep)
      (first
       | (go_at_call 38; refine (rtimes_any _ _ _ _ _ _ _ (digs a) (digs b) (a * b) LA.out.drew LB.out.drew (by omega) (by omega) HP.out).mono ?_; rintro e ws ⟨As, cs, ts, rfl, hLs, hvs, hbs⟩; have HVS := Lib.hid hvs; clear hvs; have Bs := (Below.refl w1.heap.size w1).drew.trans hbs; have PAs := PA.via Bs; have PBs := PB.via Bs; have PRs := PR.via Bs)
       | (go_at_call 37; refine (rmade_any _ _ _ _ _ ts (a * b) hLs HVS.out (by omega)).mono ?_; rintro e wt ⟨At, nt, ct, rfl, hLt, hbt⟩; have PAt := PAs.via hbt; have PBt := PBs.via hbt; have PRt := PRs.via hbt; have HBt : Hid (Below w.heap.size w wt) := HB0.out.trans ((Bs.trans (hbt.mono Bs.size)).mono HB0.out.size); have ⟨r0t, r1t, rf0t, rf1t, rlt⟩ := PRt; have PAu := PAt.far (h := w.heap.size + 1 + 1) (by omega) (.bool (mkN false (a * b))) (.slice At nt ct); have PBu := PBt.far (h := w.heap.size + 1 + 1) (by omega) (.bool (mkN false (a * b))) (.slice At nt ct)))
    go_wp2
    exact post_ws Tryd.results10 rfl rfl PRt.c0 PRt.c1 ⟨At, nt, ct, rfl, hLt.setP PRt _ _, below_set2 HBt.out (by omega) _ _⟩
end Go.Proofs.YtkcdijhfiahibaaDoor

/- The reference's arithmetic on numbers of known size, and DivMod of the code, in whole numbers. -/
namespace Go.Proofs.YtkcdijhfiahibaaDoor
open Go.RowKit

theorem mkN_toI {neg : Bool} {v : Nat} (hl : (digs v).length ≤ 4096) : mkN neg v = decide (toI neg v < 0) := by
  rw [← toI_neg]
  unfold mkN
  rw [decide_eq_true hl, Bool.true_and]
  by_cases h : toI neg v < 0
  · rw [decide_eq_true h, decide_eq_true (show v ≠ 0 from fun e => by subst e; unfold toI at h; cases neg <;> simp at h)]; rfl
  · rw [decide_eq_false h]; rfl
theorem rw_rn {w : World} {neg : Bool} {v : Nat} (hl : (digs v).length ≤ 4096) {e : Ending} {w' : World} (h : RW w (mkN neg v) (mkL v) (mkE v) e w') : RN w (toI neg v) e w' := by
  have h2 : mkL v = digs v := by unfold mkL; rw [if_pos hl]
  have h3 : mkE v = 0 := by unfold mkE; rw [if_pos hl]
  rw [mkN_toI hl, h2, h3] at h
  unfold RN
  rw [toI_abs]
  exact h
section
variable (w : World) (A B : Option Addr) (n m ca cb k : Nat) (x y : Int) (hA : Lm w w.heap.size A n ca (digs x.natAbs)) (hB : Lm w w.heap.size B m cb (digs y.natAbs)) (hx : Sz k x) (hy : Sz k y) (hk : k ≤ 2000)
include hA hx hk
theorem rabs_n {na : Bool} (ha : decide (x < 0) = na) : Calls Tryd.prog 12 #[.agg #[.bool na, .slice A n ca]] w (RN w (x.natAbs : Int)) := by
  subst ha
  exact (rabs_ok w _ A n ca _ hA (chk_z hx (by omega))).mono fun e w' h => rw_rn (neg := false) (Nat.le_trans hx.len (by omega)) h
theorem rcheck_n {na : Bool} (ha : decide (x < 0) = na) : Calls Tryd.prog 9 #[.agg #[.bool na, .slice A n ca]] w fun e w' => e = .returned (.int .i64 0) ∧ Below w.heap.size w w' := by
  subst ha
  exact rcheck_ok w _ A n ca _ hA (chk_z hx (by omega))
include hB hy
theorem radd_n {na nb : Bool} (ha : decide (x < 0) = na) (hb : decide (y < 0) = nb) : Calls Tryd.prog 11 #[.agg #[.bool na, .slice A n ca], .agg #[.bool nb, .slice B m cb]] w (RN w (x + y)) := by
  subst ha hb
  have h := radd_ok w _ _ A B n m ca cb _ _ hA hB (chkB_z hx (by omega) hy (by omega))
  rw [toI_self, toI_self] at h
  exact h.mono fun e w' hr => rz_rn (hx.add hy) (by omega) hr
theorem rmul_n {na nb : Bool} (ha : decide (x < 0) = na) (hb : decide (y < 0) = nb) : Calls Tryd.prog 10 #[.agg #[.bool na, .slice A n ca], .agg #[.bool nb, .slice B m cb]] w (RN w (x * y)) := by
  subst ha hb
  have h := rmul_ok w _ _ A B n m ca cb _ _ hA hB (chkB_z hx (by omega) hy (by omega))
  have e1 := rz_of w (decide (x < 0) != decide (y < 0)) (x.natAbs * y.natAbs) (z := x * y) (by rw [← toI_mul, toI_self, toI_self])
  rw [e1] at h
  exact h.mono fun e w' hr => rz_rn (hx.mul hy) (by omega) hr
theorem rcompared_n {na nb : Bool} (ha : decide (x < 0) = na) (hb : decide (y < 0) = nb) : Calls Tryd.prog 14 #[.agg #[.bool na, .slice A n ca], .agg #[.bool nb, .slice B m cb]] w fun e w' => e = .returned (.int .i64 (cmpZ x y)) ∧ Below w.heap.size w w' := by
  have _ := hx
  have _ := hy
  have _ := hk
  subst ha hb
  have h := rcompared_any w (decide (x < 0)) (decide (y < 0)) A B n m ca cb _ _ hA hB (fun h e => by have h1 : x < 0 := (by simpa using h); omega) (fun h e => by have h1 : y < 0 := (by simpa using h); omega)
  rw [toI_self, toI_self] at h
  exact h
end

/-- A call returns quotient and remainder, rounded down. -/
def RD2 (w : World) (x y : Int) (e : Ending) (w' : World) : Prop := ∃ q r : Int, x = q * y + r ∧ r.natAbs < y.natAbs ∧ (r = 0 ∨ decide (r < 0) = decide (y < 0)) ∧ q.natAbs ≤ x.natAbs ∧
  ∃ A n c A' n' c', e = .returned (.tuple #[.agg #[.bool (decide (q < 0)), .slice A n c], .agg #[.bool (decide (r < 0)), .slice A' n' c'], .int .i64 0]) ∧ Lm w' w'.heap.size A n c (digs q.natAbs) ∧ Lm w' w'.heap.size A' n' c' (digs r.natAbs) ∧ Below w.heap.size w w'
theorem rww_rd2 {w : World} {x y : Int} {n1 n2 : Bool} {v1 v2 : Nat} (h1 : (digs v1).length ≤ 4096) (h2 : (digs v2).length ≤ 4096) (e1 : x = toI n1 v1 * y + toI n2 v2) (e2 : v2 < y.natAbs) (e3 : v2 = 0 ∨ n2 = decide (y < 0)) (e4 : v1 ≤ x.natAbs)
    {e : Ending} {w' : World} (h : RWW w (mkN n1 v1) (digs v1) (mkN n2 v2) (digs v2) 0 e w') : RD2 w x y e w' := by
  refine ⟨toI n1 v1, toI n2 v2, e1, by rw [toI_abs]; exact e2, ?_, by rw [toI_abs]; exact e4, ?_⟩
  · rcases e3 with e3 | e3
    · left; subst e3; unfold toI; split <;> rfl
    · rcases Nat.eq_zero_or_pos v2 with h0 | h0
      · left; subst h0; unfold toI; split <;> rfl
      · right
        subst e3
        unfold toI
        by_cases hy : y < 0
        · rw [decide_eq_true hy, if_pos rfl]; simp; omega
        · rw [decide_eq_false hy, if_neg (by simp)]; simp
  · rw [mkN_toI h1, mkN_toI h2] at h
    rw [toI_abs, toI_abs]
    exact h
theorem divmod_n (w : World) (A B : Option Addr) (n m ca cb k : Nat) (x y : Int) (hA : Lm w w.heap.size A n ca (digs x.natAbs)) (hB : Lm w w.heap.size B m cb (digs y.natAbs)) (hx : Sz k x) (hy : Sz k y) (hk : k ≤ 2000) (hy0 : y ≠ 0)
    {na nb : Bool} (ha : decide (x < 0) = na) (hb : decide (y < 0) = nb) :
    Calls Tryd.prog 8 #[.agg #[.bool na, .slice A n ca], .agg #[.bool nb, .slice B m cb]] w (RD2 w x y) := by
  have hv := chkB_z hx (show k ≤ 4096 by omega) hy (show k ≤ 4096 by omega)
  rw [ha, hb] at hv
  have hxl : (digs x.natAbs).length ≤ 4096 := Nat.le_trans hx.len (by omega)
  have hyl : (digs y.natAbs).length ≤ 4096 := Nat.le_trans hy.len (by omega)
  have hbp : 0 < y.natAbs := by omega
  have ex : toI na x.natAbs = x := by rw [← ha]; exact toI_self x
  have ey : toI nb y.natAbs = y := by rw [← hb]; exact toI_self y
  have hdm := Nat.div_add_mod x.natAbs y.natAbs
  have hml := Nat.mod_lt x.natAbs hbp
  have hdl := Nat.div_le_self x.natAbs y.natAbs
  have hm2 := Nat.mod_le x.natAbs y.natAbs
  have key : ∀ (s t : Bool), toI t y.natAbs = y → toI s (x.natAbs / y.natAbs) * y + toI (s != t) (x.natAbs % y.natAbs) = toI (s != t) x.natAbs := by
    intro s t ht
    have e := toI_mul s t (x.natAbs / y.natAbs) y.natAbs
    rw [ht] at e
    rw [e, toI_same rfl, Nat.mul_comm, hdm]
  by_cases hs : na = nb
  · refine (divmod_same w na nb A B n m ca cb _ _ hA hB hv hbp hs).mono fun e w' h => rww_rd2 (Nat.le_trans (digs_mono hdl) hxl) (Nat.le_trans (digs_mono hm2) hxl) ?_ hml (.inr hb.symm) hdl h
    have h1 := key false nb ey
    subst hs
    rw [show (false != na) = na from by cases na <;> rfl, ex] at h1
    exact h1.symm
  · have hs2 : na = true ∧ nb = false ∨ na = false ∧ nb = true := by cases na <;> cases nb <;> simp_all
    have hnn : (true != nb) = na := by cases na <;> cases nb <;> simp_all
    have h1 := key true nb ey
    rw [hnn, ex] at h1
    rcases Nat.eq_zero_or_pos (x.natAbs % y.natAbs) with h0 | h0
    · refine (divmod_exact w na nb A B n m ca cb _ _ hA hB hv hbp hs2 h0).mono fun e w' h => rww_rd2 (Nat.le_trans (digs_mono hdl) hxl) (Nat.le_trans (digs_mono hm2) hxl) ?_ hml (.inl h0) hdl h
      have h6 : ∀ s : Bool, toI s 0 = 0 := by intro s; unfold toI; cases s <;> rfl
      rw [h0, h6] at h1
      rw [h0, h6]
      exact h1.symm
    · have hq1 : x.natAbs / y.natAbs + 1 ≤ x.natAbs := by
        have h2 : 2 ≤ y.natAbs := by omega
        have h3 := Nat.mul_le_mul_right (x.natAbs / y.natAbs) h2
        omega
      refine (divmod_down w na nb A B n m ca cb _ _ hA hB hv hbp hs2 h0).mono fun e w' h => rww_rd2 (Nat.le_trans (digs_mono hq1) hxl) (Nat.le_trans (digs_mono (show y.natAbs - x.natAbs % y.natAbs ≤ y.natAbs by omega)) hyl) ?_ (by omega) (.inr hb.symm) hq1 h
      have h4 : toI true (x.natAbs / y.natAbs + 1) = toI true (x.natAbs / y.natAbs) - 1 := by unfold toI; simp; omega
      rw [h4, Int.sub_mul, Int.one_mul]
      have h5 : toI nb (y.natAbs - x.natAbs % y.natAbs) - y = toI na (x.natAbs % y.natAbs) := by
        rw [← ey, toI_abs]
        unfold toI
        cases na <;> cases nb <;> simp_all <;> omega
      omega
end Go.Proofs.YtkcdijhfiahibaaDoor

/- The reference's left and short. -/
namespace Go.Proofs.YtkcdijhfiahibaaDoor
open Go.RowKit

/-- .. in a block of its own. -/
def RLo (w : World) (N v : Nat) (e : Ending) (w' : World) : Prop := ∃ A c ts, e = .returned (.slice A N c) ∧ Ow w' w.heap.size (.slice A N c) ts ∧ Good ts ∧ ts.length = N ∧ val ts = v ∧ Below w.heap.size w w'

set_option maxRecDepth 100000 in
set_option maxHeartbeats 1000000 in
theorem rleft_own (w : World) (A : Option Addr) (n c s : Nat) (xs : List Nat) (v : Nat) (hA : Lm w w.heap.size A n c xs) (hn : n ≤ 100000000) (hs32 : s < 32) (hv : val xs * 2 ^ s = v) :
    Calls Tryd.prog 77 #[.slice A n c, .int .u64 (s : Int)] w (RLo w (n + 1) v) := by
  have h1 := hA.cap
  have h2 := hA.max
  have HA := Lib.hid hA
  have HV := Lib.hid hv
  clear hA hv
  go_enter Tryd.func77, Tryd.ntmps77
  go_wp2
  go_loopw [5, 6, 7] (fun u cy i wr => ∃ k : Nat, k ≤ n ∧ i = .int .i64 k ∧ cy = .int .u64 ((mulK [] xs (2 ^ s) k).2 : Nat) ∧ Ow wr w.heap.size u (mulK [] xs (2 ^ s) k).1 ∧ Below w.heap.size w wr) (fun _ _ i _ => n - (intOf i).toNat)
  case atStart => exact ⟨0, Nat.zero_le _, rfl, rfl, Ow.nil _ _, Below.refl _ _⟩
  case round =>
    obtain ⟨k, hk, rfl, rfl, hO, hb⟩ := hrel
    have HO := Lib.hid hO
    have HBl := Lib.hid hb
    clear hO hb
    have hp31 : 2 ^ s ≤ 2147483648 := Nat.pow_le_pow_right (by omega) (show s ≤ 31 by omega)
    have hcy := shl_carry HA.out.good hp31 k
    have HLn := Lib.hid (mulK_len [] xs (2 ^ s) k)
    have hc32 : (mulK [] xs (2 ^ s) k).2 < 4294967296 := by omega
    clear hcy
    by_cases hlt : k < n
    · obtain ⟨b, bo, rfl, hbb, hcx⟩ := (HA.out.below HBl.out).cell hlt
      have hxg := HA.out.good.get k
      have hmx : xs[k]?.getD 0 * 2 ^ s ≤ 4294967295 * 2147483648 := Nat.mul_le_mul (by omega) hp31
      obtain ⟨S, hS⟩ : ∃ S : Nat, S = (mulK [] xs (2 ^ s) k).2 + (xs[k]?.getD 0 * 2 ^ s + 0) := ⟨_, rfl⟩
      have HX : Hid (IntKind.u64.wrap ((((mulK [] xs (2 ^ s) k).2 : Nat) : Int) + IntKind.u64.wrap (((xs[k]?.getD 0 : Nat) : Int) * 2 ^ s)) = (S : Int)) := by
        show _ = _
        rw [cast_shl, Nat.mul_comm, wrap_nat, Nat.mod_eq_of_lt (by omega), IntKind.wrap_u64]
        omega
      have HS : Hid (mulK [] xs (2 ^ s) (k + 1) = ((mulK [] xs (2 ^ s) k).1 ++ [S % 4294967296], S / 4294967296)) := by show _ = _; rw [hS]; rfl
      clear hS
      have hSb : S < 18446744073709551616 := by have := HX.out; rw [IntKind.wrap_u64] at this; omega
      go_wp2_with (at_builtin; refine wpList_append_u32 _ rfl _ _ rfl w.heap.size _ _ rfl HO.out _ (S % 4294967296) 1 (by rw [HX.out]; omega) (by have := HLn.out; omega) HBl.out.size rfl ?_; intro u' w1 hO1 hg1)
      go_roundw
      case rel =>
        refine ⟨k + 1, by omega, by go_num, ?_, hO1.eq ?_, HO.out.below HBl.out HBl.out.size hg1⟩
        · rw [HX.out, HS.out]
          exact congrArg (Value.int IntKind.u64) (Int.natCast_ediv _ _).symm
        · rw [HS.out]
      case measure => simp [intOf]; omega
    · obtain rfl : k = n := by omega
      have hgd : Hid (Good ((mulK [] xs (2 ^ s) k).1 ++ [(mulK [] xs (2 ^ s) k).2])) := (mulK_good _ _ _ _).append (Good.nil.cons hc32)
      have hlen : Hid (((mulK [] xs (2 ^ s) k).1 ++ [(mulK [] xs (2 ^ s) k).2]).length = k + 1) := by show _ = _; rw [List.length_append, HLn.out]; rfl
      have hvs : Hid (val ((mulK [] xs (2 ^ s) k).1 ++ [(mulK [] xs (2 ^ s) k).2]) = v) := by
        show _ = _
        have e := mulK_val [] xs (2 ^ s) k
        rw [val_snoc, mulK_len, e, List.take_of_length_le (by rw [HA.out.len]; exact Nat.le_refl _), ← HV.out]
        simp only [List.take_nil, val_nil, Nat.add_zero]
      go_wp2_with (at_builtin; refine wpList_append_u32 _ rfl _ _ rfl w.heap.size _ _ rfl HO.out _ ((mulK [] xs (2 ^ s) k).2) 1 (by omega) (by have := HLn.out; omega) HBl.out.size rfl ?_; intro u1 w1 hO1 hg1)
      go_ret
      obtain ⟨A1, c1, rfl, hL1⟩ := hO1.lm hgd.out
      rw [hlen.out] at hL1 hO1 ⊢
      exact ⟨A1, c1, _, rfl, hO1, hgd.out, hlen.out, hvs.out, HO.out.below HBl.out HBl.out.size hg1⟩

set_option maxRecDepth 100000 in
set_option maxHeartbeats 1000000 in
theorem rshort_any (w : World) (A : Option Addr) (n c d : Nat) (xs : List Nat) (v : Nat) (hA : Lm w w.heap.size A n c xs) (hn : n ≤ 100000000) (hd : 0 < d) (hd9 : d < 4294967296) (hv : val xs = v) :
    Calls Tryd.prog 76 #[.slice A n c, .int .u32 (d : Int)] w (RD w (v / d) (v % d)) := by
  have h1 := hA.cap
  have h2 := hA.max
  have hG := hA.good
  have hn' := hA.len
  have HA := Lib.hid hA
  have HV := Lib.hid hv
  have hd0 : ¬ ((d : Int) = 0) := by omega
  clear hA hv
  have hmk := fun w => run_make_u32 (n : Int) (n : Int) n rfl rfl (by omega) w
  go_enter Tryd.func76, Tryd.ntmps76
  go_wp2
  clear hmk
  go_loopw [7, 8] (fun r i wr => ∃ k : Nat, k ≤ n ∧ i = .int .i64 ((k : Int) - 1) ∧ r = .int .u64 ((dvL d (xs.drop k)).2 : Nat) ∧ Ld wr w.heap.size (zer k ++ (dvL d (xs.drop k)).1) ∧ Below w.heap.size w wr) (fun _ i _ => (intOf i + 1).toNat)
  case atStart => exact ⟨n, Nat.le_refl _, rfl, by rw [List.drop_of_length_le (by omega)]; rfl, by rw [List.drop_of_length_le (by omega)]; show Ld _ _ (zer n ++ []); rw [List.append_nil]; exact Ld.new _ _, (Below.refl _ _).alloc (Nat.le_refl _) _⟩
  case round =>
    obtain ⟨k, hk, rfl, rfl, hO, hb⟩ := hrel
    have HO := Lib.hid hO
    have HBl := Lib.hid hb
    have hgs := hO.lt
    clear hO hb
    have hlen : (zer k ++ (dvL d (xs.drop k)).1).length = n := by rw [List.length_append, dvL_len, zer_len, List.length_drop]; omega
    have HLen := Lib.hid hlen
    have hr := dvL_lt hd (xs.drop k)
    rcases k with _ | k
    · have HQ := Lib.hid (dvL_quot hd xs)
      have HGq := Lib.hid (dvL_good hd hG)
      have HL : Hid (Lm wr wr.heap.size (some ⟨w.heap.size, 0, none⟩) n n (dvL d xs).1) := by
        have e := HO.out.lm (by rw [List.drop_zero]; exact (zer_good 0).append HGq.out) (off := 0) (n := n) (c := n) (by omega) (Nat.le_refl _) (by omega)
        rw [List.drop_zero, List.take_of_length_le (by omega)] at e
        exact e
      have HVq : Hid (val (dvL d xs).1 = v / d) := by show _ = _; rw [HQ.out.1, HV.out]
      have HVr : Hid (val [(dvL d xs).2] = v % d) := by show _ = _; rw [val_one, HQ.out.2, HV.out]
      rw [List.drop_zero] at hr ⊢
      clear hlen hn'
      go_wp2_with fail
      refine (rtrim_any _ _ _ _ _ (v / d) HL.out HVq.out (by omega)).mono ?_
      rintro e w1 ⟨A1, c1, rfl, hL1, hb1⟩
      have HL1 := Lib.hid hL1
      have HB1 := Lib.hid (HBl.out.trans (hb1.mono HBl.out.size))
      clear hL1 hb1
      go_wp2_with fail
      refine (rtrim_any _ _ _ _ _ (v % d) (Lm.one w1 (dvL d xs).2 _ (by omega) (by omega)) HVr.out (by omega)).mono ?_
      rintro e w2 ⟨A2, c2, rfl, hL2, hb2⟩
      go_wp2
      go_ret2
      exact ⟨A1, c1, A2, c2, rfl, HL1.out.via (bbox hb2), hL2, HB1.out.trans ((bbox hb2).mono HB1.out.size)⟩
    · have hct := HO.out.cell (i := k) (by omega)
      have hfr := HO.out.frozen k
      obtain ⟨b, bo, rfl, hbb, hcx⟩ := (HA.out.below HBl.out).cell (k := k) (by omega)
      have hxg := hG.get k
      have HStep : Hid (dvL d (xs.drop k) = (((dvL d (xs.drop (k + 1))).2 * 4294967296 + xs[k]?.getD 0) / d :: (dvL d (xs.drop (k + 1))).1, ((dvL d (xs.drop (k + 1))).2 * 4294967296 + xs[k]?.getD 0) % d)) := by
        show _ = _
        rw [drop_cons_ xs k (by omega)]; rfl
      have hq : ((dvL d (xs.drop (k + 1))).2 * 4294967296 + xs[k]?.getD 0) / d < 4294967296 := by
        rw [Nat.div_lt_iff_lt_mul hd]
        have : ((dvL d (xs.drop (k + 1))).2 + 1) * 4294967296 ≤ d * 4294967296 := Nat.mul_le_mul_right _ hr
        omega
      obtain ⟨T, hT⟩ : ∃ T : Nat, T = (dvL d (xs.drop (k + 1))).2 * 4294967296 + xs[k]?.getD 0 := ⟨_, rfl⟩
      have hTi : (((dvL d (xs.drop (k + 1))).2 : Nat) : Int) * 4294967296 + ((xs[k]?.getD 0 : Nat) : Int) = (T : Int) := by rw [hT]; omega
      rw [← hT] at hq HStep
      have hT9 : T < 18446744073709551616 := by omega
      clear hT hlen hn'
      have HQ : Hid (IntKind.u64.wrap ((T : Int) / (d : Int)) % 4294967296 = ((T / d : Nat) : Int)) := by
        show _ = _
        rw [← Int.natCast_ediv, wrap_nat]
        generalize T / d = q at hq ⊢
        omega
      have HR : Hid ((T : Int) % (d : Int) = ((T % d : Nat) : Int)) := by
        show _ = _
        rw [← Int.natCast_emod]
      go_wp2
      go_roundw
      case rel =>
        refine ⟨k, by omega, by go_num, ?_, ?_, HBl.out.setCell (p := ⟨w.heap.size, k, none⟩) (Nat.le_refl _) _⟩
        · rw [HStep.out]
          exact congrArg (Value.int IntKind.u64) HR.out
        · rw [HQ.out, HStep.out]
          have e := HO.out.set_ k (T / d)
          have e2 : (zer (k + 1) ++ (dvL d (xs.drop (k + 1))).1).set k (T / d) = zer k ++ (T / d :: (dvL d (xs.drop (k + 1))).1) := by
            have e3 := set_mid (zer k) [] ([0] ++ (dvL d (xs.drop (k + 1))).1) (T / d) (by simp)
            rw [zer_len] at e3
            have e4 : zer (k + 1) = zer k ++ [0] := by unfold zer; exact List.replicate_succ'
            rw [e4, List.append_assoc]
            exact e3
          rw [e2] at e
          exact e
      case measure => simp [intOf]
end Go.Proofs.YtkcdijhfiahibaaDoor

/- The reference's long division, in numbers. -/
namespace Go.Proofs.YtkcdijhfiahibaaDoor
open Go.RowKit

/-- The reference's two carries together are the code's one. -/
theorem dg_step {S c b m p : Nat} (hS : c + b = S) (hb : b ≤ 1) (hp : p < 4294967296) :
    (p + 8589934592 - (c + m) % 4294967296 - b) % 4294967296 = (p + 4294967296 - (S + m) % 4294967296) % 4294967296 ∧
    (c + m) / 4294967296 + (if p < (c + m) % 4294967296 + b then 1 else 0) = (S + m) / 4294967296 + (if p < (S + m) % 4294967296 then 1 else 0) := by
  subst hS
  constructor
  · omega
  · split <;> split <;> omega

/-- What is left once nothing is to be borrowed. -/
theorem dg_done {X V T q : Nat} (hV : 0 < V) (h : T + V * q = X) (hq : X / V ≤ q) : X / V = q ∧ T = X % V := by
  have h1 : q ≤ X / V := by
    rw [Nat.le_div_iff_mul_le hV, Nat.mul_comm]
    omega
  have h2 : X / V = q := by omega
  refine ⟨h2, ?_⟩
  have h3 := Nat.div_add_mod X V
  rw [h2] at h3
  omega
/-- As long as something is to be borrowed, the digit is too great. -/
theorem dg_more {X V T q P : Nat} (_ : 0 < V) (h : T + V * q = X + P) (hT : T < P) : 1 ≤ q ∧ X / V ≤ q - 1 := by
  have h1 : X < V * q := by omega
  have h2 : X / V < q := Nat.div_lt_of_lt_mul h1
  generalize X / V = z at *
  exact ⟨by omega, by omega⟩
/-- Adding the divisor back: the carry is 0 or 1. -/
theorem dg_back {X V T T' q P cy : Nat} (hq : 1 ≤ q) (h : T + V * q = X + P) (hb : T' + P * cy = T + V) (hc : cy ≤ 1) : T' + V * (q - 1) = X + P * (1 - cy) := by
  have e : V * q = V * (q - 1) + V := by
    obtain ⟨r, rfl⟩ : ∃ r, q = r + 1 := ⟨q - 1, by omega⟩
    rw [Nat.add_sub_cancel, Nat.mul_add, Nat.mul_one]
  rcases Nat.eq_zero_or_pos cy with h0 | h0
  · subst h0; simp at hb ⊢; omega
  · obtain rfl : cy = 1 := by omega
    simp at hb ⊢; omega

/-! ### The rest moved back to the right -/
def shrL (s : Nat) (rs : List Nat) : Nat → List Nat
  | 0 => []
  | k + 1 => shrL s rs k ++ [(rs[k]?.getD 0 + 4294967296 * rs[k + 1]?.getD 0) / 2 ^ s % 4294967296]
theorem shrL_len (s : Nat) (rs : List Nat) (k : Nat) : (shrL s rs k).length = k := by
  induction k with
  | zero => rfl
  | succ k ih => unfold shrL; rw [List.length_append, ih]; rfl
theorem limb_at {rs : List Nat} (g : Good rs) (k : Nat) : val rs / 4294967296 ^ k = rs[k]?.getD 0 + 4294967296 * val (rs.drop (k + 1)) := by
  rw [← val_drop rs g k, val_step]
theorem pow_split (s : Nat) (hs : s < 32) : (4294967296 : Nat) = 2 ^ s * 2 ^ (32 - s) := by
  rw [← Nat.pow_add, show s + (32 - s) = 32 by omega]
theorem shr_limb {rs : List Nat} (g : Good rs) (s : Nat) (hs : s < 32) (k : Nat) : val rs / 2 ^ s / 4294967296 ^ k % 4294967296 = (rs[k]?.getD 0 + 4294967296 * rs[k + 1]?.getD 0) / 2 ^ s % 4294967296 := by
  rw [Nat.div_div_eq_div_mul, Nat.mul_comm, ← Nat.div_div_eq_div_mul, limb_at g k, val_step]
  generalize rs[k]?.getD 0 = x
  generalize rs[k + 1]?.getD 0 = y
  generalize val (rs.drop (k + 1 + 1)) = z
  have e : x + 4294967296 * (y + 4294967296 * z) = (x + 4294967296 * y) + 2 ^ s * (4294967296 * (2 ^ (32 - s) * z)) := by
    have e1 : 2 ^ s * (4294967296 * (2 ^ (32 - s) * z)) = 4294967296 * (4294967296 * z) := by
      rw [Nat.mul_left_comm, ← Nat.mul_assoc (2 ^ s), ← pow_split s hs]
    rw [e1]; omega
  rw [e, Nat.add_mul_div_left _ _ (Nat.pow_pos (by omega)), Nat.add_mul_mod_self_left]
theorem shrL_lims {rs : List Nat} (g : Good rs) (s : Nat) (hs : s < 32) (k : Nat) : shrL s rs k = lims (val rs / 2 ^ s) k := by
  induction k with
  | zero => rfl
  | succ k ih => unfold shrL lims; rw [ih, shr_limb g s hs k]
theorem shrL_val {rs : List Nat} (g : Good rs) (s : Nat) (hs : s < 32) {n : Nat} (hn : rs.length = n) : val (shrL s rs n) = val rs / 2 ^ s := by
  rw [shrL_lims g s hs, lims_val]
  have h := val_lt g
  rw [hn] at h
  exact Nat.mod_eq_of_lt (Nat.lt_of_le_of_lt (Nat.div_le_self _ _) h)
end Go.Proofs.YtkcdijhfiahibaaDoor

