/- Lemmas, part 5. -/
import Derived.Test.YtkajmglpmdhmnaaDoorRows
import Derived.ProofKit
import Derived.SizedLaws
import Derived.Lib.SmallJoins
import Derived.LaidMore
import Derived.OpenShut
import Derived.Stop.LaidErr
import Derived.MakeChecks
import Derived.SevenTiedAt
import Derived.IntWalk
import Derived.Laws.MathBits
import Derived.Deep.DeepCutAuto
import Derived.Deep.CutBlock
import Derived.Lib.OthersKept
import Derived.Laws.RangeAny
import Derived.Lib.OwnKind
import Derived.Laws.OwnMore
import Derived.Lib.Strings
import Derived.Lib.Slices
import Derived.Lib.Walk
import Derived.Test.YtkajmglpmdhmnaaDoorMore4
/- The law's 'alive': the chapter's examples hold. -/
namespace Go.Proofs.YtkajmglpmdhmnaaDoor
open Go.RowKit

theorem ex_dm1 (w : World) (A B : Option Addr) (n m ca cb : Nat) (hA : Lm w w.heap.size A n ca (digs 7)) (hB : Lm w w.heap.size B m cb (digs 2)) :
    Calls Tryd.prog 21 #[.agg #[.bool true, .slice A n ca], .agg #[.bool false, .slice B m cb]] w (RWW w true (digs 4) false (digs 1) 0) :=
  divmod_down w true false A B n m ca cb 7 2 hA hB (by decide) (by omega) (.inl ⟨rfl, rfl⟩) (by decide)
theorem ex_dm2 (w : World) (A B : Option Addr) (n m ca cb : Nat) (hA : Lm w w.heap.size A n ca (digs 7)) (hB : Lm w w.heap.size B m cb (digs 2)) :
    Calls Tryd.prog 21 #[.agg #[.bool false, .slice A n ca], .agg #[.bool true, .slice B m cb]] w (RWW w true (digs 4) true (digs 1) 0) :=
  divmod_down w false true A B n m ca cb 7 2 hA hB (by decide) (by omega) (.inr ⟨rfl, rfl⟩) (by decide)
theorem ex_sh (w : World) (A : Option Addr) (n c : Nat) (hA : Lm w w.heap.size A n c (digs 5)) (hT : TabD w) :
    Calls Tryd.prog 9 #[.agg #[.bool true, .slice A n c], .int .i64 (-1)] w (RW w true (digs 3) 0) :=
  shift_down_lost w A n c 5 1 (-1) hA (by decide) rfl (by omega) (by omega) hT (by decide)
theorem ex_gcd (w : World) (A B : Option Addr) (n m ca cb : Nat) (hA : Lm w w.heap.size A n ca (digs 12)) (hB : Lm w w.heap.size B m cb (digs 18)) :
    Calls Tryd.prog 7 #[.agg #[.bool true, .slice A n ca], .agg #[.bool false, .slice B m cb]] w (RW w false (digs 6) 0) :=
  gcd_small w true false A B n m ca cb 12 18 hA hB (by decide) (by rw [← hA.len]; decide) (by rw [← hB.len]; decide)
theorem ex_sq (w : World) (A : Option Addr) (n c : Nat) (hA : Lm w w.heap.size A n c (digs 99)) :
    Calls Tryd.prog 13 #[.agg #[.bool false, .slice A n c]] w (RW w false (digs 9) 0) :=
  (sqrt_ok w A n c 99 hA (by decide)).mono fun e w' ⟨r, hr, h⟩ => by
    obtain rfl : r = 9 := hr.uniq ⟨by decide, by decide⟩
    exact h
theorem dec_2_64 : Lib.decDigits 18446744073709551616 = [49, 56, 52, 52, 54, 55, 52, 52, 48, 55, 51, 55, 48, 57, 53, 53, 49, 54, 49, 54] := by
  simp [dec_big, dec_small]
theorem digs_2_64 : digs 18446744073709551616 = [0, 0, 1] := (eq_digs (xs := [0, 0, 1]) (by unfold Good; decide) (by unfold Norm; decide) (by decide)).symm
theorem ex_txt (w : World) (A : Option Addr) (n c : Nat) (hA : Lm w w.heap.size A n c [0, 0, 1]) (hT : TabU w) :
    Calls Tryd.prog 59 #[.agg #[.bool false, .slice A n c]] w fun e w' => e = .returned (.tuple #[.string ⟨#[49, 56, 52, 52, 54, 55, 52, 52, 48, 55, 51, 55, 48, 57, 53, 53, 49, 54, 49, 54]⟩, .int .i64 0]) ∧ Below w.heap.size w w' := by
  rw [← digs_2_64] at hA
  have h := text_ok w false A n c 18446744073709551616 hA (by rw [digs_2_64]; decide) hT
  have e : txt false 18446744073709551616 = [49, 56, 52, 52, 54, 55, 52, 52, 48, 55, 51, 55, 48, 57, 53, 53, 49, 54, 49, 54] := by
    unfold txt
    rw [dec_2_64]
    rfl
  rw [e] at h
  exact h
theorem Lm.three (w : World) (k : Nat) (t : TypeId) (hk : w.heap.size = k) : Lm (w.alloc (.cells #[.int .u32 0, .int .u32 0, .int .u32 1] t)) (k + 1) (some ⟨k, 0, none⟩) 3 3 [0, 0, 1] := by
  subst hk
  exact ⟨rfl, by unfold Good; decide, Nat.le_refl _, by omega, fun h => (by cases h), fun _ => ⟨_, 0, rfl, by omega, fun j hj => by
    match j, hj with
    | 0, _ => go_simp
    | 1, _ => go_simp
    | 2, _ => go_simp⟩⟩

set_option maxRecDepth 100000 in
set_option maxHeartbeats 4000000 in
theorem alive_any (w : World) (hD : TabD w) (hU : TabU w) :
    Calls Tryd.prog 25 #[] w fun e w' => e = .returned (.bool true) ∧ Below w.heap.size w w' := by
  have TD := Lib.hid hD
  have TU := Lib.hid hU
  have HB : Hid (Below w.heap.size w w) := Below.refl _ _
  clear hD hU
  go_enter Tryd.func25, Tryd.ntmps25
  go_wp2_with fail
  refine (from_any _ (-7) (by omega) (by omega)).mono ?_
  rintro e w1 ⟨Aa, na, ca, rfl, ha, hb1⟩
  have QTD := Lib.hid (TD.out.via hb1)
  have QTU := Lib.hid (TU.out.via hb1)
  have QHB := Lib.hid (HB.out.trans (hb1.mono HB.out.size))
  clear TD TU HB
  have TD := QTD
  clear QTD
  have TU := QTU
  clear QTU
  have HB := QHB
  clear QHB
  have La : Hid (Lm w1 w1.heap.size Aa na ca (digs 7)) := ha
  clear ha
  clear hb1
  go_wp2_with fail
  refine (from_any _ (2) (by omega) (by omega)).mono ?_
  rintro e w2 ⟨Ab, nb, cb, rfl, hb, hb2⟩
  have QLa := Lib.hid ((La.out.via hb2))
  have QTD := Lib.hid (TD.out.via hb2)
  have QTU := Lib.hid (TU.out.via hb2)
  have QHB := Lib.hid (HB.out.trans (hb2.mono HB.out.size))
  clear La TD TU HB
  have La := QLa
  clear QLa
  have TD := QTD
  clear QTD
  have TU := QTU
  clear QTU
  have HB := QHB
  clear QHB
  have Lb : Hid (Lm w2 w2.heap.size Ab nb cb (digs 2)) := hb
  clear hb
  clear hb2
  go_wp2_with fail
  refine (ex_dm1 _ _ _ _ _ _ _ La.out Lb.out).mono ?_
  rintro e w3 ⟨Aq, nq, cq, Ar, nr, cr, rfl, hq, hr, hb3⟩
  have QLa := Lib.hid ((La.out.via hb3))
  have QLb := Lib.hid ((Lb.out.via hb3))
  have QTD := Lib.hid (TD.out.via hb3)
  have QTU := Lib.hid (TU.out.via hb3)
  have QHB := Lib.hid (HB.out.trans (hb3.mono HB.out.size))
  clear La Lb TD TU HB
  have La := QLa
  clear QLa
  have Lb := QLb
  clear QLb
  have TD := QTD
  clear QTD
  have TU := QTU
  clear QTU
  have HB := QHB
  clear QHB
  have Lq := Lib.hid hq
  have Lr := Lib.hid hr
  clear hq hr
  clear hb3
  go_wp2_with fail
  refine (from_any _ (7) (by omega) (by omega)).mono ?_
  rintro e w4 ⟨Ac, nc, cc, rfl, hc, hb4⟩
  have QLq := Lib.hid ((((Lq.out.box _).box _).via hb4))
  have QLr := Lib.hid ((((Lr.out.box _).box _).via hb4))
  have QTD := Lib.hid (((TD.out.box _).box _).via hb4)
  have QTU := Lib.hid (((TU.out.box _).box _).via hb4)
  have QHB := Lib.hid (HB.out.trans ((bbox (bbox hb4)).mono HB.out.size))
  have ⟨N1, N2⟩ := boxes2 hb4
  have Pq := Lib.hid N1
  have Pr_ := Lib.hid N2
  clear N1 N2
  clear Lq Lr TD TU HB
  have Lq := QLq
  clear QLq
  have Lr := QLr
  clear QLr
  have TD := QTD
  clear QTD
  have TU := QTU
  clear QTU
  have HB := QHB
  clear QHB
  have Lc : Hid (Lm w4 w4.heap.size Ac nc cc (digs 7)) := hc
  clear hc
  clear hb4
  go_wp2_with fail
  refine (from_any _ (-2) (by omega) (by omega)).mono ?_
  rintro e w5 ⟨Ad, nd, cd, rfl, hd, hb5⟩
  have QLq := Lib.hid ((Lq.out.via hb5))
  have QLr := Lib.hid ((Lr.out.via hb5))
  have QLc := Lib.hid ((Lc.out.via hb5))
  have QPq := Lib.hid (Pq.out.via hb5)
  have QPr_ := Lib.hid (Pr_.out.via hb5)
  have QTD := Lib.hid (TD.out.via hb5)
  have QTU := Lib.hid (TU.out.via hb5)
  have QHB := Lib.hid (HB.out.trans (hb5.mono HB.out.size))
  clear Lq Lr Lc Pq Pr_ TD TU HB
  have Lq := QLq
  clear QLq
  have Lr := QLr
  clear QLr
  have Lc := QLc
  clear QLc
  have Pq := QPq
  clear QPq
  have Pr_ := QPr_
  clear QPr_
  have TD := QTD
  clear QTD
  have TU := QTU
  clear QTU
  have HB := QHB
  clear QHB
  have Ld : Hid (Lm w5 w5.heap.size Ad nd cd (digs 2)) := hd
  clear hd
  clear hb5
  go_wp2_with fail
  refine (ex_dm2 _ _ _ _ _ _ _ Lc.out Ld.out).mono ?_
  rintro e w6 ⟨Ap, np, cp, As, ns, cs, rfl, hp, hs, hb6⟩
  have QLq := Lib.hid ((Lq.out.via hb6))
  have QLr := Lib.hid ((Lr.out.via hb6))
  have QLc := Lib.hid ((Lc.out.via hb6))
  have QLd := Lib.hid ((Ld.out.via hb6))
  have QPq := Lib.hid (Pq.out.via hb6)
  have QPr_ := Lib.hid (Pr_.out.via hb6)
  have QTD := Lib.hid (TD.out.via hb6)
  have QTU := Lib.hid (TU.out.via hb6)
  have QHB := Lib.hid (HB.out.trans (hb6.mono HB.out.size))
  clear Lq Lr Lc Ld Pq Pr_ TD TU HB
  have Lq := QLq
  clear QLq
  have Lr := QLr
  clear QLr
  have Lc := QLc
  clear QLc
  have Ld := QLd
  clear QLd
  have Pq := QPq
  clear QPq
  have Pr_ := QPr_
  clear QPr_
  have TD := QTD
  clear QTD
  have TU := QTU
  clear QTU
  have HB := QHB
  clear QHB
  have Lp := Lib.hid hp
  have Ls := Lib.hid hs
  clear hp hs
  clear hb6
  go_wp2_with fail
  refine (from_any _ (-5) (by omega) (by omega)).mono ?_
  rintro e w7 ⟨Ae, ne, ce, rfl, he, hb7⟩
  have QLq := Lib.hid ((((Lq.out.box _).box _).via hb7))
  have QLr := Lib.hid ((((Lr.out.box _).box _).via hb7))
  have QLp := Lib.hid ((((Lp.out.box _).box _).via hb7))
  have QLs := Lib.hid ((((Ls.out.box _).box _).via hb7))
  have QPq := Lib.hid (((Pq.out.alloc _).alloc _).via hb7)
  have QPr_ := Lib.hid (((Pr_.out.alloc _).alloc _).via hb7)
  have QTD := Lib.hid (((TD.out.box _).box _).via hb7)
  have QTU := Lib.hid (((TU.out.box _).box _).via hb7)
  have QHB := Lib.hid (HB.out.trans ((bbox (bbox hb7)).mono HB.out.size))
  have ⟨N1, N2⟩ := boxes2 hb7
  have Pp := Lib.hid N1
  have Ps := Lib.hid N2
  clear N1 N2
  clear Lq Lr Lp Ls Pq Pr_ TD TU HB
  have Lq := QLq
  clear QLq
  have Lr := QLr
  clear QLr
  have Lp := QLp
  clear QLp
  have Ls := QLs
  clear QLs
  have Pq := QPq
  clear QPq
  have Pr_ := QPr_
  clear QPr_
  have TD := QTD
  clear QTD
  have TU := QTU
  clear QTU
  have HB := QHB
  clear QHB
  have Le : Hid (Lm w7 w7.heap.size Ae ne ce (digs 5)) := he
  clear he
  clear hb7
  go_wp2_with fail
  refine (ex_sh _ _ _ _ Le.out TD.out).mono ?_
  rintro e w8 ⟨Ax, nx, cx, rfl, hx, hb8⟩
  have QLq := Lib.hid ((Lq.out.via hb8))
  have QLr := Lib.hid ((Lr.out.via hb8))
  have QLp := Lib.hid ((Lp.out.via hb8))
  have QLs := Lib.hid ((Ls.out.via hb8))
  have QLe := Lib.hid ((Le.out.via hb8))
  have QPq := Lib.hid (Pq.out.via hb8)
  have QPr_ := Lib.hid (Pr_.out.via hb8)
  have QPp := Lib.hid (Pp.out.via hb8)
  have QPs := Lib.hid (Ps.out.via hb8)
  have QTD := Lib.hid (TD.out.via hb8)
  have QTU := Lib.hid (TU.out.via hb8)
  have QHB := Lib.hid (HB.out.trans (hb8.mono HB.out.size))
  clear Lq Lr Lp Ls Le Pq Pr_ Pp Ps TD TU HB
  have Lq := QLq
  clear QLq
  have Lr := QLr
  clear QLr
  have Lp := QLp
  clear QLp
  have Ls := QLs
  clear QLs
  have Le := QLe
  clear QLe
  have Pq := QPq
  clear QPq
  have Pr_ := QPr_
  clear QPr_
  have Pp := QPp
  clear QPp
  have Ps := QPs
  clear QPs
  have TD := QTD
  clear QTD
  have TU := QTU
  clear QTU
  have HB := QHB
  clear QHB
  have Lx := Lib.hid hx
  clear hx
  clear hb8
  go_wp2_with fail
  refine (from_any _ (-12) (by omega) (by omega)).mono ?_
  rintro e w9 ⟨Af, nf, cf, rfl, hf, hb9⟩
  have QLq := Lib.hid (((Lq.out.box _).via hb9))
  have QLr := Lib.hid (((Lr.out.box _).via hb9))
  have QLp := Lib.hid (((Lp.out.box _).via hb9))
  have QLs := Lib.hid (((Ls.out.box _).via hb9))
  have QLx := Lib.hid (((Lx.out.box _).via hb9))
  have QPq := Lib.hid ((Pq.out.alloc _).via hb9)
  have QPr_ := Lib.hid ((Pr_.out.alloc _).via hb9)
  have QPp := Lib.hid ((Pp.out.alloc _).via hb9)
  have QPs := Lib.hid ((Ps.out.alloc _).via hb9)
  have QTD := Lib.hid ((TD.out.box _).via hb9)
  have QTU := Lib.hid ((TU.out.box _).via hb9)
  have QHB := Lib.hid (HB.out.trans ((bbox hb9).mono HB.out.size))
  have Px := Lib.hid ((Pr.new _ _ rfl _ _ _).via hb9)
  clear Lq Lr Lp Ls Lx Pq Pr_ Pp Ps TD TU HB
  have Lq := QLq
  clear QLq
  have Lr := QLr
  clear QLr
  have Lp := QLp
  clear QLp
  have Ls := QLs
  clear QLs
  have Lx := QLx
  clear QLx
  have Pq := QPq
  clear QPq
  have Pr_ := QPr_
  clear QPr_
  have Pp := QPp
  clear QPp
  have Ps := QPs
  clear QPs
  have TD := QTD
  clear QTD
  have TU := QTU
  clear QTU
  have HB := QHB
  clear QHB
  have Lf : Hid (Lm w9 w9.heap.size Af nf cf (digs 12)) := hf
  clear hf
  clear hb9
  go_wp2_with fail
  refine (from_any _ (18) (by omega) (by omega)).mono ?_
  rintro e w10 ⟨Ag, ng, cg, rfl, hg, hb10⟩
  have QLq := Lib.hid ((Lq.out.via hb10))
  have QLr := Lib.hid ((Lr.out.via hb10))
  have QLp := Lib.hid ((Lp.out.via hb10))
  have QLs := Lib.hid ((Ls.out.via hb10))
  have QLx := Lib.hid ((Lx.out.via hb10))
  have QLf := Lib.hid ((Lf.out.via hb10))
  have QPq := Lib.hid (Pq.out.via hb10)
  have QPr_ := Lib.hid (Pr_.out.via hb10)
  have QPp := Lib.hid (Pp.out.via hb10)
  have QPs := Lib.hid (Ps.out.via hb10)
  have QPx := Lib.hid (Px.out.via hb10)
  have QTD := Lib.hid (TD.out.via hb10)
  have QTU := Lib.hid (TU.out.via hb10)
  have QHB := Lib.hid (HB.out.trans (hb10.mono HB.out.size))
  clear Lq Lr Lp Ls Lx Lf Pq Pr_ Pp Ps Px TD TU HB
  have Lq := QLq
  clear QLq
  have Lr := QLr
  clear QLr
  have Lp := QLp
  clear QLp
  have Ls := QLs
  clear QLs
  have Lx := QLx
  clear QLx
  have Lf := QLf
  clear QLf
  have Pq := QPq
  clear QPq
  have Pr_ := QPr_
  clear QPr_
  have Pp := QPp
  clear QPp
  have Ps := QPs
  clear QPs
  have Px := QPx
  clear QPx
  have TD := QTD
  clear QTD
  have TU := QTU
  clear QTU
  have HB := QHB
  clear QHB
  have Lg : Hid (Lm w10 w10.heap.size Ag ng cg (digs 18)) := hg
  clear hg
  clear hb10
  go_wp2_with fail
  refine (ex_gcd _ _ _ _ _ _ _ Lf.out Lg.out).mono ?_
  rintro e w11 ⟨Ay, ny, cy, rfl, hy, hb11⟩
  have QLq := Lib.hid ((Lq.out.via hb11))
  have QLr := Lib.hid ((Lr.out.via hb11))
  have QLp := Lib.hid ((Lp.out.via hb11))
  have QLs := Lib.hid ((Ls.out.via hb11))
  have QLx := Lib.hid ((Lx.out.via hb11))
  have QLf := Lib.hid ((Lf.out.via hb11))
  have QLg := Lib.hid ((Lg.out.via hb11))
  have QPq := Lib.hid (Pq.out.via hb11)
  have QPr_ := Lib.hid (Pr_.out.via hb11)
  have QPp := Lib.hid (Pp.out.via hb11)
  have QPs := Lib.hid (Ps.out.via hb11)
  have QPx := Lib.hid (Px.out.via hb11)
  have QTD := Lib.hid (TD.out.via hb11)
  have QTU := Lib.hid (TU.out.via hb11)
  have QHB := Lib.hid (HB.out.trans (hb11.mono HB.out.size))
  clear Lq Lr Lp Ls Lx Lf Lg Pq Pr_ Pp Ps Px TD TU HB
  have Lq := QLq
  clear QLq
  have Lr := QLr
  clear QLr
  have Lp := QLp
  clear QLp
  have Ls := QLs
  clear QLs
  have Lx := QLx
  clear QLx
  have Lf := QLf
  clear QLf
  have Lg := QLg
  clear QLg
  have Pq := QPq
  clear QPq
  have Pr_ := QPr_
  clear QPr_
  have Pp := QPp
  clear QPp
  have Ps := QPs
  clear QPs
  have Px := QPx
  clear QPx
  have TD := QTD
  clear QTD
  have TU := QTU
  clear QTU
  have HB := QHB
  clear QHB
  have Ly := Lib.hid hy
  clear hy
  clear hb11
  go_wp2_with fail
  refine (from_any _ (99) (by omega) (by omega)).mono ?_
  rintro e w12 ⟨Ah, nh, ch, rfl, hh, hb12⟩
  have QLq := Lib.hid (((Lq.out.box _).via hb12))
  have QLr := Lib.hid (((Lr.out.box _).via hb12))
  have QLp := Lib.hid (((Lp.out.box _).via hb12))
  have QLs := Lib.hid (((Ls.out.box _).via hb12))
  have QLx := Lib.hid (((Lx.out.box _).via hb12))
  have QLy := Lib.hid (((Ly.out.box _).via hb12))
  have QPq := Lib.hid ((Pq.out.alloc _).via hb12)
  have QPr_ := Lib.hid ((Pr_.out.alloc _).via hb12)
  have QPp := Lib.hid ((Pp.out.alloc _).via hb12)
  have QPs := Lib.hid ((Ps.out.alloc _).via hb12)
  have QPx := Lib.hid ((Px.out.alloc _).via hb12)
  have QTD := Lib.hid ((TD.out.box _).via hb12)
  have QTU := Lib.hid ((TU.out.box _).via hb12)
  have QHB := Lib.hid (HB.out.trans ((bbox hb12).mono HB.out.size))
  have Py := Lib.hid ((Pr.new _ _ rfl _ _ _).via hb12)
  clear Lq Lr Lp Ls Lx Ly Pq Pr_ Pp Ps Px TD TU HB
  have Lq := QLq
  clear QLq
  have Lr := QLr
  clear QLr
  have Lp := QLp
  clear QLp
  have Ls := QLs
  clear QLs
  have Lx := QLx
  clear QLx
  have Ly := QLy
  clear QLy
  have Pq := QPq
  clear QPq
  have Pr_ := QPr_
  clear QPr_
  have Pp := QPp
  clear QPp
  have Ps := QPs
  clear QPs
  have Px := QPx
  clear QPx
  have TD := QTD
  clear QTD
  have TU := QTU
  clear QTU
  have HB := QHB
  clear QHB
  have Lh : Hid (Lm w12 w12.heap.size Ah nh ch (digs 99)) := hh
  clear hh
  clear hb12
  go_wp2_with fail
  refine (ex_sq _ _ _ _ Lh.out).mono ?_
  rintro e w13 ⟨Az, nz, cz, rfl, hz, hb13⟩
  have QLq := Lib.hid ((Lq.out.via hb13))
  have QLr := Lib.hid ((Lr.out.via hb13))
  have QLp := Lib.hid ((Lp.out.via hb13))
  have QLs := Lib.hid ((Ls.out.via hb13))
  have QLx := Lib.hid ((Lx.out.via hb13))
  have QLy := Lib.hid ((Ly.out.via hb13))
  have QLh := Lib.hid ((Lh.out.via hb13))
  have QPq := Lib.hid (Pq.out.via hb13)
  have QPr_ := Lib.hid (Pr_.out.via hb13)
  have QPp := Lib.hid (Pp.out.via hb13)
  have QPs := Lib.hid (Ps.out.via hb13)
  have QPx := Lib.hid (Px.out.via hb13)
  have QPy := Lib.hid (Py.out.via hb13)
  have QTD := Lib.hid (TD.out.via hb13)
  have QTU := Lib.hid (TU.out.via hb13)
  have QHB := Lib.hid (HB.out.trans (hb13.mono HB.out.size))
  clear Lq Lr Lp Ls Lx Ly Lh Pq Pr_ Pp Ps Px Py TD TU HB
  have Lq := QLq
  clear QLq
  have Lr := QLr
  clear QLr
  have Lp := QLp
  clear QLp
  have Ls := QLs
  clear QLs
  have Lx := QLx
  clear QLx
  have Ly := QLy
  clear QLy
  have Lh := QLh
  clear QLh
  have Pq := QPq
  clear QPq
  have Pr_ := QPr_
  clear QPr_
  have Pp := QPp
  clear QPp
  have Ps := QPs
  clear QPs
  have Px := QPx
  clear QPx
  have Py := QPy
  clear QPy
  have TD := QTD
  clear QTD
  have TU := QTU
  clear QTU
  have HB := QHB
  clear QHB
  have Lz := Lib.hid hz
  clear hz
  clear hb13
  go_wp2_with fail
  refine (whole_any _ _ _ _ _ [0, 0, 1] ((Lm.three _ (w13.heap.size + 1) _ (by simp)).mono (by simp))).mono ?_
  rintro e w14 ⟨rfl, hb14⟩
  have QLq := Lib.hid ((((Lq.out.box _).box _).via hb14))
  have QLr := Lib.hid ((((Lr.out.box _).box _).via hb14))
  have QLp := Lib.hid ((((Lp.out.box _).box _).via hb14))
  have QLs := Lib.hid ((((Ls.out.box _).box _).via hb14))
  have QLx := Lib.hid ((((Lx.out.box _).box _).via hb14))
  have QLy := Lib.hid ((((Ly.out.box _).box _).via hb14))
  have QLz := Lib.hid ((((Lz.out.box _).box _).via hb14))
  have QPq := Lib.hid (((Pq.out.alloc _).alloc _).via hb14)
  have QPr_ := Lib.hid (((Pr_.out.alloc _).alloc _).via hb14)
  have QPp := Lib.hid (((Pp.out.alloc _).alloc _).via hb14)
  have QPs := Lib.hid (((Ps.out.alloc _).alloc _).via hb14)
  have QPx := Lib.hid (((Px.out.alloc _).alloc _).via hb14)
  have QPy := Lib.hid (((Py.out.alloc _).alloc _).via hb14)
  have QTD := Lib.hid (((TD.out.box _).box _).via hb14)
  have QTU := Lib.hid (((TU.out.box _).box _).via hb14)
  have QHB := Lib.hid (HB.out.trans ((bbox (bbox hb14)).mono HB.out.size))
  have Pz := Lib.hid (((Pr.new _ _ rfl _ _ _).alloc _).via hb14)
  clear Lq Lr Lp Ls Lx Ly Lz Pq Pr_ Pp Ps Px Py TD TU HB
  have Lq := QLq
  clear QLq
  have Lr := QLr
  clear QLr
  have Lp := QLp
  clear QLp
  have Ls := QLs
  clear QLs
  have Lx := QLx
  clear QLx
  have Ly := QLy
  clear QLy
  have Lz := QLz
  clear QLz
  have Pq := QPq
  clear QPq
  have Pr_ := QPr_
  clear QPr_
  have Pp := QPp
  clear QPp
  have Ps := QPs
  clear QPs
  have Px := QPx
  clear QPx
  have Py := QPy
  clear QPy
  have TD := QTD
  clear QTD
  have TU := QTU
  clear QTU
  have HB := QHB
  clear QHB
  have L3 := Lib.hid (((Lm.three _ (w13.heap.size + 1) _ (by simp)).mono (by simp)).via hb14)
  clear hb14
  go_wp2_with fail
  refine (ex_txt _ _ _ _ L3.out TU.out).mono ?_
  rintro e w15 ⟨rfl, hb15⟩
  have QLq := Lib.hid ((Lq.out.via hb15))
  have QLr := Lib.hid ((Lr.out.via hb15))
  have QLp := Lib.hid ((Lp.out.via hb15))
  have QLs := Lib.hid ((Ls.out.via hb15))
  have QLx := Lib.hid ((Lx.out.via hb15))
  have QLy := Lib.hid ((Ly.out.via hb15))
  have QLz := Lib.hid ((Lz.out.via hb15))
  have QL3 := Lib.hid ((L3.out.via hb15))
  have QPq := Lib.hid (Pq.out.via hb15)
  have QPr_ := Lib.hid (Pr_.out.via hb15)
  have QPp := Lib.hid (Pp.out.via hb15)
  have QPs := Lib.hid (Ps.out.via hb15)
  have QPx := Lib.hid (Px.out.via hb15)
  have QPy := Lib.hid (Py.out.via hb15)
  have QPz := Lib.hid (Pz.out.via hb15)
  have QTD := Lib.hid (TD.out.via hb15)
  have QTU := Lib.hid (TU.out.via hb15)
  have QHB := Lib.hid (HB.out.trans (hb15.mono HB.out.size))
  clear Lq Lr Lp Ls Lx Ly Lz L3 Pq Pr_ Pp Ps Px Py Pz TD TU HB
  have Lq := QLq
  clear QLq
  have Lr := QLr
  clear QLr
  have Lp := QLp
  clear QLp
  have Ls := QLs
  clear QLs
  have Lx := QLx
  clear QLx
  have Ly := QLy
  clear QLy
  have Lz := QLz
  clear QLz
  have L3 := QL3
  clear QL3
  have Pq := QPq
  clear QPq
  have Pr_ := QPr_
  clear QPr_
  have Pp := QPp
  clear QPp
  have Ps := QPs
  clear QPs
  have Px := QPx
  clear QPx
  have Py := QPy
  clear QPy
  have Pz := QPz
  clear QPz
  have TD := QTD
  clear QTD
  have TU := QTU
  clear QTU
  have HB := QHB
  clear QHB
  clear hb15
  clear L3
  have ⟨c0, c1, _, _, _⟩ := Pq.out
  go_wp2_with fail
  refine (lsame_true _ true _ _ _ 4 (-4) Lq.out (by decide) (by decide) (by omega) (by omega)).mono ?_
  rintro e w16 ⟨rfl, hb16⟩
  have QLq := Lib.hid ((Lq.out.via hb16))
  have QLr := Lib.hid ((Lr.out.via hb16))
  have QLp := Lib.hid ((Lp.out.via hb16))
  have QLs := Lib.hid ((Ls.out.via hb16))
  have QLx := Lib.hid ((Lx.out.via hb16))
  have QLy := Lib.hid ((Ly.out.via hb16))
  have QLz := Lib.hid ((Lz.out.via hb16))
  have QPq := Lib.hid (Pq.out.via hb16)
  have QPr_ := Lib.hid (Pr_.out.via hb16)
  have QPp := Lib.hid (Pp.out.via hb16)
  have QPs := Lib.hid (Ps.out.via hb16)
  have QPx := Lib.hid (Px.out.via hb16)
  have QPy := Lib.hid (Py.out.via hb16)
  have QPz := Lib.hid (Pz.out.via hb16)
  have QTD := Lib.hid (TD.out.via hb16)
  have QTU := Lib.hid (TU.out.via hb16)
  have QHB := Lib.hid (HB.out.trans (hb16.mono HB.out.size))
  clear Lq Lr Lp Ls Lx Ly Lz Pq Pr_ Pp Ps Px Py Pz TD TU HB
  have Lq := QLq
  clear QLq
  have Lr := QLr
  clear QLr
  have Lp := QLp
  clear QLp
  have Ls := QLs
  clear QLs
  have Lx := QLx
  clear QLx
  have Ly := QLy
  clear QLy
  have Lz := QLz
  clear QLz
  have Pq := QPq
  clear QPq
  have Pr_ := QPr_
  clear QPr_
  have Pp := QPp
  clear QPp
  have Ps := QPs
  clear QPs
  have Px := QPx
  clear QPx
  have Py := QPy
  clear QPy
  have Pz := QPz
  clear QPz
  have TD := QTD
  clear QTD
  have TU := QTU
  clear QTU
  have HB := QHB
  clear QHB
  clear c0 c1
  clear hb16
  have ⟨c0, c1, _, _, _⟩ := Pr_.out
  go_wp2_with fail
  refine (lsame_true _ false _ _ _ 1 (1) Lr.out (by decide) (by decide) (by omega) (by omega)).mono ?_
  rintro e w17 ⟨rfl, hb17⟩
  have QLq := Lib.hid ((Lq.out.via hb17))
  have QLr := Lib.hid ((Lr.out.via hb17))
  have QLp := Lib.hid ((Lp.out.via hb17))
  have QLs := Lib.hid ((Ls.out.via hb17))
  have QLx := Lib.hid ((Lx.out.via hb17))
  have QLy := Lib.hid ((Ly.out.via hb17))
  have QLz := Lib.hid ((Lz.out.via hb17))
  have QPq := Lib.hid (Pq.out.via hb17)
  have QPr_ := Lib.hid (Pr_.out.via hb17)
  have QPp := Lib.hid (Pp.out.via hb17)
  have QPs := Lib.hid (Ps.out.via hb17)
  have QPx := Lib.hid (Px.out.via hb17)
  have QPy := Lib.hid (Py.out.via hb17)
  have QPz := Lib.hid (Pz.out.via hb17)
  have QTD := Lib.hid (TD.out.via hb17)
  have QTU := Lib.hid (TU.out.via hb17)
  have QHB := Lib.hid (HB.out.trans (hb17.mono HB.out.size))
  clear Lq Lr Lp Ls Lx Ly Lz Pq Pr_ Pp Ps Px Py Pz TD TU HB
  have Lq := QLq
  clear QLq
  have Lr := QLr
  clear QLr
  have Lp := QLp
  clear QLp
  have Ls := QLs
  clear QLs
  have Lx := QLx
  clear QLx
  have Ly := QLy
  clear QLy
  have Lz := QLz
  clear QLz
  have Pq := QPq
  clear QPq
  have Pr_ := QPr_
  clear QPr_
  have Pp := QPp
  clear QPp
  have Ps := QPs
  clear QPs
  have Px := QPx
  clear QPx
  have Py := QPy
  clear QPy
  have Pz := QPz
  clear QPz
  have TD := QTD
  clear QTD
  have TU := QTU
  clear QTU
  have HB := QHB
  clear QHB
  clear c0 c1
  clear hb17
  have ⟨c0, c1, _, _, _⟩ := Pp.out
  go_wp2_with fail
  refine (lsame_true _ true _ _ _ 4 (-4) Lp.out (by decide) (by decide) (by omega) (by omega)).mono ?_
  rintro e w18 ⟨rfl, hb18⟩
  have QLq := Lib.hid ((Lq.out.via hb18))
  have QLr := Lib.hid ((Lr.out.via hb18))
  have QLp := Lib.hid ((Lp.out.via hb18))
  have QLs := Lib.hid ((Ls.out.via hb18))
  have QLx := Lib.hid ((Lx.out.via hb18))
  have QLy := Lib.hid ((Ly.out.via hb18))
  have QLz := Lib.hid ((Lz.out.via hb18))
  have QPq := Lib.hid (Pq.out.via hb18)
  have QPr_ := Lib.hid (Pr_.out.via hb18)
  have QPp := Lib.hid (Pp.out.via hb18)
  have QPs := Lib.hid (Ps.out.via hb18)
  have QPx := Lib.hid (Px.out.via hb18)
  have QPy := Lib.hid (Py.out.via hb18)
  have QPz := Lib.hid (Pz.out.via hb18)
  have QTD := Lib.hid (TD.out.via hb18)
  have QTU := Lib.hid (TU.out.via hb18)
  have QHB := Lib.hid (HB.out.trans (hb18.mono HB.out.size))
  clear Lq Lr Lp Ls Lx Ly Lz Pq Pr_ Pp Ps Px Py Pz TD TU HB
  have Lq := QLq
  clear QLq
  have Lr := QLr
  clear QLr
  have Lp := QLp
  clear QLp
  have Ls := QLs
  clear QLs
  have Lx := QLx
  clear QLx
  have Ly := QLy
  clear QLy
  have Lz := QLz
  clear QLz
  have Pq := QPq
  clear QPq
  have Pr_ := QPr_
  clear QPr_
  have Pp := QPp
  clear QPp
  have Ps := QPs
  clear QPs
  have Px := QPx
  clear QPx
  have Py := QPy
  clear QPy
  have Pz := QPz
  clear QPz
  have TD := QTD
  clear QTD
  have TU := QTU
  clear QTU
  have HB := QHB
  clear QHB
  clear c0 c1
  clear hb18
  have ⟨c0, c1, _, _, _⟩ := Ps.out
  go_wp2_with fail
  refine (lsame_true _ true _ _ _ 1 (-1) Ls.out (by decide) (by decide) (by omega) (by omega)).mono ?_
  rintro e w19 ⟨rfl, hb19⟩
  have QLq := Lib.hid ((Lq.out.via hb19))
  have QLr := Lib.hid ((Lr.out.via hb19))
  have QLp := Lib.hid ((Lp.out.via hb19))
  have QLs := Lib.hid ((Ls.out.via hb19))
  have QLx := Lib.hid ((Lx.out.via hb19))
  have QLy := Lib.hid ((Ly.out.via hb19))
  have QLz := Lib.hid ((Lz.out.via hb19))
  have QPq := Lib.hid (Pq.out.via hb19)
  have QPr_ := Lib.hid (Pr_.out.via hb19)
  have QPp := Lib.hid (Pp.out.via hb19)
  have QPs := Lib.hid (Ps.out.via hb19)
  have QPx := Lib.hid (Px.out.via hb19)
  have QPy := Lib.hid (Py.out.via hb19)
  have QPz := Lib.hid (Pz.out.via hb19)
  have QTD := Lib.hid (TD.out.via hb19)
  have QTU := Lib.hid (TU.out.via hb19)
  have QHB := Lib.hid (HB.out.trans (hb19.mono HB.out.size))
  clear Lq Lr Lp Ls Lx Ly Lz Pq Pr_ Pp Ps Px Py Pz TD TU HB
  have Lq := QLq
  clear QLq
  have Lr := QLr
  clear QLr
  have Lp := QLp
  clear QLp
  have Ls := QLs
  clear QLs
  have Lx := QLx
  clear QLx
  have Ly := QLy
  clear QLy
  have Lz := QLz
  clear QLz
  have Pq := QPq
  clear QPq
  have Pr_ := QPr_
  clear QPr_
  have Pp := QPp
  clear QPp
  have Ps := QPs
  clear QPs
  have Px := QPx
  clear QPx
  have Py := QPy
  clear QPy
  have Pz := QPz
  clear QPz
  have TD := QTD
  clear QTD
  have TU := QTU
  clear QTU
  have HB := QHB
  clear QHB
  clear c0 c1
  clear hb19
  have ⟨c0, c1, _, _, _⟩ := Px.out
  go_wp2_with fail
  refine (lsame_true _ true _ _ _ 3 (-3) Lx.out (by decide) (by decide) (by omega) (by omega)).mono ?_
  rintro e w20 ⟨rfl, hb20⟩
  have QLq := Lib.hid ((Lq.out.via hb20))
  have QLr := Lib.hid ((Lr.out.via hb20))
  have QLp := Lib.hid ((Lp.out.via hb20))
  have QLs := Lib.hid ((Ls.out.via hb20))
  have QLx := Lib.hid ((Lx.out.via hb20))
  have QLy := Lib.hid ((Ly.out.via hb20))
  have QLz := Lib.hid ((Lz.out.via hb20))
  have QPq := Lib.hid (Pq.out.via hb20)
  have QPr_ := Lib.hid (Pr_.out.via hb20)
  have QPp := Lib.hid (Pp.out.via hb20)
  have QPs := Lib.hid (Ps.out.via hb20)
  have QPx := Lib.hid (Px.out.via hb20)
  have QPy := Lib.hid (Py.out.via hb20)
  have QPz := Lib.hid (Pz.out.via hb20)
  have QTD := Lib.hid (TD.out.via hb20)
  have QTU := Lib.hid (TU.out.via hb20)
  have QHB := Lib.hid (HB.out.trans (hb20.mono HB.out.size))
  clear Lq Lr Lp Ls Lx Ly Lz Pq Pr_ Pp Ps Px Py Pz TD TU HB
  have Lq := QLq
  clear QLq
  have Lr := QLr
  clear QLr
  have Lp := QLp
  clear QLp
  have Ls := QLs
  clear QLs
  have Lx := QLx
  clear QLx
  have Ly := QLy
  clear QLy
  have Lz := QLz
  clear QLz
  have Pq := QPq
  clear QPq
  have Pr_ := QPr_
  clear QPr_
  have Pp := QPp
  clear QPp
  have Ps := QPs
  clear QPs
  have Px := QPx
  clear QPx
  have Py := QPy
  clear QPy
  have Pz := QPz
  clear QPz
  have TD := QTD
  clear QTD
  have TU := QTU
  clear QTU
  have HB := QHB
  clear QHB
  clear c0 c1
  clear hb20
  have ⟨c0, c1, _, _, _⟩ := Py.out
  go_wp2_with fail
  refine (lsame_true _ false _ _ _ 6 (6) Ly.out (by decide) (by decide) (by omega) (by omega)).mono ?_
  rintro e w21 ⟨rfl, hb21⟩
  have QLq := Lib.hid ((Lq.out.via hb21))
  have QLr := Lib.hid ((Lr.out.via hb21))
  have QLp := Lib.hid ((Lp.out.via hb21))
  have QLs := Lib.hid ((Ls.out.via hb21))
  have QLx := Lib.hid ((Lx.out.via hb21))
  have QLy := Lib.hid ((Ly.out.via hb21))
  have QLz := Lib.hid ((Lz.out.via hb21))
  have QPq := Lib.hid (Pq.out.via hb21)
  have QPr_ := Lib.hid (Pr_.out.via hb21)
  have QPp := Lib.hid (Pp.out.via hb21)
  have QPs := Lib.hid (Ps.out.via hb21)
  have QPx := Lib.hid (Px.out.via hb21)
  have QPy := Lib.hid (Py.out.via hb21)
  have QPz := Lib.hid (Pz.out.via hb21)
  have QTD := Lib.hid (TD.out.via hb21)
  have QTU := Lib.hid (TU.out.via hb21)
  have QHB := Lib.hid (HB.out.trans (hb21.mono HB.out.size))
  clear Lq Lr Lp Ls Lx Ly Lz Pq Pr_ Pp Ps Px Py Pz TD TU HB
  have Lq := QLq
  clear QLq
  have Lr := QLr
  clear QLr
  have Lp := QLp
  clear QLp
  have Ls := QLs
  clear QLs
  have Lx := QLx
  clear QLx
  have Ly := QLy
  clear QLy
  have Lz := QLz
  clear QLz
  have Pq := QPq
  clear QPq
  have Pr_ := QPr_
  clear QPr_
  have Pp := QPp
  clear QPp
  have Ps := QPs
  clear QPs
  have Px := QPx
  clear QPx
  have Py := QPy
  clear QPy
  have Pz := QPz
  clear QPz
  have TD := QTD
  clear QTD
  have TU := QTU
  clear QTU
  have HB := QHB
  clear QHB
  clear c0 c1
  clear hb21
  have ⟨c0, c1, _, _, _⟩ := Pz.out
  go_wp2_with fail
  refine (lsame_true _ false _ _ _ 9 (9) Lz.out (by decide) (by decide) (by omega) (by omega)).mono ?_
  rintro e w22 ⟨rfl, hb22⟩
  have QLq := Lib.hid ((Lq.out.via hb22))
  have QLr := Lib.hid ((Lr.out.via hb22))
  have QLp := Lib.hid ((Lp.out.via hb22))
  have QLs := Lib.hid ((Ls.out.via hb22))
  have QLx := Lib.hid ((Lx.out.via hb22))
  have QLy := Lib.hid ((Ly.out.via hb22))
  have QLz := Lib.hid ((Lz.out.via hb22))
  have QPq := Lib.hid (Pq.out.via hb22)
  have QPr_ := Lib.hid (Pr_.out.via hb22)
  have QPp := Lib.hid (Pp.out.via hb22)
  have QPs := Lib.hid (Ps.out.via hb22)
  have QPx := Lib.hid (Px.out.via hb22)
  have QPy := Lib.hid (Py.out.via hb22)
  have QPz := Lib.hid (Pz.out.via hb22)
  have QTD := Lib.hid (TD.out.via hb22)
  have QTU := Lib.hid (TU.out.via hb22)
  have QHB := Lib.hid (HB.out.trans (hb22.mono HB.out.size))
  clear Lq Lr Lp Ls Lx Ly Lz Pq Pr_ Pp Ps Px Py Pz TD TU HB
  have Lq := QLq
  clear QLq
  have Lr := QLr
  clear QLr
  have Lp := QLp
  clear QLp
  have Ls := QLs
  clear QLs
  have Lx := QLx
  clear QLx
  have Ly := QLy
  clear QLy
  have Lz := QLz
  clear QLz
  have Pq := QPq
  clear QPq
  have Pr_ := QPr_
  clear QPr_
  have Pp := QPp
  clear QPp
  have Ps := QPs
  clear QPs
  have Px := QPx
  clear QPx
  have Py := QPy
  clear QPy
  have Pz := QPz
  clear QPz
  have TD := QTD
  clear QTD
  have TU := QTU
  clear QTU
  have HB := QHB
  clear QHB
  clear c0 c1
  clear hb22
  go_wp2
  go_ret
  exact ⟨rfl, HB.out⟩
end Go.Proofs.YtkajmglpmdhmnaaDoor

/- What a tied row's condition gives: the library's tables lie in their variables; numbers that come in; the witness. -/
namespace Go.Proofs.YtkajmglpmdhmnaaDoor
section
open Go.ChangeShapes Go.WideShapes Go.ChangeAt Go.RowKit Go.Joins

theorem cells_u32 : Tryd.prog.cellsOf 39 = 1 := by kernel_rfl
theorem cells_wide : Tryd.prog.cellsOf 24 = 2 := by kernel_rfl
theorem laidOut : laidOutB Tryd.prog = true := by kernel_rfl
theorem own : ownKnob Tryd.prog.godebug = none := by kernel_rfl
theorem wf_u32 {n : Int} (h : (Lit.int .u32 n).wf = true) : 0 ≤ n ∧ n < 4294967296 := by
  have h1 : IntKind.u32.min = 0 := rfl
  have h2 : IntKind.u32.max = 4294967295 := rfl
  simp only [Lit.wf, Bool.and_eq_true, decide_eq_true_eq] at h
  omega

set_option maxRecDepth 100000 in
theorem open_wide {H : Type} {enc : TypeId × Value → H} {w : World} {b0 : Nat} {v : Value} {d : DataW H} {p : List MemPlace}
    (hv : Value.okWide Tryd.prog w .any b0 24 v) (h : DataW.Trod enc Tryd.prog w 0 (fun _ => true) true 24 v d p) (hlt : ∀ x ∈ p, x.block < w.heap.size) :
    ∃ neg A n c xs, v = .agg #[.bool neg, .slice A n c] ∧ Lm w w.heap.size A n c xs := by
  obtain ⟨v0, v1, y0, y1, fuel, rfl, rfl, rfl, h0, h1⟩ := open_agg2 Tryd.underlying24 (by kernel_rfl) cells_wide hv h
  obtain ⟨neg, e0, rfl⟩ := DataW.trod_bool Tryd.underlying4 h0
  obtain rfl : v0 = .bool neg := by simpa using e0
  rcases open_ints Tryd.underlying22 Tryd.underlying39 cells_u32 h1 with ⟨e1, rfl⟩ | ⟨a, len, cap, zs, e1, _, hl, hm, hz, rfl, hcell, hwz⟩
  · obtain rfl : v1 = .slice none 0 0 := by simpa using e1
    exact ⟨neg, none, 0, 0, [], rfl, Lm.nil _ _⟩
  · obtain rfl : v1 = .slice (some a) len cap := by simpa using e1
    simp only [if_true] at hz
    have hget : ∀ j, j < len → (((zs.take len).map Int.toNat)[j]?.getD 0 : Nat) = (zs.getD j 0).toNat ∧ 0 ≤ zs.getD j 0 := by
      intro j hj
      have hjz : j < zs.length := by omega
      have e2 : (zs.take len)[j]? = some zs[j] := by rw [List.getElem?_take_of_lt hj, List.getElem?_eq_getElem hjz]
      have e3 : zs.getD j 0 = zs[j] := by simp [List.getD, List.getElem?_eq_getElem hjz]
      rw [List.getElem?_map, e2, e3]
      exact ⟨rfl, (wf_u32 (hwz _ (List.getElem_mem hjz))).1⟩
    refine ⟨neg, some a, len, cap, (zs.take len).map Int.toNat, rfl, by simp; omega, ?_, hl, by simp only [maxLen] at hm; omega, (fun e => by cases e), fun hn => ?_⟩
    · intro x hx
      obtain ⟨y, hy, rfl⟩ := List.mem_map.1 hx
      have := wf_u32 (hwz y (List.mem_of_mem_take hy))
      omega
    · obtain ⟨b, off, spot⟩ := a
      have hspot : spot = none := by simpa [Addr.add] using World.cell?_spot (hcell 0 (by omega))
      subst hspot
      have hbW : b < w.heap.size := hlt (.cell b off) (by simp only [List.mem_append]; exact .inr (MemPlace.mem_row.2 ⟨0, by omega, by simp⟩))
      refine ⟨b, off, rfl, hbW, fun j hj => ?_⟩
      have hcj := hcell j (by omega)
      rw [add_plain] at hcj
      rw [hcj, (hget j hj).1, Int.toNat_of_nonneg (hget j hj).2]
end
/-- The three tables, as the rows list them. -/
def laid3 : List (String × DataW Unit) := [("math/bits.deBruijn32tab", Rows.laid_math_bits_deBruijn32tab), ("math/bits.deBruijn64tab", Rows.laid_math_bits_deBruijn64tab), ("internal/strconv.uint64pow10", Rows.laid_internal_strconv_uint64pow10)]
theorem gD32 : Tryd.prog.globalNamed "math/bits.deBruijn32tab" = some 0 := by kernel_rfl
theorem gU64 : Tryd.prog.globalNamed "internal/strconv.uint64pow10" = some 1 := by kernel_rfl
theorem tabD_of {W : World} {rest : List (String × DataW Unit)} (h : laidMet Tryd.prog (("math/bits.deBruijn32tab", Rows.laid_math_bits_deBruijn32tab) :: rest) W) : TabD W := by
  have hT : Lib.TabIs Tryd.prog W "math/bits.deBruijn32tab" .u8 (List.map (fun (n : Nat) => (n : Int)) Lib.deBruijn32tab) := Lib.tabIs_of_head (n := 32) (t := 105) (e := 5) gD32 (by kernel_rfl) (by kernel_rfl) Tryd.underlying5 (by kernel_rfl) (by kernel_rfl) h
  intro j hj
  rw [hT.cell gD32 j (by rw [List.length_map]; exact hj)]
  have : j < Lib.deBruijn32tab.length := hj
  simp [List.getD, List.getElem?_map, List.getElem?_eq_getElem this]
theorem tabs_of {W : World} (h : laidMetH Tryd.prog laid3 W) : TabD W ∧ TabU W := by
  rw [MakeChecks.laidMetH_plain _ _ _ (by kernel_rfl)] at h
  refine ⟨tabD_of h, ?_⟩
  exact Lib.tabIs_of_head (n := 20) (t := 119) (e := 71) gU64 (by kernel_rfl) (by kernel_rfl) Tryd.underlying71 (by kernel_rfl) (by kernel_rfl) h.tail.tail
/-- The door's own heap meets the condition. -/
theorem door_met (os : Os) (args : Array Value) : laidMetH Tryd.prog laid3 ((World.doorLaid Tryd.prog 24 os).forCall (fun _ _ => 0) ⟨#[], args, []⟩).memory :=
  laidMetH_of_parts3 (fuel := 8) (laidMet_of_run' 8 (by kernel_rfl) (by kernel_rfl)) (by kernel_rfl) (by kernel_rfl)
end Go.Proofs.YtkajmglpmdhmnaaDoor

/- The reference's plus and minus. -/
namespace Go.Proofs.YtkajmglpmdhmnaaDoor
open Go.RowKit

/-- A call returns limbs, just N of them, that stand for v. -/
def RL (w : World) (N v : Nat) (e : Ending) (w' : World) : Prop := ∃ A c ts, e = .returned (.slice A N c) ∧ Lm w' w'.heap.size A N c ts ∧ val ts = v ∧ Below w.heap.size w w'
theorem getD_over {xs : List Nat} {k : Nat} (h : xs.length ≤ k) : xs[k]?.getD 0 = 0 := by rw [List.getElem?_eq_none h]; rfl

set_option maxRecDepth 100000 in
set_option maxHeartbeats 1000000 in
theorem rplus_any (w : World) (A B : Option Addr) (n m ca cb N : Nat) (xs ys : List Nat) (v : Nat) (hA : Lm w w.heap.size A n ca xs) (hB : Lm w w.heap.size B m cb ys) (hN : N = max n m) (hn : N ≤ 100000000) (hv : val xs + val ys = v) :
    Calls Tryd.prog 42 #[.slice A n ca, .slice B m cb] w (RL w (N + 1) v) := by
  have h1 := hA.cap
  have h2 := hA.max
  have h3 := hB.cap
  have h4 := hB.max
  have hN1 : n ≤ N := by omega
  have hN2 : m ≤ N := by omega
  have HN := Lib.hid hN
  have HA := Lib.hid hA
  have HB := Lib.hid hB
  have HV := Lib.hid hv
  clear hA hB hv hN
  go_enter Tryd.func42, Tryd.ntmps42
  go_wp2
  go_loopw [5, 6, 7] (fun u cy i wr => ∃ k : Nat, k ≤ N ∧ i = .int .i64 k ∧ cy = .int .u64 ((addK xs ys k).2 : Nat) ∧ Ow wr w.heap.size u (addK xs ys k).1 ∧ Below w.heap.size w wr) (fun _ _ i _ => N - (intOf i).toNat)
  case atStart => exact ⟨0, Nat.zero_le _, rfl, rfl, Ow.nil _ _, Below.refl _ _⟩
  case round =>
    obtain ⟨k, hk, rfl, rfl, hO, hb⟩ := hrel
    have hcy := addK_carry HA.out.good HB.out.good k
    have HLn := Lib.hid (addK_len xs ys k)
    have hgx := HA.out.good.get k
    have hgy := HB.out.good.get k
    have HS : Hid (addK xs ys (k + 1) = ((addK xs ys k).1 ++ [((addK xs ys k).2 + (xs[k]?.getD 0 + ys[k]?.getD 0)) % 4294967296], ((addK xs ys k).2 + (xs[k]?.getD 0 + ys[k]?.getD 0)) / 4294967296)) := (rfl : _ = _)
    have HO := Lib.hid hO
    have HBl := Lib.hid hb
    clear hO hb
    by_cases hlt : k < N
    · have HR : Hid (∀ (u' : Value) (w1 : World) (E : Int), E = (((addK xs ys k).2 + (xs[k]?.getD 0 + ys[k]?.getD 0) : Nat) : Int) → Ow w1 w.heap.size u' ((addK xs ys k).1 ++ [((addK xs ys k).2 + (xs[k]?.getD 0 + ys[k]?.getD 0)) % 4294967296]) → Below w.heap.size w w1 →
          ∃ k' : Nat, k' ≤ N ∧ Value.int .i64 ((k : Int) + 1) = .int .i64 k' ∧ Value.int .u64 (E / 4294967296) = .int .u64 ((addK xs ys k').2 : Nat) ∧ Ow w1 w.heap.size u' (addK xs ys k').1 ∧ Below w.heap.size w w1) := by
        intro u' w1 E hE h5 h6
        refine ⟨k + 1, by omega, by go_num, ?_, ?_, h6⟩
        · rw [HS.out, hE]
          exact congrArg (Value.int IntKind.u64) (Int.natCast_ediv _ _).symm
        · rw [HS.out]; exact h5
      by_cases ha : k < n
      · obtain ⟨b, bo, rfl, hbb, hcx⟩ := (HA.out.below HBl.out).cell ha
        by_cases hm : k < m
        · obtain ⟨b', bo', rfl, hbb', hcy'⟩ := (HB.out.below HBl.out).cell hm
          go_wp2_with (at_builtin; refine wpList_append_u32 _ rfl _ _ rfl w.heap.size _ _ rfl HO.out _ (((addK xs ys k).2 + (xs[k]?.getD 0 + ys[k]?.getD 0)) % 4294967296) 1 (by omega) (by have := HLn.out; omega) HBl.out.size rfl ?_; intro u' w1 hO1 hg1)
          go_roundw
          case rel => exact HR.out _ _ _ (by omega) hO1 (HO.out.below HBl.out HBl.out.size hg1)
          case measure => simp [intOf]; omega
        · have HZ := Lib.hid (getD_over (xs := ys) (k := k) (by rw [HB.out.len]; omega))
          go_wp2_with (at_builtin; refine wpList_append_u32 _ rfl _ _ rfl w.heap.size _ _ rfl HO.out _ (((addK xs ys k).2 + (xs[k]?.getD 0 + ys[k]?.getD 0)) % 4294967296) 1 (by have := HZ.out; omega) (by have := HLn.out; omega) HBl.out.size rfl ?_; intro u' w1 hO1 hg1)
          go_roundw
          case rel => exact HR.out _ _ _ (by have := HZ.out; omega) hO1 (HO.out.below HBl.out HBl.out.size hg1)
          case measure => simp [intOf]; omega
      · have hm : k < m := by have := HN.out; omega
        obtain ⟨b', bo', rfl, hbb', hcy'⟩ := (HB.out.below HBl.out).cell hm
        have HZ := Lib.hid (getD_over (xs := xs) (k := k) (by rw [HA.out.len]; omega))
        go_wp2_with (at_builtin; refine wpList_append_u32 _ rfl _ _ rfl w.heap.size _ _ rfl HO.out _ (((addK xs ys k).2 + (xs[k]?.getD 0 + ys[k]?.getD 0)) % 4294967296) 1 (by have := HZ.out; omega) (by have := HLn.out; omega) HBl.out.size rfl ?_; intro u' w1 hO1 hg1)
        go_roundw
        case rel => exact HR.out _ _ _ (by have := HZ.out; omega) hO1 (HO.out.below HBl.out HBl.out.size hg1)
        case measure => simp [intOf]; omega
    · obtain rfl : k = N := by omega
      have ha : ¬ k < n := by omega
      have hm : ¬ k < m := by omega
      have HVs : Hid (val ((addK xs ys k).1 ++ [(addK xs ys k).2]) = v) := by
        show _ = _
        rw [val_snoc, addK_len, addK_val, List.take_of_length_le (by rw [HA.out.len]; omega), List.take_of_length_le (by rw [HB.out.len]; omega), HV.out]
      have HG : Hid (Good ((addK xs ys k).1 ++ [(addK xs ys k).2])) := (addK_good _ _ _).append (Good.nil.cons (by omega))
      go_wp2_with (at_builtin; refine wpList_append_u32 _ rfl _ _ rfl w.heap.size _ _ rfl HO.out _ ((addK xs ys k).2) 1 (by omega) (by have := HLn.out; omega) HBl.out.size rfl ?_; intro u' w1 hO1 hg1)
      go_ret
      obtain ⟨A1, c1, rfl, hL1⟩ := hO1.lm HG.out
      have hlen : ((addK xs ys k).1 ++ [(addK xs ys k).2]).length = k + 1 := by rw [List.length_append, HLn.out]; rfl
      rw [hlen] at hL1 ⊢
      exact ⟨A1, c1, _, rfl, hL1, HVs.out, HO.out.below HBl.out HBl.out.size hg1⟩


end Go.Proofs.YtkajmglpmdhmnaaDoor

/- The reference's sum. -/
namespace Go.Proofs.YtkajmglpmdhmnaaDoor
open Go.RowKit

/-- Three boxes of two cells. -/
theorem boxes3 (w : World) (t0 t1 t2 : TypeId) (a0 a1 b0 b1 q0 q1 : Value) :
    Pr (((w.alloc (.cells #[a0, a1] t0)).alloc (.cells #[b0, b1] t1)).alloc (.cells #[q0, q1] t2)) w.heap.size a0 a1 ∧ Pr (((w.alloc (.cells #[a0, a1] t0)).alloc (.cells #[b0, b1] t1)).alloc (.cells #[q0, q1] t2)) (w.heap.size + 1) b0 b1 ∧ Pr (((w.alloc (.cells #[a0, a1] t0)).alloc (.cells #[b0, b1] t1)).alloc (.cells #[q0, q1] t2)) (w.heap.size + 1 + 1) q0 q1 :=
  ⟨((Pr.new w w.heap.size rfl a0 a1 t0).alloc _).alloc _, (Pr.new (w.alloc (.cells #[a0, a1] t0)) (w.heap.size + 1) (by simp) b0 b1 t1).alloc _, Pr.new ((w.alloc (.cells #[a0, a1] t0)).alloc (.cells #[b0, b1] t1)) (w.heap.size + 1 + 1) (by simp) q0 q1 t2⟩
theorem below3 (w : World) (o1 o2 o3 : Obj) : Below w.heap.size w (((w.alloc o1).alloc o2).alloc o3) := (((Below.refl _ _).alloc (Nat.le_refl _) _).alloc (by simp) _).alloc (by simp; omega) _

end Go.Proofs.YtkajmglpmdhmnaaDoor

/- The reference's Add and Sub. -/
namespace Go.Proofs.YtkajmglpmdhmnaaDoor
open Go.RowKit

end Go.Proofs.YtkajmglpmdhmnaaDoor

/- The reference's times. -/
namespace Go.Proofs.YtkajmglpmdhmnaaDoor
open Go.RowKit

theorem grownBy_drewN {w w' : World} {row : Option Nat} (h : w.grownBy w' row) (d : Nat) : w.grownBy (w'.drewN d) row := ⟨h.os, h.tape, h.output, h.size, h.block⟩
theorem Ld.drewN {w : World} {g : Nat} {cs : List Nat} (h : Ld w g cs) (d : Nat) : Ld (w.drewN d) g cs := h

set_option maxRecDepth 100000 in
set_option maxHeartbeats 1000000 in
theorem rtimes_any (w : World) (A B : Option Addr) (n m ca cb : Nat) (xs ys : List Nat) (v : Nat) (hA : Lm w w.heap.size A n ca xs) (hB : Lm w w.heap.size B m cb ys) (hn : n ≤ 100000000) (hm : m ≤ 100000000) (hv : val ys * val xs = v) :
    Calls Tryd.prog 72 #[.slice A n ca, .slice B m cb] w (RL w (n + m) v) := by
  have h1 := hA.cap
  have h2 := hA.max
  have h3 := hB.cap
  have h4 := hB.max
  have HA := Lib.hid hA
  have HB := Lib.hid hB
  have hA0 := hA.good
  have hB0 := hB.good
  have HV := Lib.hid hv
  clear hA hB hv
  have hmk := fun w => run_make_u32 ((n : Int) + (m : Int)) ((n : Int) + (m : Int)) (n + m) (by omega) (by omega) (by omega) w
  go_enter Tryd.func72, Tryd.ntmps72
  go_wp2
  clear hmk
  go_loopw [6] (fun i wr => ∃ (k : Nat) (ps : List Nat), k ≤ n ∧ i = .int .i64 k ∧ Ld wr w.heap.size ps ∧ Good ps ∧ ps.length = m + n ∧ val (ps.take (m + k)) = val ys * val (xs.take k) ∧ (∀ j, m + k ≤ j → ps[j]?.getD 0 = 0) ∧ Below w.heap.size w wr) (fun i _ => n - (intOf i).toNat)
  case atStart => exact ⟨0, zer (n + m), Nat.zero_le _, rfl, Ld.new _ _, zer_good _, by rw [zer_len, Nat.add_comm], by rw [zer_val]; simp [val_nil], fun j _ => zer_get _ _, (Below.refl _ _).alloc (Nat.le_refl _) _⟩
  case round =>
    obtain ⟨k, ps, hk, rfl, hL, hG, hlen, hval, hz, hb⟩ := hrel
    have HL := Lib.hid hL
    have HG := Lib.hid hG
    have HLen := Lib.hid hlen
    have HVal := Lib.hid hval
    have HZ := Lib.hid hz
    have HBl := Lib.hid hb
    clear hL hG hlen hval hz hb
    by_cases hlt : k < n
    · obtain ⟨b, bo, rfl, hbb, hcx⟩ := HA.out.cell hlt
      have hxg := hA0.get k
      have HS := Lib.hid (prod_step HB.out.len HLen.out hlt HVal.out)
      have hgs := HL.out.lt
      have HX := Lib.hid (HA.out.below HBl.out)
      have HY := Lib.hid (HB.out.below HBl.out)
      go_wp2
      go_loopw [7, 8] (fun cy i wz => ∃ k2 : Nat, k2 ≤ m ∧ i = .int .i64 k2 ∧ cy = .int .u64 ((mulK (ps.drop k) ys (xs[k]?.getD 0) k2).2 : Nat) ∧ Ld wz w.heap.size (spl ps k (mulK (ps.drop k) ys (xs[k]?.getD 0) k2).1) ∧ wr.grownBy wz (some w.heap.size)) (fun _ i _ => m - (intOf i).toNat)
      case atStart => exact ⟨0, Nat.zero_le _, rfl, rfl, by show Ld wr w.heap.size (spl ps k []); rw [spl_nil]; exact HL.out, World.grownBy.refl wr _⟩
      case round =>
        obtain ⟨k2, hk2, rfl, rfl, hLk, hgk⟩ := hrel
        by_cases hlt2 : k2 < m
        · have hlen := mulK_len (ps.drop k) ys (xs[k]?.getD 0) k2
          have hcx2 := ((HX.out.grownLt hgk (Nat.le_of_lt hgs)).cell hlt)
          obtain ⟨b1, bo1, e1, _, hcx⟩ := hcx2
          cases e1
          obtain ⟨b2, bo2, rfl, hb2, hcy⟩ := (HY.out.grownLt hgk (Nat.le_of_lt hgs)).cell hlt2
          have hct := hLk.cell (i := k + k2) (by rw [spl_len (by rw [hlen, HLen.out]; omega), HLen.out]; omega)
          have hat := spl_at (cs := ps) (off := k) (ts := (mulK (ps.drop k) ys (xs[k]?.getD 0) k2).1) (by rw [hlen, HLen.out]; omega)
          rw [hlen] at hat
          rw [hat] at hct
          have hfr := hLk.frozen (k + k2)
          have hcar := mulK_carry (HG.out.drop k) hB0 hxg k2
          have hyg := hB0.get k2
          have hpg := HG.out.get (k + k2)
          have hmul := mul_bd hyg hxg
          obtain ⟨S, hS⟩ : ∃ S : Nat, S = (mulK (ps.drop k) ys (xs[k]?.getD 0) k2).2 + (ys[k2]?.getD 0 * xs[k]?.getD 0 + ps[k + k2]?.getD 0) := ⟨_, rfl⟩
          have HE : Hid (IntKind.u64.wrap ((((mulK (ps.drop k) ys (xs[k]?.getD 0) k2).2 : Nat) : Int) + IntKind.u64.wrap (IntKind.u64.wrap (((xs[k]?.getD 0 : Nat) : Int) * ((ys[k2]?.getD 0 : Nat) : Int)) + ((ps[k + k2]?.getD 0 : Nat) : Int))) = (S : Int)) := by
            show _ = _
            rw [← Int.natCast_mul, Nat.mul_comm, hS, IntKind.wrap_u64, IntKind.wrap_u64, IntKind.wrap_u64]
            omega
          have HS2 : Hid ((mulK (ps.drop k) ys (xs[k]?.getD 0) (k2 + 1)) = ((mulK (ps.drop k) ys (xs[k]?.getD 0) k2).1 ++ [((mulK (ps.drop k) ys (xs[k]?.getD 0) k2).2 + (ys[k2]?.getD 0 * xs[k]?.getD 0 + ps[k + k2]?.getD 0)) % 4294967296], ((mulK (ps.drop k) ys (xs[k]?.getD 0) k2).2 + (ys[k2]?.getD 0 * xs[k]?.getD 0 + ps[k + k2]?.getD 0)) / 4294967296)) := by
            show _ = _
            rw [← List.getElem?_drop]; rfl
          rw [← hS] at HS2
          have HSb : Hid (S < 18446744073709551616) := by show _ < _; omega
          have HK := Lib.hid hLk
          have HSet := Lib.hid (spl_set (cs := ps) (off := k) (ts := (mulK (ps.drop k) ys (xs[k]?.getD 0) k2).1) (S % 4294967296) (by rw [hlen, HLen.out]; omega))
          have HLn := Lib.hid hlen
          clear hLk hat hlen hS
          have hs1 : IntKind.i64.wrap ((k : Int) + (k2 : Int)) = (k : Int) + (k2 : Int) := IntWalk.i64_in _ (by omega)
          have hs2 : (0 : Int) ≤ (k : Int) + (k2 : Int) := by omega
          have hs3 : ((k : Int) + (k2 : Int)).toNat = k + k2 := by omega
          have hs4 : (k : Int) + (k2 : Int) < ((n + m : Nat) : Int) := by omega
          go_wp2
          go_quiet (fail)
          clear hs1
          go_wp2
          rw [HE.out]
          go_roundw
          case rel =>
            refine ⟨k2 + 1, by omega, by go_num, ?_, ?_, ?_⟩
            · rw [HS2.out]
              exact congrArg (Value.int IntKind.u64) (Int.natCast_ediv _ _).symm
            · have e := (HK.out.drewN nq).set_ (k + k2) (S % 4294967296)
              have e2 := HSet.out
              rw [HLn.out] at e2
              rw [e2] at e
              rw [HS2.out]
              simp only [Int.natCast_emod] at e
              exact e
            · exact grownBy_trans (grownBy_drewN hgk nq) (grownBy_setCellAt _ _ _ _)
          case measure => simp [intOf]; omega
        · obtain rfl : k2 = m := by omega
          have hml := mulK_len (ps.drop k) ys (xs[k]?.getD 0) k2
          have hcar := mulK_carry (HG.out.drop k) hB0 hxg k2
          have hsl : (spl ps k (mulK (ps.drop k) ys (xs[k]?.getD 0) k2).1).length = k2 + n := by rw [spl_len (by rw [hml, HLen.out]; omega), HLen.out]
          have hct := hLk.cell (i := k + k2) (by rw [hsl]; omega)
          have hfr := hLk.frozen (k + k2)
          have HL1 := Lib.hid hLk
          have HG1 := Lib.hid hgk
          have HML := Lib.hid hml
          clear hLk hgk hml hsl
          go_wp2
          go_roundw
          case rel =>
            have e2 := HL1.out.set_ (k + k2) (mulK (ps.drop k) ys (xs[k]?.getD 0) k2).2
            have e3 := spl_set (cs := ps) (off := k) (ts := (mulK (ps.drop k) ys (xs[k]?.getD 0) k2).1) (mulK (ps.drop k) ys (xs[k]?.getD 0) k2).2 (by rw [HML.out, HLen.out]; omega)
            rw [HML.out] at e3
            rw [e3] at e2
            have hl2 : k + ((mulK (ps.drop k) ys (xs[k]?.getD 0) k2).1 ++ [(mulK (ps.drop k) ys (xs[k]?.getD 0) k2).2]).length ≤ ps.length := by
              rw [List.length_append, HML.out, HLen.out]
              show k + (k2 + 1) ≤ k2 + n
              omega
            refine ⟨k + 1, _, by omega, by go_num, e2, ?_, ?_, HS.out, fun j hj => ?_, ?_⟩
            · exact spl_good HG.out ((mulK_good _ _ _ _).append (Good.nil.cons (mulK_carry (HG.out.drop _) hB0 hxg k2)))
            · rw [spl_len hl2, HLen.out]
            · rw [spl_after hl2 (by rw [List.length_append, HML.out]; show k + (k2 + 1) ≤ j; omega)]
              exact HZ.out j (by omega)
            · exact (HBl.out.grown HG1.out (by have := HBl.out.size; omega) (fun b e => by injection e with e; omega)).setCell (p := ⟨w.heap.size, k + k2, none⟩) (Nat.le_refl _) _
          case measure => simp [intOf]; omega
    · obtain rfl : k = n := by omega
      have hvs : Hid (val ps = v) := by
        have e := HVal.out
        rw [List.take_of_length_le (by rw [HLen.out]; exact Nat.le_refl _), List.take_of_length_le (by rw [HA.out.len]; exact Nat.le_refl _), HV.out] at e
        exact e
      have hlm : Hid (Lm wr wr.heap.size (some ⟨w.heap.size, 0, none⟩) (k + m) (k + m) ps) := by
        have e := HL.out.lm HG.out (off := 0) (n := k + m) (c := k + m) (by rw [HLen.out]; omega) (Nat.le_refl _) (by omega)
        rw [List.drop_zero, List.take_of_length_le (by rw [HLen.out]; omega)] at e
        exact e
      go_wp2
      go_ret
      exact ⟨_, _, ps, rfl, hlm.out, hvs.out, HBl.out⟩
end Go.Proofs.YtkajmglpmdhmnaaDoor

/- The reference's Mul. -/
namespace Go.Proofs.YtkajmglpmdhmnaaDoor
open Go.RowKit

set_option maxRecDepth 100000 in
set_option maxHeartbeats 1000000 in
theorem rmul_bad (w : World) (na nb : Bool) (A B : Option Addr) (n m ca cb : Nat) (xs ys : List Nat) (hA : Lm w w.heap.size A n ca xs) (hB : Lm w w.heap.size B m cb ys) (hv : chkB na xs nb ys = 8) :
    Calls Tryd.prog 45 #[.agg #[.bool na, .slice A n ca], .agg #[.bool nb, .slice B m cb]] w (RW w false [] 8) := by
  have HA := Lib.hid hA
  have HB := Lib.hid hB
  have HV := Lib.hid hv
  clear hv
  go_enter Tryd.func45, Tryd.ntmps45
  go_wp2_with fail
  refine (rboth_any _ _ _ _ _ _ _ _ _ _ _ (((HA.out.box _).box _).box _) (((HB.out.box _).box _).box _) 8 HV.out).mono ?_
  rintro e w1 ⟨rfl, hb1⟩
  have ⟨hx0, hx1, hy0, hy1, hz0, hz1, hf0, hf1, hsz⟩ := box3 hb1
  go_wp2_with fail
  refine (rboth_any _ _ _ _ _ _ _ _ _ _ _ ((((HA.out.box _).box _).box _).via hb1) ((((HB.out.box _).box _).box _).via hb1) 8 HV.out).mono ?_
  rintro e w2 ⟨rfl, hb2⟩
  have hky2 := keep2 hb2 hsz ⟨hz0, hz1⟩
  have ⟨hkf0, hkf1⟩ := keepF hb2 hsz ⟨hf0, hf1⟩
  go_wp2
  exact post_ws Tryd.results45 rfl rfl hky2.1 hky2.2 ⟨none, 0, 0, rfl, Lm.nil _ _, below_set2 ((bbox (bbox (bbox hb1))).trans (hb2.mono (by omega))) (by omega) _ _⟩

set_option maxRecDepth 100000 in
set_option maxHeartbeats 1000000 in
theorem rmul_ok (w : World) (na nb : Bool) (A B : Option Addr) (n m ca cb a b : Nat) (hA : Lm w w.heap.size A n ca (digs a)) (hB : Lm w w.heap.size B m cb (digs b)) (hv : chkB na (digs a) nb (digs b) = 0) :
    Calls Tryd.prog 45 #[.agg #[.bool na, .slice A n ca], .agg #[.bool nb, .slice B m cb]] w (RW w (mkN (na != nb) (a * b)) (mkL (a * b)) (mkE (a * b))) := by
  have h41 := (chk_ok.1 (chkB_ok.1 hv).1).1
  have h42 := (chk_ok.1 (chkB_ok.1 hv).2).1
  rw [hA.len] at h41
  rw [hB.len] at h42
  have HA := Lib.hid hA
  have HB := Lib.hid hB
  have HV := Lib.hid hv
  have HP : Hid (val (digs b) * val (digs a) = a * b) := by show _ = _; rw [digs_val, digs_val, Nat.mul_comm]
  clear hv hA hB
  cases na <;> cases nb
  · go_enter Tryd.func45, Tryd.ntmps45
    go_wp2_with fail
    refine (rboth_any _ _ _ _ _ _ _ _ _ _ _ (((HA.out.box _).box _).box _) (((HB.out.box _).box _).box _) 0 HV.out).mono ?_
    rintro e w1 ⟨rfl, hb1⟩
    have ⟨PA0, PB0, PR0⟩ := boxes3 w 24 24 24 (.bool false) (.slice A n ca) (.bool false) (.slice B m cb) (.bool false) (.slice none 0 0)
    have PA := PA0.via hb1
    have PB := PB0.via hb1
    have PR := PR0.via hb1
    have LA := Lib.hid ((((HA.out.box _).box _).box _).via hb1)
    have LB := Lib.hid ((((HB.out.box _).box _).box _).via hb1)
    have HB0 := Lib.hid (bbox (bbox (bbox hb1)))
    clear PA0 PB0 PR0 hb1
    have ⟨a0, a1, _, _, _⟩ := PA
    have ⟨b0, b1, _, _, _⟩ := PB
    have ⟨r0, r1, rf0, rf1, rl⟩ := PR
    go_wp2_with fail
    go_region_held3 (fun w' => (w'.cell? ⟨w.heap.size, 0, none⟩ = some (.bool false) ∧ w'.cell? ⟨w.heap.size, 1, none⟩ = some (.slice A n ca)) ∧ (w'.cell? ⟨w.heap.size + 1, 0, none⟩ = some (.bool false) ∧ w'.cell? ⟨w.heap.size + 1, 1, none⟩ = some (.slice B m cb)))
      (first | exact ⟨⟨a0, a1⟩, ⟨b0, b1⟩⟩ | exact ⟨⟨PAs.c0, PAs.c1⟩, ⟨PBs.c0, PBs.c1⟩⟩ | exact ⟨⟨PAt.c0, PAt.c1⟩, ⟨PBt.c0, PBt.c1⟩⟩ | exact ⟨⟨PAu.c0, PAu.c1⟩, ⟨PBu.c0, PBu.c1⟩⟩ | go_keep)
      (first
       | (go_at_call 72; refine (rtimes_any _ _ _ _ _ _ _ (digs a) (digs b) (a * b) LA.out.drew LB.out.drew (by omega) (by omega) HP.out).mono ?_; rintro e ws ⟨As, cs, ts, rfl, hLs, hvs, hbs⟩; have HVS := Lib.hid hvs; clear hvs; have Bs := (Below.refl w1.heap.size w1).drew.trans hbs; have PAs := PA.via Bs; have PBs := PB.via Bs; have PRs := PR.via Bs)
       | (go_at_call 35; refine (rmade_any _ _ _ _ _ ts (a * b) hLs HVS.out (by omega)).mono ?_; rintro e wt ⟨At, nt, ct, rfl, hLt, hbt⟩; have PAt := PAs.via hbt; have PBt := PBs.via hbt; have PRt := PRs.via hbt; have HBt : Hid (Below w.heap.size w wt) := HB0.out.trans ((Bs.trans (hbt.mono Bs.size)).mono HB0.out.size); have ⟨r0t, r1t, rf0t, rf1t, rlt⟩ := PRt; have PAu := PAt.far (h := w.heap.size + 1 + 1) (by omega) (.bool (mkN false (a * b))) (.slice At nt ct); have PBu := PBt.far (h := w.heap.size + 1 + 1) (by omega) (.bool (mkN false (a * b))) (.slice At nt ct)))
    go_wp2
    exact post_ws Tryd.results45 rfl rfl PRt.c0 PRt.c1 ⟨At, nt, ct, rfl, hLt.setP PRt _ _, below_set2 HBt.out (by omega) _ _⟩
  · go_enter Tryd.func45, Tryd.ntmps45
    go_wp2_with fail
    refine (rboth_any _ _ _ _ _ _ _ _ _ _ _ (((HA.out.box _).box _).box _) (((HB.out.box _).box _).box _) 0 HV.out).mono ?_
    rintro e w1 ⟨rfl, hb1⟩
    have ⟨PA0, PB0, PR0⟩ := boxes3 w 24 24 24 (.bool false) (.slice A n ca) (.bool true) (.slice B m cb) (.bool false) (.slice none 0 0)
    have PA := PA0.via hb1
    have PB := PB0.via hb1
    have PR := PR0.via hb1
    have LA := Lib.hid ((((HA.out.box _).box _).box _).via hb1)
    have LB := Lib.hid ((((HB.out.box _).box _).box _).via hb1)
    have HB0 := Lib.hid (bbox (bbox (bbox hb1)))
    clear PA0 PB0 PR0 hb1
    have ⟨a0, a1, _, _, _⟩ := PA
    have ⟨b0, b1, _, _, _⟩ := PB
    have ⟨r0, r1, rf0, rf1, rl⟩ := PR
    go_wp2_with fail
    go_region_held3 (fun w' => (w'.cell? ⟨w.heap.size, 0, none⟩ = some (.bool false) ∧ w'.cell? ⟨w.heap.size, 1, none⟩ = some (.slice A n ca)) ∧ (w'.cell? ⟨w.heap.size + 1, 0, none⟩ = some (.bool true) ∧ w'.cell? ⟨w.heap.size + 1, 1, none⟩ = some (.slice B m cb)))
      (first | exact ⟨⟨a0, a1⟩, ⟨b0, b1⟩⟩ | exact ⟨⟨PAs.c0, PAs.c1⟩, ⟨PBs.c0, PBs.c1⟩⟩ | exact ⟨⟨PAt.c0, PAt.c1⟩, ⟨PBt.c0, PBt.c1⟩⟩ | exact ⟨⟨PAu.c0, PAu.c1⟩, ⟨PBu.c0, PBu.c1⟩⟩ | go_keep)
      (first
       | (go_at_call 72; refine (rtimes_any _ _ _ _ _ _ _ (digs a) (digs b) (a * b) LA.out.drew LB.out.drew (by omega) (by omega) HP.out).mono ?_; rintro e ws ⟨As, cs, ts, rfl, hLs, hvs, hbs⟩; have HVS := Lib.hid hvs; clear hvs; have Bs := (Below.refl w1.heap.size w1).drew.trans hbs; have PAs := PA.via Bs; have PBs := PB.via Bs; have PRs := PR.via Bs)
       | (go_at_call 35; refine (rmade_any _ _ _ _ _ ts (a * b) hLs HVS.out (by omega)).mono ?_; rintro e wt ⟨At, nt, ct, rfl, hLt, hbt⟩; have PAt := PAs.via hbt; have PBt := PBs.via hbt; have PRt := PRs.via hbt; have HBt : Hid (Below w.heap.size w wt) := HB0.out.trans ((Bs.trans (hbt.mono Bs.size)).mono HB0.out.size); have ⟨r0t, r1t, rf0t, rf1t, rlt⟩ := PRt; have PAu := PAt.far (h := w.heap.size + 1 + 1) (by omega) (.bool (mkN true (a * b))) (.slice At nt ct); have PBu := PBt.far (h := w.heap.size + 1 + 1) (by omega) (.bool (mkN true (a * b))) (.slice At nt ct)))
    go_wp2
    exact post_ws Tryd.results45 rfl rfl PRt.c0 PRt.c1 ⟨At, nt, ct, rfl, hLt.setP PRt _ _, below_set2 HBt.out (by omega) _ _⟩
  · go_enter Tryd.func45, Tryd.ntmps45
    go_wp2_with fail
    refine (rboth_any _ _ _ _ _ _ _ _ _ _ _ (((HA.out.box _).box _).box _) (((HB.out.box _).box _).box _) 0 HV.out).mono ?_
    rintro e w1 ⟨rfl, hb1⟩
    have ⟨PA0, PB0, PR0⟩ := boxes3 w 24 24 24 (.bool true) (.slice A n ca) (.bool false) (.slice B m cb) (.bool false) (.slice none 0 0)
    have PA := PA0.via hb1
    have PB := PB0.via hb1
    have PR := PR0.via hb1
    have LA := Lib.hid ((((HA.out.box _).box _).box _).via hb1)
    have LB := Lib.hid ((((HB.out.box _).box _).box _).via hb1)
    have HB0 := Lib.hid (bbox (bbox (bbox hb1)))
    clear PA0 PB0 PR0 hb1
    have ⟨a0, a1, _, _, _⟩ := PA
    have ⟨b0, b1, _, _, _⟩ := PB
    have ⟨r0, r1, rf0, rf1, rl⟩ := PR
    go_wp2_with fail
    go_region_held3 (fun w' => (w'.cell? ⟨w.heap.size, 0, none⟩ = some (.bool true) ∧ w'.cell? ⟨w.heap.size, 1, none⟩ = some (.slice A n ca)) ∧ (w'.cell? ⟨w.heap.size + 1, 0, none⟩ = some (.bool false) ∧ w'.cell? ⟨w.heap.size + 1, 1, none⟩ = some (.slice B m cb)))
      (first | exact ⟨⟨a0, a1⟩, ⟨b0, b1⟩⟩ | exact ⟨⟨PAs.c0, PAs.c1⟩, ⟨PBs.c0, PBs.c1⟩⟩ | exact ⟨⟨PAt.c0, PAt.c1⟩, ⟨PBt.c0, PBt.c1⟩⟩ | exact ⟨⟨PAu.c0, PAu.c1⟩, ⟨PBu.c0, PBu.c1⟩⟩ | go_keep)
      (first
       | (go_at_call 72; refine (rtimes_any _ _ _ _ _ _ _ (digs a) (digs b) (a * b) LA.out.drew LB.out.drew (by omega) (by omega) HP.out).mono ?_; rintro e ws ⟨As, cs, ts, rfl, hLs, hvs, hbs⟩; have HVS := Lib.hid hvs; clear hvs; have Bs := (Below.refl w1.heap.size w1).drew.trans hbs; have PAs := PA.via Bs; have PBs := PB.via Bs; have PRs := PR.via Bs)
       | (go_at_call 35; refine (rmade_any _ _ _ _ _ ts (a * b) hLs HVS.out (by omega)).mono ?_; rintro e wt ⟨At, nt, ct, rfl, hLt, hbt⟩; have PAt := PAs.via hbt; have PBt := PBs.via hbt; have PRt := PRs.via hbt; have HBt : Hid (Below w.heap.size w wt) := HB0.out.trans ((Bs.trans (hbt.mono Bs.size)).mono HB0.out.size); have ⟨r0t, r1t, rf0t, rf1t, rlt⟩ := PRt; have PAu := PAt.far (h := w.heap.size + 1 + 1) (by omega) (.bool (mkN true (a * b))) (.slice At nt ct); have PBu := PBt.far (h := w.heap.size + 1 + 1) (by omega) (.bool (mkN true (a * b))) (.slice At nt ct)))
    go_wp2
    exact post_ws Tryd.results45 rfl rfl PRt.c0 PRt.c1 ⟨At, nt, ct, rfl, hLt.setP PRt _ _, below_set2 HBt.out (by omega) _ _⟩
  · go_enter Tryd.func45, Tryd.ntmps45
    go_wp2_with fail
    refine (rboth_any _ _ _ _ _ _ _ _ _ _ _ (((HA.out.box _).box _).box _) (((HB.out.box _).box _).box _) 0 HV.out).mono ?_
    rintro e w1 ⟨rfl, hb1⟩
    have ⟨PA0, PB0, PR0⟩ := boxes3 w 24 24 24 (.bool true) (.slice A n ca) (.bool true) (.slice B m cb) (.bool false) (.slice none 0 0)
    have PA := PA0.via hb1
    have PB := PB0.via hb1
    have PR := PR0.via hb1
    have LA := Lib.hid ((((HA.out.box _).box _).box _).via hb1)
    have LB := Lib.hid ((((HB.out.box _).box _).box _).via hb1)
    have HB0 := Lib.hid (bbox (bbox (bbox hb1)))
    clear PA0 PB0 PR0 hb1
    have ⟨a0, a1, _, _, _⟩ := PA
    have ⟨b0, b1, _, _, _⟩ := PB
    have ⟨r0, r1, rf0, rf1, rl⟩ := PR
    go_wp2_with fail
    go_region_held3 (fun w' => (w'.cell? ⟨w.heap.size, 0, none⟩ = some (.bool true) ∧ w'.cell? ⟨w.heap.size, 1, none⟩ = some (.slice A n ca)) ∧ (w'.cell? ⟨w.heap.size + 1, 0, none⟩ = some (.bool true) ∧ w'.cell? ⟨w.heap.size + 1, 1, none⟩ = some (.slice B m cb)))
      (first | exact ⟨⟨a0, a1⟩, ⟨b0, b1⟩⟩ | exact ⟨⟨PAs.c0, PAs.c1⟩, ⟨PBs.c0, PBs.c1⟩⟩ | exact ⟨⟨PAt.c0, PAt.c1⟩, ⟨PBt.c0, PBt.c1⟩⟩ | exact ⟨⟨PAu.c0, PAu.c1⟩, ⟨PBu.c0, PBu.c1⟩⟩ | go_keep)
      (first
       | (go_at_call 72; refine (rtimes_any _ _ _ _ _ _ _ (digs a) (digs b) (a * b) LA.out.drew LB.out.drew (by omega) (by omega) HP.out).mono ?_; rintro e ws ⟨As, cs, ts, rfl, hLs, hvs, hbs⟩; have HVS := Lib.hid hvs; clear hvs; have Bs := (Below.refl w1.heap.size w1).drew.trans hbs; have PAs := PA.via Bs; have PBs := PB.via Bs; have PRs := PR.via Bs)
       | (go_at_call 35; refine (rmade_any _ _ _ _ _ ts (a * b) hLs HVS.out (by omega)).mono ?_; rintro e wt ⟨At, nt, ct, rfl, hLt, hbt⟩; have PAt := PAs.via hbt; have PBt := PBs.via hbt; have PRt := PRs.via hbt; have HBt : Hid (Below w.heap.size w wt) := HB0.out.trans ((Bs.trans (hbt.mono Bs.size)).mono HB0.out.size); have ⟨r0t, r1t, rf0t, rf1t, rlt⟩ := PRt; have PAu := PAt.far (h := w.heap.size + 1 + 1) (by omega) (.bool (mkN false (a * b))) (.slice At nt ct); have PBu := PBt.far (h := w.heap.size + 1 + 1) (by omega) (.bool (mkN false (a * b))) (.slice At nt ct)))
    go_wp2
    exact post_ws Tryd.results45 rfl rfl PRt.c0 PRt.c1 ⟨At, nt, ct, rfl, hLt.setP PRt _ _, below_set2 HBt.out (by omega) _ _⟩
end Go.Proofs.YtkajmglpmdhmnaaDoor

/- The reference's left and short. -/
namespace Go.Proofs.YtkajmglpmdhmnaaDoor
open Go.RowKit

/-- .. in a block of its own. -/
def RLo (w : World) (N v : Nat) (e : Ending) (w' : World) : Prop := ∃ A c ts, e = .returned (.slice A N c) ∧ Ow w' w.heap.size (.slice A N c) ts ∧ Good ts ∧ ts.length = N ∧ val ts = v ∧ Below w.heap.size w w'

set_option maxRecDepth 100000 in
set_option maxHeartbeats 1000000 in
theorem rleft_own (w : World) (A : Option Addr) (n c s : Nat) (xs : List Nat) (v : Nat) (hA : Lm w w.heap.size A n c xs) (hn : n ≤ 100000000) (hs32 : s < 32) (hv : val xs * 2 ^ s = v) :
    Calls Tryd.prog 40 #[.slice A n c, .int .u64 (s : Int)] w (RLo w (n + 1) v) := by
  have h1 := hA.cap
  have h2 := hA.max
  have HA := Lib.hid hA
  have HV := Lib.hid hv
  clear hA hv
  go_enter Tryd.func40, Tryd.ntmps40
  go_wp2
  go_loopw [5, 6, 7] (fun u cy i wr => ∃ k : Nat, k ≤ n ∧ i = .int .i64 k ∧ cy = .int .u64 ((mulK [] xs (2 ^ s) k).2 : Nat) ∧ Ow wr w.heap.size u (mulK [] xs (2 ^ s) k).1 ∧ Below w.heap.size w wr) (fun _ _ i _ => n - (intOf i).toNat)
  case atStart => exact ⟨0, Nat.zero_le _, rfl, rfl, Ow.nil _ _, Below.refl _ _⟩
  case round =>
    obtain ⟨k, hk, rfl, rfl, hO, hb⟩ := hrel
    have HO := Lib.hid hO
    have HBl := Lib.hid hb
    clear hO hb
    have hp31 : 2 ^ s ≤ 2147483648 := Nat.pow_le_pow_right (by omega) (show s ≤ 31 by omega)
    have hcy := shl_carry HA.out.good hp31 k
    have HLn := Lib.hid (mulK_len [] xs (2 ^ s) k)
    have hc32 : (mulK [] xs (2 ^ s) k).2 < 4294967296 := by omega
    clear hcy
    by_cases hlt : k < n
    · obtain ⟨b, bo, rfl, hbb, hcx⟩ := (HA.out.below HBl.out).cell hlt
      have hxg := HA.out.good.get k
      have hmx : xs[k]?.getD 0 * 2 ^ s ≤ 4294967295 * 2147483648 := Nat.mul_le_mul (by omega) hp31
      obtain ⟨S, hS⟩ : ∃ S : Nat, S = (mulK [] xs (2 ^ s) k).2 + (xs[k]?.getD 0 * 2 ^ s + 0) := ⟨_, rfl⟩
      have HX : Hid (IntKind.u64.wrap ((((mulK [] xs (2 ^ s) k).2 : Nat) : Int) + IntKind.u64.wrap (((xs[k]?.getD 0 : Nat) : Int) * 2 ^ s)) = (S : Int)) := by
        show _ = _
        rw [cast_shl, Nat.mul_comm, wrap_nat, Nat.mod_eq_of_lt (by omega), IntKind.wrap_u64]
        omega
      have HS : Hid (mulK [] xs (2 ^ s) (k + 1) = ((mulK [] xs (2 ^ s) k).1 ++ [S % 4294967296], S / 4294967296)) := by show _ = _; rw [hS]; rfl
      clear hS
      have hSb : S < 18446744073709551616 := by have := HX.out; rw [IntKind.wrap_u64] at this; omega
      go_wp2_with (at_builtin; refine wpList_append_u32 _ rfl _ _ rfl w.heap.size _ _ rfl HO.out _ (S % 4294967296) 1 (by rw [HX.out]; omega) (by have := HLn.out; omega) HBl.out.size rfl ?_; intro u' w1 hO1 hg1)
      go_roundw
      case rel =>
        refine ⟨k + 1, by omega, by go_num, ?_, hO1.eq ?_, HO.out.below HBl.out HBl.out.size hg1⟩
        · rw [HX.out, HS.out]
          exact congrArg (Value.int IntKind.u64) (Int.natCast_ediv _ _).symm
        · rw [HS.out]
      case measure => simp [intOf]; omega
    · obtain rfl : k = n := by omega
      have hgd : Hid (Good ((mulK [] xs (2 ^ s) k).1 ++ [(mulK [] xs (2 ^ s) k).2])) := (mulK_good _ _ _ _).append (Good.nil.cons hc32)
      have hlen : Hid (((mulK [] xs (2 ^ s) k).1 ++ [(mulK [] xs (2 ^ s) k).2]).length = k + 1) := by show _ = _; rw [List.length_append, HLn.out]; rfl
      have hvs : Hid (val ((mulK [] xs (2 ^ s) k).1 ++ [(mulK [] xs (2 ^ s) k).2]) = v) := by
        show _ = _
        have e := mulK_val [] xs (2 ^ s) k
        rw [val_snoc, mulK_len, e, List.take_of_length_le (by rw [HA.out.len]; exact Nat.le_refl _), ← HV.out]
        simp only [List.take_nil, val_nil, Nat.add_zero]
      go_wp2_with (at_builtin; refine wpList_append_u32 _ rfl _ _ rfl w.heap.size _ _ rfl HO.out _ ((mulK [] xs (2 ^ s) k).2) 1 (by omega) (by have := HLn.out; omega) HBl.out.size rfl ?_; intro u1 w1 hO1 hg1)
      go_ret
      obtain ⟨A1, c1, rfl, hL1⟩ := hO1.lm hgd.out
      rw [hlen.out] at hL1 hO1 ⊢
      exact ⟨A1, c1, _, rfl, hO1, hgd.out, hlen.out, hvs.out, HO.out.below HBl.out HBl.out.size hg1⟩

set_option maxRecDepth 100000 in
set_option maxHeartbeats 1000000 in
theorem rshort_any (w : World) (A : Option Addr) (n c d : Nat) (xs : List Nat) (v : Nat) (hA : Lm w w.heap.size A n c xs) (hn : n ≤ 100000000) (hd : 0 < d) (hd9 : d < 4294967296) (hv : val xs = v) :
    Calls Tryd.prog 65 #[.slice A n c, .int .u32 (d : Int)] w (RD w (v / d) (v % d)) := by
  have h1 := hA.cap
  have h2 := hA.max
  have hG := hA.good
  have hn' := hA.len
  have HA := Lib.hid hA
  have HV := Lib.hid hv
  have hd0 : ¬ ((d : Int) = 0) := by omega
  clear hA hv
  have hmk := fun w => run_make_u32 (n : Int) (n : Int) n rfl rfl (by omega) w
  go_enter Tryd.func65, Tryd.ntmps65
  go_wp2
  clear hmk
  go_loopw [7, 8] (fun r i wr => ∃ k : Nat, k ≤ n ∧ i = .int .i64 ((k : Int) - 1) ∧ r = .int .u64 ((dvL d (xs.drop k)).2 : Nat) ∧ Ld wr w.heap.size (zer k ++ (dvL d (xs.drop k)).1) ∧ Below w.heap.size w wr) (fun _ i _ => (intOf i + 1).toNat)
  case atStart => exact ⟨n, Nat.le_refl _, rfl, by rw [List.drop_of_length_le (by omega)]; rfl, by rw [List.drop_of_length_le (by omega)]; show Ld _ _ (zer n ++ []); rw [List.append_nil]; exact Ld.new _ _, (Below.refl _ _).alloc (Nat.le_refl _) _⟩
  case round =>
    obtain ⟨k, hk, rfl, rfl, hO, hb⟩ := hrel
    have HO := Lib.hid hO
    have HBl := Lib.hid hb
    have hgs := hO.lt
    clear hO hb
    have hlen : (zer k ++ (dvL d (xs.drop k)).1).length = n := by rw [List.length_append, dvL_len, zer_len, List.length_drop]; omega
    have HLen := Lib.hid hlen
    have hr := dvL_lt hd (xs.drop k)
    rcases k with _ | k
    · have HQ := Lib.hid (dvL_quot hd xs)
      have HGq := Lib.hid (dvL_good hd hG)
      have HL : Hid (Lm wr wr.heap.size (some ⟨w.heap.size, 0, none⟩) n n (dvL d xs).1) := by
        have e := HO.out.lm (by rw [List.drop_zero]; exact (zer_good 0).append HGq.out) (off := 0) (n := n) (c := n) (by omega) (Nat.le_refl _) (by omega)
        rw [List.drop_zero, List.take_of_length_le (by omega)] at e
        exact e
      have HVq : Hid (val (dvL d xs).1 = v / d) := by show _ = _; rw [HQ.out.1, HV.out]
      have HVr : Hid (val [(dvL d xs).2] = v % d) := by show _ = _; rw [val_one, HQ.out.2, HV.out]
      rw [List.drop_zero] at hr ⊢
      clear hlen hn'
      go_wp2_with fail
      refine (rtrim_any _ _ _ _ _ (v / d) HL.out HVq.out (by omega)).mono ?_
      rintro e w1 ⟨A1, c1, rfl, hL1, hb1⟩
      have HL1 := Lib.hid hL1
      have HB1 := Lib.hid (HBl.out.trans (hb1.mono HBl.out.size))
      clear hL1 hb1
      go_wp2_with fail
      refine (rtrim_any _ _ _ _ _ (v % d) (Lm.one w1 (dvL d xs).2 _ (by omega) (by omega)) HVr.out (by omega)).mono ?_
      rintro e w2 ⟨A2, c2, rfl, hL2, hb2⟩
      go_wp2
      go_ret2
      exact ⟨A1, c1, A2, c2, rfl, HL1.out.via (bbox hb2), hL2, HB1.out.trans ((bbox hb2).mono HB1.out.size)⟩
    · have hct := HO.out.cell (i := k) (by omega)
      have hfr := HO.out.frozen k
      obtain ⟨b, bo, rfl, hbb, hcx⟩ := (HA.out.below HBl.out).cell (k := k) (by omega)
      have hxg := hG.get k
      have HStep : Hid (dvL d (xs.drop k) = (((dvL d (xs.drop (k + 1))).2 * 4294967296 + xs[k]?.getD 0) / d :: (dvL d (xs.drop (k + 1))).1, ((dvL d (xs.drop (k + 1))).2 * 4294967296 + xs[k]?.getD 0) % d)) := by
        show _ = _
        rw [drop_cons_ xs k (by omega)]; rfl
      have hq : ((dvL d (xs.drop (k + 1))).2 * 4294967296 + xs[k]?.getD 0) / d < 4294967296 := by
        rw [Nat.div_lt_iff_lt_mul hd]
        have : ((dvL d (xs.drop (k + 1))).2 + 1) * 4294967296 ≤ d * 4294967296 := Nat.mul_le_mul_right _ hr
        omega
      obtain ⟨T, hT⟩ : ∃ T : Nat, T = (dvL d (xs.drop (k + 1))).2 * 4294967296 + xs[k]?.getD 0 := ⟨_, rfl⟩
      have hTi : (((dvL d (xs.drop (k + 1))).2 : Nat) : Int) * 4294967296 + ((xs[k]?.getD 0 : Nat) : Int) = (T : Int) := by rw [hT]; omega
      rw [← hT] at hq HStep
      have hT9 : T < 18446744073709551616 := by omega
      clear hT hlen hn'
      have HQ : Hid (IntKind.u64.wrap ((T : Int) / (d : Int)) % 4294967296 = ((T / d : Nat) : Int)) := by
        show _ = _
        rw [← Int.natCast_ediv, wrap_nat]
        generalize T / d = q at hq ⊢
        omega
      have HR : Hid ((T : Int) % (d : Int) = ((T % d : Nat) : Int)) := by
        show _ = _
        rw [← Int.natCast_emod]
      go_wp2
      go_roundw
      case rel =>
        refine ⟨k, by omega, by go_num, ?_, ?_, HBl.out.setCell (p := ⟨w.heap.size, k, none⟩) (Nat.le_refl _) _⟩
        · rw [HStep.out]
          exact congrArg (Value.int IntKind.u64) HR.out
        · rw [HQ.out, HStep.out]
          have e := HO.out.set_ k (T / d)
          have e2 : (zer (k + 1) ++ (dvL d (xs.drop (k + 1))).1).set k (T / d) = zer k ++ (T / d :: (dvL d (xs.drop (k + 1))).1) := by
            have e3 := set_mid (zer k) [] ([0] ++ (dvL d (xs.drop (k + 1))).1) (T / d) (by simp)
            rw [zer_len] at e3
            have e4 : zer (k + 1) = zer k ++ [0] := by unfold zer; exact List.replicate_succ'
            rw [e4, List.append_assoc]
            exact e3
          rw [e2] at e
          exact e
      case measure => simp [intOf]
end Go.Proofs.YtkajmglpmdhmnaaDoor

/- The reference's long division, in numbers. -/
namespace Go.Proofs.YtkajmglpmdhmnaaDoor
open Go.RowKit

/-- The reference's two carries together are the code's one. -/
theorem dg_step {S c b m p : Nat} (hS : c + b = S) (hb : b ≤ 1) (hp : p < 4294967296) :
    (p + 8589934592 - (c + m) % 4294967296 - b) % 4294967296 = (p + 4294967296 - (S + m) % 4294967296) % 4294967296 ∧
    (c + m) / 4294967296 + (if p < (c + m) % 4294967296 + b then 1 else 0) = (S + m) / 4294967296 + (if p < (S + m) % 4294967296 then 1 else 0) := by
  subst hS
  constructor
  · omega
  · split <;> split <;> omega

/-- What is left once nothing is to be borrowed. -/
theorem dg_done {X V T q : Nat} (hV : 0 < V) (h : T + V * q = X) (hq : X / V ≤ q) : X / V = q ∧ T = X % V := by
  have h1 : q ≤ X / V := by
    rw [Nat.le_div_iff_mul_le hV, Nat.mul_comm]
    omega
  have h2 : X / V = q := by omega
  refine ⟨h2, ?_⟩
  have h3 := Nat.div_add_mod X V
  rw [h2] at h3
  omega
/-- As long as something is to be borrowed, the digit is too great. -/
theorem dg_more {X V T q P : Nat} (_ : 0 < V) (h : T + V * q = X + P) (hT : T < P) : 1 ≤ q ∧ X / V ≤ q - 1 := by
  have h1 : X < V * q := by omega
  have h2 : X / V < q := Nat.div_lt_of_lt_mul h1
  generalize X / V = z at *
  exact ⟨by omega, by omega⟩
/-- Adding the divisor back: the carry is 0 or 1. -/
theorem dg_back {X V T T' q P cy : Nat} (hq : 1 ≤ q) (h : T + V * q = X + P) (hb : T' + P * cy = T + V) (hc : cy ≤ 1) : T' + V * (q - 1) = X + P * (1 - cy) := by
  have e : V * q = V * (q - 1) + V := by
    obtain ⟨r, rfl⟩ : ∃ r, q = r + 1 := ⟨q - 1, by omega⟩
    rw [Nat.add_sub_cancel, Nat.mul_add, Nat.mul_one]
  rcases Nat.eq_zero_or_pos cy with h0 | h0
  · subst h0; simp at hb ⊢; omega
  · obtain rfl : cy = 1 := by omega
    simp at hb ⊢; omega

/-! ### The rest moved back to the right -/
def shrL (s : Nat) (rs : List Nat) : Nat → List Nat
  | 0 => []
  | k + 1 => shrL s rs k ++ [(rs[k]?.getD 0 + 4294967296 * rs[k + 1]?.getD 0) / 2 ^ s % 4294967296]
theorem shrL_len (s : Nat) (rs : List Nat) (k : Nat) : (shrL s rs k).length = k := by
  induction k with
  | zero => rfl
  | succ k ih => unfold shrL; rw [List.length_append, ih]; rfl
theorem limb_at {rs : List Nat} (g : Good rs) (k : Nat) : val rs / 4294967296 ^ k = rs[k]?.getD 0 + 4294967296 * val (rs.drop (k + 1)) := by
  rw [← val_drop rs g k, val_step]
theorem pow_split (s : Nat) (hs : s < 32) : (4294967296 : Nat) = 2 ^ s * 2 ^ (32 - s) := by
  rw [← Nat.pow_add, show s + (32 - s) = 32 by omega]
theorem shr_limb {rs : List Nat} (g : Good rs) (s : Nat) (hs : s < 32) (k : Nat) : val rs / 2 ^ s / 4294967296 ^ k % 4294967296 = (rs[k]?.getD 0 + 4294967296 * rs[k + 1]?.getD 0) / 2 ^ s % 4294967296 := by
  rw [Nat.div_div_eq_div_mul, Nat.mul_comm, ← Nat.div_div_eq_div_mul, limb_at g k, val_step]
  generalize rs[k]?.getD 0 = x
  generalize rs[k + 1]?.getD 0 = y
  generalize val (rs.drop (k + 1 + 1)) = z
  have e : x + 4294967296 * (y + 4294967296 * z) = (x + 4294967296 * y) + 2 ^ s * (4294967296 * (2 ^ (32 - s) * z)) := by
    have e1 : 2 ^ s * (4294967296 * (2 ^ (32 - s) * z)) = 4294967296 * (4294967296 * z) := by
      rw [Nat.mul_left_comm, ← Nat.mul_assoc (2 ^ s), ← pow_split s hs]
    rw [e1]; omega
  rw [e, Nat.add_mul_div_left _ _ (Nat.pow_pos (by omega)), Nat.add_mul_mod_self_left]
theorem shrL_lims {rs : List Nat} (g : Good rs) (s : Nat) (hs : s < 32) (k : Nat) : shrL s rs k = lims (val rs / 2 ^ s) k := by
  induction k with
  | zero => rfl
  | succ k ih => unfold shrL lims; rw [ih, shr_limb g s hs k]
theorem shrL_val {rs : List Nat} (g : Good rs) (s : Nat) (hs : s < 32) {n : Nat} (hn : rs.length = n) : val (shrL s rs n) = val rs / 2 ^ s := by
  rw [shrL_lims g s hs, lims_val]
  have h := val_lt g
  rw [hn] at h
  exact Nat.mod_eq_of_lt (Nat.lt_of_le_of_lt (Nat.div_le_self _ _) h)
end Go.Proofs.YtkajmglpmdhmnaaDoor

/- The reference's digit. -/
namespace Go.Proofs.YtkajmglpmdhmnaaDoor
open Go.RowKit

theorem spl_get {cs M : List Nat} {off k : Nat} (h : off + M.length ≤ cs.length) (hk : k < M.length) : (spl cs off M)[off + k]?.getD 0 = M[k]?.getD 0 := by
  have hl : (cs.take off).length = off := by rw [List.length_take]; omega
  unfold spl
  rw [List.getElem?_append_right (by omega), hl, Nat.add_sub_cancel_left, List.getElem?_append_left hk]
theorem spl_seti {cs M : List Nat} {off k : Nat} (t : Nat) (h : off + M.length ≤ cs.length) (hk : k < M.length) : (spl cs off M).set (off + k) t = spl cs off (M.set k t) := by
  have hl : (cs.take off).length = off := by rw [List.length_take]; omega
  unfold spl
  rw [List.set_append_right _ _ (by omega), hl, Nat.add_sub_cancel_left, List.set_append_left _ _ hk, List.length_set]

set_option maxRecDepth 100000 in
set_option maxHeartbeats 4000000 in
theorem rdigit_any (w : World) (g off c n cb : Nat) (B : Option Addr) (cs ys : List Nat) (V : Nat) (hO : Ob w g cs) (hG : Good cs) (hB : Lm w g B n cb ys) (hn2 : 2 ≤ n) (hn9 : n ≤ 1000000000) (hc : n + 1 ≤ c) (hc9 : c ≤ 9223372036854775807)
    (hoff : off + n < cs.length) (hV : val ys = V) (hV0 : 0 < V) (h1 : 1 ≤ ys[n - 1]?.getD 0) (hle : cs[off + n]?.getD 0 ≤ ys[n - 1]?.getD 0)
    (hX : val ((cs.drop off).take (n + 1)) / V ≤ gs (ys[n - 1]?.getD 0) (ys[n - 2]?.getD 0) (cs[off + n]?.getD 0) (cs[off + (n - 1)]?.getD 0) (cs[off + (n - 2)]?.getD 0)) :
    Calls Tryd.prog 66 #[.slice (some ⟨g, off, none⟩) (n + 1) c, .slice B n cb] w fun e w' => e = .returned (.int .u32 ((val ((cs.drop off).take (n + 1)) / V : Nat) : Int)) ∧
      (∃ P, P.length = n + 1 ∧ Good P ∧ val P = val ((cs.drop off).take (n + 1)) % V ∧ Ob w' g (spl cs off P)) ∧ w.grownBy w' (some g) := by
  have hcap := hB.cap
  have hmax := hB.max
  have g1 := hB.good.get (n - 1)
  have g2 := hB.good.get (n - 2)
  have gh := hG.get (off + n)
  have gu1 := hG.get (off + (n - 1))
  have gu2 := hG.get (off + (n - 2))
  have ch := hO.cell (i := off + n) (by omega)
  have cu1 := hO.cell (i := off + (n - 1)) (by omega)
  have cu2 := hO.cell (i := off + (n - 2)) (by omega)
  have hgs := hO.lt
  have HO := Lib.hid hO
  have HG := Lib.hid hG
  have HB := Lib.hid hB
  have HV := Lib.hid hV
  have HOff := Lib.hid hoff
  obtain ⟨X, HXd⟩ : ∃ X, Hid (X = val ((cs.drop off).take (n + 1))) := ⟨_, rfl⟩
  rw [← HXd.out] at hX ⊢
  obtain ⟨bb, bo, rfl, hbb, cb1⟩ := hB.cell (k := n - 1) (by omega)
  obtain ⟨bb', bo', e, _, cb2⟩ := hB.cell (k := n - 2) (by omega)
  cases e
  clear hO hB hG hV
  generalize ys[n - 1]?.getD 0 = b1 at *
  generalize ys[n - 2]?.getD 0 = b2 at *
  generalize cs[off + n]?.getD 0 = h at *
  generalize cs[off + (n - 1)]?.getD 0 = u1 at *
  generalize cs[off + (n - 2)]?.getD 0 = u2 at *
  have i1 : ((n : Int) - 1).toNat = n - 1 := by omega
  have i2 : ((n : Int) - 2).toNat = n - 2 := by omega
  obtain ⟨hi, hhi⟩ : ∃ hi : Nat, hi = h * 4294967296 + u1 := ⟨_, rfl⟩
  have hq0' : (hi : Int) / (b1 : Int) = ((hi / b1 : Nat) : Int) := by rw [← Int.natCast_ediv]
  have hr0' : (hi : Int) % (b1 : Int) = ((hi % b1 : Nat) : Int) := by rw [← Int.natCast_emod]
  have hq0 : (hi : Int).tdiv (b1 : Int) = ((hi / b1 : Nat) : Int) := by rw [Int.tdiv_eq_ediv_of_nonneg (by omega), ← Int.natCast_ediv]
  have hr0 : (hi : Int).tmod (b1 : Int) = ((hi % b1 : Nat) : Int) := by rw [Int.tmod_eq_emod_of_nonneg (by omega), ← Int.natCast_emod]
  have hb0 : ¬ ((b1 : Int) = 0) := by omega
  have hdm := Nat.div_add_mod hi b1
  have hrl := Nat.mod_lt hi (show 0 < b1 by omega)
  have hD9 := Nat.div_le_self hi b1
  generalize hi / b1 = D0 at *
  generalize hi % b1 = R0 at *
  have hi9 : hi < 18446744073709551616 := by omega
  have hbit : IntKind.u64.wrap ((h : Int) * 4294967296 + (u1 : Int)) = (hi : Int) := by rw [IntKind.wrap_u64]; omega
  obtain ⟨Q, hQ⟩ : ∃ Q, Q = gs b1 b2 h u1 u2 := ⟨_, rfl⟩
  have hQ0 : Q ≤ D0 := by rw [hQ]; exact gs_start gu2 (by rw [← hhi]; exact hdm) hrl
  rw [← hQ] at hX
  have HI := Lib.hid hhi
  have HQ := Lib.hid hQ
  have HXq := Lib.hid hX
  clear hhi hQ hX
  go_enter Tryd.func66, Tryd.ntmps66
  go_wp2
  go_quiet (fail)
  go_wp2
  go_quiet (fail)
  go_upto_block 0 with (fail)
  go_cut [7] (fun s7 wx => ∃ D d : Nat, s7 = .int .u64 (D : Int) ∧ Q ≤ D ∧ D ≤ 4294967295 ∧ wx = w.drewN d)
  case first =>
    go_wp2
    go_loopw [7, 8] (fun x r wr => ∃ D R d : Nat, x = .int .u64 (D : Int) ∧ r = .int .u64 (R : Int) ∧ D * b1 + R = hi ∧ Q ≤ D ∧ wr = w.drewN d) (fun x _ _ => (intOf x).toNat)
    case atStart => exact ⟨D0, R0, _, rfl, rfl, by rw [Nat.mul_comm]; exact hdm, hQ0, drewN_add w _ _⟩
    case round =>
      obtain ⟨D, R, d, rfl, rfl, hDR, hQD, rfl⟩ := hrel
      have hDle : D ≤ hi := by
        have := Nat.le_mul_of_pos_right D (show 0 < b1 by omega)
        omega
      have hRle : R ≤ hi := by omega
      have HDR := Lib.hid hDR
      clear hDR
      by_cases hd : 4294967296 ≤ D
      · have hlt : Q < D := by rw [HQ.out]; exact gs_lt (by omega) (by rw [← HI.out]; exact HDR.out) (.inl (by omega))
        have HDM : Hid ((D - 1) * b1 + (R + b1) = D * b1 + R) := by show _ = _; rw [Nat.sub_mul, Nat.one_mul]; have := Nat.le_mul_of_pos_left b1 (show 0 < D by omega); omega
        have hRb : R + b1 ≤ hi := by have := HDM.out; have := HDR.out; omega
        have hdi : (4294967296 : Int) ≤ (D : Int) := by omega
        go_wp2_with fail
        go_quiet (fail)
        go_wp2
        all_goals
          first
          | (go_meet; exact ⟨D - 1, _, by go_num, by omega, by omega, by first | exact drewN_add w _ _ | rfl⟩)
          | (go_roundw
             case rel => exact ⟨D - 1, R + b1, _, by go_num, by go_num, by rw [← HDR.out]; exact HDM.out, by omega, rfl⟩
             case measure => simp [intOf]; omega)
      · have hdd : decide ((4294967296 : Int) ≤ (D : Int)) = false := by simp; omega
        by_cases hR : R < 4294967296
        · have hRi : (R : Int) < 4294967296 := by omega
          have hmul := mul_bd (show D < 4294967296 by omega) g2
          obtain ⟨T, hT⟩ : ∃ T : Nat, T = R * 4294967296 + u2 := ⟨_, rfl⟩
          have hbit2 : IntKind.u64.wrap ((R : Int) * 4294967296 + (u2 : Int)) = (T : Int) := by rw [IntKind.wrap_u64]; omega
          have HT := Lib.hid hT
          clear hT
          by_cases hp : T < D * b2
          · have hlt : Q < D := by rw [HQ.out]; exact gs_lt (by omega) (by rw [← HI.out]; exact HDR.out) (.inr (by rw [← HT.out]; exact hp))
            have HDM : Hid ((D - 1) * b1 + (R + b1) = D * b1 + R) := by show _ = _; rw [Nat.sub_mul, Nat.one_mul]; have := Nat.le_mul_of_pos_left b1 (show 0 < D by omega); omega
            have hRb : R + b1 ≤ hi := by have := HDM.out; have := HDR.out; omega
            have hpi : (T : Int) < (D : Int) * (b2 : Int) := by rw [← Int.natCast_mul]; omega
            clear hp
            by_cases hR2 : R + b1 < 4294967296
            case' pos => have hR2i : (R : Int) + (b1 : Int) < 4294967296 := by omega
            case' pos => have hR2d : decide ((4294967296 : Int) ≤ (R : Int) + (b1 : Int)) = false := by simp; omega
            case' neg => have hR2i : (4294967296 : Int) ≤ (R : Int) + (b1 : Int) := by omega
            all_goals have hD1i : (D : Int) - 1 < 4294967296 := by omega
            all_goals clear hR2
            all_goals
              go_wp2_with fail
              go_quiet (fail)
              go_wp2
            · go_meet
              exact ⟨D - 1, _, by go_num, by omega, by omega, by first | exact drewN_add w _ _ | rfl⟩
            · go_roundw
              case rel => exact ⟨D - 1, R + b1, _, by go_num, by go_num, by rw [← HDR.out]; exact HDM.out, by omega, rfl⟩
              case measure => simp [intOf]; omega
          · have hpd : decide ((T : Int) < (D : Int) * (b2 : Int)) = false := by rw [← Int.natCast_mul]; simp; omega
            go_wp2_with fail
            go_quiet (fail)
            go_wp2
            go_meet
            exact ⟨D, _, rfl, hQD, by omega, drewN_add w _ _⟩
        · have hRd : decide ((R : Int) < 4294967296) = false := by simp; omega
          go_wp2_with fail
          go_quiet (fail)
          go_wp2
          go_meet
          exact ⟨D, _, rfl, hQD, by omega, drewN_add w _ _⟩
  case rest =>
    obtain ⟨D, d, rfl, hQD, hDq, rfl⟩ := hcut
    clear hq0' hr0' hq0 hr0 hb0 hdm hrl hD9 hbit hQ0 hle i1 i2 ch cu1 cu2 cb1 cb2 gh gu1 gu2 g2 hi9 HI hoff
    have HXD : Hid (X / V ≤ D) := Nat.le_trans HXq.out hQD
    clear HXq hQD HQ
    have HCar := Lib.hid (fun k => sbK_carry (HG.out.drop off) HB.out.good (show D < 4294967296 by omega) k)
    go_wp2
    go_loopw [9, 10, 11] (fun bw cy i wr => ∃ k cc bw' : Nat, k ≤ n + 1 ∧ i = .int .i64 k ∧ cy = .int .u64 (cc : Int) ∧ bw = .int .i64 (bw' : Int) ∧ bw' ≤ 1 ∧ cc + bw' = (sbK (cs.drop off) ys D k).2 ∧ (n < k → cc = 0) ∧ Ob wr g (spl cs off (sbK (cs.drop off) ys D k).1) ∧ w.grownBy wr (some g)) (fun _ _ i _ => n + 1 - (intOf i).toNat)
    case atStart => exact ⟨0, 0, 0, Nat.zero_le _, rfl, rfl, rfl, Nat.zero_le _, rfl, fun _ => rfl, by show Ob _ g (spl cs off []); rw [spl_nil]; exact HO.out, grownBy_drewN (World.grownBy.refl w _) d⟩
    case round =>
      obtain ⟨k, cc, bw, hk, rfl, rfl, rfl, hbw, hcb, hcz, hOk, hgk⟩ := hrel
      by_cases hkn : k ≤ n
      · have hoff := HOff.out
        have hln := sbK_len (cs.drop off) ys D k
        have hct := hOk.cell (i := off + k) (by rw [spl_len (by omega)]; omega)
        have hat := spl_at (cs := cs) (off := off) (ts := (sbK (cs.drop off) ys D k).1) (by omega)
        rw [hln] at hat
        rw [hat] at hct
        have hfr := hOk.frozen (off + k)
        have hpg := HG.out.get (off + k)
        have hcl := HCar.out k
        have hyg := HB.out.good.get k
        have hmul := mul_bd (show D < 4294967296 by omega) hyg
        have HCb := Lib.hid hcb
        have HOk := Lib.hid hOk
        have HGk := Lib.hid hgk
        have HLn := Lib.hid hln
        have hcl2 : cc < 4294967296 := by omega
        clear hcb hOk hgk hln hat hcl hcz hoff
        have HFin : Hid (∀ (wz : World) (E bw2 : Nat), E = cc + ys[k]?.getD 0 * D → bw2 = (if cs[off + k]?.getD 0 < E % 4294967296 + bw then 1 else 0) → Ob wz g ((spl cs off (sbK (cs.drop off) ys D k).1).set (off + k) ((cs[off + k]?.getD 0 + 8589934592 - E % 4294967296 - bw) % 4294967296)) → w.grownBy wz (some g) →
            ∃ k' cc' bw' : Nat, k' ≤ n + 1 ∧ Value.int .i64 ((k : Int) + 1) = .int .i64 k' ∧ Value.int .u64 ((E : Int) / 4294967296) = .int .u64 (cc' : Int) ∧ Value.int .i64 (bw2 : Int) = .int .i64 (bw' : Int) ∧ bw' ≤ 1 ∧ cc' + bw' = (sbK (cs.drop off) ys D k').2 ∧ (n < k' → cc' = 0) ∧ Ob wz g (spl cs off (sbK (cs.drop off) ys D k').1) ∧ w.grownBy wz (some g)) := by
          intro wz E bw2 h1 h2 h3 h4
          have hst := dg_step (m := ys[k]?.getD 0 * D) HCb.out hbw hpg
          rw [← h1, ← h2] at hst
          have hdr : (cs.drop off)[k]?.getD 0 = cs[off + k]?.getD 0 := by rw [List.getElem?_drop]
          have e2 : (sbK (cs.drop off) ys D (k + 1)).2 = ((sbK (cs.drop off) ys D k).2 + ys[k]?.getD 0 * D) / 4294967296 + (if (cs.drop off)[k]?.getD 0 < ((sbK (cs.drop off) ys D k).2 + ys[k]?.getD 0 * D) % 4294967296 then 1 else 0) := rfl
          have e1 : (sbK (cs.drop off) ys D (k + 1)).1 = (sbK (cs.drop off) ys D k).1 ++ [((cs.drop off)[k]?.getD 0 + 4294967296 - ((sbK (cs.drop off) ys D k).2 + ys[k]?.getD 0 * D) % 4294967296) % 4294967296] := rfl
          rw [hdr] at e1 e2
          refine ⟨k + 1, E / 4294967296, bw2, by omega, by go_num, congrArg (Value.int IntKind.u64) (Int.natCast_ediv _ _).symm, rfl, by rw [h2]; split <;> omega, by rw [e2, hst.2], ?_, ?_, h4⟩
          · intro hlt
            have hz := getD_over (xs := ys) (k := k) (by rw [HB.out.len]; omega)
            rw [hz, Nat.zero_mul, Nat.add_zero] at h1
            rw [h1]
            exact Nat.div_eq_of_lt hcl2
          · have hs := spl_set (cs := cs) (off := off) (ts := (sbK (cs.drop off) ys D k).1) ((cs[off + k]?.getD 0 + 8589934592 - E % 4294967296 - bw) % 4294967296) (by have := HOff.out; rw [HLn.out]; omega)
            rw [HLn.out] at hs
            rw [e1, ← hst.1, ← hs]
            exact h3
        by_cases hkl : k < n
        · obtain ⟨b1', bo1', e1, _, hcy⟩ := (HB.out.grownLt HGk.out (Nat.le_of_lt hgs)).cell hkl
          cases e1
          obtain ⟨E, hE⟩ : ∃ E : Nat, E = cc + ys[k]?.getD 0 * D := ⟨_, rfl⟩
          rw [Nat.mul_comm] at hmul
          have hE9 : E < 18446744073709551616 := by omega
          have hEw : IntKind.u64.wrap ((cc : Int) + IntKind.u64.wrap ((D : Int) * ((ys[k]?.getD 0 : Nat) : Int))) = (E : Int) := by
            rw [← Int.natCast_mul, Nat.mul_comm, IntKind.wrap_u64, IntKind.wrap_u64]
            omega
          obtain ⟨m, hm⟩ : ∃ m, m = E % 4294967296 := ⟨_, rfl⟩
          have hand : bits .and .u64 (E : Int) 4294967295 = (m : Int) := by rw [and_low32 _ (by omega) (by omega), hm]; omega
          have hm9 : m < 4294967296 := by omega
          have HE := Lib.hid hE
          have HM := Lib.hid hm
          clear hE hmul hm
          by_cases hng : cs[off + k]?.getD 0 < m + bw
          · have hti : ((cs[off + k]?.getD 0 : Nat) : Int) - (m : Int) - (bw : Int) < 0 := by omega
            go_wp2
            go_roundw
            case rel =>
              have e3 : (((cs[off + k]?.getD 0 : Nat) : Int) - (m : Int) - (bw : Int) + 4294967296) = (((cs[off + k]?.getD 0 + 8589934592 - E % 4294967296 - bw) % 4294967296 : Nat) : Int) := by have := HM.out; omega
              rw [e3]
              exact HFin.out _ E 1 HE.out (by rw [if_pos (by have := HM.out; omega)]) (HOk.out.set_ (off + k) _) (grownBy_trans HGk.out (grownBy_setCellAt _ _ _ _))
            case measure => simp [intOf]; omega
          · have hti : 0 ≤ ((cs[off + k]?.getD 0 : Nat) : Int) - (m : Int) - (bw : Int) := by omega
            have htd : decide (((cs[off + k]?.getD 0 : Nat) : Int) - (m : Int) - (bw : Int) < 0) = false := by simp; omega
            go_wp2
            go_roundw
            case rel =>
              have e3 : (((cs[off + k]?.getD 0 : Nat) : Int) - (m : Int) - (bw : Int)) = (((cs[off + k]?.getD 0 + 8589934592 - E % 4294967296 - bw) % 4294967296 : Nat) : Int) := by have := HM.out; omega
              rw [e3]
              exact HFin.out _ E 0 HE.out (by rw [if_neg (by have := HM.out; omega)]) (HOk.out.set_ (off + k) _) (grownBy_trans HGk.out (grownBy_setCellAt _ _ _ _))
            case measure => simp [intOf]; omega
        · obtain rfl : k = n := by omega
          have hand : bits .and .u64 (cc : Int) 4294967295 = (cc : Int) := by rw [and_low32 _ (by omega) (by omega)]; omega
          have HZ : Hid (cc = cc + ys[k]?.getD 0 * D) := by
            show _ = _
            rw [getD_over (xs := ys) (k := k) (by rw [HB.out.len]; omega), Nat.zero_mul, Nat.add_zero]
          clear hmul
          by_cases hng : cs[off + k]?.getD 0 < cc + bw
          · have hti : ((cs[off + k]?.getD 0 : Nat) : Int) - (cc : Int) - (bw : Int) < 0 := by omega
            go_wp2
            go_roundw
            case rel =>
              have e3 : (((cs[off + k]?.getD 0 : Nat) : Int) - (cc : Int) - (bw : Int) + 4294967296) = (((cs[off + k]?.getD 0 + 8589934592 - cc % 4294967296 - bw) % 4294967296 : Nat) : Int) := by omega
              rw [e3]
              exact HFin.out _ cc 1 HZ.out (by rw [if_pos (by omega)]) (HOk.out.set_ (off + k) _) (grownBy_trans HGk.out (grownBy_setCellAt _ _ _ _))
            case measure => simp [intOf]
          · have hti : 0 ≤ ((cs[off + k]?.getD 0 : Nat) : Int) - (cc : Int) - (bw : Int) := by omega
            have htd : decide (((cs[off + k]?.getD 0 : Nat) : Int) - (cc : Int) - (bw : Int) < 0) = false := by simp; omega
            go_wp2
            go_roundw
            case rel =>
              have e3 : (((cs[off + k]?.getD 0 : Nat) : Int) - (cc : Int) - (bw : Int)) = (((cs[off + k]?.getD 0 + 8589934592 - cc % 4294967296 - bw) % 4294967296 : Nat) : Int) := by omega
              rw [e3]
              exact HFin.out _ cc 0 HZ.out (by rw [if_neg (by omega)]) (HOk.out.set_ (off + k) _) (grownBy_trans HGk.out (grownBy_setCellAt _ _ _ _))
            case measure => simp [intOf]
      · obtain rfl : k = n + 1 := by omega
        have hcc : cc = 0 := hcz (by omega)
        have HI3 : Hid (val (sbK (cs.drop off) ys D (n + 1)).1 + V * D = X + 4294967296 ^ (n + 1) * bw) := by
          show _ = _
          have e := sbK_val (xs := ys) (HG.out.drop off) D (n + 1)
          rw [List.take_of_length_le (by rw [HB.out.len]; omega), HV.out, ← HXd.out, ← hcb, hcc, Nat.zero_add] at e
          exact e
        have HOk := Lib.hid hOk
        have HGk := Lib.hid hgk
        have HLn := Lib.hid (sbK_len (cs.drop off) ys D (n + 1))
        have HTg := Lib.hid (sbK_good (cs.drop off) ys D (n + 1))
        clear hcb hcc hcz hOk hgk hkn hk
        go_wp2
        go_loopw [7, 9] (fun q bz wr' => ∃ (qq bb' : Nat) (T : List Nat), q = .int .u64 (qq : Int) ∧ bz = .int .i64 (bb' : Int) ∧ bb' ≤ 1 ∧ qq ≤ 4294967295 ∧ X / V ≤ qq ∧ T.length = n + 1 ∧ Good T ∧ val T + V * qq = X + 4294967296 ^ (n + 1) * bb' ∧ Ob wr' g (spl cs off T) ∧ w.grownBy wr' (some g)) (fun q _ _ => (intOf q).toNat)
        case atStart => exact ⟨D, bw, _, rfl, rfl, hbw, hDq, HXD.out, HLn.out, HTg.out, HI3.out, HOk.out, HGk.out⟩
        case round =>
          obtain ⟨qq, bb', T, rfl, rfl, hb1', hq9, hXq, hTl, hTG, hTv, hOT, hgT⟩ := hrel
          have HTl := Lib.hid hTl
          have HTG := Lib.hid hTG
          have HTv := Lib.hid hTv
          have HXq := Lib.hid hXq
          have HOT := Lib.hid hOT
          have HGT := Lib.hid hgT
          clear hTl hTG hTv hXq hOT hgT
          rcases Nat.eq_zero_or_pos bb' with h0 | h0
          · subst h0
            have HDn := Lib.hid (dg_done hV0 (by have e := HTv.out; rw [Nat.mul_zero, Nat.add_zero] at e; exact e) HXq.out)
            go_wp2
            go_ret
            exact ⟨ret_int (by rw [HDn.out.1]), ⟨T, HTl.out, HTG.out, HDn.out.2, HOT.out⟩, HGT.out⟩
          · obtain rfl : bb' = 1 := by omega
            have hTlt := val_lt HTG.out
            rw [HTl.out] at hTlt
            have hmo := dg_more hV0 (by have e := HTv.out; rw [Nat.mul_one] at e; exact e) hTlt
            have hq1 := hmo.1
            have HXq1 := Lib.hid hmo.2
            clear hmo hTlt
            go_wp2
            go_loopw [10, 13] (fun cy i wj => ∃ k : Nat, k ≤ n + 1 ∧ i = .int .i64 k ∧ cy = .int .u64 ((addK T ys k).2 : Nat) ∧ Ob wj g (spl cs off (spl T 0 (addK T ys k).1)) ∧ w.grownBy wj (some g)) (fun _ i _ => n + 1 - (intOf i).toNat)
            case atStart => exact ⟨0, Nat.zero_le _, rfl, rfl, by show Ob _ g (spl cs off (spl T 0 [])); rw [spl_nil]; exact HOT.out, HGT.out⟩
            case round =>
              obtain ⟨k, hk, rfl, rfl, hOj, hgj⟩ := hrel
              have HOj := Lib.hid hOj
              clear hOj
              have hcar := addK_carry HTG.out HB.out.good k
              have HAl := Lib.hid (addK_len T ys k)
              by_cases hkn : k ≤ n
              · have HMl : Hid ((spl T 0 (addK T ys k).1).length = n + 1) := by show _ = _; rw [spl_len (by rw [HAl.out, HTl.out]; omega), HTl.out]
                have hct := HOj.out.cell (i := off + k) (by have := HOff.out; rw [spl_len (by rw [HMl.out]; omega)]; omega)
                have hge : (spl cs off (spl T 0 (addK T ys k).1))[off + k]?.getD 0 = T[k]?.getD 0 := by
                  rw [spl_get (by have := HOff.out; rw [HMl.out]; omega) (by rw [HMl.out]; omega)]
                  have e := spl_at (cs := T) (off := 0) (ts := (addK T ys k).1) (by rw [HAl.out, HTl.out]; omega)
                  rw [HAl.out, Nat.zero_add] at e
                  exact e
                rw [hge] at hct
                have hfr := HOj.out.frozen (off + k)
                have hTg := HTG.out.get k
                have hyg := HB.out.good.get k
                have HFin : Hid (∀ (wz : World) (E : Int), E = (((addK T ys k).2 + (T[k]?.getD 0 + ys[k]?.getD 0) : Nat) : Int) → Ob wz g ((spl cs off (spl T 0 (addK T ys k).1)).set (off + k) (((addK T ys k).2 + (T[k]?.getD 0 + ys[k]?.getD 0)) % 4294967296)) → w.grownBy wz (some g) →
                    ∃ k' : Nat, k' ≤ n + 1 ∧ Value.int .i64 ((k : Int) + 1) = .int .i64 k' ∧ Value.int .u64 (E / 4294967296) = .int .u64 ((addK T ys k').2 : Nat) ∧ Ob wz g (spl cs off (spl T 0 (addK T ys k').1)) ∧ w.grownBy wz (some g)) := by
                  intro wz E h1 h2 h3
                  refine ⟨k + 1, by omega, by go_num, ?_, ?_, h3⟩
                  · rw [h1]
                    exact congrArg (Value.int IntKind.u64) (Int.natCast_ediv _ _).symm
                  · rw [spl_seti _ (by have := HOff.out; rw [HMl.out]; omega) (by rw [HMl.out]; omega)] at h2
                    have e := spl_set (cs := T) (off := 0) (ts := (addK T ys k).1) (((addK T ys k).2 + (T[k]?.getD 0 + ys[k]?.getD 0)) % 4294967296) (by rw [HAl.out, HTl.out]; omega)
                    rw [HAl.out, Nat.zero_add] at e
                    rw [e] at h2
                    exact h2
                clear hge
                by_cases hkl : k < n
                · obtain ⟨b1', bo1', e1, _, hcy⟩ := (HB.out.grownLt hgj (Nat.le_of_lt hgs)).cell hkl
                  cases e1
                  go_wp2
                  go_roundw
                  case rel =>
                    refine HFin.out _ _ (by omega) ?_ (grownBy_trans hgj (grownBy_setCellAt _ _ _ _))
                    have e := HOj.out.set_ (off + k) (((addK T ys k).2 + (T[k]?.getD 0 + ys[k]?.getD 0)) % 4294967296)
                    have e3 : ((((addK T ys k).2 + (T[k]?.getD 0 + ys[k]?.getD 0)) % 4294967296 : Nat) : Int) = (((addK T ys k).2 : Nat) + ((T[k]?.getD 0 : Nat) : Int) + ((ys[k]?.getD 0 : Nat) : Int)) % 4294967296 := by omega
                    rw [e3] at e
                    exact e
                  case measure => simp [intOf]; omega
                · obtain rfl : k = n := by omega
                  have HZ := Lib.hid (getD_over (xs := ys) (k := k) (by rw [HB.out.len]; omega))
                  go_wp2
                  go_roundw
                  case rel =>
                    have hz := HZ.out
                    refine HFin.out _ _ (by omega) ?_ (grownBy_trans hgj (grownBy_setCellAt _ _ _ _))
                    have e := HOj.out.set_ (off + k) (((addK T ys k).2 + (T[k]?.getD 0 + ys[k]?.getD 0)) % 4294967296)
                    have e3 : ((((addK T ys k).2 + (T[k]?.getD 0 + ys[k]?.getD 0)) % 4294967296 : Nat) : Int) = (((addK T ys k).2 : Nat) + ((T[k]?.getD 0 : Nat) : Int)) % 4294967296 := by omega
                    rw [e3] at e
                    exact e
                  case measure => simp [intOf]
              · obtain rfl : k = n + 1 := by omega
                have HE : Hid (spl T 0 (addK T ys (n + 1)).1 = (addK T ys (n + 1)).1) := by
                  show T.take 0 ++ ((addK T ys (n + 1)).1 ++ T.drop (0 + (addK T ys (n + 1)).1.length)) = _
                  rw [HAl.out, List.drop_of_length_le (by rw [HTl.out]; omega), List.append_nil]; rfl
                have HBk : Hid (val (addK T ys (n + 1)).1 + V * (qq - 1) = X + 4294967296 ^ (n + 1) * (1 - (addK T ys (n + 1)).2)) := by
                  refine dg_back hq1 (by have e := HTv.out; rw [Nat.mul_one] at e; exact e) ?_ hcar
                  rw [addK_val, List.take_of_length_le (by rw [HTl.out]; exact Nat.le_refl _), List.take_of_length_le (by rw [HB.out.len]; omega), HV.out]
                go_wp2
                go_roundw
                case rel =>
                  refine ⟨qq - 1, 1 - (addK T ys (n + 1)).2, (addK T ys (n + 1)).1, by go_num, by go_num, by omega, by omega, HXq1.out, HAl.out, addK_good _ _ _, HBk.out, ?_, hgj⟩
                  have e := HOj.out
                  rw [HE.out] at e
                  exact e
                case measure => simp [intOf]; omega
end Go.Proofs.YtkajmglpmdhmnaaDoor

/- The reference's over. -/
namespace Go.Proofs.YtkajmglpmdhmnaaDoor
open Go.RowKit

set_option maxRecDepth 100000 in
set_option maxHeartbeats 1000000 in
theorem rover_less (w : World) (A B : Option Addr) (n m ca cb b v : Nat) (xs : List Nat) (hA : Lm w w.heap.size A n ca xs) (hB : Lm w w.heap.size B m cb (digs b)) (hv : val xs = v) (hC : cmpL xs (digs b) = -1) (hlt : v < b) (hn9 : n ≤ 1000000) :
    Calls Tryd.prog 34 #[.slice A n ca, .slice B m cb] w (RD w (v / b) (v % b)) := by
  have HC := Lib.hid hC
  have HA := Lib.hid hA
  have HB := Lib.hid hB
  have HV := Lib.hid hv
  have hcB := hB.cap
  have hxB := hB.max
  rw [Nat.div_eq_of_lt hlt, Nat.mod_eq_of_lt hlt]
  clear hA hB hlt hv hC
  go_enter Tryd.func34, Tryd.ntmps34
  go_wp2_with fail
  refine (rcompare_any A B n m ca cb xs (digs b) w HA.out HB.out).mono ?_
  rintro e w1 ⟨he, d, rfl⟩
  rw [HC.out] at he
  subst he
  go_wp2_with fail
  refine (rtrim_any _ _ _ _ xs v (HA.out.drewN d) HV.out (by omega)).mono ?_
  rintro e w2 ⟨A2, c2, rfl, hL2, hb2⟩
  go_wp2
  go_ret2
  refine ⟨none, 0, A2, c2, rfl, Lm.nil _ _, hL2, (bdrewN (Below.refl w.heap.size w) d).trans hb2⟩

set_option maxRecDepth 100000 in
set_option maxHeartbeats 1000000 in
theorem rover_one (w : World) (A B : Option Addr) (n ca cb b v : Nat) (xs : List Nat) (hA : Lm w w.heap.size A n ca xs) (hB : Lm w w.heap.size B 1 cb (digs b)) (hv : val xs = v) (hC : 0 ≤ cmpL xs (digs b)) (hn9 : n ≤ 1000000) :
    Calls Tryd.prog 34 #[.slice A n ca, .slice B 1 cb] w (RD w (v / b) (v % b)) := by
  obtain ⟨z, hz, HC⟩ : ∃ z : Int, decide (z < 0) = false ∧ Hid (cmpL xs (digs b) = z) := ⟨_, by simp; omega, rfl⟩
  have hb0 : 0 < b := by rw [← digs_pos, hB.len]; omega
  have hbe : (digs b)[0]?.getD 0 = b := by
    have h1 := val_take_succ' (digs b) 0
    rw [List.take_of_length_le (by rw [hB.len]; omega), digs_val] at h1
    simpa [val_nil] using h1.symm
  have hb9 := hB.good.get 0
  obtain ⟨bb, bo, rfl, hbb, cb1⟩ := hB.cell (k := 0) (by omega)
  rw [hbe] at cb1 hb9
  rw [Nat.add_zero] at cb1
  have hcB := hB.cap
  have hxB := hB.max
  have HA := Lib.hid hA
  have HB := Lib.hid hB
  have HV := Lib.hid hv
  clear hA hB hbe hv hC
  go_enter Tryd.func34, Tryd.ntmps34
  go_wp2_with fail
  refine (rcompare_any A (some ⟨bb, bo, none⟩) n 1 ca cb xs (digs b) w HA.out HB.out).mono ?_
  rintro e w1 ⟨he, d, rfl⟩
  rw [HC.out] at he
  subst he
  go_wp2_with fail
  refine (rshort_any (w.drewN d) A n ca b xs v (HA.out.drewN d) (by omega) hb0 hb9 HV.out).mono ?_
  rintro e w2 ⟨Q, cq, R, cr, rfl, hQ, hR, hb2⟩
  go_wp2
  go_ret2
  exact ⟨Q, cq, R, cr, rfl, hQ, hR, (bdrewN (Below.refl w.heap.size w) d).trans hb2⟩

theorem up_aux {x s l : Nat} (l1 : 1 ≤ l) (l2 : 2 ^ (l - 1) ≤ x) (l3 : x < 2 ^ l) (h1 : 2 ^ 31 ≤ x * 2 ^ s) (h2 : x * 2 ^ s < 2 ^ 32) : s = 32 - l := by
  have m1 := Nat.mul_le_mul_right (2 ^ s) l2
  have m2 := (Nat.mul_lt_mul_right (a := 2 ^ s) (Nat.pow_pos (by decide))).2 l3
  have a1 := Nat.lt_of_le_of_lt m1 h2
  have a2 := Nat.lt_of_le_of_lt h1 m2
  rw [← Nat.pow_add] at a1 a2
  have b1 := (Nat.pow_lt_pow_iff_right (by decide : 1 < 2)).1 a1
  have b2 := (Nat.pow_lt_pow_iff_right (by decide : 1 < 2)).1 a2
  clear a1 a2 m1 m2 h1 h2 l2 l3
  omega
theorem up_of {x s : Nat} (h0 : x ≠ 0) (h : x < 4294967296) (h1 : 2147483648 ≤ x * 2 ^ s) (h2 : x * 2 ^ s < 4294967296) : s = 32 - Lib.bitLen x := by
  have hb := bitLen_bounds h0 h
  generalize Lib.bitLen x = l at hb ⊢
  exact up_aux hb.1 hb.2.1 hb.2.2 h1 h2
/-- A limb more than a number has is 0. -/
theorem take_dgs {ts : List Nat} {V m : Nat} (g : Good ts) (hl : ts.length = m + 1) (hv : val ts = V) (hV : (digs V).length = m) : ts.take m = digs V := by
  have h1 := val_short (xs := ts) (j := m) (by rw [hv]; exact digs_len.1 (Nat.le_of_eq hV))
  exact eq_of_val (g.take m) (digs_good V) (by rw [List.length_take, hl, hV]; omega) (by rw [h1.1, hv, digs_val])
theorem part_whole {rs : List Nat} {m k : Nat} (h : val (rs.drop k) = val ((rs.drop k).take m) + 4294967296 ^ m * rs[k + m]?.getD 0) : val ((rs.drop k).take (m + 1)) = val (rs.drop k) := by
  rw [val_take_succ', List.getElem?_drop]
  exact h.symm
theorem part_done2 {rs P : List Nat} {m k v : Nat} (hP : P.length = m + 1) (hk : k + m < rs.length) (hz : val (rs.drop (k + m + 1)) = 0) (hv : val P = v) :
    val ((spl rs k P).drop k) = v ∧ val (spl rs k P) = val (rs.take k) + 4294967296 ^ k * v := by
  have hl : (rs.take k).length = k := by rw [List.length_take]; omega
  have e : val (P ++ rs.drop (k + P.length)) = v := by
    have hz2 : val (rs.drop (k + P.length)) = 0 := by rw [hP, ← Nat.add_assoc]; exact hz
    rw [val_append, hv, hz2, Nat.mul_zero, Nat.add_zero]
  unfold spl
  constructor
  · rw [List.drop_append_of_le_length (by omega), List.drop_of_length_le (by omega), List.nil_append]
    exact e
  · rw [val_append, hl, e]
end Go.Proofs.YtkajmglpmdhmnaaDoor

/- The reference's over: long division. -/
namespace Go.Proofs.YtkajmglpmdhmnaaDoor
open Go.RowKit

theorem rleft_any (w : World) (A : Option Addr) (n c s : Nat) (xs : List Nat) (v : Nat) (hA : Lm w w.heap.size A n c xs) (hn : n ≤ 100000000) (hs32 : s < 32) (hv : val xs * 2 ^ s = v) :
    Calls Tryd.prog 40 #[.slice A n c, .int .u64 (s : Int)] w (RL w (n + 1) v) :=
  (rleft_own w A n c s xs v hA hn hs32 hv).mono fun e w' ⟨A, c, ts, he, hO, hG, hl, hv, hb⟩ => by
    obtain ⟨A', c', e3, hL⟩ := hO.lm hG
    rw [hl] at e3 hL
    cases e3
    exact ⟨A, c, ts, he, hL, hv, hb⟩

set_option maxRecDepth 100000 in
set_option maxHeartbeats 4000000 in
theorem rover_long (w : World) (A B : Option Addr) (n m ca cb a b : Nat) (hA : Lm w w.heap.size A n ca (digs a)) (hB : Lm w w.heap.size B m cb (digs b)) (hle : b ≤ a) (hm2 : 2 ≤ m) (hn9 : n ≤ 1000000) :
    Calls Tryd.prog 34 #[.slice A n ca, .slice B m cb] w (RD w (a / b) (a % b)) := by
  obtain ⟨z, hz, HC⟩ : ∃ z : Int, decide (z < 0) = false ∧ Hid (cmpL (digs a) (digs b) = z) := ⟨_, by rw [cmpL_norm (digs_good _) (digs_good _) (digs_norm _) (digs_norm _), digs_val, digs_val]; unfold cmpN; rw [if_neg (by omega)]; split <;> decide, rfl⟩
  have hcA := hA.cap
  have hxA := hA.max
  have hcB := hB.cap
  have hxB := hB.max
  have hlA := hA.len
  have hlB := hB.len
  have hmn : m ≤ n := by rw [← hlA, ← hlB]; exact digs_mono hle
  have hm1 : ((m : Int) == 1) = false := by simp; omega
  have hbp : 0 < b := digs_pos.1 (by omega)
  have gt := hB.good.get (m - 1)
  have htp := top_pos hbp
  rw [hlB] at htp
  obtain ⟨bb, bo, e, hbb, cb1⟩ := hB.cell (k := m - 1) (by omega)
  subst e
  have hf := up_facts hlB (by omega)
  have HF := Lib.hid hf
  have HLA := Lib.hid hlA
  have HLB := Lib.hid hlB
  have HA := Lib.hid hA
  have HB := Lib.hid hB
  have HLe := Lib.hid hle
  have i1 : ((m : Int) - 1).toNat = m - 1 := by omega
  obtain ⟨top, hto⟩ : ∃ top, top = (digs b)[m - 1]?.getD 0 := ⟨_, rfl⟩
  rw [← hto] at gt htp cb1
  have HTop := Lib.hid hto
  have ht0 : 0 < top := by omega
  clear hA hB hlA hlB hf hle hto htp
  go_enter Tryd.func34, Tryd.ntmps34
  go_wp2_with fail
  refine (rcompare_any A (some ⟨bb, bo, none⟩) n m ca cb (digs a) (digs b) w HA.out HB.out).mono ?_
  rintro e w1 ⟨he, d, rfl⟩
  rw [HC.out] at he
  subst he
  have HB0 : Hid (Below w.heap.size w (w.drewN d)) := bdrewN (Below.refl _ _) d
  have LA := Lib.hid (HA.out.drewN d)
  have LB := Lib.hid (HB.out.drewN d)
  have cb2 : (w.drewN d).cell? ⟨bb, bo + (m - 1), none⟩ = some (.int .u32 (top : Int)) := cb1
  have hsz : Hid ((w.drewN d).heap.size = w.heap.size) := (rfl : _ = _)
  generalize w.drewN d = w1 at *
  clear HA HB cb1
  go_wp2_with fail
  go_loop [7] (fun x => ∃ s : Nat, s ≤ 31 ∧ x = .int .u64 (s : Int) ∧ top * 2 ^ s < 4294967296) (fun x => 32 - (intOf x).toNat)
  case atStart => exact ⟨0, by omega, rfl, by rw [Nat.pow_zero, Nat.mul_one]; exact gt⟩
  case round =>
    obtain ⟨s, hs, rfl, hts⟩ := hrel
    obtain ⟨P, hP⟩ : ∃ P, P = top * 2 ^ s := ⟨_, rfl⟩
    have hw : IntKind.u32.wrap ((top : Int) * 2 ^ s) = (P : Int) := by
      rw [cast_shl, Nat.mul_comm, ← hP, IntKind.wrap_u32]
      omega
    have HP := Lib.hid hP
    rw [← hP] at hts
    clear hP
    by_cases hp : P < 2147483648
    · have hpi : (P : Int) < 2147483648 := by omega
      clear hp
      go_wp2
      go_round
      case rel => exact ⟨s + 1, by
        have e := HP.out
        rcases Nat.lt_or_ge s 31 with h | h
        · omega
        · obtain rfl : s = 31 := by omega
          have h5 := Nat.mul_le_mul_right (2 ^ 31) ht0
          omega, by go_num, by rw [Nat.pow_succ, ← Nat.mul_assoc, ← HP.out]; omega⟩
      case measure => simp [intOf]; omega
    · have hpi : (2147483648 : Int) ≤ (P : Int) := by omega
      have hpd : decide ((P : Int) < 2147483648) = false := by simp; omega
      have hup := up_of (x := top) (s := s) (by omega) gt (by rw [← HP.out]; omega) (by rw [← HP.out]; exact hts)
      rw [HTop.out] at hup
      have HF2 := HF.out
      rw [← hup] at HF2
      obtain ⟨V, hV⟩ : ∃ V, V = b * 2 ^ s := ⟨_, rfl⟩
      obtain ⟨U, hU⟩ : ∃ U, U = a * 2 ^ s := ⟨_, rfl⟩
      rw [← hV] at HF2
      have HVF := Lib.hid HF2
      have HUB : Hid (U < 2147483648 * 4294967296 ^ n) := by
        show _ < _
        have h1 := digs_len.1 (Nat.le_of_eq HLA.out)
        rw [hU, Nat.mul_comm]
        exact Nat.mul_lt_mul_of_le_of_lt (Nat.pow_le_pow_right (by omega) hs) h1 (by decide)
      have HDiv : Hid (U / V = a / b ∧ U % V = a % b * 2 ^ s) := by
        show _ ∧ _
        rw [hU, hV]
        exact ⟨Nat.mul_div_mul_right _ _ (Nat.pow_pos (by omega)), Nat.mul_mod_mul_right _ _ _⟩
      have HV : Hid (val (digs b) * 2 ^ s = V) := by show _ = _; rw [digs_val, hV]
      have HU : Hid (val (digs a) * 2 ^ s = U) := by show _ = _; rw [digs_val, hU]
      have hV0 : 0 < V := by rw [hV]; exact Nat.mul_pos hbp (Nat.pow_pos (by omega))
      have HVb := Lib.hid hV
      clear hup HF2 hV hU HP hp hts
      go_wp2_with fail
      clear hw hpi hpd
      refine (rleft_any w1 _ m cb s (digs b) V LB.out (by omega) (by omega) HV.out).mono ?_
      rintro e w2 ⟨A2, c2, ts, rfl, hL2, hv2, hb2⟩
      have HL2 := Lib.hid (hL2.take (Nat.le_succ m))
      have HT2 := Lib.hid (take_dgs hL2.good hL2.len hv2 HVF.out.2.2.1)
      have hcap2 := hL2.cap
      have hmax2 := hL2.max
      rw [HT2.out] at HL2
      have LA2 := Lib.hid (LA.out.via hb2)
      have HB2 := Lib.hid (HB0.out.trans (hb2.mono HB0.out.size))
      clear hL2 hv2 hb2
      go_wp2_with fail
      refine (rleft_own w2 A n ca s (digs a) U LA2.out (by omega) (by omega) HU.out).mono ?_
      rintro e w3 ⟨A3, c3, us, rfl, hO3, hG3, hl3, hv3, hb3⟩
      obtain ⟨A3', c3', e3, hL3⟩ := hO3.lm hG3
      have hcap3 := hL3.cap
      have hmax3 := hL3.max
      rw [hl3] at e3 hL3 hcap3
      cases e3
      obtain ⟨gu, rfl, -, hgu, hOb3⟩ := hO3.ob (by omega)
      have HX3 := Lib.hid (HL2.out.below hb3)
      have HB3 := Lib.hid (HB2.out.trans (hb3.mono HB2.out.size))
      have HO3 := Lib.hid hOb3
      have HG3 := Lib.hid hG3
      have HV3 := Lib.hid hv3
      have HL3l := Lib.hid hl3
      have hs3 := hOb3.lt
      clear hO3 hL3 hOb3 hG3 hv3 hl3 hb3
      have hmk2 := fun w => run_make_u32 ((n : Int) + 1 - (m : Int)) ((n : Int) + 1 - (m : Int)) (n + 1 - m) (by omega) (by omega) (by omega) w
      go_wp2_with fail
      clear hmk2
      go_loopw [11] (fun i wr => ∃ (k : Nat) (rs qs : List Nat), k ≤ n + 1 - m ∧ i = .int .i64 ((k : Int) - 1) ∧ Ob wr gu rs ∧ Good rs ∧ rs.length = n + 1 ∧ Ld wr w3.heap.size qs ∧ Good qs ∧ qs.length = n + 1 - m ∧
          val (rs.drop k) < V ∧ val rs + 4294967296 ^ k * (V * val (qs.drop k)) = U ∧ Below w2.heap.size w3 wr) (fun i _ => (intOf i + 1).toNat)
      case atStart =>
        refine ⟨n + 1 - m, us, zer (n + 1 - m), Nat.le_refl _, rfl, HO3.out.below ((Below.refl _ _).alloc (Nat.le_refl _) _) hs3, HG3.out, HL3l.out, Ld.new _ _, zer_good _, zer_len _, ?_, ?_, (Below.refl _ _).alloc (by omega) _⟩
        · rw [val_drop _ HG3.out, HV3.out]
          refine Nat.div_lt_of_lt_mul (Nat.lt_of_lt_of_le HUB.out ?_)
          have h5 := Nat.mul_le_mul_left (4294967296 ^ (n + 1 - m)) HVF.out.2.1
          rw [Nat.mul_left_comm, ← Nat.pow_add, show n + 1 - m + (m - 1) = n by omega] at h5
          exact h5
        · rw [HV3.out, List.drop_of_length_le (by rw [zer_len]; exact Nat.le_refl _)]
          simp [val_nil]
      case round =>
        obtain ⟨k, rs, qs, hk, rfl, hR, hGR, hlR, hQ, hGQ, hlQ, hI1, hI2, hb⟩ := hrel
        have HR := Lib.hid hR
        have HQ := Lib.hid hQ
        have HI1 := Lib.hid hI1
        have HI2 := Lib.hid hI2
        have HBl := Lib.hid hb
        have HGR := Lib.hid hGR
        have HGQ := Lib.hid hGQ
        have HlR := Lib.hid hlR
        have HlQ := Lib.hid hlQ
        have hgur := hR.lt
        clear hR hQ hI1 hI2 hb hGR hGQ hlR hlQ
        rcases k with _ | k
        · rw [show (((0 : Nat) : Int) - 1) = -1 from rfl]
          have hQe : Hid (val qs = a / b) := by
            show _ = _
            have h1 := HI1.out
            have h2 := HI2.out
            simp only [List.drop_zero, Nat.pow_zero, Nat.one_mul] at h1 h2
            rw [← HDiv.out.1, ← h2, Nat.add_mul_div_left _ _ hV0, Nat.div_eq_of_lt h1, Nat.zero_add]
          have hRv : Hid (val rs < V) := by have h1 := HI1.out; rw [List.drop_zero] at h1; exact h1
          have hRe : Hid (val rs = a % b * 2 ^ s) := by
            show _ = _
            have h2 := HI2.out
            simp only [List.drop_zero, Nat.pow_zero, Nat.one_mul] at h2
            rw [← HDiv.out.2, ← h2, Nat.add_mul_mod_self_left, Nat.mod_eq_of_lt hRv.out]
          have hRt : Hid (val (rs.take m) = a % b * 2 ^ s) := by
            show _ = _
            rw [← hRe.out]
            exact (val_short (Nat.lt_trans hRv.out (digs_len.1 (Nat.le_of_eq HVF.out.2.2.1)))).1
          have HLq : Hid (Lm wr wr.heap.size (some ⟨w3.heap.size, 0, none⟩) (n + 1 - m) (n + 1 - m) qs) := by
            have e := HQ.out.lm HGQ.out (off := 0) (n := n + 1 - m) (c := n + 1 - m) (by rw [HlQ.out]; omega) (Nat.le_refl _) (by omega)
            rwa [List.drop_zero, List.take_of_length_le (by rw [HlQ.out]; exact Nat.le_refl _)] at e
          have HLr : Hid (Lm wr wr.heap.size (some ⟨gu, 0, none⟩) m c3 (rs.take m)) := by
            have e := HR.out.lm HGR.out (off := 0) (n := m) (c := c3) (by rw [HlR.out]; omega) (by omega) (by omega)
            rwa [List.drop_zero] at e
          have HGt := Lib.hid (HGR.out.take m)
          have HSv : Hid (val (shrL s (rs.take m) m) = a % b) := by
            show _ = _
            rw [shrL_val HGt.out s (by omega) HLr.out.len, hRt.out, Nat.mul_div_cancel _ (Nat.pow_pos (by omega))]
          obtain ⟨r0, hr0⟩ : ∃ r0, r0 = rs.take m := ⟨_, rfl⟩
          rw [← hr0] at HLr HGt HSv
          clear hr0 hRt
          go_wp2
          go_loopw [13, 14] (fun u i wz => ∃ k : Nat, k ≤ m ∧ i = .int .i64 k ∧ Ow wz wr.heap.size u (shrL s r0 k) ∧ Below wr.heap.size wr wz) (fun _ i _ => m - (intOf i).toNat)
          case atStart => exact ⟨0, Nat.zero_le _, rfl, Ow.nil _ _, Below.refl _ _⟩
          case round =>
            obtain ⟨k, hk2, rfl, hO, hb⟩ := hrel
            have HO := Lib.hid hO
            have HBz := Lib.hid hb
            have HSl := Lib.hid (shrL_len s r0 k)
            clear hO hb
            by_cases hlt : k < m
            · obtain ⟨b1', bo1', e1, _, hcx⟩ := (HLr.out.below HBz.out).cell hlt
              cases e1
              have hxg := HGt.out.get k
              have hyg := HGt.out.get (k + 1)
              by_cases hlt2 : k + 1 < m
              · obtain ⟨b2', bo2', e2, _, hcy⟩ := (HLr.out.below HBz.out).cell hlt2
                cases e2
                rw [Nat.zero_add] at hcx hcy
                have HX : Hid ((((r0[k]?.getD 0 : Nat) : Int) + ((r0[k + 1]?.getD 0 : Nat) : Int) * 4294967296) / 2 ^ s % 4294967296 = (((r0[k]?.getD 0 + 4294967296 * r0[k + 1]?.getD 0) / 2 ^ s % 4294967296 : Nat) : Int)) := by
                  show _ = _
                  have e : ((r0[k]?.getD 0 : Nat) : Int) + ((r0[k + 1]?.getD 0 : Nat) : Int) * 4294967296 = ((r0[k]?.getD 0 + 4294967296 * r0[k + 1]?.getD 0 : Nat) : Int) := by omega
                  rw [e, cast_shr, Int.natCast_emod]
                  rfl
                go_wp2_with (at_builtin; refine wpList_append_u32 _ rfl _ _ rfl _ _ _ rfl HO.out _ ((r0[k]?.getD 0 + 4294967296 * r0[k + 1]?.getD 0) / 2 ^ s % 4294967296) 1 HX.out (by rw [HSl.out]; omega) HBz.out.size rfl ?_; intro u' w6 hO6 hg6)
                go_roundw
                case rel => exact ⟨k + 1, by omega, by go_num, hO6, HO.out.below HBz.out HBz.out.size hg6⟩
                case measure => simp [intOf]; omega
              · have HZ := Lib.hid (getD_over (xs := r0) (k := k + 1) (by rw [HLr.out.len]; omega))
                rw [Nat.zero_add] at hcx
                have HX : Hid (((r0[k]?.getD 0 : Nat) : Int) / 2 ^ s % 4294967296 = (((r0[k]?.getD 0 + 4294967296 * r0[k + 1]?.getD 0) / 2 ^ s % 4294967296 : Nat) : Int)) := by
                  show _ = _
                  rw [HZ.out, Nat.mul_zero, Nat.add_zero, cast_shr, Int.natCast_emod]
                  rfl
                have HY : Hid (((r0[k]?.getD 0 : Nat) : Int) / 2 ^ s = ((r0[k]?.getD 0 / 2 ^ s : Nat) : Int)) := cast_shr _ _
                have hy9 := Nat.div_le_self (r0[k]?.getD 0) (2 ^ s)
                have HW : Hid ((r0[k]?.getD 0 + 4294967296 * r0[k + 1]?.getD 0) / 2 ^ s % 4294967296 = r0[k]?.getD 0 / 2 ^ s) := by
                  show _ = _
                  rw [HZ.out, Nat.mul_zero, Nat.add_zero]
                  exact Nat.mod_eq_of_lt (by omega)
                have HWY : Hid (((r0[k]?.getD 0 : Nat) : Int) / 2 ^ s = (((r0[k]?.getD 0 + 4294967296 * r0[k + 1]?.getD 0) / 2 ^ s % 4294967296 : Nat) : Int)) := by show _ = _; rw [HW.out, HY.out]
                clear hy9
                go_wp2_with (at_builtin; refine wpList_append_u32 _ rfl _ _ rfl _ _ _ rfl HO.out _ ((r0[k]?.getD 0 + 4294967296 * r0[k + 1]?.getD 0) / 2 ^ s % 4294967296) 1 (by first | exact HX.out | exact HWY.out) (by rw [HSl.out]; omega) HBz.out.size rfl ?_; intro u' w6 hO6 hg6)
                go_roundw
                case rel => exact ⟨k + 1, by omega, by go_num, hO6, HO.out.below HBz.out HBz.out.size hg6⟩
                case measure => simp [intOf]; omega
            · obtain rfl : k = m := by omega
              have HGs : Hid (Good (shrL s r0 k)) := by
                show Good _
                rw [shrL_lims HGt.out s (by omega)]
                exact lims_good _ _
              obtain ⟨A7, c7, rfl, hL7⟩ := HO.out.lm HGs.out
              rw [HSl.out] at hL7 ⊢
              have HL7 := Lib.hid hL7
              have HLq7 := Lib.hid (HLq.out.via HBz.out)
              clear hL7
              go_wp2_with fail
              refine (rtrim_any _ _ _ _ _ (a / b) HLq7.out hQe.out (by omega)).mono ?_
              rintro e w8 ⟨A8, c8, rfl, hL8, hb8⟩
              have HL8 := Lib.hid hL8
              have HL78 := Lib.hid (HL7.out.via hb8)
              have HB8 := Lib.hid hb8
              clear hL8 hb8
              go_wp2_with fail
              refine (rtrim_any _ _ _ _ _ (a % b) HL78.out HSv.out (by omega)).mono ?_
              rintro e w9 ⟨A9, c9, rfl, hL9, hb9⟩
              go_wp2
              go_ret2
              have hs23 := HBl.out.size
              have hsz1 := HB3.out.size
              refine ⟨A8, c8, A9, c9, rfl, HL8.out.via hb9, hL9, ?_⟩
              have q1 := HB3.out.trans (HBl.out.mono HB2.out.size)
              have q2 := q1.trans (HBz.out.mono q1.size)
              have q3 := q2.trans (HB8.out.mono q2.size)
              exact q3.trans (hb9.mono q3.size)
        · have hkm : k + m < rs.length := by rw [HlR.out]; omega
          have HP := Lib.hid (part_facts HGR.out HVF.out.2.2.1 hm2 hkm HI1.out)
          have HW := Lib.hid (part_whole HP.out.1)
          have HLb : Hid (Lm wr gu A2 m c2 (digs V)) := (HX3.out.below HBl.out).mono hgu
          have hcut1 : ((k : Int) + 1 - 1) = (k : Int) := by omega
          go_wp2_with fail
          rw [show k + m + 1 - k = m + 1 by omega]
          refine (rdigit_any wr gu k (c3 - k) m c2 A2 rs (digs V) V HR.out HGR.out HLb.out hm2 (by omega) (by omega) (by omega) hkm (digs_val V) hV0 HP.out.2.2.2.2.1 HP.out.2.1 (by rw [HW.out]; exact HP.out.2.2.2.2.2.1)).mono ?_
          rw [HW.out]
          rintro e w5 ⟨rfl, ⟨P5, hPl, hPg, hPv, hO5⟩, hg5⟩
          have hgu3 : ¬ (w3.heap.size = gu) := by omega
          have hQ5 := HQ.out.grown hg5 (fun e => by injection e with e; omega)
          have hcq := hQ5.cell (i := k) (by rw [HlQ.out]; omega)
          have hfq := hQ5.frozen k
          have hD9 : val (rs.drop k) / V ≤ 4294967295 := Nat.le_trans HP.out.2.2.2.2.2.1 (gs_le _ _ _ _ _)
          have HPD := Lib.hid (part_done2 (rs := rs) (P := P5) (m := m) (k := k) hPl hkm HP.out.2.2.2.1 hPv)
          have HO5 := Lib.hid hO5
          have HG5 := Lib.hid hg5
          have HQ5 := Lib.hid hQ5
          have HPg := Lib.hid hPg
          have HPl := Lib.hid hPl
          have hml : val (rs.drop k) % V < V := Nat.mod_lt _ hV0
          clear hPl hPg hPv hO5 hg5 hQ5
          have HD9 := Lib.hid hD9
          clear hD9
          go_wp2
          go_roundw
          case rel =>
            refine ⟨k, _, _, by omega, rfl, HO5.out.grown (grownBy_setCellAt _ _ _ _) (fun e => by injection e with e; omega), spl_good HGR.out HPg.out, by rw [spl_len (by rw [HPl.out]; omega), HlR.out], HQ5.out.set_ k _, HGQ.out.set (by have := HD9.out; omega) k, by rw [List.length_set, HlQ.out], ?_, ?_, ?_⟩
            · rw [HPD.out.1]; exact hml
            · exact inv_step (by omega) rfl HI2.out HPD.out.2 (val_set_drop _ (by rw [HlQ.out]; omega))
            · exact (HBl.out.grown HG5.out (by have := HBl.out.size; omega) (fun b e => by injection e with e; omega)).setCell (p := ⟨w3.heap.size, k, none⟩) (by show w2.heap.size ≤ w3.heap.size; omega) _
          case measure => simp [intOf]

/-- over, by a divisor other than 0. -/
theorem rover_any (w : World) (A B : Option Addr) (n m ca cb a b : Nat) (hA : Lm w w.heap.size A n ca (digs a)) (hB : Lm w w.heap.size B m cb (digs b)) (hb : 0 < b) (hn9 : n ≤ 1000000) :
    Calls Tryd.prog 34 #[.slice A n ca, .slice B m cb] w (RD w (a / b) (a % b)) := by
  have hc := cmpL_norm (digs_good a) (digs_good b) (digs_norm a) (digs_norm b)
  rw [digs_val, digs_val] at hc
  rcases Nat.lt_or_ge a b with h | h
  · exact rover_less w A B n m ca cb b a _ hA hB (digs_val a) (by rw [hc]; exact cmpN_lt h) h hn9
  · have hm : 0 < m := by rw [← hB.len, digs_pos]; exact hb
    rcases Nat.lt_or_ge m 2 with h1 | h1
    · obtain rfl : m = 1 := by omega
      refine rover_one w A B n ca cb b a _ hA hB (digs_val a) ?_ hn9
      rw [hc]
      unfold cmpN
      rw [if_neg (by omega)]
      split <;> decide
    · exact rover_long w A B n m ca cb a b hA hB h h1 hn9
end Go.Proofs.YtkajmglpmdhmnaaDoor

/- wide.isText: whether bytes are the text of an absolute value. -/
namespace Go.Proofs.YtkajmglpmdhmnaaDoor
open Go.RowKit

def isDig (c : UInt8) : Bool := decide (48 ≤ c.toNat) && decide (c.toNat ≤ 57)
def txtOk (l : List UInt8) : Bool := l.all isDig && (decide (l = [48]) || (decide (l ≠ []) && decide (l[0]?.getD 0 ≠ 48)))
def decV (l : List UInt8) : Nat := l.foldl (fun a c => a * 10 + (c.toNat - 48)) 0
theorem str_get (l : List UInt8) (k : Nat) (_ : k < l.length) (h2 : k < (⟨l.toArray⟩ : ByteArray).size) : (⟨l.toArray⟩ : ByteArray)[k]'h2 = l[k] := rfl
theorem str_size (l : List UInt8) : (⟨l.toArray⟩ : ByteArray).size = l.length := by simp [ByteArray.size]

set_option maxRecDepth 100000 in
set_option maxHeartbeats 2000000 in
theorem istext_any (w : World) (l : List UInt8) (hl : l.length ≤ 1000000000000) :
    Calls Tryd.prog 56 #[.string ⟨l.toArray⟩] w fun e w' => e = .returned (.bool (txtOk l)) ∧ Below w.heap.size w w' := by
  have hs := str_size l
  have hk0 : (w.iter ⟨l.toArray⟩ 0).heap[w.heap.size]? = some (.stringIter ⟨l.toArray⟩ 0) := World.iter_heap w _ 0
  have hb0 : Below w.heap.size w (w.iter ⟨l.toArray⟩ 0) := (Below.refl _ w).alloc (Nat.le_refl _) _
  have HK0 := Lib.hid hk0
  have HB0 := Lib.hid hb0
  have HS := Lib.hid hs
  clear hk0 hb0 hs
  go_enter Tryd.func56, Tryd.ntmps56
  go_wp2
  go_loopw [4] (fun _ wr => ∃ pos : Nat, pos ≤ l.length ∧ wr.heap[w.heap.size]? = some (.stringIter ⟨l.toArray⟩ pos) ∧ (l.take pos).all isDig = true ∧ Below w.heap.size w wr)
    (fun _ wr => l.length - wr.iterPos w.heap.size)
  case atStart => exact ⟨0, Nat.zero_le _, HK0.out, rfl, HB0.out⟩
  case round =>
    obtain ⟨pos, hps, hk, hall, hbl⟩ := hrel
    have HK := Lib.hid hk
    have HAll := Lib.hid hall
    have HBl := Lib.hid hbl
    have hmu : wr.iterPos w.heap.size = pos := by simp [World.iterPos, hk]
    have HMu := Lib.hid hmu
    clear hk hall hbl hmu
    by_cases hp : pos < l.length
    · have hps2 : pos < (⟨l.toArray⟩ : ByteArray).size := by rw [HS.out]; exact hp
      have hge := str_get l pos hp hps2
      by_cases h128 : (l[pos]'hp).toNat < 128
      · have hnext : ∀ ty, (Instr.next (.pointer (some ⟨w.heap.size, 0, none⟩)) true ty).run Tryd.prog wr = .ok (.tuple #[.bool true, .int .i64 pos, .int .i32 (l[pos]'hp).toNat]) (wr.iterAt w.heap.size ⟨l.toArray⟩ (pos + 1)) := fun ty => by
          have e := Lib.run_next_ascii_at (P := Tryd.prog) wr w.heap.size ⟨l.toArray⟩ pos ty HK.out hps2 (by rw [hge]; exact h128)
          rw [hge] at e
          exact e
        have hk1 := Lib.hid (Lib.iterAt_heap wr w.heap.size ⟨l.toArray⟩ pos (pos + 1) HK.out)
        have hb1 := Lib.hid (Lib.below_iterAt HBl.out (Nat.le_refl _) ⟨l.toArray⟩ (pos + 1))
        have HT : Hid (∀ k, (l.take (pos + 1)).all k = ((l.take pos).all k && k (l[pos]'hp))) := by
          show ∀ k, _ = _
          intro k
          rw [take_snoc_ l pos hp, List.all_append]
          simp
        generalize wr.iterAt w.heap.size ⟨l.toArray⟩ (pos + 1) = W1 at hnext hk1 hb1
        clear hge hps2
        by_cases hd : 48 ≤ (l[pos]'hp).toNat ∧ (l[pos]'hp).toNat ≤ 57
        · have HD : Hid (isDig (l[pos]'hp) = true) := by show _ = _; unfold isDig; simp [hd.1, hd.2]
          obtain ⟨hd1, hd2⟩ := hd
          generalize (l[pos]'hp).toNat = c at *
          go_wp2
          go_roundw
          case rel => exact ⟨pos + 1, by omega, hk1.out, by rw [HT.out, HAll.out, HD.out]; rfl, hb1.out⟩
          case measure =>
            have hmu2 : W1.iterPos w.heap.size = pos + 1 := by simp [World.iterPos, hk1.out]
            rw [HMu.out, hmu2]
            omega
        · have HF : Hid (txtOk l = false) := by
            show _ = _
            unfold txtOk
            have h1 : l.all isDig = false := by
              rw [List.all_eq_false]
              exact ⟨l[pos]'hp, List.getElem_mem hp, by unfold isDig; simp; omega⟩
            rw [h1]; rfl
          generalize (l[pos]'hp).toNat = c at *
          by_cases h48 : c < 48
          · clear hd
            go_wp2
            go_ret
            exact ⟨by rw [HF.out]; rfl, hb1.out⟩
          · have h57 : 57 < c := by omega
            clear hd
            go_wp2
            go_ret
            exact ⟨by rw [HF.out]; rfl, hb1.out⟩
      · have hdh := decode_high ⟨l.toArray⟩ pos hps2 (by rw [hge]; omega)
        have hnext : ∀ ty, (Instr.next (.pointer (some ⟨w.heap.size, 0, none⟩)) true ty).run Tryd.prog wr = .ok (.tuple #[.bool true, .int .i64 pos, .int .i32 (Utf8.decode ⟨l.toArray⟩ pos).1]) (wr.iterAt w.heap.size ⟨l.toArray⟩ (pos + (Utf8.decode ⟨l.toArray⟩ pos).2)) := fun ty => Lib.run_next_any_at wr w.heap.size ⟨l.toArray⟩ pos ty HK.out hps2
        have hb1 := Lib.hid (Lib.below_iterAt HBl.out (Nat.le_refl _) ⟨l.toArray⟩ (pos + (Utf8.decode ⟨l.toArray⟩ pos).2))
        have hle := decode_le ⟨l.toArray⟩ pos
        have HF : Hid (txtOk l = false) := by
          show _ = _
          unfold txtOk
          have h1 : l.all isDig = false := by
            rw [List.all_eq_false]
            exact ⟨l[pos]'hp, List.getElem_mem hp, by unfold isDig; simp; omega⟩
          rw [h1]; rfl
        have hr1 := hdh.1
        clear hdh
        generalize wr.iterAt w.heap.size ⟨l.toArray⟩ (pos + (Utf8.decode ⟨l.toArray⟩ pos).2) = W1 at hnext hb1
        generalize (Utf8.decode ⟨l.toArray⟩ pos).1 = r at *
        clear hge hps2
        go_wp2
        go_ret
        exact ⟨by rw [HF.out]; rfl, hb1.out⟩
    · have hnext : ∀ ty, (Instr.next (.pointer (some ⟨w.heap.size, 0, none⟩)) true ty).run Tryd.prog wr = .ok (.tuple #[.bool false]) wr := fun ty => Lib.run_next_end_at wr w.heap.size ⟨l.toArray⟩ pos ty HK.out (by rw [HS.out]; exact hp)
      have HAll2 : Hid (l.all isDig = true) := by
        have e := HAll.out
        rw [List.take_of_length_le (by omega)] at e
        exact e
      by_cases h1 : l = [48]
      · subst h1
        go_wp2
        go_ret
        exact ⟨rfl, HBl.out⟩
      · by_cases h2 : l = []
        · subst h2
          go_wp2
          go_ret
          exact ⟨rfl, HBl.out⟩
        · obtain ⟨c, t, rfl⟩ := List.exists_cons_of_ne_nil h2
          have hnt : ¬c = 48 ∨ ¬t = [] := by
            by_cases hc : c = 48
            · right; rintro rfl; exact h1 (by rw [hc])
            · exact .inl hc
          have H1 := Lib.hid h1
          clear h1 h2
          go_wp2
          go_ret
          refine ⟨ret_bool ?_, HBl.out⟩
          show ((c == 48 && t.isEmpty) || ((c.toNat : Int) != 48)) = _
          have e1 : (c == 48 && t.isEmpty) = false := by
            rcases hnt with h | h
            · simp [h]
            · cases t with
              | nil => exact absurd rfl h
              | cons a b => simp
          rw [e1]
          unfold txtOk
          rw [HAll2.out, decide_eq_false H1.out, decide_eq_true (show c :: t ≠ [] by simp)]
          by_cases hc : c = 48
          · subst hc; rfl
          · have h3 : c.toNat ≠ 48 := fun e => hc (UInt8.toNat_inj.1 e)
            have h2 : (c.toNat : Int) ≠ 48 := by omega
            simp [hc, h2]
end Go.Proofs.YtkajmglpmdhmnaaDoor

/- wide.pushGroup: an absolute value whose text has nine digits more. -/
namespace Go.Proofs.YtkajmglpmdhmnaaDoor
open Go.RowKit

/-- The limbs of a product with y and a sum with g, from the lowest one on, and what is carried. -/
def mgK (g : Nat) (xs : List Nat) (y : Nat) : Nat → List Nat × Nat
  | 0 => ([], g)
  | k + 1 => ((mgK g xs y k).1 ++ [((mgK g xs y k).2 + xs[k]?.getD 0 * y) % 4294967296], ((mgK g xs y k).2 + xs[k]?.getD 0 * y) / 4294967296)
theorem mgK_len (g : Nat) (xs : List Nat) (y k : Nat) : (mgK g xs y k).1.length = k := by
  induction k with
  | zero => rfl
  | succ k ih => simp [mgK, ih]
theorem mgK_good (g : Nat) (xs : List Nat) (y k : Nat) : Good (mgK g xs y k).1 := by
  induction k with
  | zero => exact Good.nil
  | succ k ih => exact ih.append (Good.nil.cons (Nat.mod_lt _ (by omega)))
theorem mgK_carry {g : Nat} {xs : List Nat} {y : Nat} (hx : Good xs) (hg : g < 1000000000) (hy : y ≤ 1000000000) (k : Nat) : (mgK g xs y k).2 ≤ 1000000000 := by
  induction k with
  | zero => show g ≤ _; omega
  | succ k ih =>
    show ((mgK g xs y k).2 + xs[k]?.getD 0 * y) / 4294967296 ≤ _
    have h1 := hx.get k
    have h2 : xs[k]?.getD 0 * y ≤ 4294967295 * 1000000000 := Nat.mul_le_mul (by omega) hy
    omega
theorem mgK_val (g : Nat) (xs : List Nat) (y k : Nat) : val (mgK g xs y k).1 + 4294967296 ^ k * (mgK g xs y k).2 = val (xs.take k) * y + g := by
  induction k with
  | zero => simp [mgK, val_nil]
  | succ k ih =>
    have h1 : (mgK g xs y (k + 1)).1 = (mgK g xs y k).1 ++ [((mgK g xs y k).2 + xs[k]?.getD 0 * y) % 4294967296] := rfl
    have h2 : (mgK g xs y (k + 1)).2 = ((mgK g xs y k).2 + xs[k]?.getD 0 * y) / 4294967296 := rfl
    rw [h1, h2, val_snoc, mgK_len, val_take_succ', pow_succ_]
    generalize (mgK g xs y k).2 = c at *
    generalize xs[k]?.getD 0 = x at *
    have h3 := Nat.div_add_mod (c + x * y) 4294967296
    generalize (c + x * y) / 4294967296 = q at *
    generalize (c + x * y) % 4294967296 = r at *
    have h4 : 4294967296 ^ k * r + 4294967296 * 4294967296 ^ k * q = 4294967296 ^ k * (4294967296 * q + r) := by grind
    have h5 : (val (xs.take k) + 4294967296 ^ k * x) * y = val (xs.take k) * y + 4294967296 ^ k * (x * y) := by grind
    rw [h3, Nat.mul_add] at h4
    rw [h5]
    omega
theorem norm_of_ge {xs : List Nat} (g : Good xs) (h : 0 < xs.length → 4294967296 ^ (xs.length - 1) ≤ val xs) : Norm xs := by
  intro h0
  have hne : xs ≠ [] := fun e => by subst e; cases h0
  have hl : 0 < xs.length := List.length_pos_iff.2 hne
  have h1 := h hl
  have h2 := val_split xs (xs.length - 1) (by omega)
  have h3 : val (xs.drop (xs.length - 1)) = 0 := by
    rw [val_step, show xs.length - 1 + 1 = xs.length from by omega, List.drop_length, val_nil, (last_get hl).1 h0]
  rw [h3, Nat.mul_zero, Nat.add_zero] at h2
  have h5 := val_lt (g.take (xs.length - 1))
  rw [List.length_take, Nat.min_eq_left (by omega)] at h5
  omega
/-- With the carry as a last limb, where there is one, these are the number's limbs. -/
theorem mg_digs {g V n : Nat} (hn : (digs V).length = n) (hg : g < 1000000000) (hc : 0 < (mgK g (digs V) 1000000000 n).2) : (mgK g (digs V) 1000000000 n).1 ++ [(mgK g (digs V) 1000000000 n).2] = digs (V * 1000000000 + g) := by
  have hcy := mgK_carry (digs_good V) hg (Nat.le_refl 1000000000) n
  have hv := mgK_val g (digs V) 1000000000 n
  rw [List.take_of_length_le (by omega), digs_val] at hv
  refine eq_digs ((mgK_good _ _ _ _).append (Good.nil.cons (by omega))) ?_ (by rw [val_snoc, mgK_len]; exact hv)
  intro h0
  rw [List.getLast?_append] at h0
  simp at h0
  omega
theorem mg_digs0 {g V n : Nat} (hn : (digs V).length = n) (hc : (mgK g (digs V) 1000000000 n).2 = 0) : (mgK g (digs V) 1000000000 n).1 = digs (V * 1000000000 + g) := by
  have hv := mgK_val g (digs V) 1000000000 n
  rw [List.take_of_length_le (by omega), digs_val, hc, Nat.mul_zero, Nat.add_zero] at hv
  refine eq_digs (mgK_good _ _ _ _) (norm_of_ge (mgK_good _ _ _ _) fun h0 => ?_) hv
  rw [mgK_len] at h0 ⊢
  rw [hv]
  have h1 := val_ge (digs_norm V) (n - 1) (by omega)
  rw [digs_val] at h1
  omega

/-- A call returns the limbs of v in a slice of the call's own. -/
def ROw (w : World) (B v : Nat) (e : Ending) (w' : World) : Prop := ∃ A c, e = .returned (.slice A (digs v).length c) ∧ Ow w' B (.slice A (digs v).length c) (digs v) ∧ Below B w w' ∧ Lib.OthersKept 39 none w w'
theorem Ow.slice {w : World} {B n c : Nat} {A : Option Addr} {ts : List Nat} (h : Ow w B (.slice A n c) ts) (hn : 0 < ts.length) : ∃ g, A = some ⟨g, 0, none⟩ := by
  rcases h.2 with ⟨_, h0⟩ | ⟨g, cap, cur, e, _⟩
  · omega
  · injection e with e1 _ _
    exact ⟨g, e1⟩

set_option maxRecDepth 100000 in
set_option maxHeartbeats 1000000 in
theorem push_any (w : World) (B : Nat) (A : Option Addr) (n c V g : Nat) (hO : Ow w B (.slice A n c) (digs V)) (hn : (digs V).length = n) (hB : B ≤ w.heap.size) (hg : g < 1000000000) (hlen : n ≤ 1000000) :
    Calls Tryd.prog 78 #[.slice A n c, .int .u64 (g : Int)] w (ROw w B (V * 1000000000 + g)) := by
  have HO := Lib.hid hO
  have HN := Lib.hid hn
  clear hO hn
  go_enter Tryd.func78, Tryd.ntmps78
  go_wp2
  go_loopw [5, 11] (fun cy i wr => ∃ k : Nat, k ≤ n ∧ i = .int .i64 k ∧ cy = .int .u64 ((mgK g (digs V) 1000000000 k).2 : Nat) ∧ Ow wr B (.slice A n c) ((mgK g (digs V) 1000000000 k).1 ++ (digs V).drop k) ∧ Below B w wr ∧ Lib.OthersKept 39 none w wr) (fun _ i _ => n - (intOf i).toNat)
  case atStart => exact ⟨0, Nat.zero_le _, rfl, rfl, HO.out, Below.refl _ _, Lib.OthersKept.refl _ _ _⟩
  case round =>
    obtain ⟨k, hk, rfl, rfl, hU, hb, hkp⟩ := hrel
    have HU := Lib.hid hU
    have HBl := Lib.hid hb
    have HK := Lib.hid hkp
    have hs := hb.size
    clear hU hb hkp
    have hcy := mgK_carry (digs_good V) hg (Nat.le_refl 1000000000) k
    have hml := mgK_len g (digs V) 1000000000 k
    by_cases hlt : k < n
    · obtain ⟨gb, rfl⟩ := HU.out.slice (by rw [List.length_append, hml, List.length_drop, HN.out]; omega)
      have hxg := (digs_good V).get k
      have hmx : (digs V)[k]?.getD 0 * 1000000000 ≤ 4294967295 * 1000000000 := Nat.mul_le_mul_right _ (by omega)
      have hT : Hid ((((mgK g (digs V) 1000000000 k).1 ++ (digs V).drop k).length) = n) := by show _ = _; rw [List.length_append, hml, List.length_drop, HN.out]; omega
      have hU' : Hid (wr.ownsRow B 39 1 (.slice (some ⟨gb, 0, none⟩) n c) n (((mgK g (digs V) 1000000000 k).1 ++ (digs V).drop k).map u32c)) := by
        show World.ownsRow _ _ _ _ _ _ _
        have e := HU.out
        unfold Ow at e
        rw [hT.out] at e
        exact e
      have hel : ((mgK g (digs V) 1000000000 k).1 ++ (digs V).drop k)[k]?.getD 0 = (digs V)[k]?.getD 0 := by
        rw [List.getElem?_append_right (by rw [hml]; exact Nat.le_refl _), hml, Nat.sub_self, List.getElem?_drop, Nat.add_zero]
      have hct : wr.cell? ⟨gb, k, none⟩ = some (.int .u32 ((digs V)[k]?.getD 0 : Nat)) := by
        rw [hU'.out.cellAt k (by omega), getD_map _ k (by rw [hT.out]; exact hlt), hel]
      have hft := hU'.out.frozenAt k
      have HSt : Hid (((mgK g (digs V) 1000000000 k).1 ++ (digs V).drop k).set k (((mgK g (digs V) 1000000000 k).2 + (digs V)[k]?.getD 0 * 1000000000) % 4294967296) = (mgK g (digs V) 1000000000 (k + 1)).1 ++ (digs V).drop (k + 1)) := by
        show _ = _
        rw [List.set_append_right _ _ (by rw [hml]; exact Nat.le_refl _), hml, Nat.sub_self, drop_cons_ _ k (by rw [HN.out]; exact hlt), List.set_cons_zero]
        show _ = ((mgK g (digs V) 1000000000 k).1 ++ [((mgK g (digs V) 1000000000 k).2 + (digs V)[k]?.getD 0 * 1000000000) % 4294967296]) ++ (digs V).drop (k + 1)
        rw [List.append_assoc]
        rfl
      have HCy : Hid ((mgK g (digs V) 1000000000 (k + 1)).2 = ((mgK g (digs V) 1000000000 k).2 + (digs V)[k]?.getD 0 * 1000000000) / 4294967296) := rfl
      have HKi := Lib.hid (Lib.ownsRow_kind hU'.out)
      clear hel hT
      generalize (mgK g (digs V) 1000000000 k).2 = cy at *
      generalize (digs V)[k]?.getD 0 = x at *
      go_wp2
      go_roundw
      case rel =>
        have hst := hU'.out.stored k (u32c ((cy + x * 1000000000) % 4294967296))
        refine ⟨k + 1, by omega, by go_num, by rw [HCy.out]; go_num, ?_, HBl.out.setCell (p := ⟨gb, k, none⟩) (World.ownsRow.lt hU'.out gb rfl).1 _, HK.out.trans ((Lib.OthersKept.refl _ _ _).grown hst.2 HKi.out)⟩
        have e := hst.1
        rw [← List.map_set, HSt.out] at e
        have hl : ((mgK g (digs V) 1000000000 (k + 1)).1 ++ (digs V).drop (k + 1)).length = n := by rw [List.length_append, mgK_len, List.length_drop, HN.out]; omega
        unfold Ow
        rw [hl]
        have e2 : (.int .u32 (((cy : Int) + (x : Int) * 1000000000) % 4294967296) : Value) = u32c ((cy + x * 1000000000) % 4294967296) := by
          unfold u32c
          congr 1
        rw [e2]
        exact e
      case measure => simp [intOf]; omega
    · obtain rfl : k = n := by omega
      have HD : Hid ((digs V).drop k = []) := by show _ = _; exact List.drop_of_length_le (by rw [HN.out]; exact Nat.le_refl _)
      have HU2 : Hid (Ow wr B (.slice A k c) (mgK g (digs V) 1000000000 k).1) := HU.out.eq (by rw [HD.out, List.append_nil])
      rcases Nat.eq_zero_or_pos (mgK g (digs V) 1000000000 k).2 with h0 | h0
      · have HE := Lib.hid (mg_digs0 HN.out h0)
        rw [h0]
        clear h0
        go_wp2
        go_ret
        have HL : Hid ((digs (V * 1000000000 + g)).length = k) := by show _ = _; rw [← HE.out, mgK_len]
        refine ⟨A, c, by rw [HL.out]; rfl, by rw [HL.out]; exact HU2.out.eq HE.out, HBl.out, HK.out⟩
      · have HE := Lib.hid (mg_digs HN.out hg h0)
        generalize hcc : (mgK g (digs V) 1000000000 k).2 = cc at *
        go_wp2_with (at_builtin; refine wpList_append_u32 _ rfl _ _ rfl B _ _ rfl HU2.out _ cc 1 (by omega) (by rw [hml]; omega) (by omega) rfl ?_; intro u' w1 hU1 hg1)
        have hU3 := hU1.eq HE.out
        obtain ⟨A', c', rfl, _⟩ := hU3.lm (digs_good _)
        go_ret
        refine ⟨A', c', rfl, hU3, HBl.out.trans (HU2.out.below (Below.refl B wr) (by omega) hg1), HK.out.trans (((Lib.OthersKept.refl _ _ _).alloc _).grown hg1 (Lib.ownsRow_kind (World.ownsRow.alloc HU2.out _)))⟩
end Go.Proofs.YtkajmglpmdhmnaaDoor

/- wide.read: the absolute value with a text. -/
namespace Go.Proofs.YtkajmglpmdhmnaaDoor
open Go.RowKit

theorem decV_snoc (l : List UInt8) (c : UInt8) : decV (l ++ [c]) = decV l * 10 + (c.toNat - 48) := by
  unfold decV; rw [List.foldl_append]; rfl
theorem decV_take {l : List UInt8} {p : Nat} (h : p < l.length) : decV (l.take (p + 1)) = decV (l.take p) * 10 + ((l[p]'h).toNat - 48) := by
  rw [take_snoc_ l p h, decV_snoc]
theorem all_get {l : List UInt8} (h : l.all isDig = true) {p : Nat} (hp : p < l.length) : 48 ≤ (l[p]'hp).toNat ∧ (l[p]'hp).toNat ≤ 57 := by
  have h1 := List.all_eq_true.1 h _ (List.getElem_mem hp)
  unfold isDig at h1
  simpa using h1
theorem fold_lt : ∀ (l : List UInt8) (a : Nat), l.all isDig = true → l.foldl (fun a c => a * 10 + (c.toNat - 48)) a < (a + 1) * 10 ^ l.length
  | [], a, _ => by simp
  | c :: t, a, h => by
    rw [List.all_cons, Bool.and_eq_true] at h
    have h1 := fold_lt t (a * 10 + (c.toNat - 48)) h.2
    have h2 : c.toNat ≤ 57 := by
      have := h.1
      unfold isDig at this
      simp at this
      exact this.2
    have h3 : (a * 10 + (c.toNat - 48) + 1) * 10 ^ t.length ≤ ((a + 1) * 10) * 10 ^ t.length := Nat.mul_le_mul_right _ (by omega)
    rw [List.foldl_cons, List.length_cons, Nat.pow_succ, Nat.mul_comm (10 ^ t.length), ← Nat.mul_assoc]
    exact Nat.lt_of_lt_of_le h1 h3
theorem decV_lt {l : List UInt8} (h : l.all isDig = true) : decV l < 10 ^ l.length := by
  have := fold_lt l 0 h
  rw [Nat.zero_add, Nat.one_mul] at this
  exact this
theorem all_take {l : List UInt8} (h : l.all isDig = true) (k : Nat) : (l.take k).all isDig = true := by
  rw [List.all_eq_true] at h ⊢
  exact fun c hc => h c (List.mem_of_mem_take hc)
theorem decT_len {l : List UInt8} (h : l.all isDig = true) (k : Nat) : (digs (decV (l.take k))).length ≤ l.length := by
  have h1 := digs_len.2 (Nat.lt_of_lt_of_le (decV_lt (all_take h k)) (Nat.pow_le_pow_left (show 10 ≤ 4294967296 by omega) _))
  rw [List.length_take] at h1
  omega
/-- Where the last whole group ends. -/
def fl (L p : Nat) : Nat := if p < L % 9 then 0 else p - (p - L % 9) % 9
theorem fl_le (L p : Nat) : fl L p ≤ p := by unfold fl; split <;> omega
theorem fl_lt (L p : Nat) : p - fl L p ≤ 8 := by unfold fl; split <;> omega
theorem fl_hit {L p : Nat} (hp : p < L) (h : (L - 1 - p) % 9 = 0) : fl L (p + 1) = p + 1 ∧ (fl L p = 0 ∨ p + 1 - fl L p = 9) := by unfold fl; split <;> split <;> omega
theorem fl_miss {L p : Nat} (hp : p < L) (h : (L - 1 - p) % 9 ≠ 0) : fl L (p + 1) = fl L p := by unfold fl; split <;> split <;> omega
theorem ten_bd {d G : Nat} (h : d ≤ 8) (hG : G < 10 ^ d) : G < 100000000 := Nat.lt_of_lt_of_le hG (by
  have := Nat.pow_le_pow_right (show 1 ≤ 10 by omega) h
  exact this)
theorem Ow.iterAt {w : World} {B : Nat} {v : Value} {ts : List Nat} (h : Ow w B v ts) {k : Nat} {s : ByteArray} {pos : Nat} (hk : w.heap[k]? = some (.stringIter s pos)) (p : Nat) : Ow (w.iterAt k s p) B v ts := by
  refine ⟨h.1, ?_⟩
  rcases h.2 with h0 | ⟨g, cap, cur, e, hb, hg, r⟩
  · exact .inl h0
  · refine .inr ⟨g, cap, cur, e, hb, ?_, r⟩
    rw [Lib.iterAt_other w k g s p (fun e1 => by rw [e1, hk] at hg; cases hg)]
    exact hg
theorem read_step {L p f G d D1 D2 D3 T : Nat} (hT : T = 10 ^ 9) (hp : p < L) (hf : f = fl L p) (h1 : D1 = D2 * 10 ^ (p - f) + G) (h3 : D3 = D1 * 10 + d) (h0 : fl L p = 0 → D2 = 0) (hit : (L - 1 - p) % 9 = 0) : D3 = D2 * T + (G * 10 + d) := by
  have h4 := (fl_hit hp hit).2
  rw [← hf] at h4 h0
  rcases h4 with h5 | h5
  · rw [h0 h5, Nat.zero_mul, Nat.zero_add] at h1
    rw [h0 h5, Nat.zero_mul, Nat.zero_add, h3, h1]
  · have e : T = 10 ^ (p - f) * 10 := by rw [← Nat.pow_succ, show (p - f).succ = 9 from by omega, hT]
    rw [e, h3, h1, Nat.add_mul, Nat.mul_assoc, Nat.add_assoc]

set_option maxRecDepth 100000 in
set_option maxHeartbeats 2000000 in
theorem read_any (w : World) (l : List UInt8) (hd : l.all isDig = true) (hl : l.length ≤ 100000) :
    Calls Tryd.prog 57 #[.string ⟨l.toArray⟩] w fun e w' => ∃ A c, e = .returned (.slice A (digs (decV l)).length c) ∧ Lm w' w'.heap.size A (digs (decV l)).length c (digs (decV l)) ∧ Below w.heap.size w w' := by
  have HD := Lib.hid hd
  have HS := Lib.hid (str_size l)
  have hmk := fun w => run_make0_u32 ((l.length : Int) / 9 + 1) (l.length / 9 + 1) (by omega) (by omega) w
  have r0 := (Ow.made w 0 (l.length / 9 + 1) (Nat.zero_le _) (by omega)).alloc (.stringIter ⟨l.toArray⟩ 0)
  have R0 := Lib.hid r0
  have hk0 := Lib.hid (World.iter_heap (w.alloc (.cells ((zer (l.length / 9 + 1)).map u32c).toArray 39)) ⟨l.toArray⟩ 0)
  have hb0 := Lib.hid (((Below.refl _ w).alloc (Nat.le_refl _) (.cells ((zer (l.length / 9 + 1)).map u32c).toArray 39)).alloc (by show _ ≤ (w.heap.push _).size; rw [Array.size_push]; omega) (.stringIter ⟨l.toArray⟩ 0))
  have hz0 : Hid ((w.alloc (.cells ((zer (l.length / 9 + 1)).map u32c).toArray 39)).heap.size = w.heap.size + 1) := by show (w.heap.push _).size = _; rw [Array.size_push]
  clear hd r0
  go_enter Tryd.func57, Tryd.ntmps57
  go_wp2
  go_loopw [3, 4, 5, 6] (fun mag grp _ _ wr => ∃ pos G c : Nat, ∃ A : Option Addr, pos ≤ l.length ∧ wr.heap[w.heap.size + 1]? = some (.stringIter ⟨l.toArray⟩ pos) ∧ mag = .slice A (digs (decV (l.take (fl l.length pos)))).length c ∧ Ow wr w.heap.size mag (digs (decV (l.take (fl l.length pos)))) ∧ grp = .int .u64 (G : Int) ∧ G < 10 ^ (pos - fl l.length pos) ∧ decV (l.take pos) = decV (l.take (fl l.length pos)) * 10 ^ (pos - fl l.length pos) + G ∧ Below w.heap.size w wr)
    (fun _ _ _ _ wr => l.length - wr.iterPos (w.heap.size + 1))
  case atStart =>
    have e : fl l.length 0 = 0 := by unfold fl; split <;> omega
    refine ⟨0, 0, l.length / 9 + 1, some ⟨w.heap.size, 0, none⟩, Nat.zero_le _, ?_, ?_, ?_, rfl, ?_, ?_, hb0.out⟩
    · have e1 := hk0.out
      rw [hz0.out] at e1
      exact e1
    · rw [e]; rfl
    · rw [e]; exact R0.out
    · rw [e]; decide
    · rw [e]; rfl
  case round =>
    obtain ⟨pos, G, c, A, hps, hk, rfl, hO, rfl, hG, hdv, hbl⟩ := hrel
    have HK := Lib.hid hk
    have HO := Lib.hid hO
    have HBl := Lib.hid hbl
    have HDv := Lib.hid hdv
    have hmu : wr.iterPos (w.heap.size + 1) = pos := by simp [World.iterPos, hk]
    have HMu := Lib.hid hmu
    have hGs := ten_bd (fl_lt l.length pos) hG
    have HG := Lib.hid hG
    clear hk hO hbl hmu hG hdv
    by_cases hp : pos < l.length
    · have hps2 : pos < (⟨l.toArray⟩ : ByteArray).size := by rw [HS.out]; exact hp
      have hge := str_get l pos hp hps2
      have hcd := all_get HD.out hp
      have hnext : ∀ ty, (Instr.next (.pointer (some ⟨w.heap.size + 1, 0, none⟩)) true ty).run Tryd.prog wr = .ok (.tuple #[.bool true, .int .i64 pos, .int .i32 (l[pos]'hp).toNat]) (wr.iterAt (w.heap.size + 1) ⟨l.toArray⟩ (pos + 1)) := fun ty => by
        have e := Lib.run_next_ascii_at (P := Tryd.prog) wr (w.heap.size + 1) ⟨l.toArray⟩ pos ty HK.out hps2 (by rw [hge]; omega)
        rw [hge] at e
        exact e
      have hk1 := Lib.hid (Lib.iterAt_heap wr (w.heap.size + 1) ⟨l.toArray⟩ pos (pos + 1) HK.out)
      have hb1 := Lib.hid (Lib.below_iterAt HBl.out (Nat.le_succ _) ⟨l.toArray⟩ (pos + 1))
      have hO1 := Lib.hid (HO.out.iterAt HK.out (pos + 1))
      have hz1 : w.heap.size ≤ (wr.iterAt (w.heap.size + 1) ⟨l.toArray⟩ (pos + 1)).heap.size := hb1.out.size
      have HT := Lib.hid (decV_take hp)
      have hlen := decT_len HD.out (fl l.length pos)
      generalize wr.iterAt (w.heap.size + 1) ⟨l.toArray⟩ (pos + 1) = W1 at hnext hk1 hb1 hO1 hz1
      generalize (l[pos]'hp).toNat = x at *
      have hGx : G * 10 + (x - 48) < 1000000000 := by omega
      clear hge hps2
      by_cases hit : (l.length - 1 - pos) % 9 = 0
      · have hitI : ((l.length : Int) - 1 - pos) % 9 = 0 := by omega
        have HGx : Hid (((G : Int) * 10 + ((x : Int) - 48)) = ((G * 10 + (x - 48) : Nat) : Int)) := by show _ = _; omega
        go_wp2_with (go_at_call 78; rw [HGx.out]; refine (push_any _ w.heap.size A _ c _ _ hO1.out rfl hz1 hGx (by omega)).mono ?_; rintro e w2 ⟨A2, c2, rfl, hO2, hb2, hkp2⟩; have HO2 := Lib.hid hO2; have HB2 := Lib.hid hb2; have HK2 := Lib.hid (hkp2 _ _ hk1.out (by simp) (fun _ _ e => by cases e)); clear hO2 hb2 hkp2)
        go_roundw
        case rel =>
          have hf1 := (fl_hit hp hit).1
          have hval : decV (l.take (fl l.length pos)) * 1000000000 + (G * 10 + (x - 48)) = decV (l.take (pos + 1)) := (read_step (T := 1000000000) (by decide) hp rfl HDv.out HT.out (fun e => by rw [e]; rfl) hit).symm
          rw [hval] at HO2
          refine ⟨pos + 1, 0, c2, A2, by omega, HK2.out, ?_, ?_, rfl, ?_, ?_, hb1.out.trans HB2.out⟩
          · rw [hf1, hval]
          · rw [hf1, hval]; exact HO2.out
          · rw [hf1, Nat.sub_self]; decide
          · rw [hf1, Nat.sub_self]; omega
        case measure =>
          have hmu2 : w2.iterPos (w.heap.size + 1) = pos + 1 := by simp [World.iterPos, HK2.out]
          rw [HMu.out, hmu2]
          omega
      · have hitI : ¬((l.length : Int) - 1 - pos) % 9 = 0 := by omega
        go_wp2
        go_roundw
        case rel =>
          have hf1 := fl_miss hp hit
          have hle := fl_le l.length pos
          refine ⟨pos + 1, G * 10 + (x - 48), c, A, by omega, hk1.out, ?_, ?_, ?_, ?_, ?_, hb1.out⟩
          · rw [hf1]
          · rw [hf1]; exact hO1.out
          · congr 1; omega
          · rw [hf1, Nat.sub_add_comm hle, Nat.pow_succ]
            have := HG.out
            omega
          · rw [hf1, Nat.sub_add_comm hle, Nat.pow_succ, HT.out, HDv.out, Nat.add_mul, Nat.mul_assoc, Nat.add_assoc]
        case measure =>
          have hmu2 : W1.iterPos (w.heap.size + 1) = pos + 1 := by simp [World.iterPos, hk1.out]
          rw [HMu.out, hmu2]
          omega
    · have hnext : ∀ ty, (Instr.next (.pointer (some ⟨w.heap.size + 1, 0, none⟩)) true ty).run Tryd.prog wr = .ok (.tuple #[.bool false]) wr := fun ty => Lib.run_next_end_at wr (w.heap.size + 1) ⟨l.toArray⟩ pos ty HK.out (by rw [HS.out]; exact hp)
      have hfin : fl l.length pos = l.length := by
        unfold fl
        have : pos = l.length := by omega
        subst this
        split <;> omega
      have HO2 : Hid (Ow wr w.heap.size (.slice A (digs (decV l)).length c) (digs (decV l))) := by
        have e := HO.out
        rw [hfin, List.take_length] at e
        exact e
      rw [hfin, List.take_length]
      obtain ⟨A2, c2, e2, hLm⟩ := HO2.out.lm (digs_good _)
      injection e2 with eA _ eC
      subst eA eC
      have HLm := Lib.hid hLm
      clear hLm
      go_wp2
      go_ret
      exact ⟨A, c, rfl, HLm.out, HBl.out⟩
end Go.Proofs.YtkajmglpmdhmnaaDoor

/- strings.CutPrefix of a minus sign. -/
namespace Go.Proofs.YtkajmglpmdhmnaaDoor
open Go.RowKit

set_option maxHeartbeats 1000000 in
theorem cut_any (s p : ByteArray) (w : World) :
    Calls Tryd.prog 55 #[.string s, .string p] w fun e w' => e = .returned (.tuple #[.string ⟨(Lib.trimPrefix s.data.toList p.data.toList).toArray⟩, .bool (Lib.hasPrefix s.data.toList p.data.toList)]) ∧ w' = w := by
  go_enter Tryd.func55, Tryd.ntmps55
  go_wp2
  · have h1 : p.size ≤ s.size := by assumption
    have h2 : (!((s.extract 0 p.size).toList == p.toList)) = true := by assumption
    have h4 : ((s.extract 0 p.size).toList == p.toList) = false := by simpa using h2
    have h3 : (decide (p.size ≤ s.size) && ((s.extract 0 p.size).toList == p.toList)) = false := by rw [h4, Bool.and_false]
    go_ret2
    refine ⟨?_, rfl⟩
    rw [Lib.trimPrefix_miss s p h3, ← Lib.hasPrefix_raw, h3]
    rfl
  · have h1 : p.size ≤ s.size := by assumption
    have h2 : (!((s.extract 0 p.size).toList == p.toList)) = false := by assumption
    have h4 : ((s.extract 0 p.size).toList == p.toList) = true := by simpa using h2
    go_ret2
    refine ⟨?_, rfl⟩
    rw [Lib.trimPrefix_hit s p h1 h4, ← Lib.hasPrefix_raw, h4, decide_eq_true h1]
    rfl
  · have h1 : ¬ p.size ≤ s.size := by assumption
    have h3 : (decide (p.size ≤ s.size) && ((s.extract 0 p.size).toList == p.toList)) = false := by rw [decide_eq_false h1, Bool.false_and]
    go_ret2
    refine ⟨?_, rfl⟩
    rw [Lib.trimPrefix_miss s p h3, ← Lib.hasPrefix_raw, h3]
    rfl
/-- Whether a text begins with a minus sign, and what is behind it. -/
def minus : List UInt8 → Bool × List UInt8
  | 45 :: t => (true, t)
  | l => (false, l)
theorem minus_pfx (l : List UInt8) : Lib.hasPrefix l [45] = (minus l).1 ∧ Lib.trimPrefix l [45] = (minus l).2 := by
  cases l with
  | nil => exact ⟨rfl, rfl⟩
  | cons c t =>
    by_cases h : c = 45
    · subst h
      exact ⟨rfl, rfl⟩
    · have h0 : (45 == c) = false := by simpa using fun e => h e.symm
      have h1 : Lib.hasPrefix (c :: t) [45] = false := by
        unfold Lib.hasPrefix
        simp [List.isPrefixOf, h0]
      have h2 : minus (c :: t) = (false, c :: t) := by
        unfold minus
        split
        · rename_i e
          injection e with e1 _
          exact absurd e1 h
        · rfl
      rw [h1, h2]
      exact ⟨rfl, by unfold Lib.trimPrefix; rw [h1]; rfl⟩
theorem cut_minus (l : List UInt8) (w : World) :
    Calls Tryd.prog 55 #[.string ⟨l.toArray⟩, .string ⟨#[45]⟩] w fun e w' => e = .returned (.tuple #[.string ⟨(minus l).2.toArray⟩, .bool (minus l).1]) ∧ w' = w := by
  refine (cut_any ⟨l.toArray⟩ ⟨#[45]⟩ w).mono ?_
  rintro e w' ⟨rfl, rfl⟩
  refine ⟨?_, rfl⟩
  have h := minus_pfx l
  show Ending.returned (.tuple #[.string ⟨(Lib.trimPrefix l [45]).toArray⟩, .bool (Lib.hasPrefix l [45])]) = _
  rw [h.1, h.2]
theorem minus_len (l : List UInt8) : (minus l).2.length ≤ l.length := by
  unfold minus
  split
  · exact Nat.le_succ _
  · exact Nat.le_refl _
end Go.Proofs.YtkajmglpmdhmnaaDoor

