/- Lemmas, part 2. -/
import Derived.Deep.RegionHeld3
import Derived.RegionTactic
import Derived.ChangeAlike
import Derived.BigRegion
import Derived.Deep.RegionWith
import Derived.Deep.DeepCutAuto
import Derived.Deep.CutBlock
import Derived.Test.Ytegpckhfncblhaaasks1
/- Intervals: corners: an operation at the four pairs of ends. -/
namespace Go.Proofs.Ytegpckhfncblhaa
open Go.RowKit

/-- Block g has eight cells that may be written, and the first m of them are done. -/
structure Arr (w : World) (g m : Nat) (L : List Int) : Prop where
  any : ∀ j, j < 8 → (w.cell? ⟨g, j, none⟩).isSome = true ∧ w.frozen? ⟨g, j, none⟩ = false
  done : ∀ j, j < m → w.cell? ⟨g, j, none⟩ = some (.int .i64 (L[j]?.getD 0))
  lt : g < w.heap.size
theorem Arr.via {w w' : World} {g m : Nat} {L : List Int} (p : Arr w g m L) (hb : Below w.heap.size w w') : Arr w' g m L :=
  ⟨fun j hj => by
    have h1 := p.any j hj
    rw [hb.cell (p := ⟨g, j, none⟩) p.lt, hb.frozen (p := ⟨g, j, none⟩) p.lt]
    exact h1, fun j hj => (hb.cell (p := ⟨g, j, none⟩) p.lt).trans (p.done j hj), Nat.lt_of_lt_of_le p.lt hb.size⟩
theorem Arr.alloc {w : World} {g m : Nat} {L : List Int} (p : Arr w g m L) (o : Obj) : Arr (w.alloc o) g m L := p.via ((Below.refl _ _).alloc (Nat.le_refl _) o)
theorem Arr.new (w : World) (k : Nat) (hk : w.heap.size = k) (L : List Int) : Arr (w.alloc (.cells #[.int .i64 0, .int .i64 0, .int .i64 0, .int .i64 0, .int .i64 0, .int .i64 0, .int .i64 0, .int .i64 0] 23)) k 0 L := by
  subst hk
  refine ⟨fun j hj => ?_, fun j hj => absurd hj (by omega), by simp⟩
  rcases (show j = 0 ∨ j = 1 ∨ j = 2 ∨ j = 3 ∨ j = 4 ∨ j = 5 ∨ j = 6 ∨ j = 7 by omega) with rfl | rfl | rfl | rfl | rfl | rfl | rfl | rfl <;> constructor <;> go_simp
theorem Arr.put {w : World} {g m : Nat} {L : List Int} (p : Arr w g m L) (hm : m + 1 < 8) (x y : Int) (hx : L[m]?.getD 0 = x) (hy : L[m + 1]?.getD 0 = y) :
    Arr ((w.setCell ⟨g, m, none⟩ (.int .i64 x)).setCell ⟨g, m + 1, none⟩ (.int .i64 y)) g (m + 2) L := by
  have ne : ∀ i j : Nat, i ≠ j → (⟨g, i, none⟩ : Addr) ≠ ⟨g, j, none⟩ := fun i j h e => h (congrArg Addr.off e)
  obtain ⟨u, hu⟩ := Option.isSome_iff_exists.1 (p.any m (by omega)).1
  obtain ⟨v, hv⟩ := Option.isSome_iff_exists.1 (p.any (m + 1) (by omega)).1
  have c0 : ((w.setCell ⟨g, m, none⟩ (.int .i64 x)).setCell ⟨g, m + 1, none⟩ (.int .i64 y)).cell? ⟨g, m, none⟩ = some (.int .i64 x) := by
    rw [World.cell?_setCell_other _ _ _ _ (ne _ _ (by omega))]
    exact World.cell?_setCell_same _ _ _ hu
  have c1 : ((w.setCell ⟨g, m, none⟩ (.int .i64 x)).setCell ⟨g, m + 1, none⟩ (.int .i64 y)).cell? ⟨g, m + 1, none⟩ = some (.int .i64 y) := by
    refine World.cell?_setCell_same (u := v) _ _ _ ?_
    rw [World.cell?_setCell_other _ _ _ _ (ne _ _ (by omega))]
    exact hv
  have co : ∀ j, j ≠ m → j ≠ m + 1 → ((w.setCell ⟨g, m, none⟩ (.int .i64 x)).setCell ⟨g, m + 1, none⟩ (.int .i64 y)).cell? ⟨g, j, none⟩ = w.cell? ⟨g, j, none⟩ := fun j h1 h2 => by
    rw [World.cell?_setCell_other _ _ _ _ (ne _ _ (by omega)), World.cell?_setCell_other _ _ _ _ (ne _ _ (by omega))]
  refine ⟨fun j hj => ⟨?_, by have := (p.any j hj).2; simpa using this⟩, fun j hj => ?_, by simpa [World.size_setCell] using p.lt⟩
  · by_cases h1 : j = m
    · subst h1; rw [c0]; rfl
    · by_cases h2 : j = m + 1
      · subst h2; rw [c1]; rfl
      · rw [co j h1 h2]; exact (p.any j hj).1
  · by_cases h1 : j = m
    · subst h1; rw [c0, hx]
    · by_cases h2 : j = m + 1
      · subst h2; rw [c1, hy]
      · rw [co j h1 h2]; exact p.done j (by omega)
theorem Arr.far {w : World} {g h m : Nat} {L : List Int} (p : Arr w g m L) (hne : g ≠ h) (x y : Value) : Arr ((w.setCell ⟨h, 0, none⟩ x).setCell ⟨h, 1, none⟩ y) g m L := by
  have e : ∀ (i j : Nat), (⟨h, i, none⟩ : Addr) ≠ ⟨g, j, none⟩ := fun i j e => hne (congrArg Addr.block e).symm
  refine ⟨fun j hj => ?_, fun j hj => ?_, by simpa [World.size_setCell] using p.lt⟩
  · rw [World.cell?_setCell_other _ _ _ _ (e _ _), World.cell?_setCell_other _ _ _ _ (e _ _)]
    have := p.any j hj
    simpa using this
  · rw [World.cell?_setCell_other _ _ _ _ (e _ _), World.cell?_setCell_other _ _ _ _ (e _ _)]
    exact p.done j hj
theorem Pr.farAt {w : World} {g h m : Nat} {a b : Value} (p : Pr w g a b) (hne : g ≠ h) (x y : Value) : Pr ((w.setCell ⟨h, m, none⟩ x).setCell ⟨h, m + 1, none⟩ y) g a b := by
  have e : ∀ (i j : Nat), (⟨h, i, none⟩ : Addr) ≠ ⟨g, j, none⟩ := fun i j e => hne (congrArg Addr.block e).symm
  refine ⟨?_, ?_, by have := p.f0; simpa using this, by have := p.f1; simpa using this, by simpa [World.size_setCell] using p.lt⟩
  · rw [World.cell?_setCell_other _ _ _ _ (e _ _), World.cell?_setCell_other _ _ _ _ (e _ _)]; exact p.c0
  · rw [World.cell?_setCell_other _ _ _ _ (e _ _), World.cell?_setCell_other _ _ _ _ (e _ _)]; exact p.c1
theorem below_setAt {B : Nat} {w w1 : World} (h : Below B w w1) {g m : Nat} (hg : B ≤ g) (x y : Value) : Below B w ((w1.setCell ⟨g, m, none⟩ x).setCell ⟨g, m + 1, none⟩ y) :=
  (h.setCell (p := ⟨g, m, none⟩) hg x).setCell (p := ⟨g, m + 1, none⟩) hg y
theorem Iv1.of {w : World} {g m k : Nat} {L : List Int} (p : Arr w g m L) (hk : k + 1 < m) {x y : Int} (hx : L[k]?.getD 0 = x) (hy : L[k + 1]?.getD 0 = y) : Iv1 w g k x y :=
  ⟨by rw [p.done k (by omega), hx], by rw [p.done (k + 1) hk, hy], p.lt⟩
theorem iv_info : (Try.prog.info? 23).map (fun i => (i.zero, i.size, i.bytes)) = some (some (.agg #[.int .i64 0, .int .i64 0]), 2, 16) := by kernel_rfl
/-- append of one interval to a slice that has room. -/
theorem wpList_append_iv (w : World) {ops : Array Oper} {rest : List Oper} {o : Oper} {a : Act} {Q : Exit → Act → World → Prop} (hgd : o.guard = none) (s x : Operand)
    (ho : o.op = .call { callee := .builtin .append, args := #[s, x], argTypes := #[63, 63] }) (g n m : Nat) (L : List Int) (hs : a.eval s = .slice (some ⟨g, 0, none⟩) n 4) (hm : m = n * 2) (hn : n < 4) (hA : Arr w g m L)
    (h : Nat) (hx : a.eval x = .slice (some ⟨h, 0, none⟩) 1 1) (lo hi : Int) (hC : Iv1 w h 0 lo hi)
    (hK : wpList Try.prog ops Q rest (a.put o.dst (.slice (some ⟨g, 0, none⟩) (n + 1) 4)) ((w.setCell ⟨g, m, none⟩ (.int .i64 lo)).setCell ⟨g, m + 1, none⟩ (.int .i64 hi))) :
    wpList Try.prog ops Q (o :: rest) a w := by
  obtain ⟨i0, hi0, hz0, hz1, hz2⟩ := info_parts iv_info
  refine wpList_plain hgd fun K hKK => ?_
  have hr := run_append_room_cells (P := Try.prog) w 63 o.type 23 i0 Try.underlying63 hi0 g 0 n 4 ⟨h, 0, none⟩ 1 1 [.int .i64 lo, .int .i64 hi] (by rw [hz1]; rfl)
    (fun j u hu => by
      match j, hu with
      | 0, hu => simp at hu; subst hu; exact hC.c0
      | 1, hu => simp at hu; subst hu; exact hC.c1) (by simp [Value.oneCell']) (by omega) (fun j hj => by rw [hz1]; simp at hj; exact (hA.any _ (by omega)).1) (fun j hj => by rw [hz1]; simp at hj; exact (hA.any _ (by omega)).2)
  rw [hz1, Nat.zero_add, ← hm] at hr
  unfold Oper.wp execOp
  simp only [ho, resolve, invoke, builtin, Sem.run_bind, Sem.run_pure, Result.andThen_ok, List.map_toArray, List.map_cons, List.map_nil, hs, hx, hr]
  exact hKK _ _ hK
end Go.Proofs.Ytegpckhfncblhaa

/- Intervals: Add, Sub, Min, Max, Hull, Neg, Abs of package span. -/
namespace Go.Proofs.Ytegpckhfncblhaa
open Go.RowKit

theorem ivIn_of {lo hi : Int} (h : ivC lo hi = 0) : IvIn lo hi := ivC_le h
set_option maxRecDepth 100000 in
theorem sneg_any (w : World) (al ah : Int) : Calls Try.prog 4 #[iv al ah] w (RO w (j1 al ah (mkI (-ah) (-al)))) := by
  have PR := Lib.hid (Pr.new (w.alloc (ivB al ah)) (w.heap.size + 1) (by simp) (.int .i64 0) (.int .i64 0) 23)
  have BW : Hid (Below w.heap.size w ((w.alloc (ivB al ah)).alloc (ivB 0 0))) := sbal (sbal (Below.refl _ _) _) _
  have hcf : ∀ (u : Value) (W : World), (callFunc 19 #[u]).run Try.prog W = .ok (.enter 19 #[u]) W := fun u W => by go_simp
  have J := Lib.hid (fun W => change_any W 19 al ah (-ah) (-al) hcf fun ha => ⟨(by have := ivC_le ha; omega), fun W' => negative_any W' al ah (by have := ivC_le ha; omega) (by have := ivC_le ha; omega) (by have := ivC_le ha; omega) (by have := ivC_le ha; omega)⟩)
  clear hcf
  go_enter Try.func4, Try.ntmps4
  go_wp2_with fail
  generalize (w.alloc (ivB al ah)).alloc (ivB 0 0) = W0 at *
  refine (J.out _).mono ?_
  rintro e w1 ⟨rfl, hb⟩
  have P3 := Lib.hid (PR.out.via hb)
  have B1 := Lib.hid (sbtr BW.out hb)
  clear hb PR BW J
  have ⟨r0, r1, f0, f1, rl⟩ := P3.out
  go_wp2
  exact post_iv Try.results4 rfl rfl (P3.out.set _ _) ⟨rfl, below_set2 B1.out (by omega) _ _⟩
set_option maxRecDepth 100000 in
theorem sabs_any (w : World) (al ah : Int) : Calls Try.prog 10 #[iv al ah] w (RO w (j1 al ah (mkI (max al (max (-ah) 0)) (max (-al) ah)))) := by
  have PR := Lib.hid (Pr.new (w.alloc (ivB al ah)) (w.heap.size + 1) (by simp) (.int .i64 0) (.int .i64 0) 23)
  have BW : Hid (Below w.heap.size w ((w.alloc (ivB al ah)).alloc (ivB 0 0))) := sbal (sbal (Below.refl _ _) _) _
  have hcf : ∀ (u : Value) (W : World), (callFunc 23 #[u]).run Try.prog W = .ok (.enter 23 #[u]) W := fun u W => by go_simp
  have J := Lib.hid (fun W => change_any W 23 al ah (max al (max (-ah) 0)) (max (-al) ah) hcf fun ha => ⟨(by have := ivC_le ha; omega), fun W' => absolute_any W' al ah (ivIn_of ha)⟩)
  clear hcf
  go_enter Try.func10, Try.ntmps10
  go_wp2_with fail
  generalize (w.alloc (ivB al ah)).alloc (ivB 0 0) = W0 at *
  refine (J.out _).mono ?_
  rintro e w1 ⟨rfl, hb⟩
  have P3 := Lib.hid (PR.out.via hb)
  have B1 := Lib.hid (sbtr BW.out hb)
  clear hb PR BW J
  have ⟨r0, r1, f0, f1, rl⟩ := P3.out
  go_wp2
  exact post_iv Try.results10 rfl rfl (P3.out.set _ _) ⟨rfl, below_set2 B1.out (by omega) _ _⟩
end Go.Proofs.Ytegpckhfncblhaa

/- Intervals: order, Meet, In, Cmp, Mid on both sides; Add, Sub, Neg, Abs, Min, Max, Hull of the reference. -/
namespace Go.Proofs.Ytegpckhfncblhaa
open Go.RowKit

def RB2 (w : World) (v : Bool) (err : Int) (e : Ending) (w' : World) : Prop := e = .returned (.tuple #[.bool v, .int .i64 err]) ∧ Below w.heap.size w w'
def RI2 (w : World) (v err : Int) (e : Ending) (w' : World) : Prop := e = .returned (.tuple #[.int .i64 v, .int .i64 err]) ∧ Below w.heap.size w w'
def ordI (al ah bl bh : Int) : Int := if ah < bl then -1 else if bh < al then 1 else 0
def inR (al ah bl bh : Int) : Bool := decide (ivB2 al ah bl bh = 0) && (decide (bl ≤ al) && decide (ah ≤ bh))
def ordR (al ah bl bh : Int) : Int := if ivB2 al ah bl bh = 0 then ordI al ah bl bh else 0
def meetO (al ah bl bh : Int) : Out := if ordI al ah bl bh = 0 then mkI (max al bl) (min ah bh) else ⟨0, 0, 6⟩
def midR (al ah : Int) : Int := if ivC al ah = 0 then (al + ah) / 2 else 0
theorem ret_bi {a b : Bool} {c d : Int} (h1 : a = b) (h2 : c = d) : Ending.returned (.tuple #[.bool a, .int .i64 c]) = .returned (.tuple #[.bool b, .int .i64 d]) := by rw [h1, h2]
theorem ret_ii {a b c d : Int} (h1 : a = b) (h2 : c = d) : Ending.returned (.tuple #[.int .i64 a, .int .i64 c]) = .returned (.tuple #[.int .i64 b, .int .i64 d]) := by rw [h1, h2]
set_option maxRecDepth 100000 in
set_option maxHeartbeats 1000000 in
theorem smid_any (w : World) (al ah : Int) : Calls Try.prog 14 #[iv al ah] w (RI2 w (midR al ah) (ivC al ah)) := by
  have PA := Lib.hid (Pr.new w (w.heap.size) rfl (.int .i64 al) (.int .i64 ah) 23)
  have BW : Hid (Below w.heap.size w (w.alloc (ivB al ah))) := (sbal (Below.refl _ _) _)
  go_enter Try.func14, Try.ntmps14
  go_wp2_with fail
  generalize w.alloc (ivB al ah) = W0 at *
  refine (scheck_any _ al ah).mono ?_
  rintro e w1 ⟨rfl, hb⟩
  have P1 := Lib.hid (PA.out.via hb)
  have B1 := Lib.hid (sbtr BW.out hb)
  clear hb PA BW
  rcases ivC_cases al ah with ⟨h, ha1, ha2, ha3⟩ | ⟨h, _⟩
  · rw [h]
    have HH := Lib.hid h
    clear h
    have ⟨a0, a1, a2, a3, a4⟩ := P1.out
    go_wp2
    go_ret2
    exact ⟨ret_ii (by unfold midR; rw [if_pos HH.out]) HH.out.symm, B1.out⟩
  · rw [h]
    have HH := Lib.hid h
    clear h
    go_wp2
    go_ret2
    exact ⟨ret_ii (by unfold midR; rw [if_neg (by rw [HH.out]; decide)]) HH.out.symm, B1.out⟩
set_option maxRecDepth 100000 in
set_option maxHeartbeats 1000000 in
theorem rmid_any (w : World) (al ah : Int) : Calls Try.prog 15 #[iv al ah] w (RI2 w (midR al ah) (ivC al ah)) := by
  have PA := Lib.hid (Pr.new w (w.heap.size) rfl (.int .i64 al) (.int .i64 ah) 23)
  have BW : Hid (Below w.heap.size w (w.alloc (ivB al ah))) := (sbal (Below.refl _ _) _)
  go_enter Try.func15, Try.ntmps15
  go_wp2_with fail
  generalize w.alloc (ivB al ah) = W0 at *
  refine (rscheck_any _ al ah).mono ?_
  rintro e w1 ⟨rfl, hb⟩
  have P1 := Lib.hid (PA.out.via hb)
  have B1 := Lib.hid (sbtr BW.out hb)
  clear hb PA BW
  rcases ivC_cases al ah with ⟨h, ha1, ha2, ha3⟩ | ⟨h, _⟩
  · rw [h]
    have HH := Lib.hid h
    clear h
    have ⟨a0, a1, a2, a3, a4⟩ := P1.out
    go_wp2
    go_ret2
    exact ⟨ret_ii (by unfold midR; rw [if_pos HH.out]) HH.out.symm, B1.out⟩
  · rw [h]
    have HH := Lib.hid h
    clear h
    have ⟨a0, a1, a2, a3, a4⟩ := P1.out
    go_wp2_with fail
    refine (rscheck_any _ al ah).mono ?_
    rintro e w2 ⟨rfl, hb⟩
    have B2 := Lib.hid (sbtr B1.out hb)
    clear hb a0 a1 a2 a3 a4
    rw [HH.out]
    go_wp2
    go_ret2
    exact ⟨ret_ii (by unfold midR; rw [if_neg (by rw [HH.out]; decide)]) HH.out.symm, B2.out⟩
end Go.Proofs.Ytegpckhfncblhaa

/- Intervals: Add, Sub, Neg, Min, Max, Hull, Abs of the reference; Meet on both sides. -/
namespace Go.Proofs.Ytegpckhfncblhaa
open Go.RowKit

theorem j2_ok {al ah bl bh : Int} {o : Out} (h : ivB2 al ah bl bh = 0) : j2 al ah bl bh o = o := by unfold j2; rw [if_pos h]
theorem j2_bad {al ah bl bh : Int} {o : Out} (h : ivB2 al ah bl bh = 8) : j2 al ah bl bh o = ⟨0, 0, 8⟩ := by unfold j2; rw [if_neg (by rw [h]; decide), h]
theorem j1_ok {al ah : Int} {o : Out} (h : ivC al ah = 0) : j1 al ah o = o := by unfold j1; rw [if_pos h]
theorem j1_bad {al ah : Int} {o : Out} (h : ivC al ah = 8) : j1 al ah o = ⟨0, 0, 8⟩ := by unfold j1; rw [if_neg (by rw [h]; decide), h]
theorem mk_eq {a b c d : Int} (h1 : a = c) (h2 : b = d) : mkI a b = mkI c d := by rw [h1, h2]
theorem ret_mk {X Y : Int} {o : Out} (h : mkI X Y = o) : Ending.returned (.tuple #[iv (mkI X Y).lo (mkI X Y).hi, .int .i64 (mkI X Y).err]) = .returned (.tuple #[iv o.lo o.hi, .int .i64 o.err]) := by rw [h]
theorem ret_out {a b c : Int} {o : Out} (h : o = ⟨a, b, c⟩) : Ending.returned (.tuple #[iv a b, .int .i64 c]) = .returned (.tuple #[iv o.lo o.hi, .int .i64 o.err]) := by rw [h]
set_option maxRecDepth 100000 in
set_option maxHeartbeats 1000000 in
theorem rneg_any (w : World) (al ah : Int) : Calls Try.prog 5 #[iv al ah] w (RO w (j1 al ah (mkI (-ah) (-al)))) := by
  have PA := Lib.hid ((Pr.new w (w.heap.size) rfl (.int .i64 al) (.int .i64 ah) 23).alloc (ivB 0 0))
  have PR := Lib.hid (Pr.new (w.alloc (ivB al ah)) (w.heap.size + 1) (by simp) (.int .i64 0) (.int .i64 0) 23)
  have BW : Hid (Below w.heap.size w ((w.alloc (ivB al ah)).alloc (ivB 0 0))) := (sbal (sbal (Below.refl _ _) _) _)
  go_enter Try.func5, Try.ntmps5
  go_wp2_with fail
  generalize (w.alloc (ivB al ah)).alloc (ivB 0 0) = W0 at *
  refine (rscheck_any _ al ah).mono ?_
  rintro e w1 ⟨rfl, hb⟩
  have P1 := Lib.hid (PA.out.via hb)
  have P3 := Lib.hid (PR.out.via hb)
  have B1 := Lib.hid (sbtr BW.out hb)
  clear hb PA PR BW
  rcases ivC_cases al ah with ⟨h, ha1, ha2, ha3⟩ | ⟨h, _⟩
  · rw [h]
    have HH := Lib.hid h
    clear h
    have ⟨a0, a1, a2, a3, a4⟩ := P1.out
    go_wp2_with fail
    refine (rmade_any _ (-ah) (-al)).mono ?_
    rintro e w3 ⟨rfl, hb⟩
    have B3 := Lib.hid (sbtr B1.out hb)
    have P5 := Lib.hid (P3.out.via hb)
    clear hb a0 a1 a2 a3 a4
    have ⟨r0, r1, r2, r3, r4⟩ := P5.out
    go_wp2
    exact post_iv Try.results5 rfl rfl (P5.out.set _ _) ⟨by rw [j1_ok HH.out]; rfl, below_set2 B3.out (by omega) _ _⟩
  · rw [h]
    have HH := Lib.hid h
    clear h
    have ⟨a0, a1, a2, a3, a4⟩ := P1.out
    go_wp2_with fail
    refine (rscheck_any _ al ah).mono ?_
    rintro e w2 ⟨rfl, hb⟩
    have B2 := Lib.hid (sbtr B1.out hb)
    have P4 := Lib.hid (P3.out.via hb)
    clear hb a0 a1 a2 a3 a4
    rw [HH.out]
    have ⟨r0, r1, r2, r3, r4⟩ := P4.out
    go_wp2
    exact post_iv Try.results5 rfl rfl (P4.out.set _ _) ⟨by rw [j1_bad HH.out]; rfl, below_set2 B2.out (by omega) _ _⟩
theorem out_eq {a b c d : Int} (h1 : a = c) (h2 : b = d) : (⟨a, b, 0⟩ : Out) = ⟨c, d, 0⟩ := by rw [h1, h2]
set_option maxRecDepth 100000 in
set_option maxHeartbeats 1000000 in
theorem rabsi_any (w : World) (al ah : Int) : Calls Try.prog 11 #[iv al ah] w (RO w (j1 al ah (mkI (max al (max (-ah) 0)) (max (-al) ah)))) := by
  have PA := Lib.hid ((Pr.new w (w.heap.size) rfl (.int .i64 al) (.int .i64 ah) 23).alloc (ivB 0 0))
  have PR := Lib.hid (Pr.new (w.alloc (ivB al ah)) (w.heap.size + 1) (by simp) (.int .i64 0) (.int .i64 0) 23)
  have BW : Hid (Below w.heap.size w ((w.alloc (ivB al ah)).alloc (ivB 0 0))) := (sbal (sbal (Below.refl _ _) _) _)
  go_enter Try.func11, Try.ntmps11
  go_wp2_with fail
  generalize (w.alloc (ivB al ah)).alloc (ivB 0 0) = W0 at *
  refine (rscheck_any _ al ah).mono ?_
  rintro e w1 ⟨rfl, hb⟩
  have P1 := Lib.hid (PA.out.via hb)
  have P3 := Lib.hid (PR.out.via hb)
  have B1 := Lib.hid (sbtr BW.out hb)
  clear hb PA PR BW
  rcases ivC_cases al ah with ⟨h, ha1, ha2, ha3⟩ | ⟨h, _⟩
  · rw [h]
    have HH := Lib.hid h
    clear h
    have ⟨a0, a1, a2, a3, a4⟩ := P1.out
    have ⟨r0, r1, r2, r3, r4⟩ := P3.out
    by_cases g1 : 0 ≤ al
    · go_wp2
      exact post_iv Try.results11 rfl rfl (P3.out.set _ _) ⟨ret_out ((j1_ok HH.out).trans (by rw [mkI_in (by omega) (by omega)]; exact out_eq (by omega) (by omega))), below_set2 B1.out (by omega) _ _⟩
    · by_cases g2 : ah ≤ 0
      · go_wp2_with fail
        all_goals
          refine (rmade_any _ _ _).mono ?_
          rintro e w3 ⟨rfl, hb⟩
          have B3 := Lib.hid (sbtr B1.out hb)
          have P5 := Lib.hid (P3.out.via hb)
          clear hb r0 r1 r2 r3 r4 a0 a1 a2 a3 a4
          have ⟨r0, r1, r2, r3, r4⟩ := P5.out
          go_wp2
          exact post_iv Try.results11 rfl rfl (P5.out.set _ _) ⟨ret_mk ((mk_eq (by omega) (by omega)).trans (j1_ok HH.out).symm), below_set2 B3.out (by omega) _ _⟩
      · go_wp2_with fail
        all_goals
          refine (rmade_any _ _ _).mono ?_
          rintro e w3 ⟨rfl, hb⟩
          have B3 := Lib.hid (sbtr B1.out hb)
          have P5 := Lib.hid (P3.out.via hb)
          clear hb r0 r1 r2 r3 r4 a0 a1 a2 a3 a4
          have ⟨r0, r1, r2, r3, r4⟩ := P5.out
          go_wp2
          exact post_iv Try.results11 rfl rfl (P5.out.set _ _) ⟨ret_mk ((mk_eq (by omega) (by omega)).trans (j1_ok HH.out).symm), below_set2 B3.out (by omega) _ _⟩
  · rw [h]
    have HH := Lib.hid h
    clear h
    have ⟨a0, a1, a2, a3, a4⟩ := P1.out
    go_wp2_with fail
    refine (rscheck_any _ al ah).mono ?_
    rintro e w2 ⟨rfl, hb⟩
    have B2 := Lib.hid (sbtr B1.out hb)
    have P4 := Lib.hid (P3.out.via hb)
    clear hb a0 a1 a2 a3 a4
    rw [HH.out]
    have ⟨r0, r1, r2, r3, r4⟩ := P4.out
    go_wp2
    exact post_iv Try.results11 rfl rfl (P4.out.set _ _) ⟨by rw [j1_bad HH.out]; rfl, below_set2 B2.out (by omega) _ _⟩
theorem meet_no {al ah bl bh : Int} (g : ah < bl ∨ bh < al) : meetO al ah bl bh = ⟨0, 0, 6⟩ := by
  unfold meetO ordI
  by_cases h1 : ah < bl
  · rw [if_pos h1, if_neg (by decide)]
  · have h2 : bh < al := by omega
    rw [if_neg h1, if_pos h2, if_neg (by decide)]
theorem meet_yes {al ah bl bh : Int} (g : ¬ (ah < bl ∨ bh < al)) : meetO al ah bl bh = mkI (max al bl) (min ah bh) := by
  unfold meetO ordI
  have h1 : ¬ ah < bl := by omega
  have h2 : ¬ bh < al := by omega
  rw [if_neg h1, if_neg h2, if_pos rfl]
end Go.Proofs.Ytegpckhfncblhaa

/- Intervals: Meet of package span; the laws of the words of both sides. -/
namespace Go.Proofs.Ytegpckhfncblhaa
open Go.RowKit

theorem ord_no {al ah bl bh : Int} (g : ah < bl ∨ bh < al) : ordI al ah bl bh = -1 ∨ ordI al ah bl bh = 1 := by
  unfold ordI
  by_cases h1 : ah < bl
  · rw [if_pos h1]; exact .inl rfl
  · have h2 : bh < al := by omega
    rw [if_neg h1, if_pos h2]; exact .inr rfl
theorem ord_yes {al ah bl bh : Int} (g : ¬ (ah < bl ∨ bh < al)) : ordI al ah bl bh = 0 := by
  have h1 : ¬ ah < bl := by omega
  have h2 : ¬ bh < al := by omega
  unfold ordI; rw [if_neg h1, if_neg h2]
end Go.Proofs.Ytegpckhfncblhaa

/- Intervals: times, quotient, Mul and Div of package span. -/
namespace Go.Proofs.Ytegpckhfncblhaa
open Go.RowKit

def mulLo (al ah bl bh : Int) : Int := mn4 (al * bl) (al * bh) (ah * bl) (ah * bh) / 1099511627776
def mulHi (al ah bl bh : Int) : Int := cdiv (mx4 (al * bl) (al * bh) (ah * bl) (ah * bh)) 1099511627776
theorem mul_le (al ah bl bh : Int) : mulLo al ah bl bh ≤ mulHi al ah bl bh := by
  unfold mulLo mulHi
  have h : mn4 (al * bl) (al * bh) (ah * bl) (ah * bh) ≤ mx4 (al * bl) (al * bh) (ah * bl) (ah * bh) := mn_mx (Int.le_refl _) (Int.le_refl _) (Int.le_refl _) (Int.le_refl _)
  exact Int.le_trans (fdiv_le_cdiv (by omega)) (cdiv_mono (by omega) h)
/-- The ends of the quotients, the divisors greater than 0. -/
def dvLo (p q c d : Int) : Int := mn4 (p / c) (p / d) (q / c) (q / d)
def dvHi (p q c d : Int) : Int := mx4 (cdiv p c) (cdiv p d) (cdiv q c) (cdiv q d)
theorem dv_le {p q c d : Int} (hc : 0 < c) (hd : 0 < d) : dvLo p q c d ≤ dvHi p q c d := mn_mx (fdiv_le_cdiv hc) (fdiv_le_cdiv hd) (fdiv_le_cdiv hc) (fdiv_le_cdiv hd)
def divO (al ah bl bh : Int) : Out :=
  if bl ≤ 0 ∧ 0 ≤ bh then ⟨0, 0, 18⟩ else if 0 < bl then mkI (dvLo (al * 1099511627776) (ah * 1099511627776) bl bh) (dvHi (al * 1099511627776) (ah * 1099511627776) bl bh)
    else mkI (dvLo (-(ah * 1099511627776)) (-(al * 1099511627776)) (-bh) (-bl)) (dvHi (-(ah * 1099511627776)) (-(al * 1099511627776)) (-bh) (-bl))
theorem j2_bad2 {al ah bl bh : Int} (o o' : Out) (h : ivB2 al ah bl bh = 8) : j2 al ah bl bh o = j2 al ah bl bh o' := by rw [j2_bad h, j2_bad h]
end Go.Proofs.Ytegpckhfncblhaa

/- Intervals: less of the reference. -/
namespace Go.Proofs.Ytegpckhfncblhaa
open Go.RowKit

def RB1 (w : World) (v : Bool) (e : Ending) (w' : World) : Prop := e = .returned (.bool v) ∧ Below w.heap.size w w'
def ltB (H L H' L' : Nat) : Bool := decide (H < H') || (decide (H = H') && decide (L < L'))
theorem sdrew {B : Nat} {a w : World} (h : Below B a w) : Below B a w.drew := bdrewN h 1
set_option maxRecDepth 100000 in
set_option maxHeartbeats 4000000 in
theorem less_pos (w : World) (H L H' L' : Nat) : Calls Try.prog 33 #[.agg #[.bool false, .int .u64 (H : Int), .int .u64 (L : Int)], .agg #[.bool false, .int .u64 (H' : Int), .int .u64 (L' : Int)]] w (RB1 w (ltB H L H' L')) := by
  rcases Nat.lt_trichotomy H H' with h | h | h
  · have HV : Hid (ltB H L H' L' = true) := by show _ = _; unfold ltB; rw [decide_eq_true h]; rfl
    go_enter Try.func33, Try.ntmps33
    go_wp2_with fail
    go_region
    all_goals
      go_wp2
      go_ret
      exact ⟨ret_bool HV.out.symm, sdrew (sbal (sbal (sbal (sbal (Below.refl _ _) _) _) _) _)⟩
  · subst h
    by_cases hl : L < L'
    · have HV : Hid (ltB H L H L' = true) := by show _ = _; unfold ltB; rw [decide_eq_true hl]; simp
      go_enter Try.func33, Try.ntmps33
      go_wp2_with fail
      go_region
      all_goals
        go_wp2
        go_ret
        exact ⟨ret_bool HV.out.symm, sdrew (sbal (sbal (sbal (sbal (Below.refl _ _) _) _) _) _)⟩
    · have HV : Hid (ltB H L H L' = false) := by show _ = _; unfold ltB; rw [decide_eq_false hl]; simp
      have hd : decide (L < L') = false := decide_eq_false hl
      have hd0 : decide (H < H) = false := by simp
      go_enter Try.func33, Try.ntmps33
      go_wp2_with fail
      go_region
      all_goals
        go_wp2
        go_ret
        exact ⟨ret_bool HV.out.symm, sdrew (sbal (sbal (sbal (sbal (Below.refl _ _) _) _) _) _)⟩
  · have HV : Hid (ltB H L H' L' = false) := by show _ = _; unfold ltB; rw [decide_eq_false (by omega), decide_eq_false (by omega)]; rfl
    have hd : decide (H < H') = false := decide_eq_false (by omega)
    have he : ((H : Int) == (H' : Int)) = false := by simp; omega
    have he2 : (H == H') = false := by simp; omega
    clear h
    go_enter Try.func33, Try.ntmps33
    go_wp2_with fail
    go_region
    all_goals
      go_wp2
      go_ret
      exact ⟨ret_bool HV.out.symm, sdrew (sbal (sbal (sbal (sbal (Below.refl _ _) _) _) _) _)⟩
set_option maxRecDepth 100000 in
set_option maxHeartbeats 4000000 in
theorem less_neg (w : World) (H L H' L' : Nat) : Calls Try.prog 33 #[.agg #[.bool true, .int .u64 (H : Int), .int .u64 (L : Int)], .agg #[.bool true, .int .u64 (H' : Int), .int .u64 (L' : Int)]] w (RB1 w (ltB H' L' H L)) := by
  rcases Nat.lt_trichotomy H' H with h | h | h
  · have HV : Hid (ltB H' L' H L = true) := by show _ = _; unfold ltB; rw [decide_eq_true h]; rfl
    go_enter Try.func33, Try.ntmps33
    go_wp2_with fail
    go_region
    all_goals
      go_wp2_with fail
      go_region
    all_goals
      go_wp2
      go_ret
      exact ⟨ret_bool HV.out.symm, by repeat' (first | exact Below.refl _ _ | with_reducible refine sdrew ?_ | with_reducible refine sbal ?_ _)⟩
  · subst h
    by_cases hl : L' < L
    · have HV : Hid (ltB H' L' H' L = true) := by show _ = _; unfold ltB; rw [decide_eq_true hl]; simp
      go_enter Try.func33, Try.ntmps33
      go_wp2_with fail
      go_region
      all_goals
        go_wp2_with fail
        go_region
      all_goals
        go_wp2
        go_ret
        exact ⟨ret_bool HV.out.symm, by repeat' (first | exact Below.refl _ _ | with_reducible refine sdrew ?_ | with_reducible refine sbal ?_ _)⟩
    · have HV : Hid (ltB H' L' H' L = false) := by show _ = _; unfold ltB; rw [decide_eq_false hl]; simp
      have hd : decide (L' < L) = false := decide_eq_false hl
      have hd0 : decide (H' < H') = false := by simp
      go_enter Try.func33, Try.ntmps33
      go_wp2_with fail
      go_region
      all_goals
        go_wp2_with fail
        go_region
      all_goals
        go_wp2
        go_ret
        exact ⟨ret_bool HV.out.symm, by repeat' (first | exact Below.refl _ _ | with_reducible refine sdrew ?_ | with_reducible refine sbal ?_ _)⟩
  · have HV : Hid (ltB H' L' H L = false) := by show _ = _; unfold ltB; rw [decide_eq_false (by omega), decide_eq_false (by omega)]; rfl
    have hd : decide (H' < H) = false := decide_eq_false (by omega)
    have he : ((H' : Int) == (H : Int)) = false := by simp; omega
    have he2 : (H' == H) = false := by simp; omega
    clear h
    go_enter Try.func33, Try.ntmps33
    go_wp2_with fail
    go_region
    all_goals
      go_wp2_with fail
      go_region
    all_goals
      go_wp2
      go_ret
      exact ⟨ret_bool HV.out.symm, by repeat' (first | exact Below.refl _ _ | with_reducible refine sdrew ?_ | with_reducible refine sbal ?_ _)⟩
theorem ltB_iff (N M : Nat) : ltB (N / 18446744073709551616) (N % 18446744073709551616) (M / 18446744073709551616) (M % 18446744073709551616) = decide (N < M) := by
  unfold ltB
  by_cases h : N < M
  · rw [decide_eq_true h]
    by_cases h1 : N / 18446744073709551616 < M / 18446744073709551616
    · rw [decide_eq_true h1]; rfl
    · have h2 : N / 18446744073709551616 = M / 18446744073709551616 := by omega
      have h3 : N % 18446744073709551616 < M % 18446744073709551616 := by omega
      rw [decide_eq_true h2, decide_eq_true h3]; simp
  · rw [decide_eq_false h]
    have h1 : ¬ N / 18446744073709551616 < M / 18446744073709551616 := by omega
    rw [decide_eq_false h1]
    by_cases h2 : N / 18446744073709551616 = M / 18446744073709551616
    · have h3 : ¬ N % 18446744073709551616 < M % 18446744073709551616 := by omega
      rw [decide_eq_false h3]; simp
    · rw [decide_eq_false h2]; rfl
set_option maxRecDepth 100000 in
theorem less_diff (w : World) (na : Bool) (H L H' L' : Nat) : Calls Try.prog 33 #[.agg #[.bool na, .int .u64 (H : Int), .int .u64 (L : Int)], .agg #[.bool !na, .int .u64 (H' : Int), .int .u64 (L' : Int)]] w (RB1 w na) := by
  cases na
  all_goals
    go_enter Try.func33, Try.ntmps33
    go_wp2
    go_ret
    exact ⟨rfl, by go_grown⟩
theorem less_any (w : World) (na nb : Bool) (N M : Nat) (ha : na = true → 0 < N) (hb : nb = true → 0 < M) :
    Calls Try.prog 33 #[pv na N, pv nb M] w (RB1 w (decide (sgn na N < sgn nb M))) := by
  cases na <;> cases nb
  · rw [show decide (sgn false N < sgn false M) = decide (N < M) by unfold sgn; simp, ← ltB_iff]
    exact less_pos w _ _ _ _
  · rw [show decide (sgn false N < sgn true M) = false by have := hb rfl; unfold sgn; simp <;> omega]
    exact less_diff w false _ _ _ _
  · rw [show decide (sgn true N < sgn false M) = true by have := ha rfl; unfold sgn; simp <;> omega]
    exact less_diff w true _ _ _ _
  · rw [show decide (sgn true N < sgn true M) = decide (M < N) by unfold sgn; simp, ← ltB_iff]
    exact less_neg w _ _ _ _
theorem sgT_pos {x y : Int} (h : sgT x y = true) : 0 < x.natAbs * y.natAbs := ((sgT_iff x y).1 h).2
end Go.Proofs.Ytegpckhfncblhaa

/- Two copies laid in new boxes, in whatever order. -/
namespace Go.Proofs.Ytegpckhfncblhaa
open Go.RowKit

/-- Two slots point to copies of both numbers. -/
def TwinsAt (w2 : World) (na : Bool) (n : Nat) (xs : List Nat) (nb : Bool) (m : Nat) (ys : List Nat) (s5 s6 : Value) (wc : World) : Prop :=
  ∃ gx gy A' c' A'' c'', s5 = .pointer (some ⟨gx, 0, none⟩) ∧ s6 = .pointer (some ⟨gy, 0, none⟩) ∧ Pr wc gx (.bool na) (.slice A' n c') ∧ Pr wc gy (.bool nb) (.slice A'' m c'') ∧ Lm wc wc.heap.size A' n c' xs ∧ Lm wc wc.heap.size A'' m c'' ys ∧ Below w2.heap.size w2 wc

section
variable {w2 w4 : World} {na nb : Bool} {n m : Nat} {xs ys : List Nat} {A3 A4 : Option Addr} {c3 c4 : Nat} {t : TypeId}
theorem fin1 (hB : Below w2.heap.size w2 w4) (L3 : Lm w4 w4.heap.size A3 n c3 xs) (L4 : Lm w4 w4.heap.size A4 m c4 ys) :
    TwinsAt w2 na n xs nb m ys (.pointer (some ⟨w4.heap.size, 0, none⟩)) (.pointer (some ⟨w4.heap.size + 1, 0, none⟩)) ((w4.alloc (.cells #[.bool na, .slice A3 n c3] t)).alloc (.cells #[.bool nb, .slice A4 m c4] t)) :=
  ⟨_, _, A3, c3, A4, c4, rfl, rfl, (Pr.new w4 _ rfl _ _ t).alloc _, Pr.new (w4.alloc _) _ (by simp) _ _ t, (L3.box _).box _, (L4.box _).box _, (hB.alloc hB.size _).alloc (hB.alloc hB.size _).size _⟩
theorem fin2 (hB : Below w2.heap.size w2 w4) (L3 : Lm w4 w4.heap.size A3 n c3 xs) (L4 : Lm w4 w4.heap.size A4 m c4 ys) :
    TwinsAt w2 na n xs nb m ys (.pointer (some ⟨w4.heap.size + 1, 0, none⟩)) (.pointer (some ⟨w4.heap.size, 0, none⟩)) ((w4.alloc (.cells #[.bool nb, .slice A4 m c4] t)).alloc (.cells #[.bool na, .slice A3 n c3] t)) :=
  ⟨_, _, A3, c3, A4, c4, rfl, rfl, Pr.new (w4.alloc _) _ (by simp) _ _ t, (Pr.new w4 _ rfl _ _ t).alloc _, (L3.box _).box _, (L4.box _).box _, (hB.alloc hB.size _).alloc (hB.alloc hB.size _).size _⟩
theorem fin3 {g : Nat} (hB : Below w2.heap.size w2 w4) (L3 : Lm w4 w4.heap.size A3 n c3 xs) (L4 : Lm w4 w4.heap.size A4 m c4 ys) (P : Pr w4 g (.bool false) (.slice none 0 0)) (hg : w2.heap.size ≤ g) :
    TwinsAt w2 na n xs nb m ys (.pointer (some ⟨g, 0, none⟩)) (.pointer (some ⟨w4.heap.size, 0, none⟩)) (((w4.setCell ⟨g, 0, none⟩ (.bool na)).setCell ⟨g, 1, none⟩ (.slice A3 n c3)).alloc (.cells #[.bool nb, .slice A4 m c4] t)) :=
  ⟨_, _, A3, c3, A4, c4, rfl, rfl, (P.set _ _).alloc _, Pr.new _ _ (size_set2 _ _ _ _) _ _ t, (L3.setP P _ _).box _, (L4.setP P _ _).box _, (below_set2 hB hg _ _).alloc (below_set2 hB hg _ _).size _⟩
theorem fin4 {g : Nat} (hB : Below w2.heap.size w2 w4) (L3 : Lm w4 w4.heap.size A3 n c3 xs) (L4 : Lm w4 w4.heap.size A4 m c4 ys) (P : Pr w4 g (.bool false) (.slice none 0 0)) (hg : w2.heap.size ≤ g) :
    TwinsAt w2 na n xs nb m ys (.pointer (some ⟨w4.heap.size, 0, none⟩)) (.pointer (some ⟨g, 0, none⟩)) (((w4.setCell ⟨g, 0, none⟩ (.bool nb)).setCell ⟨g, 1, none⟩ (.slice A4 m c4)).alloc (.cells #[.bool na, .slice A3 n c3] t)) :=
  ⟨_, _, A3, c3, A4, c4, rfl, rfl, Pr.new _ _ (size_set2 _ _ _ _) _ _ t, (P.set _ _).alloc _, (L3.setP P _ _).box _, (L4.setP P _ _).box _, (below_set2 hB hg _ _).alloc (below_set2 hB hg _ _).size _⟩
theorem fin5 {g h : Nat} (hB : Below w2.heap.size w2 w4) (L3 : Lm w4 w4.heap.size A3 n c3 xs) (L4 : Lm w4 w4.heap.size A4 m c4 ys) (P : Pr w4 g (.bool false) (.slice none 0 0)) (Q : Pr w4 h (.bool false) (.slice none 0 0)) (hg : w2.heap.size ≤ g) (hh : w2.heap.size ≤ h) (hne : g ≠ h) :
    TwinsAt w2 na n xs nb m ys (.pointer (some ⟨g, 0, none⟩)) (.pointer (some ⟨h, 0, none⟩)) ((((w4.setCell ⟨g, 0, none⟩ (.bool na)).setCell ⟨g, 1, none⟩ (.slice A3 n c3)).setCell ⟨h, 0, none⟩ (.bool nb)).setCell ⟨h, 1, none⟩ (.slice A4 m c4)) :=
  have Q' := Q.far (h := g) (fun e => hne e.symm) (.bool na) (.slice A3 n c3)
  ⟨_, _, A3, c3, A4, c4, rfl, rfl, (P.set _ _).far hne _ _, Q'.set _ _, (L3.setP P _ _).setP Q' _ _, (L4.setP P _ _).setP Q' _ _, below_set2 (below_set2 hB hg _ _) hh _ _⟩
end
theorem b_one {w w' : World} {o : Obj} (h : Below (w.alloc o).heap.size (w.alloc o) w') : Below w.heap.size w w' := bbox h
theorem b_two {w w' : World} {o o' : Obj} (h : Below ((w.alloc o).alloc o').heap.size ((w.alloc o).alloc o') w') : Below w.heap.size w w' := bbox (bbox h)
theorem b_one_d {w w' : World} {o : Obj} (h : Below (w.alloc o).drew.heap.size (w.alloc o).drew w') : Below w.heap.size w w' :=
  ((Below.refl w.heap.size w).alloc (Nat.le_refl _) o).drew.trans (h.mono (((Below.refl w.heap.size w).alloc (Nat.le_refl _) o).drew.size))
theorem b_two_d {w w' : World} {o o' : Obj} (h : Below ((w.alloc o).alloc o').drew.heap.size ((w.alloc o).alloc o').drew w') : Below w.heap.size w w' :=
  have q := (((Below.refl w.heap.size w).alloc (Nat.le_refl _) o).alloc ((Below.refl w.heap.size w).alloc (Nat.le_refl _) o).size o').drew
  q.trans (h.mono q.size)
end Go.Proofs.Ytegpckhfncblhaa

/- Intervals: ends of the reference. -/
namespace Go.Proofs.Ytegpckhfncblhaa
open Go.RowKit

/-- Block g has twelve cells that hold these values, and may be written. -/
structure D12 (w : World) (g : Nat) (vs : List Value) : Prop where
  len : vs.length = 12
  at_ : ∀ j (h : j < vs.length), w.cell? ⟨g, j, none⟩ = some vs[j]
  free : ∀ j, j < 12 → w.frozen? ⟨g, j, none⟩ = false
  lt : g < w.heap.size
theorem D12.via {w w' : World} {g : Nat} {vs : List Value} (p : D12 w g vs) (hb : Below w.heap.size w w') : D12 w' g vs :=
  ⟨p.len, fun j h => (hb.cell (p := ⟨g, j, none⟩) p.lt).trans (p.at_ j h), fun j h => (hb.frozen (p := ⟨g, j, none⟩) p.lt).trans (p.free j h), Nat.lt_of_lt_of_le p.lt hb.size⟩
theorem D12.alloc {w : World} {g : Nat} {vs : List Value} (p : D12 w g vs) (o : Obj) : D12 (w.alloc o) g vs := p.via ((Below.refl _ _).alloc (Nat.le_refl _) o)
theorem D12.drew {w : World} {g : Nat} {vs : List Value} (p : D12 w g vs) : D12 w.drew g vs := ⟨p.len, p.at_, p.free, p.lt⟩
theorem D12.new (w : World) (k : Nat) (hk : w.heap.size = k) (v0 v1 v2 v3 v4 v5 v6 v7 v8 v9 v10 v11 : Value) (t : TypeId) : D12 (w.alloc (.cells #[v0, v1, v2, v3, v4, v5, v6, v7, v8, v9, v10, v11] t)) k [v0, v1, v2, v3, v4, v5, v6, v7, v8, v9, v10, v11] := by
  subst hk
  refine ⟨rfl, fun j h => ?_, fun j h => ?_, by simp⟩
  · simp only [List.length_cons, List.length_nil] at h
    rcases (show j = 0 ∨ j = 1 ∨ j = 2 ∨ j = 3 ∨ j = 4 ∨ j = 5 ∨ j = 6 ∨ j = 7 ∨ j = 8 ∨ j = 9 ∨ j = 10 ∨ j = 11 by omega) with rfl | rfl | rfl | rfl | rfl | rfl | rfl | rfl | rfl | rfl | rfl | rfl <;> go_simp
  · rcases (show j = 0 ∨ j = 1 ∨ j = 2 ∨ j = 3 ∨ j = 4 ∨ j = 5 ∨ j = 6 ∨ j = 7 ∨ j = 8 ∨ j = 9 ∨ j = 10 ∨ j = 11 by omega) with rfl | rfl | rfl | rfl | rfl | rfl | rfl | rfl | rfl | rfl | rfl | rfl <;> go_simp
theorem D12.raw {w : World} {g : Nat} {v0 v1 v2 v3 v4 v5 v6 v7 v8 v9 v10 v11 : Value} (p : D12 w g [v0, v1, v2, v3, v4, v5, v6, v7, v8, v9, v10, v11]) : w.cell? ⟨g, 0, none⟩ = some v0 ∧ w.cell? ⟨g, 1, none⟩ = some v1 ∧ w.cell? ⟨g, 2, none⟩ = some v2 ∧ w.cell? ⟨g, 3, none⟩ = some v3 ∧ w.cell? ⟨g, 4, none⟩ = some v4 ∧ w.cell? ⟨g, 5, none⟩ = some v5 ∧ w.cell? ⟨g, 6, none⟩ = some v6 ∧ w.cell? ⟨g, 7, none⟩ = some v7 ∧ w.cell? ⟨g, 8, none⟩ = some v8 ∧ w.cell? ⟨g, 9, none⟩ = some v9 ∧ w.cell? ⟨g, 10, none⟩ = some v10 ∧ w.cell? ⟨g, 11, none⟩ = some v11 ∧ w.frozen? ⟨g, 0, none⟩ = false ∧ w.frozen? ⟨g, 1, none⟩ = false ∧ w.frozen? ⟨g, 2, none⟩ = false ∧ w.frozen? ⟨g, 3, none⟩ = false ∧ w.frozen? ⟨g, 4, none⟩ = false ∧ w.frozen? ⟨g, 5, none⟩ = false ∧ w.frozen? ⟨g, 6, none⟩ = false ∧ w.frozen? ⟨g, 7, none⟩ = false ∧ w.frozen? ⟨g, 8, none⟩ = false ∧ w.frozen? ⟨g, 9, none⟩ = false ∧ w.frozen? ⟨g, 10, none⟩ = false ∧ w.frozen? ⟨g, 11, none⟩ = false :=
  ⟨p.at_ 0 (by simp), p.at_ 1 (by simp), p.at_ 2 (by simp), p.at_ 3 (by simp), p.at_ 4 (by simp), p.at_ 5 (by simp), p.at_ 6 (by simp), p.at_ 7 (by simp), p.at_ 8 (by simp), p.at_ 9 (by simp), p.at_ 10 (by simp), p.at_ 11 (by simp), p.free 0 (by omega), p.free 1 (by omega), p.free 2 (by omega), p.free 3 (by omega), p.free 4 (by omega), p.free 5 (by omega), p.free 6 (by omega), p.free 7 (by omega), p.free 8 (by omega), p.free 9 (by omega), p.free 10 (by omega), p.free 11 (by omega)⟩
theorem size_setCells (b : Nat) : ∀ (vs : List Value) (o : Nat) (w : World), (w.setCells b o vs).heap.size = w.heap.size
  | [], _, _ => rfl
  | v :: r, o, w => by rw [World.setCells, size_setCells b r]; simp [World.size_setCell]
theorem D12.set {w : World} {g : Nat} {vs : List Value} (p : D12 w g vs) (us : List Value) (hu : us.length = 12) : D12 (w.setCells g 0 us) g us :=
  ⟨hu, fun j h => by
    have := World.cell?_setCells_in g us 0 w (fun i hi => by rw [Nat.zero_add, p.at_ i (by rw [p.len]; omega)]; rfl) j h
    rwa [Nat.zero_add] at this, fun j h => by rw [World.frozen?_setCells]; exact p.free j h, by rw [size_setCells]; exact p.lt⟩
theorem below_setCells {B g : Nat} (hg : B ≤ g) : ∀ (vs : List Value) (o : Nat) (w w1 : World), Below B w w1 → Below B w (w1.setCells g o vs)
  | [], _, _, _, h => h
  | v :: r, o, w, _, h => below_setCells hg r (o + 1) w _ (h.setCell (p := ⟨g, o, none⟩) hg v)
theorem set12_eq (w : World) (g : Nat) (v0 v1 v2 v3 v4 v5 v6 v7 v8 v9 v10 v11 : Value) : (((((((((((w.setCell ⟨g, 0, none⟩ v0).setCell ⟨g, 1, none⟩ v1).setCell ⟨g, 2, none⟩ v2).setCell ⟨g, 3, none⟩ v3).setCell ⟨g, 4, none⟩ v4).setCell ⟨g, 5, none⟩ v5).setCell ⟨g, 6, none⟩ v6).setCell ⟨g, 7, none⟩ v7).setCell ⟨g, 8, none⟩ v8).setCell ⟨g, 9, none⟩ v9).setCell ⟨g, 10, none⟩ v10).setCell ⟨g, 11, none⟩ v11 = w.setCells g 0 [v0, v1, v2, v3, v4, v5, v6, v7, v8, v9, v10, v11] := rfl
/-- The first slot points to the four products. -/
def EndsAt (W : World) (us : List Value) (s : Value) (wx : World) : Prop := ∃ g, s = .pointer (some ⟨g, 0, none⟩) ∧ D12 wx g us ∧ W.heap.size ≤ g ∧ Below W.heap.size W wx
theorem efin1 {W w : World} (hB : Below W.heap.size W w) (v0 v1 v2 v3 v4 v5 v6 v7 v8 v9 v10 v11 : Value) (t : TypeId) : EndsAt W [v0, v1, v2, v3, v4, v5, v6, v7, v8, v9, v10, v11] (.pointer (some ⟨w.heap.size, 0, none⟩)) (w.alloc (.cells #[v0, v1, v2, v3, v4, v5, v6, v7, v8, v9, v10, v11] t)) :=
  ⟨_, rfl, D12.new w _ rfl v0 v1 v2 v3 v4 v5 v6 v7 v8 v9 v10 v11 t, hB.size, sbal hB _⟩
theorem efin2 {W w : World} {g : Nat} {zs : List Value} (hB : Below W.heap.size W w) (p : D12 w g zs) (hg : W.heap.size ≤ g) (v0 v1 v2 v3 v4 v5 v6 v7 v8 v9 v10 v11 : Value) : EndsAt W [v0, v1, v2, v3, v4, v5, v6, v7, v8, v9, v10, v11] (.pointer (some ⟨g, 0, none⟩)) (w.setCells g 0 [v0, v1, v2, v3, v4, v5, v6, v7, v8, v9, v10, v11]) :=
  ⟨_, rfl, p.set _ rfl, hg, below_setCells hg _ _ _ _ hB⟩
/-- The number of a product of two words. -/
def sv (s : Bool) (H L : Nat) : Int := sgn s (H * 18446744073709551616 + L)
/-- A product as the reference has it. -/
structure Lg (s : Bool) (H L : Nat) : Prop where
  pos : s = true → 0 < H * 18446744073709551616 + L
  low : L < 18446744073709551616
abbrev lv (s : Bool) (H L : Nat) : Value := .agg #[.bool s, .int .u64 (H : Int), .int .u64 (L : Int)]
def RL (w : World) (s : Bool) (H L : Nat) (e : Ending) (w' : World) : Prop := e = .returned (lv s H L) ∧ Below w.heap.size w w'
theorem split_hl (H : Nat) {L : Nat} (h : L < 18446744073709551616) : (H * 18446744073709551616 + L) / 18446744073709551616 = H ∧ (H * 18446744073709551616 + L) % 18446744073709551616 = L := by omega
theorem C3.setC {w : World} {g : Nat} {x0 x1 x2 : Value} (p : C3 w g x0 x1 x2) (y0 y1 y2 : Value) : C3 (w.setCells g 0 [y0, y1, y2]) g y0 y1 y2 := by
  have h := World.cell?_setCells_in g [y0, y1, y2] 0 w (fun i hi => by
    simp at hi
    rcases (show i = 0 ∨ i = 1 ∨ i = 2 by omega) with rfl | rfl | rfl
    · rw [Nat.zero_add, p.c0]; rfl
    · rw [Nat.zero_add, p.c1]; rfl
    · rw [Nat.zero_add, p.c2]; rfl)
  exact ⟨h 0 (by simp), h 1 (by simp), h 2 (by simp), by rw [World.frozen?_setCells]; exact p.f0, by rw [World.frozen?_setCells]; exact p.f1, by rw [World.frozen?_setCells]; exact p.f2, by rw [size_setCells]; exact p.lt⟩
theorem far_cell {w : World} {g h : Nat} (hne : g ≠ h) (vs : List Value) (j : Nat) : (w.setCells h 0 vs).cell? ⟨g, j, none⟩ = w.cell? ⟨g, j, none⟩ :=
  World.cell?_setCells_out h vs 0 w ⟨g, j, none⟩ (fun e => absurd e hne)
theorem C3.farC {w : World} {g h : Nat} {x0 x1 x2 : Value} (p : C3 w g x0 x1 x2) (hne : g ≠ h) (vs : List Value) : C3 (w.setCells h 0 vs) g x0 x1 x2 :=
  ⟨(far_cell hne vs 0).trans p.c0, (far_cell hne vs 1).trans p.c1, (far_cell hne vs 2).trans p.c2, by rw [World.frozen?_setCells]; exact p.f0, by rw [World.frozen?_setCells]; exact p.f1, by rw [World.frozen?_setCells]; exact p.f2, by rw [size_setCells]; exact p.lt⟩
theorem D12.farC {w : World} {g h : Nat} {us : List Value} (p : D12 w g us) (hne : g ≠ h) (vs : List Value) : D12 (w.setCells h 0 vs) g us :=
  ⟨p.len, fun j hj => (far_cell hne vs j).trans (p.at_ j hj), fun j hj => by rw [World.frozen?_setCells]; exact p.free j hj, by rw [size_setCells]; exact p.lt⟩
theorem set3_eq (w : World) (g : Nat) (x y z : Value) : ((w.setCell ⟨g, 0, none⟩ x).setCell ⟨g, 1, none⟩ y).setCell ⟨g, 2, none⟩ z = w.setCells g 0 [x, y, z] := rfl
theorem res_ll {fn : Func} {r s : Nat} (hr : fn.results = #[.cell r 52, .cell s 52]) {tmps : Array Value} {w : World} {g h : Nat} {x y z x' y' z' : Value} (ht : tmps.getD r undef = .pointer (some ⟨g, 0, none⟩)) (hs : tmps.getD s undef = .pointer (some ⟨h, 0, none⟩))
    (p : C3 w g x y z) (q : C3 w h x' y' z') : (results fn tmps).run Try.prog w = .ok (.tuple #[.agg #[x, y, z], .agg #[x', y', z']]) w := by
  have h0 := p.c0; have h1 := p.c1; have h2 := p.c2; have k0 := q.c0; have k1 := q.c1; have k2 := q.c2
  rw [Array.getD_eq_getD_getElem?] at ht hs
  simp [results, hr, go_sem, ht, hs, h0, h1, h2, k0, k1, k2]
theorem less_lg (w : World) {s s' : Bool} {H L H' L' : Nat} (a : Lg s H L) (b : Lg s' H' L') :
    Calls Try.prog 33 #[lv s H L, lv s' H' L'] w (RB1 w (decide (sv s H L < sv s' H' L'))) := by
  have h := less_any w s s' (H * 18446744073709551616 + L) (H' * 18446744073709551616 + L') a.pos b.pos
  have e1 := split_hl H a.low
  have e2 := split_hl H' b.low
  unfold pv at h
  rw [e1.1, e1.2, e2.1, e2.2] at h
  exact h
theorem times_lg (x y : Int) (hx1 : -9223372036854775808 ≤ x) (hx2 : x ≤ 9223372036854775807) (hy1 : -9223372036854775808 ≤ y) (hy2 : y ≤ 9223372036854775807) :
    ∃ s H L, Lg s H L ∧ sv s H L = x * y ∧ ∀ w, Calls Try.prog 32 #[.int .i64 x, .int .i64 y] w (RL w s H L) := by
  have hs := sgnT_mul x y
  have hp : sgT x y = true → 0 < x.natAbs * y.natAbs := sgT_pos
  have hc := fun w => rtimes_any w x y hx1 hx2 hy1 hy2
  generalize x.natAbs * y.natAbs = P at *
  have e : P / 18446744073709551616 * 18446744073709551616 + P % 18446744073709551616 = P := Nat.div_add_mod' _ _
  exact ⟨sgT x y, P / 18446744073709551616, P % 18446744073709551616, ⟨fun h => by rw [e]; exact hp h, by omega⟩, by unfold sv; rw [e]; exact hs, hc⟩
theorem tfin1 {w : World} {g : Nat} (hg : g < w.heap.size) (x y z : Value) (t : TypeId) : ∃ p q, (Value.pointer (some ⟨w.heap.size, 0, none⟩)) = .pointer (some ⟨p, 0, none⟩) ∧ (Value.pointer (some ⟨w.heap.size + 1, 0, none⟩)) = .pointer (some ⟨q, 0, none⟩) ∧ C3 (((w.alloc (.cells #[x, y, z] t)).alloc (.cells #[x, y, z] t)).drew) p x y z ∧ C3 (((w.alloc (.cells #[x, y, z] t)).alloc (.cells #[x, y, z] t)).drew) q x y z ∧ p ≠ q ∧ g < p ∧ g < q ∧ Below w.heap.size w (((w.alloc (.cells #[x, y, z] t)).alloc (.cells #[x, y, z] t)).drew) :=
  ⟨_, _, rfl, rfl, ((C3.new w _ rfl x y z t).alloc _).drewN 1, (C3.new (w.alloc _) _ (by simp) x y z t).drewN 1, by omega, by omega, by omega, bdrewN (sbal (sbal (Below.refl _ _) _) _) 1⟩
theorem tfin2 {w : World} {g : Nat} (hg : g < w.heap.size) (x y z : Value) (t : TypeId) : ∃ p q, (Value.pointer (some ⟨w.heap.size + 1, 0, none⟩)) = .pointer (some ⟨p, 0, none⟩) ∧ (Value.pointer (some ⟨w.heap.size, 0, none⟩)) = .pointer (some ⟨q, 0, none⟩) ∧ C3 (((w.alloc (.cells #[x, y, z] t)).alloc (.cells #[x, y, z] t)).drew) p x y z ∧ C3 (((w.alloc (.cells #[x, y, z] t)).alloc (.cells #[x, y, z] t)).drew) q x y z ∧ p ≠ q ∧ g < p ∧ g < q ∧ Below w.heap.size w (((w.alloc (.cells #[x, y, z] t)).alloc (.cells #[x, y, z] t)).drew) :=
  ⟨_, _, rfl, rfl, (C3.new (w.alloc _) _ (by simp) x y z t).drewN 1, ((C3.new w _ rfl x y z t).alloc _).drewN 1, by omega, by omega, by omega, bdrewN (sbal (sbal (Below.refl _ _) _) _) 1⟩
/-- The least and the greatest of four numbers are returned as products. -/
def RE2 (w : World) (v0 v1 v2 v3 : Int) (e : Ending) (w' : World) : Prop := ∃ s H L s' H' L', Lg s H L ∧ Lg s' H' L' ∧ sv s H L = mn4 v0 v1 v2 v3 ∧ sv s' H' L' = mx4 v0 v1 v2 v3 ∧ e = .returned (.tuple #[lv s H L, lv s' H' L']) ∧ Below w.heap.size w w'
set_option maxRecDepth 100000 in
set_option maxHeartbeats 8000000 in
theorem ends_g (w : World) (al ah bl bh : Int) (s0 s1 s2 s3 : Bool) (H0 H1 H2 H3 L0 L1 L2 L3 : Nat) (g0 : Lg s0 H0 L0) (g1 : Lg s1 H1 L1) (g2 : Lg s2 H2 L2) (g3 : Lg s3 H3 L3)
    (t0 : ∀ w, Calls Try.prog 32 #[.int .i64 al, .int .i64 bl] w (RL w s0 H0 L0)) (t1 : ∀ w, Calls Try.prog 32 #[.int .i64 al, .int .i64 bh] w (RL w s1 H1 L1))
    (t2 : ∀ w, Calls Try.prog 32 #[.int .i64 ah, .int .i64 bl] w (RL w s2 H2 L2)) (t3 : ∀ w, Calls Try.prog 32 #[.int .i64 ah, .int .i64 bh] w (RL w s3 H3 L3)) :
    Calls Try.prog 38 #[iv al ah, iv bl bh] w (RE2 w (sv s0 H0 L0) (sv s1 H1 L1) (sv s2 H2 L2) (sv s3 H3 L3)) := by
  have T0 := Lib.hid t0
  have T1 := Lib.hid t1
  have T2 := Lib.hid t2
  have T3 := Lib.hid t3
  have G0 := Lib.hid g0
  have G1 := Lib.hid g1
  have G2 := Lib.hid g2
  have G3 := Lib.hid g3
  clear t0 t1 t2 t3 g0 g1 g2 g3
  have PA := Lib.hid ((((Pr.new w w.heap.size rfl (.int .i64 al) (.int .i64 ah) 23).alloc (ivB bl bh)).alloc (.cells #[.bool false, .int .u64 0, .int .u64 0] 52)).alloc (.cells #[.bool false, .int .u64 0, .int .u64 0] 52))
  have PB := Lib.hid (((Pr.new (w.alloc (ivB al ah)) (w.heap.size + 1) (by simp) (.int .i64 bl) (.int .i64 bh) 23).alloc (.cells #[.bool false, .int .u64 0, .int .u64 0] 52)).alloc (.cells #[.bool false, .int .u64 0, .int .u64 0] 52))
  have R1 := Lib.hid ((C3.new ((w.alloc (ivB al ah)).alloc (ivB bl bh)) (w.heap.size + 1 + 1) (by simp) (.bool false) (.int .u64 0) (.int .u64 0) 52).alloc (.cells #[.bool false, .int .u64 0, .int .u64 0] 52))
  have R2 := Lib.hid (C3.new (((w.alloc (ivB al ah)).alloc (ivB bl bh)).alloc (.cells #[.bool false, .int .u64 0, .int .u64 0] 52)) (w.heap.size + 1 + 1 + 1) (by simp) (.bool false) (.int .u64 0) (.int .u64 0) 52)
  have BW : Hid (Below w.heap.size w ((((w.alloc (ivB al ah)).alloc (ivB bl bh)).alloc (.cells #[.bool false, .int .u64 0, .int .u64 0] 52)).alloc (.cells #[.bool false, .int .u64 0, .int .u64 0] 52))) := sbal (sbal (sbal (sbal (Below.refl _ _) _) _) _) _
  go_enter Try.func38, Try.ntmps38
  go_wp2_with fail
  generalize (((w.alloc (ivB al ah)).alloc (ivB bl bh)).alloc (.cells #[.bool false, .int .u64 0, .int .u64 0] 52)).alloc (.cells #[.bool false, .int .u64 0, .int .u64 0] 52) = W0 at *
  have HKS : Hid (∀ X : World, Below W0.heap.size W0 X → X.cell? ⟨w.heap.size, 0, none⟩ = some (.int .i64 al) ∧ X.cell? ⟨w.heap.size, 1, none⟩ = some (.int .i64 ah) ∧ X.cell? ⟨w.heap.size + 1, 0, none⟩ = some (.int .i64 bl) ∧ X.cell? ⟨w.heap.size + 1, 1, none⟩ = some (.int .i64 bh)) := fun X h => ⟨(PA.out.via h).c0, (PA.out.via h).c1, (PB.out.via h).c0, (PB.out.via h).c1⟩
  go_cut [6] (fun s6 wx => EndsAt W0 [.bool s0, .int .u64 (H0 : Int), .int .u64 (L0 : Int), .bool s1, .int .u64 (H1 : Int), .int .u64 (L1 : Int), .bool s2, .int .u64 (H2 : Int), .int .u64 (L2 : Int), .bool s3, .int .u64 (H3 : Int), .int .u64 (L3 : Int)] s6 wx)
  case first =>
    go_region_held3 (fun w' => w'.cell? ⟨w.heap.size, 0, none⟩ = some (.int .i64 al) ∧ w'.cell? ⟨w.heap.size, 1, none⟩ = some (.int .i64 ah) ∧ w'.cell? ⟨w.heap.size + 1, 0, none⟩ = some (.int .i64 bl) ∧ w'.cell? ⟨w.heap.size + 1, 1, none⟩ = some (.int .i64 bh))
      (first | (refine HKS.out _ ?_; (repeat' (first | with_reducible exact B3 | with_reducible exact B2 | with_reducible exact B1 | with_reducible exact B0 | with_reducible exact (Below.refl _ _).drew | with_reducible exact Below.refl _ _ | with_reducible refine Below.drew ?_ | with_reducible refine Below.setCell ?_ ?_ _ | with_reducible refine Below.alloc ?_ ?_ _)); all_goals (first | omega | (simp; done) | (simp [World.size_setCell]; omega))))
      (first
       | (have _t := B2; go_at_call 32; refine (T3.out _).mono ?_; rintro e w6 ⟨rfl, hb3⟩; have B3 : Below W0.heap.size W0 w6 := (by first | with_reducible exact sbtr B2 hb3 | with_reducible exact sbtr B2 (bbox hb3)); have s3_ := B3.size; (try (have F0 := F0.via hb3)); (try (have F1 := F1.via hb3)); (try (have F2 := F2.via hb3)); (try (have F3 : D12 w6 w5.heap.size [.bool false, .int .u64 0, .int .u64 0, .bool false, .int .u64 0, .int .u64 0, .bool false, .int .u64 0, .int .u64 0, .bool false, .int .u64 0, .int .u64 0] := (by with_reducible exact (D12.new w5 _ rfl (.bool false) (.int .u64 0) (.int .u64 0) (.bool false) (.int .u64 0) (.int .u64 0) (.bool false) (.int .u64 0) (.int .u64 0) (.bool false) (.int .u64 0) (.int .u64 0) 68).via hb3))); (try (obtain ⟨c0_0, c0_1, c0_2, c0_3, c0_4, c0_5, c0_6, c0_7, c0_8, c0_9, c0_10, c0_11, c0_12, c0_13, c0_14, c0_15, c0_16, c0_17, c0_18, c0_19, c0_20, c0_21, c0_22, c0_23⟩ := F0.raw)); (try (obtain ⟨c1_0, c1_1, c1_2, c1_3, c1_4, c1_5, c1_6, c1_7, c1_8, c1_9, c1_10, c1_11, c1_12, c1_13, c1_14, c1_15, c1_16, c1_17, c1_18, c1_19, c1_20, c1_21, c1_22, c1_23⟩ := F1.raw)); (try (obtain ⟨c2_0, c2_1, c2_2, c2_3, c2_4, c2_5, c2_6, c2_7, c2_8, c2_9, c2_10, c2_11, c2_12, c2_13, c2_14, c2_15, c2_16, c2_17, c2_18, c2_19, c2_20, c2_21, c2_22, c2_23⟩ := F2.raw)); (try (obtain ⟨c3_0, c3_1, c3_2, c3_3, c3_4, c3_5, c3_6, c3_7, c3_8, c3_9, c3_10, c3_11, c3_12, c3_13, c3_14, c3_15, c3_16, c3_17, c3_18, c3_19, c3_20, c3_21, c3_22, c3_23⟩ := F3.raw)))
       | (have _t := B1; go_at_call 32; refine (T2.out _).mono ?_; rintro e w5 ⟨rfl, hb2⟩; have B2 : Below W0.heap.size W0 w5 := (by first | with_reducible exact sbtr B1 hb2 | with_reducible exact sbtr B1 (bbox hb2)); have s2_ := B2.size; (try (have F0 := F0.via hb2)); (try (have F1 := F1.via hb2)); (try (have F2 : D12 w5 w4.heap.size [.bool false, .int .u64 0, .int .u64 0, .bool false, .int .u64 0, .int .u64 0, .bool false, .int .u64 0, .int .u64 0, .bool false, .int .u64 0, .int .u64 0] := (by with_reducible exact (D12.new w4 _ rfl (.bool false) (.int .u64 0) (.int .u64 0) (.bool false) (.int .u64 0) (.int .u64 0) (.bool false) (.int .u64 0) (.int .u64 0) (.bool false) (.int .u64 0) (.int .u64 0) 68).via hb2))))
       | (have _t := B0; go_at_call 32; refine (T1.out _).mono ?_; rintro e w4 ⟨rfl, hb1⟩; have B1 : Below W0.heap.size W0 w4 := (by first | with_reducible exact sbtr B0 hb1 | with_reducible exact sbtr B0 (bbox hb1)); have s1_ := B1.size; (try (have F0 := F0.via hb1)); (try (have F1 : D12 w4 w3.heap.size [.bool false, .int .u64 0, .int .u64 0, .bool false, .int .u64 0, .int .u64 0, .bool false, .int .u64 0, .int .u64 0, .bool false, .int .u64 0, .int .u64 0] := (by with_reducible exact (D12.new w3 _ rfl (.bool false) (.int .u64 0) (.int .u64 0) (.bool false) (.int .u64 0) (.int .u64 0) (.bool false) (.int .u64 0) (.int .u64 0) (.bool false) (.int .u64 0) (.int .u64 0) 68).via hb1))))
       | (go_at_call 32; refine (T0.out _).mono ?_; rintro e w3 ⟨rfl, hb0⟩; have B0 : Below W0.heap.size W0 w3 := (by first | with_reducible exact b_one_d hb0 | exact (Below.refl _ _).drew.trans hb0); have s0_ := B0.size; (try (have F0 : D12 w3 W0.heap.size [.bool false, .int .u64 0, .int .u64 0, .bool false, .int .u64 0, .int .u64 0, .bool false, .int .u64 0, .int .u64 0, .bool false, .int .u64 0, .int .u64 0] := (by with_reducible exact ((D12.new W0 _ rfl (.bool false) (.int .u64 0) (.int .u64 0) (.bool false) (.int .u64 0) (.int .u64 0) (.bool false) (.int .u64 0) (.int .u64 0) (.bool false) (.int .u64 0) (.int .u64 0) 68).drew).via hb0))))
       | fail)
    all_goals
      go_wp2_with fail
      go_meet
      (try rw [set12_eq])
      first
      | with_reducible exact efin1 B3 _ _ _ _ _ _ _ _ _ _ _ _ _
      | with_reducible exact efin2 B3 F0 (Nat.le_refl _) _ _ _ _ _ _ _ _ _ _ _ _
      | with_reducible exact efin2 B3 F1 s0_ _ _ _ _ _ _ _ _ _ _ _ _
      | with_reducible exact efin2 B3 F2 s1_ _ _ _ _ _ _ _ _ _ _ _ _
      | with_reducible exact efin2 B3 F3 s2_ _ _ _ _ _ _ _ _ _ _ _ _
  case rest =>
    obtain ⟨g, rfl, dg, hg, hB⟩ := hcut
    have DG := Lib.hid dg
    have Q1 := Lib.hid (R1.out.via hB)
    have Q2 := Lib.hid (R2.out.via hB)
    have BX := Lib.hid (sbtr BW.out hB)
    have hgw : w.heap.size + 1 + 1 + 1 < g := by have := R2.out.lt; omega
    clear dg hB PA PB R1 R2 BW T0 T1 T2 T3 HKS hg
    obtain ⟨d0, d1, d2, d3, d4, d5, d6, d7, d8, d9, d10, d11, d12, d13, d14, d15, d16, d17, d18, d19, d20, d21, d22, d23⟩ := DG.out.raw
    go_wp2_with fail
    go_cut [7, 8] (fun s7 s8 wx => ∃ p q, s7 = .pointer (some ⟨p, 0, none⟩) ∧ s8 = .pointer (some ⟨q, 0, none⟩) ∧ C3 wx p (.bool s0) (.int .u64 (H0 : Int)) (.int .u64 (L0 : Int)) ∧ C3 wx q (.bool s0) (.int .u64 (H0 : Int)) (.int .u64 (L0 : Int)) ∧ p ≠ q ∧ g < p ∧ g < q ∧ Below wc.heap.size wc wx)
    case first =>
      have k1 := fun o => ((DG.out.alloc o).raw).1
      have k2 := fun o => ((DG.out.alloc o).raw).2.1
      have k3 := fun o => ((DG.out.alloc o).raw).2.2.1
      have k4 := fun o o' => (((DG.out.alloc o).alloc o').raw).1
      have k5 := fun o o' => (((DG.out.alloc o).alloc o').raw).2.1
      have k6 := fun o o' => (((DG.out.alloc o).alloc o').raw).2.2.1
      have k7 := Nat.ne_of_lt DG.out.lt
      have k8 := Nat.ne_of_gt DG.out.lt
      go_region
      all_goals
        go_wp2_with fail
        go_meet
        first
        | exact tfin1 (by have := DG.out.lt; omega) _ _ _ _
        | exact tfin2 (by have := DG.out.lt; omega) _ _ _ _
    case rest =>
      obtain ⟨p, q, rfl, rfl, cp, cq, hpq, hgp, hgq, hB⟩ := hcut
      clear d0 d1 d2 d3 d4 d5 d6 d7 d8 d9 d10 d11 d12 d13 d14 d15 d16 d17 d18 d19 d20 d21 d22 d23
      replace DG := Lib.hid (DG.out.via hB)
      replace Q1 := Lib.hid (Q1.out.via hB)
      replace Q2 := Lib.hid (Q2.out.via hB)
      replace BX := Lib.hid (sbtr BX.out hB)
      have CP := Lib.hid cp
      have CQ := Lib.hid cq
      clear cp cq hB
      obtain ⟨v0, hv0⟩ : ∃ v, v = sv s0 H0 L0 := ⟨_, rfl⟩
      obtain ⟨v1, hv1⟩ : ∃ v, v = sv s1 H1 L1 := ⟨_, rfl⟩
      obtain ⟨v2, hv2⟩ : ∃ v, v = sv s2 H2 L2 := ⟨_, rfl⟩
      obtain ⟨v3, hv3⟩ : ∃ v, v = sv s3 H3 L3 := ⟨_, rfl⟩
      have V0 := Lib.hid hv0
      have V1 := Lib.hid hv1
      have V2 := Lib.hid hv2
      have V3 := Lib.hid hv3
      clear hv0 hv1 hv2 hv3
      go_wp2_with fail
      go_loopw [9] (fun i wr => ∃ (s : Bool) (H L : Nat) (s' : Bool) (H' L' : Nat), Lg s H L ∧ Lg s' H' L' ∧ (i = .int .i64 1 ∧ sv s H L = v0 ∧ sv s' H' L' = v0 ∨ i = .int .i64 2 ∧ sv s H L = min v0 v1 ∧ sv s' H' L' = max v0 v1 ∨ i = .int .i64 3 ∧ sv s H L = min (min v0 v1) v2 ∧ sv s' H' L' = max (max v0 v1) v2 ∨ i = .int .i64 4 ∧ sv s H L = min (min (min v0 v1) v2) v3 ∧ sv s' H' L' = max (max (max v0 v1) v2) v3) ∧ C3 wr p (.bool s) (.int .u64 (H : Int)) (.int .u64 (L : Int)) ∧ C3 wr q (.bool s') (.int .u64 (H' : Int)) (.int .u64 (L' : Int)) ∧ D12 wr g [.bool s0, .int .u64 (H0 : Int), .int .u64 (L0 : Int), .bool s1, .int .u64 (H1 : Int), .int .u64 (L1 : Int), .bool s2, .int .u64 (H2 : Int), .int .u64 (L2 : Int), .bool s3, .int .u64 (H3 : Int), .int .u64 (L3 : Int)] ∧ C3 wr (w.heap.size + 1 + 1) (.bool false) (.int .u64 0) (.int .u64 0) ∧ C3 wr (w.heap.size + 1 + 1 + 1) (.bool false) (.int .u64 0) (.int .u64 0) ∧ Below w.heap.size w wr) (fun i _ => 4 - (intOf i).toNat)
      case atStart => exact ⟨s0, H0, L0, s0, H0, L0, G0.out, G0.out, .inl ⟨rfl, V0.out.symm, V0.out.symm⟩, CP.out, CQ.out, DG.out, Q1.out, Q2.out, BX.out⟩
      case round =>
        obtain ⟨s, H, L, s', H', L', la, lb, hk, cp, cq, dg, q1, q2, bx⟩ := hrel
        clear CP CQ DG Q1 Q2 BX
        have LA := Lib.hid la
        have LB := Lib.hid lb
        have CP := Lib.hid cp
        have CQ := Lib.hid cq
        have DG := Lib.hid dg
        have Q1 := Lib.hid q1
        have Q2 := Lib.hid q2
        have BX := Lib.hid bx
        clear la lb cp cq dg q1 q2 bx
        rcases hk with ⟨rfl, hlo, hhi⟩ | ⟨rfl, hlo, hhi⟩ | ⟨rfl, hlo, hhi⟩ | ⟨rfl, hlo, hhi⟩
        · have VL := Lib.hid hlo
          have VH := Lib.hid hhi
          clear hlo hhi
          obtain ⟨b1, hb1⟩ : ∃ b, decide (sv s1 H1 L1 < sv s H L) = b := ⟨_, rfl⟩
          obtain ⟨b2, hb2⟩ : ∃ b, decide (sv s' H' L' < sv s1 H1 L1) = b := ⟨_, rfl⟩
          have C1 := Lib.hid (fun W => less_lg W G1.out LA.out)
          have C2 := Lib.hid (fun W => less_lg W LB.out G1.out)
          rw [hb1] at C1
          rw [hb2] at C2
          have D1 := Lib.hid hb1
          have D2 := Lib.hid hb2
          clear hb1 hb2
          have HK1 : Hid (∀ X : World, Below wr.heap.size wr X → X.cell? ⟨g, 3, none⟩ = some (.bool s1) ∧ X.cell? ⟨g, 4, none⟩ = some (.int .u64 (H1 : Int)) ∧ X.cell? ⟨g, 5, none⟩ = some (.int .u64 (L1 : Int)) ∧ X.cell? ⟨p, 0, none⟩ = some (.bool s) ∧ X.cell? ⟨p, 1, none⟩ = some (.int .u64 (H : Int)) ∧ X.cell? ⟨p, 2, none⟩ = some (.int .u64 (L : Int))) := fun X h => ⟨(DG.out.via h).at_ 3 (by simp), (DG.out.via h).at_ 4 (by simp), (DG.out.via h).at_ 5 (by simp), (CP.out.via h).c0, (CP.out.via h).c1, (CP.out.via h).c2⟩
          go_wp2_with fail
          go_region_held3 (fun X => X.cell? ⟨g, 3, none⟩ = some (.bool s1) ∧ X.cell? ⟨g, 4, none⟩ = some (.int .u64 (H1 : Int)) ∧ X.cell? ⟨g, 5, none⟩ = some (.int .u64 (L1 : Int)) ∧ X.cell? ⟨p, 0, none⟩ = some (.bool s) ∧ X.cell? ⟨p, 1, none⟩ = some (.int .u64 (H : Int)) ∧ X.cell? ⟨p, 2, none⟩ = some (.int .u64 (L : Int)))
            (first | exact HK1.out _ (Below.refl _ _) | exact HK1.out _ (Below.refl _ _).drew | exact HK1.out _ B1)
            (first | (go_at_call 33; refine (C1.out _).mono ?_; rintro e w1 ⟨rfl, hb1⟩; have B1 : Below wr.heap.size wr w1 := (by first | exact (Below.refl _ _).drew.trans hb1 | exact hb1)) | fail)
          have DG1 := Lib.hid (DG.out.via B1)
          have CP1 := Lib.hid (CP.out.via B1)
          have CQ1 := Lib.hid (CQ.out.via B1)
          have Q11 := Lib.hid (Q1.out.via B1)
          have Q21 := Lib.hid (Q2.out.via B1)
          have BX1 := Lib.hid (sbtr BX.out B1)
          clear B1 DG CP CQ Q1 Q2 BX HK1 C1
          cases b1
          · go_wp2_with fail
            generalize w1 = W1 at *
            have HK2 : Hid (∀ X : World, Below W1.heap.size W1 X → X.cell? ⟨g, 3, none⟩ = some (.bool s1) ∧ X.cell? ⟨g, 4, none⟩ = some (.int .u64 (H1 : Int)) ∧ X.cell? ⟨g, 5, none⟩ = some (.int .u64 (L1 : Int)) ∧ X.cell? ⟨q, 0, none⟩ = some (.bool s') ∧ X.cell? ⟨q, 1, none⟩ = some (.int .u64 (H' : Int)) ∧ X.cell? ⟨q, 2, none⟩ = some (.int .u64 (L' : Int))) := fun X h => ⟨(DG1.out.via h).at_ 3 (by simp), (DG1.out.via h).at_ 4 (by simp), (DG1.out.via h).at_ 5 (by simp), (CQ1.out.via h).c0, (CQ1.out.via h).c1, (CQ1.out.via h).c2⟩
            go_region_held3 (fun X => X.cell? ⟨g, 3, none⟩ = some (.bool s1) ∧ X.cell? ⟨g, 4, none⟩ = some (.int .u64 (H1 : Int)) ∧ X.cell? ⟨g, 5, none⟩ = some (.int .u64 (L1 : Int)) ∧ X.cell? ⟨q, 0, none⟩ = some (.bool s') ∧ X.cell? ⟨q, 1, none⟩ = some (.int .u64 (H' : Int)) ∧ X.cell? ⟨q, 2, none⟩ = some (.int .u64 (L' : Int)))
              (first | exact HK2.out _ (Below.refl _ _) | exact HK2.out _ (Below.refl _ _).drew | exact HK2.out _ B2)
              (first | (go_at_call 33; refine (C2.out _).mono ?_; rintro e w2 ⟨rfl, hb2⟩; have B2 : Below W1.heap.size W1 w2 := (by first | exact (Below.refl _ _).drew.trans hb2 | exact hb2)) | fail)
            have DG2 := Lib.hid (DG1.out.via B2)
            have CP2 := Lib.hid (CP1.out.via B2)
            have CQ2 := Lib.hid (CQ1.out.via B2)
            have Q12 := Lib.hid (Q11.out.via B2)
            have Q22 := Lib.hid (Q21.out.via B2)
            have BX2 := Lib.hid (sbtr BX1.out B2)
            clear B2 DG1 CP1 CQ1 Q11 Q21 BX1 HK2 C2
            cases b2
            · go_wp2
              go_roundw
              case rel => exact ⟨s, H, L, s', H', L', LA.out, LB.out, .inr (.inl ⟨rfl, by have a := VL.out; have b := V1.out; have c := D1.out; simp at c; omega, by have a := VH.out; have b := V1.out; have c := D2.out; simp at c; omega⟩), CP2.out, CQ2.out, DG2.out, Q12.out, Q22.out, BX2.out⟩
              case measure => simp [intOf]
            · obtain ⟨e0, e1, e2, e3, e4, e5, e6, e7, e8, e9, e10, e11, e12, e13, e14, e15, e16, e17, e18, e19, e20, e21, e22, e23⟩ := DG2.out.raw
              have ⟨q0, q1, q2, q3, q4, q5, ql⟩ := CQ2.out
              go_wp2
              clear e0 e1 e2 e3 e4 e5 e6 e7 e8 e9 e10 e11 e12 e13 e14 e15 e16 e17 e18 e19 e20 e21 e22 e23 q0 q1 q2 q3 q4 q5
              go_roundw
              case rel => exact ⟨s, H, L, s1, H1, L1, LA.out, G1.out, .inr (.inl ⟨rfl, by have a := VL.out; have b := V1.out; have c := D1.out; simp at c; omega, by have a := VH.out; have b := V1.out; have c := D2.out; simp at c; omega⟩), CP2.out.farC (by omega) [_, _, _], CQ2.out.setC _ _ _, DG2.out.farC (by omega) [_, _, _], Q12.out.farC (by omega) [_, _, _], Q22.out.farC (by omega) [_, _, _], below_setCells (by omega) [_, _, _] 0 _ _ BX2.out⟩
              case measure => simp [intOf]
          · obtain ⟨e0, e1, e2, e3, e4, e5, e6, e7, e8, e9, e10, e11, e12, e13, e14, e15, e16, e17, e18, e19, e20, e21, e22, e23⟩ := DG1.out.raw
            have ⟨p0, p1, p2, p3, p4, p5, pl⟩ := CP1.out
            go_wp2_with fail
            clear e0 e1 e2 e3 e4 e5 e6 e7 e8 e9 e10 e11 e12 e13 e14 e15 e16 e17 e18 e19 e20 e21 e22 e23 p0 p1 p2 p3 p4 p5 pl
            rw [set3_eq]
            replace CQ1 := Lib.hid (CQ1.out.farC (g := q) (h := p) (by omega) [.bool s1, .int .u64 (H1 : Int), .int .u64 (L1 : Int)])
            replace DG1 := Lib.hid (DG1.out.farC (h := p) (by omega) [.bool s1, .int .u64 (H1 : Int), .int .u64 (L1 : Int)])
            replace Q11 := Lib.hid (Q11.out.farC (h := p) (by omega) [.bool s1, .int .u64 (H1 : Int), .int .u64 (L1 : Int)])
            replace Q21 := Lib.hid (Q21.out.farC (h := p) (by omega) [.bool s1, .int .u64 (H1 : Int), .int .u64 (L1 : Int)])
            replace CP1 := Lib.hid (CP1.out.setC (.bool s1) (.int .u64 (H1 : Int)) (.int .u64 (L1 : Int)))
            replace BX1 := Lib.hid (below_setCells (g := p) (by omega) [.bool s1, .int .u64 (H1 : Int), .int .u64 (L1 : Int)] 0 _ _ BX1.out)
            generalize w1.setCells p 0 [.bool s1, .int .u64 (H1 : Int), .int .u64 (L1 : Int)] = W1 at *
            have HK2 : Hid (∀ X : World, Below W1.heap.size W1 X → X.cell? ⟨g, 3, none⟩ = some (.bool s1) ∧ X.cell? ⟨g, 4, none⟩ = some (.int .u64 (H1 : Int)) ∧ X.cell? ⟨g, 5, none⟩ = some (.int .u64 (L1 : Int)) ∧ X.cell? ⟨q, 0, none⟩ = some (.bool s') ∧ X.cell? ⟨q, 1, none⟩ = some (.int .u64 (H' : Int)) ∧ X.cell? ⟨q, 2, none⟩ = some (.int .u64 (L' : Int))) := fun X h => ⟨(DG1.out.via h).at_ 3 (by simp), (DG1.out.via h).at_ 4 (by simp), (DG1.out.via h).at_ 5 (by simp), (CQ1.out.via h).c0, (CQ1.out.via h).c1, (CQ1.out.via h).c2⟩
            go_region_held3 (fun X => X.cell? ⟨g, 3, none⟩ = some (.bool s1) ∧ X.cell? ⟨g, 4, none⟩ = some (.int .u64 (H1 : Int)) ∧ X.cell? ⟨g, 5, none⟩ = some (.int .u64 (L1 : Int)) ∧ X.cell? ⟨q, 0, none⟩ = some (.bool s') ∧ X.cell? ⟨q, 1, none⟩ = some (.int .u64 (H' : Int)) ∧ X.cell? ⟨q, 2, none⟩ = some (.int .u64 (L' : Int)))
              (first | exact HK2.out _ (Below.refl _ _) | exact HK2.out _ (Below.refl _ _).drew | exact HK2.out _ B2)
              (first | (go_at_call 33; refine (C2.out _).mono ?_; rintro e w2 ⟨rfl, hb2⟩; have B2 : Below W1.heap.size W1 w2 := (by first | exact (Below.refl _ _).drew.trans hb2 | exact hb2)) | fail)
            have DG2 := Lib.hid (DG1.out.via B2)
            have CP2 := Lib.hid (CP1.out.via B2)
            have CQ2 := Lib.hid (CQ1.out.via B2)
            have Q12 := Lib.hid (Q11.out.via B2)
            have Q22 := Lib.hid (Q21.out.via B2)
            have BX2 := Lib.hid (sbtr BX1.out B2)
            clear B2 DG1 CP1 CQ1 Q11 Q21 BX1 HK2 C2
            cases b2
            · go_wp2
              go_roundw
              case rel => exact ⟨s1, H1, L1, s', H', L', G1.out, LB.out, .inr (.inl ⟨rfl, by have a := VL.out; have b := V1.out; have c := D1.out; simp at c; omega, by have a := VH.out; have b := V1.out; have c := D2.out; simp at c; omega⟩), CP2.out, CQ2.out, DG2.out, Q12.out, Q22.out, BX2.out⟩
              case measure => simp [intOf]
            · obtain ⟨e0, e1, e2, e3, e4, e5, e6, e7, e8, e9, e10, e11, e12, e13, e14, e15, e16, e17, e18, e19, e20, e21, e22, e23⟩ := DG2.out.raw
              have ⟨q0, q1, q2, q3, q4, q5, ql⟩ := CQ2.out
              go_wp2
              clear e0 e1 e2 e3 e4 e5 e6 e7 e8 e9 e10 e11 e12 e13 e14 e15 e16 e17 e18 e19 e20 e21 e22 e23 q0 q1 q2 q3 q4 q5
              go_roundw
              case rel => exact ⟨s1, H1, L1, s1, H1, L1, G1.out, G1.out, .inr (.inl ⟨rfl, by have a := VL.out; have b := V1.out; have c := D1.out; simp at c; omega, by have a := VH.out; have b := V1.out; have c := D2.out; simp at c; omega⟩), CP2.out.farC (by omega) [_, _, _], CQ2.out.setC _ _ _, DG2.out.farC (by omega) [_, _, _], Q12.out.farC (by omega) [_, _, _], Q22.out.farC (by omega) [_, _, _], below_setCells (by omega) [_, _, _] 0 _ _ BX2.out⟩
              case measure => simp [intOf]
        · have VL := Lib.hid hlo
          have VH := Lib.hid hhi
          clear hlo hhi
          obtain ⟨b1, hb1⟩ : ∃ b, decide (sv s2 H2 L2 < sv s H L) = b := ⟨_, rfl⟩
          obtain ⟨b2, hb2⟩ : ∃ b, decide (sv s' H' L' < sv s2 H2 L2) = b := ⟨_, rfl⟩
          have C1 := Lib.hid (fun W => less_lg W G2.out LA.out)
          have C2 := Lib.hid (fun W => less_lg W LB.out G2.out)
          rw [hb1] at C1
          rw [hb2] at C2
          have D1 := Lib.hid hb1
          have D2 := Lib.hid hb2
          clear hb1 hb2
          have HK1 : Hid (∀ X : World, Below wr.heap.size wr X → X.cell? ⟨g, 6, none⟩ = some (.bool s2) ∧ X.cell? ⟨g, 7, none⟩ = some (.int .u64 (H2 : Int)) ∧ X.cell? ⟨g, 8, none⟩ = some (.int .u64 (L2 : Int)) ∧ X.cell? ⟨p, 0, none⟩ = some (.bool s) ∧ X.cell? ⟨p, 1, none⟩ = some (.int .u64 (H : Int)) ∧ X.cell? ⟨p, 2, none⟩ = some (.int .u64 (L : Int))) := fun X h => ⟨(DG.out.via h).at_ 6 (by simp), (DG.out.via h).at_ 7 (by simp), (DG.out.via h).at_ 8 (by simp), (CP.out.via h).c0, (CP.out.via h).c1, (CP.out.via h).c2⟩
          go_wp2_with fail
          go_region_held3 (fun X => X.cell? ⟨g, 6, none⟩ = some (.bool s2) ∧ X.cell? ⟨g, 7, none⟩ = some (.int .u64 (H2 : Int)) ∧ X.cell? ⟨g, 8, none⟩ = some (.int .u64 (L2 : Int)) ∧ X.cell? ⟨p, 0, none⟩ = some (.bool s) ∧ X.cell? ⟨p, 1, none⟩ = some (.int .u64 (H : Int)) ∧ X.cell? ⟨p, 2, none⟩ = some (.int .u64 (L : Int)))
            (first | exact HK1.out _ (Below.refl _ _) | exact HK1.out _ (Below.refl _ _).drew | exact HK1.out _ B1)
            (first | (go_at_call 33; refine (C1.out _).mono ?_; rintro e w1 ⟨rfl, hb1⟩; have B1 : Below wr.heap.size wr w1 := (by first | exact (Below.refl _ _).drew.trans hb1 | exact hb1)) | fail)
          have DG1 := Lib.hid (DG.out.via B1)
          have CP1 := Lib.hid (CP.out.via B1)
          have CQ1 := Lib.hid (CQ.out.via B1)
          have Q11 := Lib.hid (Q1.out.via B1)
          have Q21 := Lib.hid (Q2.out.via B1)
          have BX1 := Lib.hid (sbtr BX.out B1)
          clear B1 DG CP CQ Q1 Q2 BX HK1 C1
          cases b1
          · go_wp2_with fail
            generalize w1 = W1 at *
            have HK2 : Hid (∀ X : World, Below W1.heap.size W1 X → X.cell? ⟨g, 6, none⟩ = some (.bool s2) ∧ X.cell? ⟨g, 7, none⟩ = some (.int .u64 (H2 : Int)) ∧ X.cell? ⟨g, 8, none⟩ = some (.int .u64 (L2 : Int)) ∧ X.cell? ⟨q, 0, none⟩ = some (.bool s') ∧ X.cell? ⟨q, 1, none⟩ = some (.int .u64 (H' : Int)) ∧ X.cell? ⟨q, 2, none⟩ = some (.int .u64 (L' : Int))) := fun X h => ⟨(DG1.out.via h).at_ 6 (by simp), (DG1.out.via h).at_ 7 (by simp), (DG1.out.via h).at_ 8 (by simp), (CQ1.out.via h).c0, (CQ1.out.via h).c1, (CQ1.out.via h).c2⟩
            go_region_held3 (fun X => X.cell? ⟨g, 6, none⟩ = some (.bool s2) ∧ X.cell? ⟨g, 7, none⟩ = some (.int .u64 (H2 : Int)) ∧ X.cell? ⟨g, 8, none⟩ = some (.int .u64 (L2 : Int)) ∧ X.cell? ⟨q, 0, none⟩ = some (.bool s') ∧ X.cell? ⟨q, 1, none⟩ = some (.int .u64 (H' : Int)) ∧ X.cell? ⟨q, 2, none⟩ = some (.int .u64 (L' : Int)))
              (first | exact HK2.out _ (Below.refl _ _) | exact HK2.out _ (Below.refl _ _).drew | exact HK2.out _ B2)
              (first | (go_at_call 33; refine (C2.out _).mono ?_; rintro e w2 ⟨rfl, hb2⟩; have B2 : Below W1.heap.size W1 w2 := (by first | exact (Below.refl _ _).drew.trans hb2 | exact hb2)) | fail)
            have DG2 := Lib.hid (DG1.out.via B2)
            have CP2 := Lib.hid (CP1.out.via B2)
            have CQ2 := Lib.hid (CQ1.out.via B2)
            have Q12 := Lib.hid (Q11.out.via B2)
            have Q22 := Lib.hid (Q21.out.via B2)
            have BX2 := Lib.hid (sbtr BX1.out B2)
            clear B2 DG1 CP1 CQ1 Q11 Q21 BX1 HK2 C2
            cases b2
            · go_wp2
              go_roundw
              case rel => exact ⟨s, H, L, s', H', L', LA.out, LB.out, .inr (.inr (.inl ⟨rfl, by have a := VL.out; have b := V2.out; have c := D1.out; simp at c; omega, by have a := VH.out; have b := V2.out; have c := D2.out; simp at c; omega⟩)), CP2.out, CQ2.out, DG2.out, Q12.out, Q22.out, BX2.out⟩
              case measure => simp [intOf]
            · obtain ⟨e0, e1, e2, e3, e4, e5, e6, e7, e8, e9, e10, e11, e12, e13, e14, e15, e16, e17, e18, e19, e20, e21, e22, e23⟩ := DG2.out.raw
              have ⟨q0, q1, q2, q3, q4, q5, ql⟩ := CQ2.out
              go_wp2
              clear e0 e1 e2 e3 e4 e5 e6 e7 e8 e9 e10 e11 e12 e13 e14 e15 e16 e17 e18 e19 e20 e21 e22 e23 q0 q1 q2 q3 q4 q5
              go_roundw
              case rel => exact ⟨s, H, L, s2, H2, L2, LA.out, G2.out, .inr (.inr (.inl ⟨rfl, by have a := VL.out; have b := V2.out; have c := D1.out; simp at c; omega, by have a := VH.out; have b := V2.out; have c := D2.out; simp at c; omega⟩)), CP2.out.farC (by omega) [_, _, _], CQ2.out.setC _ _ _, DG2.out.farC (by omega) [_, _, _], Q12.out.farC (by omega) [_, _, _], Q22.out.farC (by omega) [_, _, _], below_setCells (by omega) [_, _, _] 0 _ _ BX2.out⟩
              case measure => simp [intOf]
          · obtain ⟨e0, e1, e2, e3, e4, e5, e6, e7, e8, e9, e10, e11, e12, e13, e14, e15, e16, e17, e18, e19, e20, e21, e22, e23⟩ := DG1.out.raw
            have ⟨p0, p1, p2, p3, p4, p5, pl⟩ := CP1.out
            go_wp2_with fail
            clear e0 e1 e2 e3 e4 e5 e6 e7 e8 e9 e10 e11 e12 e13 e14 e15 e16 e17 e18 e19 e20 e21 e22 e23 p0 p1 p2 p3 p4 p5 pl
            rw [set3_eq]
            replace CQ1 := Lib.hid (CQ1.out.farC (g := q) (h := p) (by omega) [.bool s2, .int .u64 (H2 : Int), .int .u64 (L2 : Int)])
            replace DG1 := Lib.hid (DG1.out.farC (h := p) (by omega) [.bool s2, .int .u64 (H2 : Int), .int .u64 (L2 : Int)])
            replace Q11 := Lib.hid (Q11.out.farC (h := p) (by omega) [.bool s2, .int .u64 (H2 : Int), .int .u64 (L2 : Int)])
            replace Q21 := Lib.hid (Q21.out.farC (h := p) (by omega) [.bool s2, .int .u64 (H2 : Int), .int .u64 (L2 : Int)])
            replace CP1 := Lib.hid (CP1.out.setC (.bool s2) (.int .u64 (H2 : Int)) (.int .u64 (L2 : Int)))
            replace BX1 := Lib.hid (below_setCells (g := p) (by omega) [.bool s2, .int .u64 (H2 : Int), .int .u64 (L2 : Int)] 0 _ _ BX1.out)
            generalize w1.setCells p 0 [.bool s2, .int .u64 (H2 : Int), .int .u64 (L2 : Int)] = W1 at *
            have HK2 : Hid (∀ X : World, Below W1.heap.size W1 X → X.cell? ⟨g, 6, none⟩ = some (.bool s2) ∧ X.cell? ⟨g, 7, none⟩ = some (.int .u64 (H2 : Int)) ∧ X.cell? ⟨g, 8, none⟩ = some (.int .u64 (L2 : Int)) ∧ X.cell? ⟨q, 0, none⟩ = some (.bool s') ∧ X.cell? ⟨q, 1, none⟩ = some (.int .u64 (H' : Int)) ∧ X.cell? ⟨q, 2, none⟩ = some (.int .u64 (L' : Int))) := fun X h => ⟨(DG1.out.via h).at_ 6 (by simp), (DG1.out.via h).at_ 7 (by simp), (DG1.out.via h).at_ 8 (by simp), (CQ1.out.via h).c0, (CQ1.out.via h).c1, (CQ1.out.via h).c2⟩
            go_region_held3 (fun X => X.cell? ⟨g, 6, none⟩ = some (.bool s2) ∧ X.cell? ⟨g, 7, none⟩ = some (.int .u64 (H2 : Int)) ∧ X.cell? ⟨g, 8, none⟩ = some (.int .u64 (L2 : Int)) ∧ X.cell? ⟨q, 0, none⟩ = some (.bool s') ∧ X.cell? ⟨q, 1, none⟩ = some (.int .u64 (H' : Int)) ∧ X.cell? ⟨q, 2, none⟩ = some (.int .u64 (L' : Int)))
              (first | exact HK2.out _ (Below.refl _ _) | exact HK2.out _ (Below.refl _ _).drew | exact HK2.out _ B2)
              (first | (go_at_call 33; refine (C2.out _).mono ?_; rintro e w2 ⟨rfl, hb2⟩; have B2 : Below W1.heap.size W1 w2 := (by first | exact (Below.refl _ _).drew.trans hb2 | exact hb2)) | fail)
            have DG2 := Lib.hid (DG1.out.via B2)
            have CP2 := Lib.hid (CP1.out.via B2)
            have CQ2 := Lib.hid (CQ1.out.via B2)
            have Q12 := Lib.hid (Q11.out.via B2)
            have Q22 := Lib.hid (Q21.out.via B2)
            have BX2 := Lib.hid (sbtr BX1.out B2)
            clear B2 DG1 CP1 CQ1 Q11 Q21 BX1 HK2 C2
            cases b2
            · go_wp2
              go_roundw
              case rel => exact ⟨s2, H2, L2, s', H', L', G2.out, LB.out, .inr (.inr (.inl ⟨rfl, by have a := VL.out; have b := V2.out; have c := D1.out; simp at c; omega, by have a := VH.out; have b := V2.out; have c := D2.out; simp at c; omega⟩)), CP2.out, CQ2.out, DG2.out, Q12.out, Q22.out, BX2.out⟩
              case measure => simp [intOf]
            · obtain ⟨e0, e1, e2, e3, e4, e5, e6, e7, e8, e9, e10, e11, e12, e13, e14, e15, e16, e17, e18, e19, e20, e21, e22, e23⟩ := DG2.out.raw
              have ⟨q0, q1, q2, q3, q4, q5, ql⟩ := CQ2.out
              go_wp2
              clear e0 e1 e2 e3 e4 e5 e6 e7 e8 e9 e10 e11 e12 e13 e14 e15 e16 e17 e18 e19 e20 e21 e22 e23 q0 q1 q2 q3 q4 q5
              go_roundw
              case rel => exact ⟨s2, H2, L2, s2, H2, L2, G2.out, G2.out, .inr (.inr (.inl ⟨rfl, by have a := VL.out; have b := V2.out; have c := D1.out; simp at c; omega, by have a := VH.out; have b := V2.out; have c := D2.out; simp at c; omega⟩)), CP2.out.farC (by omega) [_, _, _], CQ2.out.setC _ _ _, DG2.out.farC (by omega) [_, _, _], Q12.out.farC (by omega) [_, _, _], Q22.out.farC (by omega) [_, _, _], below_setCells (by omega) [_, _, _] 0 _ _ BX2.out⟩
              case measure => simp [intOf]
        · have VL := Lib.hid hlo
          have VH := Lib.hid hhi
          clear hlo hhi
          obtain ⟨b1, hb1⟩ : ∃ b, decide (sv s3 H3 L3 < sv s H L) = b := ⟨_, rfl⟩
          obtain ⟨b2, hb2⟩ : ∃ b, decide (sv s' H' L' < sv s3 H3 L3) = b := ⟨_, rfl⟩
          have C1 := Lib.hid (fun W => less_lg W G3.out LA.out)
          have C2 := Lib.hid (fun W => less_lg W LB.out G3.out)
          rw [hb1] at C1
          rw [hb2] at C2
          have D1 := Lib.hid hb1
          have D2 := Lib.hid hb2
          clear hb1 hb2
          have HK1 : Hid (∀ X : World, Below wr.heap.size wr X → X.cell? ⟨g, 9, none⟩ = some (.bool s3) ∧ X.cell? ⟨g, 10, none⟩ = some (.int .u64 (H3 : Int)) ∧ X.cell? ⟨g, 11, none⟩ = some (.int .u64 (L3 : Int)) ∧ X.cell? ⟨p, 0, none⟩ = some (.bool s) ∧ X.cell? ⟨p, 1, none⟩ = some (.int .u64 (H : Int)) ∧ X.cell? ⟨p, 2, none⟩ = some (.int .u64 (L : Int))) := fun X h => ⟨(DG.out.via h).at_ 9 (by simp), (DG.out.via h).at_ 10 (by simp), (DG.out.via h).at_ 11 (by simp), (CP.out.via h).c0, (CP.out.via h).c1, (CP.out.via h).c2⟩
          go_wp2_with fail
          go_region_held3 (fun X => X.cell? ⟨g, 9, none⟩ = some (.bool s3) ∧ X.cell? ⟨g, 10, none⟩ = some (.int .u64 (H3 : Int)) ∧ X.cell? ⟨g, 11, none⟩ = some (.int .u64 (L3 : Int)) ∧ X.cell? ⟨p, 0, none⟩ = some (.bool s) ∧ X.cell? ⟨p, 1, none⟩ = some (.int .u64 (H : Int)) ∧ X.cell? ⟨p, 2, none⟩ = some (.int .u64 (L : Int)))
            (first | exact HK1.out _ (Below.refl _ _) | exact HK1.out _ (Below.refl _ _).drew | exact HK1.out _ B1)
            (first | (go_at_call 33; refine (C1.out _).mono ?_; rintro e w1 ⟨rfl, hb1⟩; have B1 : Below wr.heap.size wr w1 := (by first | exact (Below.refl _ _).drew.trans hb1 | exact hb1)) | fail)
          have DG1 := Lib.hid (DG.out.via B1)
          have CP1 := Lib.hid (CP.out.via B1)
          have CQ1 := Lib.hid (CQ.out.via B1)
          have Q11 := Lib.hid (Q1.out.via B1)
          have Q21 := Lib.hid (Q2.out.via B1)
          have BX1 := Lib.hid (sbtr BX.out B1)
          clear B1 DG CP CQ Q1 Q2 BX HK1 C1
          cases b1
          · go_wp2_with fail
            generalize w1 = W1 at *
            have HK2 : Hid (∀ X : World, Below W1.heap.size W1 X → X.cell? ⟨g, 9, none⟩ = some (.bool s3) ∧ X.cell? ⟨g, 10, none⟩ = some (.int .u64 (H3 : Int)) ∧ X.cell? ⟨g, 11, none⟩ = some (.int .u64 (L3 : Int)) ∧ X.cell? ⟨q, 0, none⟩ = some (.bool s') ∧ X.cell? ⟨q, 1, none⟩ = some (.int .u64 (H' : Int)) ∧ X.cell? ⟨q, 2, none⟩ = some (.int .u64 (L' : Int))) := fun X h => ⟨(DG1.out.via h).at_ 9 (by simp), (DG1.out.via h).at_ 10 (by simp), (DG1.out.via h).at_ 11 (by simp), (CQ1.out.via h).c0, (CQ1.out.via h).c1, (CQ1.out.via h).c2⟩
            go_region_held3 (fun X => X.cell? ⟨g, 9, none⟩ = some (.bool s3) ∧ X.cell? ⟨g, 10, none⟩ = some (.int .u64 (H3 : Int)) ∧ X.cell? ⟨g, 11, none⟩ = some (.int .u64 (L3 : Int)) ∧ X.cell? ⟨q, 0, none⟩ = some (.bool s') ∧ X.cell? ⟨q, 1, none⟩ = some (.int .u64 (H' : Int)) ∧ X.cell? ⟨q, 2, none⟩ = some (.int .u64 (L' : Int)))
              (first | exact HK2.out _ (Below.refl _ _) | exact HK2.out _ (Below.refl _ _).drew | exact HK2.out _ B2)
              (first | (go_at_call 33; refine (C2.out _).mono ?_; rintro e w2 ⟨rfl, hb2⟩; have B2 : Below W1.heap.size W1 w2 := (by first | exact (Below.refl _ _).drew.trans hb2 | exact hb2)) | fail)
            have DG2 := Lib.hid (DG1.out.via B2)
            have CP2 := Lib.hid (CP1.out.via B2)
            have CQ2 := Lib.hid (CQ1.out.via B2)
            have Q12 := Lib.hid (Q11.out.via B2)
            have Q22 := Lib.hid (Q21.out.via B2)
            have BX2 := Lib.hid (sbtr BX1.out B2)
            clear B2 DG1 CP1 CQ1 Q11 Q21 BX1 HK2 C2
            cases b2
            · go_wp2
              go_roundw
              case rel => exact ⟨s, H, L, s', H', L', LA.out, LB.out, .inr (.inr (.inr (⟨rfl, by have a := VL.out; have b := V3.out; have c := D1.out; simp at c; omega, by have a := VH.out; have b := V3.out; have c := D2.out; simp at c; omega⟩))), CP2.out, CQ2.out, DG2.out, Q12.out, Q22.out, BX2.out⟩
              case measure => simp [intOf]
            · obtain ⟨e0, e1, e2, e3, e4, e5, e6, e7, e8, e9, e10, e11, e12, e13, e14, e15, e16, e17, e18, e19, e20, e21, e22, e23⟩ := DG2.out.raw
              have ⟨q0, q1, q2, q3, q4, q5, ql⟩ := CQ2.out
              go_wp2
              clear e0 e1 e2 e3 e4 e5 e6 e7 e8 e9 e10 e11 e12 e13 e14 e15 e16 e17 e18 e19 e20 e21 e22 e23 q0 q1 q2 q3 q4 q5
              go_roundw
              case rel => exact ⟨s, H, L, s3, H3, L3, LA.out, G3.out, .inr (.inr (.inr (⟨rfl, by have a := VL.out; have b := V3.out; have c := D1.out; simp at c; omega, by have a := VH.out; have b := V3.out; have c := D2.out; simp at c; omega⟩))), CP2.out.farC (by omega) [_, _, _], CQ2.out.setC _ _ _, DG2.out.farC (by omega) [_, _, _], Q12.out.farC (by omega) [_, _, _], Q22.out.farC (by omega) [_, _, _], below_setCells (by omega) [_, _, _] 0 _ _ BX2.out⟩
              case measure => simp [intOf]
          · obtain ⟨e0, e1, e2, e3, e4, e5, e6, e7, e8, e9, e10, e11, e12, e13, e14, e15, e16, e17, e18, e19, e20, e21, e22, e23⟩ := DG1.out.raw
            have ⟨p0, p1, p2, p3, p4, p5, pl⟩ := CP1.out
            go_wp2_with fail
            clear e0 e1 e2 e3 e4 e5 e6 e7 e8 e9 e10 e11 e12 e13 e14 e15 e16 e17 e18 e19 e20 e21 e22 e23 p0 p1 p2 p3 p4 p5 pl
            rw [set3_eq]
            replace CQ1 := Lib.hid (CQ1.out.farC (g := q) (h := p) (by omega) [.bool s3, .int .u64 (H3 : Int), .int .u64 (L3 : Int)])
            replace DG1 := Lib.hid (DG1.out.farC (h := p) (by omega) [.bool s3, .int .u64 (H3 : Int), .int .u64 (L3 : Int)])
            replace Q11 := Lib.hid (Q11.out.farC (h := p) (by omega) [.bool s3, .int .u64 (H3 : Int), .int .u64 (L3 : Int)])
            replace Q21 := Lib.hid (Q21.out.farC (h := p) (by omega) [.bool s3, .int .u64 (H3 : Int), .int .u64 (L3 : Int)])
            replace CP1 := Lib.hid (CP1.out.setC (.bool s3) (.int .u64 (H3 : Int)) (.int .u64 (L3 : Int)))
            replace BX1 := Lib.hid (below_setCells (g := p) (by omega) [.bool s3, .int .u64 (H3 : Int), .int .u64 (L3 : Int)] 0 _ _ BX1.out)
            generalize w1.setCells p 0 [.bool s3, .int .u64 (H3 : Int), .int .u64 (L3 : Int)] = W1 at *
            have HK2 : Hid (∀ X : World, Below W1.heap.size W1 X → X.cell? ⟨g, 9, none⟩ = some (.bool s3) ∧ X.cell? ⟨g, 10, none⟩ = some (.int .u64 (H3 : Int)) ∧ X.cell? ⟨g, 11, none⟩ = some (.int .u64 (L3 : Int)) ∧ X.cell? ⟨q, 0, none⟩ = some (.bool s') ∧ X.cell? ⟨q, 1, none⟩ = some (.int .u64 (H' : Int)) ∧ X.cell? ⟨q, 2, none⟩ = some (.int .u64 (L' : Int))) := fun X h => ⟨(DG1.out.via h).at_ 9 (by simp), (DG1.out.via h).at_ 10 (by simp), (DG1.out.via h).at_ 11 (by simp), (CQ1.out.via h).c0, (CQ1.out.via h).c1, (CQ1.out.via h).c2⟩
            go_region_held3 (fun X => X.cell? ⟨g, 9, none⟩ = some (.bool s3) ∧ X.cell? ⟨g, 10, none⟩ = some (.int .u64 (H3 : Int)) ∧ X.cell? ⟨g, 11, none⟩ = some (.int .u64 (L3 : Int)) ∧ X.cell? ⟨q, 0, none⟩ = some (.bool s') ∧ X.cell? ⟨q, 1, none⟩ = some (.int .u64 (H' : Int)) ∧ X.cell? ⟨q, 2, none⟩ = some (.int .u64 (L' : Int)))
              (first | exact HK2.out _ (Below.refl _ _) | exact HK2.out _ (Below.refl _ _).drew | exact HK2.out _ B2)
              (first | (go_at_call 33; refine (C2.out _).mono ?_; rintro e w2 ⟨rfl, hb2⟩; have B2 : Below W1.heap.size W1 w2 := (by first | exact (Below.refl _ _).drew.trans hb2 | exact hb2)) | fail)
            have DG2 := Lib.hid (DG1.out.via B2)
            have CP2 := Lib.hid (CP1.out.via B2)
            have CQ2 := Lib.hid (CQ1.out.via B2)
            have Q12 := Lib.hid (Q11.out.via B2)
            have Q22 := Lib.hid (Q21.out.via B2)
            have BX2 := Lib.hid (sbtr BX1.out B2)
            clear B2 DG1 CP1 CQ1 Q11 Q21 BX1 HK2 C2
            cases b2
            · go_wp2
              go_roundw
              case rel => exact ⟨s3, H3, L3, s', H', L', G3.out, LB.out, .inr (.inr (.inr (⟨rfl, by have a := VL.out; have b := V3.out; have c := D1.out; simp at c; omega, by have a := VH.out; have b := V3.out; have c := D2.out; simp at c; omega⟩))), CP2.out, CQ2.out, DG2.out, Q12.out, Q22.out, BX2.out⟩
              case measure => simp [intOf]
            · obtain ⟨e0, e1, e2, e3, e4, e5, e6, e7, e8, e9, e10, e11, e12, e13, e14, e15, e16, e17, e18, e19, e20, e21, e22, e23⟩ := DG2.out.raw
              have ⟨q0, q1, q2, q3, q4, q5, ql⟩ := CQ2.out
              go_wp2
              clear e0 e1 e2 e3 e4 e5 e6 e7 e8 e9 e10 e11 e12 e13 e14 e15 e16 e17 e18 e19 e20 e21 e22 e23 q0 q1 q2 q3 q4 q5
              go_roundw
              case rel => exact ⟨s3, H3, L3, s3, H3, L3, G3.out, G3.out, .inr (.inr (.inr (⟨rfl, by have a := VL.out; have b := V3.out; have c := D1.out; simp at c; omega, by have a := VH.out; have b := V3.out; have c := D2.out; simp at c; omega⟩))), CP2.out.farC (by omega) [_, _, _], CQ2.out.setC _ _ _, DG2.out.farC (by omega) [_, _, _], Q12.out.farC (by omega) [_, _, _], Q22.out.farC (by omega) [_, _, _], below_setCells (by omega) [_, _, _] 0 _ _ BX2.out⟩
              case measure => simp [intOf]
        · have VL := Lib.hid hlo
          have VH := Lib.hid hhi
          clear hlo hhi
          have ⟨p0, p1, p2, _, _, _, _⟩ := CP.out
          have ⟨q0, q1, q2, _, _, _, _⟩ := CQ.out
          have ⟨r0, r1, r2, r3, r4, r5, _⟩ := Q1.out
          have ⟨t0, t1, t2, t3, t4, t5, _⟩ := Q2.out
          go_wp2_with fail
          go_region
          all_goals
            go_wp2_with fail
            exact bodyPost_ret (res_ll Try.results38 rfl rfl (((Q1.out.setC (.bool s) (.int .u64 (H : Int)) (.int .u64 (L : Int))).farC (h := w.heap.size + 1 + 1 + 1) (by omega) [.bool s', .int .u64 (H' : Int), .int .u64 (L' : Int)]).drewN 1) (((Q2.out.farC (h := w.heap.size + 1 + 1) (by omega) [.bool s, .int .u64 (H : Int), .int .u64 (L : Int)]).setC (.bool s') (.int .u64 (H' : Int)) (.int .u64 (L' : Int))).drewN 1)) rfl ⟨s, H, L, s', H', L', LA.out, LB.out, by rw [VL.out, V0.out, V1.out, V2.out, V3.out]; rfl, by rw [VH.out, V0.out, V1.out, V2.out, V3.out]; rfl, rfl, bdrewN (below_setCells (g := w.heap.size + 1 + 1 + 1) (by omega) [.bool s', .int .u64 (H' : Int), .int .u64 (L' : Int)] 0 _ _ (below_setCells (g := w.heap.size + 1 + 1) (by omega) [.bool s, .int .u64 (H : Int), .int .u64 (L : Int)] 0 _ _ BX.out)) 1⟩
theorem ends_any (w : World) (al ah bl bh : Int) (ha : IvIn al ah) (hb : IvIn bl bh) :
    Calls Try.prog 38 #[iv al ah, iv bl bh] w (RE2 w (al * bl) (al * bh) (ah * bl) (ah * bh)) := by
  obtain ⟨x1, x2, x3⟩ := ha
  obtain ⟨y1, y2, y3⟩ := hb
  obtain ⟨s0, H0, L0, g0, e0, t0⟩ := times_lg al bl (by omega) (by omega) (by omega) (by omega)
  obtain ⟨s1, H1, L1, g1, e1, t1⟩ := times_lg al bh (by omega) (by omega) (by omega) (by omega)
  obtain ⟨s2, H2, L2, g2, e2, t2⟩ := times_lg ah bl (by omega) (by omega) (by omega) (by omega)
  obtain ⟨s3, H3, L3, g3, e3, t3⟩ := times_lg ah bh (by omega) (by omega) (by omega) (by omega)
  rw [← e0, ← e1, ← e2, ← e3]
  exact ends_g w al ah bl bh s0 s1 s2 s3 H0 H1 H2 H3 L0 L1 L2 L3 g0 g1 g2 g3 t0 t1 t2 t3
end Go.Proofs.Ytegpckhfncblhaa

/- Intervals: Mul of the reference. -/
namespace Go.Proofs.Ytegpckhfncblhaa
open Go.RowKit

theorem mkI_cl2 {lo hi lo' hi' : Int} (h1 : cl lo = cl lo') (h2 : cl hi = cl hi') (h4 : lo' ≤ hi') : mkI lo hi = mkI lo' hi' := by
  unfold mkI cl at *
  by_cases h : lo' < -2305843009213693952 ∨ 2305843009213693952 < hi'
  · rw [if_pos (show lo < -2305843009213693952 ∨ 2305843009213693952 < hi by omega), if_pos h]
  · have h5 : ¬ (lo < -2305843009213693952 ∨ 2305843009213693952 < hi) := by omega
    rw [if_neg h5, if_neg h]
    have e1 : lo = lo' := by omega
    have e2 : hi = hi' := by omega
    rw [e1, e2]
theorem C3.far2 {w : World} {g h : Nat} {x0 x1 x2 : Value} (p : C3 w g x0 x1 x2) (hne : g ≠ h) (x y : Value) : C3 ((w.setCell ⟨h, 0, none⟩ x).setCell ⟨h, 1, none⟩ y) g x0 x1 x2 := p.farC hne [x, y]
theorem rover_lg (w : World) {s : Bool} {H L : Nat} (g : Lg s H L) (up : Bool) (D : Nat) (hD0 : 0 < D) (hD : D < 18446744073709551616) :
    Calls Try.prog 35 #[lv s H L, .int .u64 (D : Int), .bool up] w (RN1 w (rov s up (H * 18446744073709551616 + L) D)) := by
  have h := rover_any w s up (H * 18446744073709551616 + L) D hD0 hD
  have e1 := split_hl H g.low
  unfold pv at h
  rw [e1.1, e1.2] at h
  exact h
set_option maxRecDepth 100000 in
set_option maxHeartbeats 1000000 in
theorem rmulp_any (w : World) (al ah bl bh : Int) : Calls Try.prog 25 #[iv al ah, iv bl bh] w (RO w (j2 al ah bl bh (mkI (mulLo al ah bl bh) (mulHi al ah bl bh)))) := by
  have PA := Lib.hid (((Pr.new w (w.heap.size) rfl (.int .i64 al) (.int .i64 ah) 23).alloc (ivB bl bh)).alloc (ivB 0 0))
  have PB := Lib.hid ((Pr.new (w.alloc (ivB al ah)) (w.heap.size + 1) (by simp) (.int .i64 bl) (.int .i64 bh) 23).alloc (ivB 0 0))
  have PR := Lib.hid (Pr.new ((w.alloc (ivB al ah)).alloc (ivB bl bh)) (w.heap.size + 1 + 1) (by simp) (.int .i64 0) (.int .i64 0) 23)
  have BW : Hid (Below w.heap.size w (((w.alloc (ivB al ah)).alloc (ivB bl bh)).alloc (ivB 0 0))) := (sbal (sbal (sbal (Below.refl _ _) _) _) _)
  go_enter Try.func25, Try.ntmps25
  go_wp2_with fail
  generalize ((w.alloc (ivB al ah)).alloc (ivB bl bh)).alloc (ivB 0 0) = W0 at *
  refine (rboth_any _ al ah bl bh).mono ?_
  rintro e w1 ⟨rfl, hb⟩
  have P1 := Lib.hid (PA.out.via hb)
  have P2 := Lib.hid (PB.out.via hb)
  have P3 := Lib.hid (PR.out.via hb)
  have B1 := Lib.hid (sbtr BW.out hb)
  clear hb PA PB PR BW
  rcases ivB2_cases al ah bl bh with ⟨h, ha, hbb⟩ | h
  · rw [h]
    have HH := Lib.hid h
    have ia := ivIn_of ha
    have ib := ivIn_of hbb
    clear h ha hbb
    have ⟨a0, a1, a2, a3, a4⟩ := P1.out
    have ⟨b0, b1, b2, b3, b4⟩ := P2.out
    have HE := Lib.hid (fun W => ends_any W al ah bl bh ia ib)
    clear ia ib
    go_wp2_with fail
    refine (HE.out _).mono ?_
    rintro e w2 ⟨s, H, L, s', H', L', la, lb, ea, eb, rfl, hb⟩
    have hl2 := (P3.out.via hb).lt
    have P6 := Lib.hid (((P3.out.via hb).alloc (.cells #[.bool s, .int .u64 (H : Int), .int .u64 (L : Int)] 52)).alloc (.cells #[.bool s', .int .u64 (H' : Int), .int .u64 (L' : Int)] 52))
    have B2 := Lib.hid (sbal (sbal (sbtr B1.out hb) (.cells #[.bool s, .int .u64 (H : Int), .int .u64 (L : Int)] 52)) (.cells #[.bool s', .int .u64 (H' : Int), .int .u64 (L' : Int)] 52))
    have X1 := Lib.hid ((C3.new w2 _ rfl (.bool s) (.int .u64 (H : Int)) (.int .u64 (L : Int)) 52).alloc (.cells #[.bool s', .int .u64 (H' : Int), .int .u64 (L' : Int)] 52))
    have X2 := Lib.hid (C3.new (w2.alloc (.cells #[.bool s, .int .u64 (H : Int), .int .u64 (L : Int)] 52)) (w2.heap.size + 1) (by simp) (.bool s') (.int .u64 (H' : Int)) (.int .u64 (L' : Int)) 52)
    have O1 := Lib.hid (fun W => rover_lg W la false 1099511627776 (by omega) (by omega))
    have O2 := Lib.hid (fun W => rover_lg W lb true 1099511627776 (by omega) (by omega))
    have HM : Hid (mkI (rov s false (H * 18446744073709551616 + L) 1099511627776) (rov s' true (H' * 18446744073709551616 + L') 1099511627776) = mkI (mulLo al ah bl bh) (mulHi al ah bl bh)) := by
      show _ = _
      refine mkI_cl2 ?_ ?_ (mul_le _ _ _ _)
      · rw [rov_lo _ _ _ (by omega)]; unfold mulLo; rw [← ea]; rfl
      · rw [rov_hi _ _ _ (by omega)]; unfold mulHi; rw [← eb]; rfl
    clear la lb ea eb hb HE P1 P2 P3 B1 a0 a1 a2 a3 a4 b0 b1 b2 b3 b4
    generalize rov s false (H * 18446744073709551616 + L) 1099511627776 = x at *
    generalize rov s' true (H' * 18446744073709551616 + L') 1099511627776 = y at *
    go_wp2_with fail
    generalize (w2.alloc (.cells #[.bool s, .int .u64 (H : Int), .int .u64 (L : Int)] 52)).alloc (.cells #[.bool s', .int .u64 (H' : Int), .int .u64 (L' : Int)] 52) = W0 at *
    have HKS : Hid (∀ X : World, Below W0.heap.size W0 X → X.cell? ⟨w2.heap.size, 0, none⟩ = some (.bool s) ∧ X.cell? ⟨w2.heap.size, 1, none⟩ = some (.int .u64 (H : Int)) ∧ X.cell? ⟨w2.heap.size, 2, none⟩ = some (.int .u64 (L : Int)) ∧ X.cell? ⟨w2.heap.size + 1, 0, none⟩ = some (.bool s') ∧ X.cell? ⟨w2.heap.size + 1, 1, none⟩ = some (.int .u64 (H' : Int)) ∧ X.cell? ⟨w2.heap.size + 1, 2, none⟩ = some (.int .u64 (L' : Int))) := fun X h => ⟨(X1.out.via h).c0, (X1.out.via h).c1, (X1.out.via h).c2, (X2.out.via h).c0, (X2.out.via h).c1, (X2.out.via h).c2⟩
    have hle := X2.out.lt
    have hl6 : w.heap.size + 1 + 1 < W0.heap.size := P6.out.lt
    go_region_held3 (fun X => X.cell? ⟨w2.heap.size, 0, none⟩ = some (.bool s) ∧ X.cell? ⟨w2.heap.size, 1, none⟩ = some (.int .u64 (H : Int)) ∧ X.cell? ⟨w2.heap.size, 2, none⟩ = some (.int .u64 (L : Int)) ∧ X.cell? ⟨w2.heap.size + 1, 0, none⟩ = some (.bool s') ∧ X.cell? ⟨w2.heap.size + 1, 1, none⟩ = some (.int .u64 (H' : Int)) ∧ X.cell? ⟨w2.heap.size + 1, 2, none⟩ = some (.int .u64 (L' : Int)))
      (first | exact HKS.out _ (Below.refl _ _) | exact HKS.out _ (Below.refl _ _).drew | exact HKS.out _ D3 | exact HKS.out _ D2 | exact HKS.out _ D1 | (exact ⟨((X1.out.via D3).far2 (by omega) _ _).c0, ((X1.out.via D3).far2 (by omega) _ _).c1, ((X1.out.via D3).far2 (by omega) _ _).c2, ((X2.out.via D3).far2 (by omega) _ _).c0, ((X2.out.via D3).far2 (by omega) _ _).c1, ((X2.out.via D3).far2 (by omega) _ _).c2⟩))
      (first
       | (have _t := D2; go_at_call 20; refine (rmade_any _ x y).mono ?_; rintro e w5 ⟨rfl, hb3⟩; have D3 : Below W0.heap.size W0 w5 := sbtr D2 hb3; have P7 := P6.out.via D3; have ⟨q0, q1, q2, q3, ql⟩ := P7)
       | (have _t := D1; go_at_call 35; refine (O2.out _).mono ?_; rintro e w4 ⟨rfl, hb2⟩; have D2 : Below W0.heap.size W0 w4 := (by first | exact sbtr D1 hb2))
       | (go_at_call 35; refine (O1.out _).mono ?_; rintro e w3 ⟨rfl, hb1⟩; have D1 : Below W0.heap.size W0 w3 := (by first | exact (Below.refl _ _).drew.trans hb1 | exact hb1))
       | fail)
    all_goals
      go_wp2
      exact post_iv Try.results25 rfl rfl (P7.set _ _) ⟨ret_mk (HM.out.trans (j2_ok HH.out).symm), below_set2 (sbtr B2.out D3) (by omega) _ _⟩
  · rw [h]
    have HH := Lib.hid h
    clear h
    have ⟨a0, a1, a2, a3, a4⟩ := P1.out
    have ⟨b0, b1, b2, b3, b4⟩ := P2.out
    go_wp2_with fail
    refine (rboth_any _ al ah bl bh).mono ?_
    rintro e w2 ⟨rfl, hb⟩
    have B2 := Lib.hid (sbtr B1.out hb)
    have P4 := Lib.hid (P3.out.via hb)
    clear hb a0 a1 a2 a3 a4 b0 b1 b2 b3 b4
    rw [HH.out]
    have ⟨r0, r1, r2, r3, r4⟩ := P4.out
    go_wp2
    exact post_iv Try.results25 rfl rfl (P4.out.set _ _) ⟨by rw [j2_bad HH.out]; rfl, below_set2 B2.out (by omega) _ _⟩
end Go.Proofs.Ytegpckhfncblhaa

/- Intervals: made where the ends may be far out; rising; Sq on both sides. -/
namespace Go.Proofs.Ytegpckhfncblhaa
open Go.RowKit

set_option maxRecDepth 100000 in
theorem smade_bad (w : World) (lo hi : Int) (h : ivC lo hi = 8) : Calls Try.prog 26 #[iv lo hi] w (RO w ⟨0, 0, 16⟩) := by
  have PA := Lib.hid ((Pr.new w w.heap.size rfl (.int .i64 lo) (.int .i64 hi) 23).alloc (ivB 0 0))
  have PB := Lib.hid (Pr.new (w.alloc (ivB lo hi)) (w.heap.size + 1) (by simp) (.int .i64 0) (.int .i64 0) 23)
  have H := Lib.hid h
  clear h
  go_enter Try.func26, Try.ntmps26
  go_wp2_with fail
  refine (scheck_any _ lo hi).mono ?_
  rintro e w1 ⟨rfl, hb⟩
  have P1 := Lib.hid (PA.out.via hb)
  have P2 := Lib.hid (PB.out.via hb)
  have B1 := Lib.hid (bbox (bbox hb))
  clear hb PA PB
  rw [H.out]
  have ⟨a0, a1, _, _, _⟩ := P1.out
  have ⟨b0, b1, f0, f1, bl⟩ := P2.out
  go_wp2
  exact post_iv Try.results26 rfl rfl (P2.out.set _ _) ⟨rfl, below_set2 B1.out (by omega) _ _⟩
theorem smade2_any (w : World) (lo hi : Int) (h : lo ≤ hi ∨ lo < -2305843009213693952 ∨ 2305843009213693952 < hi) : Calls Try.prog 26 #[iv lo hi] w (RO w (mkI lo hi)) := by
  by_cases hle : lo ≤ hi
  · exact smade_any w lo hi hle
  · rw [mkI_out (by omega)]
    exact smade_bad w lo hi (ivC_bad (by omega))
theorem cl_le_or {a b e f : Int} (h1 : cl a = cl e) (h2 : cl b = cl f) (h : e ≤ f) : a ≤ b ∨ a < -2305843009213693952 ∨ 2305843009213693952 < b := by
  unfold cl at *; omega
set_option maxRecDepth 100000 in
set_option maxHeartbeats 1000000 in
theorem change2_any (w : World) (f : FuncId) (al ah lo hi : Int) (hcf : ∀ (u : Value) (W : World), (callFunc f #[u]).run Try.prog W = .ok (.enter f #[u]) W)
    (H : ivC al ah = 0 → (lo ≤ hi ∨ lo < -2305843009213693952 ∨ 2305843009213693952 < hi) ∧ ∀ W, Calls Try.prog f #[iv al ah] W (RV W lo hi)) :
    Calls Try.prog 18 #[iv al ah, .func (.func f) #[] #[]] w (RO w (j1 al ah (mkI lo hi))) := by
  have HH := Lib.hid H
  have PA := Lib.hid ((Pr.new w w.heap.size rfl (.int .i64 al) (.int .i64 ah) 23).alloc (ivB 0 0))
  have PR := Lib.hid (Pr.new (w.alloc (ivB al ah)) (w.heap.size + 1) (by simp) (.int .i64 0) (.int .i64 0) 23)
  have BW : Hid (Below w.heap.size w ((w.alloc (ivB al ah)).alloc (ivB 0 0))) := sbal (sbal (Below.refl _ _) _) _
  clear H
  go_enter Try.func18, Try.ntmps18
  go_wp2_with fail
  generalize (w.alloc (ivB al ah)).alloc (ivB 0 0) = W0 at *
  refine (scheck_any _ al ah).mono ?_
  rintro e w1 ⟨rfl, hb⟩
  have P1 := Lib.hid (PA.out.via hb)
  have P3 := Lib.hid (PR.out.via hb)
  have B1 := Lib.hid (sbtr BW.out hb)
  clear hb PA PR BW
  rcases ivC_cases al ah with ⟨h, _⟩ | ⟨h, _⟩
  · have e : j1 al ah (mkI lo hi) = mkI lo hi := by unfold j1; rw [if_pos h]
    rw [h]
    have E := Lib.hid e
    obtain ⟨hle, hc⟩ := HH.out h
    have HC := Lib.hid hc
    have ⟨a0, a1, _, _, _⟩ := P1.out
    clear h hc e HH
    go_wp2_with fail
    refine (HC.out _).mono ?_
    rintro e w2 ⟨rfl, hb⟩
    have B2 := Lib.hid (sbtr B1.out hb)
    have P4 := Lib.hid (P3.out.via hb)
    clear hb a0 a1 B1
    go_wp2_with fail
    refine (smade2_any _ lo hi hle).mono ?_
    rintro e w3 ⟨rfl, hb⟩
    have B3 := Lib.hid (sbtr B2.out hb)
    have P5 := Lib.hid (P4.out.via hb)
    clear hb B2 hcf
    have ⟨r0, r1, f0, f1, rl⟩ := P5.out
    go_wp2
    exact post_iv Try.results18 rfl rfl (P5.out.set _ _) ⟨by rw [E.out]; rfl, below_set2 B3.out (by omega) _ _⟩
  · have e : j1 al ah (mkI lo hi) = ⟨0, 0, 8⟩ := by unfold j1; rw [if_neg (by rw [h]; decide), h]
    rw [h]
    have E := Lib.hid e
    have ⟨r0, r1, f0, f1, rl⟩ := P3.out
    clear h e HH hcf
    go_wp2
    exact post_iv Try.results18 rfl rfl (P3.out.set _ _) ⟨by rw [E.out]; rfl, below_set2 B1.out (by omega) _ _⟩
set_option maxRecDepth 100000 in
set_option maxHeartbeats 1000000 in
theorem rising_sq (w : World) (lo hi l0 h0 l1 h1 : Int) (k0 : ∀ W, Calls Try.prog 24 #[.int .i64 lo] W (RV W l0 h0)) (k1 : ∀ W, Calls Try.prog 24 #[.int .i64 hi] W (RV W l1 h1)) :
    Calls Try.prog 22 #[iv lo hi, .func (.func 24) #[] #[]] w (RV w l0 h1) := by
  have hf0 : ∀ (w : World) (x y : Value), (Instr.field 23 (.agg #[x, y]) 0).run Try.prog w = .ok x w := fun _ _ _ => by kernel_rfl
  have hf1 : ∀ (w : World) (x y : Value), (Instr.field 23 (.agg #[x, y]) 1).run Try.prog w = .ok y w := fun _ _ _ => by kernel_rfl
  have K0 := Lib.hid k0
  have K1 := Lib.hid k1
  clear k0 k1
  have PA := Lib.hid ((Pr.new w w.heap.size rfl (.int .i64 lo) (.int .i64 hi) 23).alloc (ivB 0 0))
  have PR := Lib.hid (Pr.new (w.alloc (ivB lo hi)) (w.heap.size + 1) (by simp) (.int .i64 0) (.int .i64 0) 23)
  have BW : Hid (Below w.heap.size w ((w.alloc (ivB lo hi)).alloc (ivB 0 0))) := sbal (sbal (Below.refl _ _) _) _
  go_enter Try.func22, Try.ntmps22
  go_wp2_with fail
  generalize (w.alloc (ivB lo hi)).alloc (ivB 0 0) = W0 at *
  have HKS : Hid (∀ X : World, Below W0.heap.size W0 X → X.cell? ⟨w.heap.size, 0, none⟩ = some (.int .i64 lo) ∧ X.cell? ⟨w.heap.size, 1, none⟩ = some (.int .i64 hi)) := fun X h => ⟨(PA.out.via h).c0, (PA.out.via h).c1⟩
  go_region_held3 (fun X => X.cell? ⟨w.heap.size, 0, none⟩ = some (.int .i64 lo) ∧ X.cell? ⟨w.heap.size, 1, none⟩ = some (.int .i64 hi))
    (first | exact HKS.out _ (Below.refl _ _) | exact HKS.out _ (Below.refl _ _).drew | exact HKS.out _ D2 | exact HKS.out _ D1 | exact ⟨((PA.out.via D2).far (by omega) _ _).c0, ((PA.out.via D2).far (by omega) _ _).c1⟩)
    (first
     | (have _t := D1; go_at_call 24; refine (K1.out _).mono ?_; rintro e w2 ⟨rfl, hb2⟩; have D2 : Below W0.heap.size W0 w2 := sbtr D1 hb2; have P7 := PR.out.via D2; have ⟨q0, q1, q2, q3, ql⟩ := P7)
     | (go_at_call 24; refine (K0.out _).mono ?_; rintro e w1 ⟨rfl, hb1⟩; have D1 : Below W0.heap.size W0 w1 := (by first | exact (bdrewN (Below.refl _ _) 1).trans hb1 | exact hb1))
     | fail)
  all_goals
    go_wp2
    exact post_iv1 Try.results22 rfl rfl (P7.set _ _) ⟨rfl, below_set2 (sbtr BW.out D2) (by omega) _ _⟩
set_option maxRecDepth 100000 in
set_option maxHeartbeats 1000000 in
theorem rising_rt (w : World) (lo hi l0 h0 l1 h1 : Int) (k0 : ∀ W, Calls Try.prog 27 #[.int .i64 lo] W (RV W l0 h0)) (k1 : ∀ W, Calls Try.prog 27 #[.int .i64 hi] W (RV W l1 h1)) :
    Calls Try.prog 22 #[iv lo hi, .func (.func 27) #[] #[]] w (RV w l0 h1) := by
  have hf0 : ∀ (w : World) (x y : Value), (Instr.field 23 (.agg #[x, y]) 0).run Try.prog w = .ok x w := fun _ _ _ => by kernel_rfl
  have hf1 : ∀ (w : World) (x y : Value), (Instr.field 23 (.agg #[x, y]) 1).run Try.prog w = .ok y w := fun _ _ _ => by kernel_rfl
  have K0 := Lib.hid k0
  have K1 := Lib.hid k1
  clear k0 k1
  have PA := Lib.hid ((Pr.new w w.heap.size rfl (.int .i64 lo) (.int .i64 hi) 23).alloc (ivB 0 0))
  have PR := Lib.hid (Pr.new (w.alloc (ivB lo hi)) (w.heap.size + 1) (by simp) (.int .i64 0) (.int .i64 0) 23)
  have BW : Hid (Below w.heap.size w ((w.alloc (ivB lo hi)).alloc (ivB 0 0))) := sbal (sbal (Below.refl _ _) _) _
  go_enter Try.func22, Try.ntmps22
  go_wp2_with fail
  generalize (w.alloc (ivB lo hi)).alloc (ivB 0 0) = W0 at *
  have HKS : Hid (∀ X : World, Below W0.heap.size W0 X → X.cell? ⟨w.heap.size, 0, none⟩ = some (.int .i64 lo) ∧ X.cell? ⟨w.heap.size, 1, none⟩ = some (.int .i64 hi)) := fun X h => ⟨(PA.out.via h).c0, (PA.out.via h).c1⟩
  go_region_held3 (fun X => X.cell? ⟨w.heap.size, 0, none⟩ = some (.int .i64 lo) ∧ X.cell? ⟨w.heap.size, 1, none⟩ = some (.int .i64 hi))
    (first | exact HKS.out _ (Below.refl _ _) | exact HKS.out _ (Below.refl _ _).drew | exact HKS.out _ D2 | exact HKS.out _ D1 | exact ⟨((PA.out.via D2).far (by omega) _ _).c0, ((PA.out.via D2).far (by omega) _ _).c1⟩)
    (first
     | (have _t := D1; go_at_call 27; refine (K1.out _).mono ?_; rintro e w2 ⟨rfl, hb2⟩; have D2 : Below W0.heap.size W0 w2 := sbtr D1 hb2; have P7 := PR.out.via D2; have ⟨q0, q1, q2, q3, ql⟩ := P7)
     | (go_at_call 27; refine (K0.out _).mono ?_; rintro e w1 ⟨rfl, hb1⟩; have D1 : Below W0.heap.size W0 w1 := (by first | exact (bdrewN (Below.refl _ _) 1).trans hb1 | exact hb1))
     | fail)
  all_goals
    go_wp2
    exact post_iv1 Try.results22 rfl rfl (P7.set _ _) ⟨rfl, below_set2 (sbtr BW.out D2) (by omega) _ _⟩
def sqA (al ah : Int) : Int := max al (max (-ah) 0)
def sqB (al ah : Int) : Int := max (-al) ah
def sqO (al ah : Int) : Out := mkI (sqA al ah * sqA al ah / 1099511627776) (cdiv (sqB al ah * sqB al ah) 1099511627776)
theorem sqAB {al ah : Int} (h : IvIn al ah) : 0 ≤ sqA al ah ∧ sqA al ah ≤ sqB al ah ∧ sqB al ah ≤ 2305843009213693952 := by
  obtain ⟨x1, x2, x3⟩ := h
  unfold sqA sqB
  omega
theorem sq_mono {a b : Int} (h0 : 0 ≤ a) (h : a ≤ b) : a * a ≤ b * b := Int.mul_le_mul h h h0 (by omega)
set_option maxRecDepth 100000 in
set_option maxHeartbeats 1000000 in
theorem sqf_ex (al ah : Int) (h : IvIn al ah) : ∃ lo hi, (lo ≤ hi ∨ lo < -2305843009213693952 ∨ 2305843009213693952 < hi) ∧ mkI lo hi = sqO al ah ∧ ∀ w, Calls Try.prog 21 #[iv al ah] w (RV w lo hi) := by
  obtain ⟨a0, ab, b1⟩ := sqAB h
  obtain ⟨l0, h0, u0, q0, r0, k0⟩ := square_ex (sqA al ah) (by omega) (by omega)
  obtain ⟨l1, h1, u1, q1, r1, k1⟩ := square_ex (sqB al ah) (by omega) (by omega)
  have hle : sqA al ah * sqA al ah / 1099511627776 ≤ cdiv (sqB al ah * sqB al ah) 1099511627776 := Int.le_trans (fdiv_mono (by omega) (sq_mono a0 ab)) (fdiv_le_cdiv (by omega))
  refine ⟨l0, h1, cl_le_or q0 r1 hle, mkI_cl2 q0 r1 hle, fun w => ?_⟩
  have HA := Lib.hid (fun W => absolute_any W al ah h)
  have HR := Lib.hid (fun W => rising_sq W (sqA al ah) (sqB al ah) l0 h0 l1 h1 k0 k1)
  unfold sqA sqB at HR
  have PR := Lib.hid (Pr.new (w.alloc (ivB al ah)) (w.heap.size + 1) (by simp) (.int .i64 0) (.int .i64 0) 23)
  have BW : Hid (Below w.heap.size w ((w.alloc (ivB al ah)).alloc (ivB 0 0))) := sbal (sbal (Below.refl _ _) _) _
  clear a0 ab b1 u0 q0 r0 k0 u1 q1 r1 k1 hle h
  go_enter Try.func21, Try.ntmps21
  go_wp2_with fail
  generalize (w.alloc (ivB al ah)).alloc (ivB 0 0) = W0 at *
  refine (HA.out _).mono ?_
  rintro e w1 ⟨rfl, hb⟩
  have P1 := Lib.hid (PR.out.via hb)
  have B1 := Lib.hid (sbtr BW.out hb)
  clear hb PR HA BW
  go_wp2_with fail
  refine (HR.out _).mono ?_
  rintro e w2 ⟨rfl, hb⟩
  have P2 := Lib.hid (P1.out.via hb)
  have B2 := Lib.hid (sbtr B1.out hb)
  clear hb P1 B1 HR
  have ⟨r0, r1, r2, r3, rl⟩ := P2.out
  go_wp2
  exact post_iv1 Try.results21 rfl rfl (P2.out.set _ _) ⟨rfl, below_set2 B2.out (by omega) _ _⟩
set_option maxRecDepth 100000 in
theorem ssq_any (w : World) (al ah : Int) : Calls Try.prog 6 #[iv al ah] w (RO w (j1 al ah (sqO al ah))) := by
  have hcf : ∀ (u : Value) (W : World), (callFunc 21 #[u]).run Try.prog W = .ok (.enter 21 #[u]) W := fun u W => by go_simp
  have hJ : ∀ W, Calls Try.prog 18 #[iv al ah, .func (.func 21) #[] #[]] W (RO W (j1 al ah (sqO al ah))) := fun W => by
    rcases ivC_cases al ah with ⟨h, _⟩ | ⟨h, _⟩
    · obtain ⟨lo, hi, h1, h2, h3⟩ := sqf_ex al ah (ivC_le h)
      rw [← h2]
      exact change2_any W 21 al ah lo hi hcf fun _ => ⟨h1, h3⟩
    · rw [j1_bad h, ← j1_bad (o := mkI 0 0) h]
      exact change2_any W 21 al ah 0 0 hcf fun ha => by rw [h] at ha; cases ha
  have J := Lib.hid hJ
  clear hJ hcf
  generalize j1 al ah (sqO al ah) = o at *
  have PR := Lib.hid (Pr.new (w.alloc (ivB al ah)) (w.heap.size + 1) (by simp) (.int .i64 0) (.int .i64 0) 23)
  have BW : Hid (Below w.heap.size w ((w.alloc (ivB al ah)).alloc (ivB 0 0))) := sbal (sbal (Below.refl _ _) _) _
  go_enter Try.func6, Try.ntmps6
  go_wp2_with fail
  generalize (w.alloc (ivB al ah)).alloc (ivB 0 0) = W0 at *
  refine (J.out _).mono ?_
  rintro e w1 ⟨rfl, hb⟩
  have P3 := Lib.hid (PR.out.via hb)
  have B1 := Lib.hid (sbtr BW.out hb)
  clear hb PR BW J
  have ⟨r0, r1, f0, f1, rl⟩ := P3.out
  go_wp2
  exact post_iv Try.results6 rfl rfl (P3.out.set _ _) ⟨rfl, below_set2 B1.out (by omega) _ _⟩
end Go.Proofs.Ytegpckhfncblhaa

/- Intervals: Sq of the reference. -/
namespace Go.Proofs.Ytegpckhfncblhaa
open Go.RowKit

theorem mul_self {A B : Int} (h0 : 0 ≤ A) (h : A ≤ B) : mulLo A B A B = A * A / 1099511627776 ∧ mulHi A B A B = cdiv (B * B) 1099511627776 := by
  have h1 : A * A ≤ A * B := Int.mul_le_mul_of_nonneg_left h h0
  have h2 : A * B ≤ B * B := Int.mul_le_mul_of_nonneg_right h (by omega)
  have h3 : B * A = A * B := Int.mul_comm _ _
  constructor
  · unfold mulLo mn4; congr 1; omega
  · unfold mulHi mx4; congr 1; omega
theorem rmul_self (w : World) (A B : Int) (h0 : 0 ≤ A) (h : A ≤ B) (hB : B ≤ 2305843009213693952) :
    Calls Try.prog 25 #[iv A B, iv A B] w (RO w (mkI (A * A / 1099511627776) (cdiv (B * B) 1099511627776))) := by
  have hm := mul_self h0 h
  have hv : ivC A B = 0 := ivC_ok (by omega) h hB
  have hk : ivB2 A B A B = 0 := (ivB2_ok hv).trans hv
  rw [← hm.1, ← hm.2, ← j2_ok (o := mkI (mulLo A B A B) (mulHi A B A B)) hk]
  exact rmulp_any w A B A B
set_option maxRecDepth 100000 in
set_option maxHeartbeats 1000000 in
theorem rsq_any (w : World) (al ah : Int) : Calls Try.prog 7 #[iv al ah] w (RO w (j1 al ah (sqO al ah))) := by
  have HA := Lib.hid (fun W => rabsi_any W al ah)
  have PR := Lib.hid (Pr.new (w.alloc (ivB al ah)) (w.heap.size + 1) (by simp) (.int .i64 0) (.int .i64 0) 23)
  have BW : Hid (Below w.heap.size w ((w.alloc (ivB al ah)).alloc (ivB 0 0))) := sbal (sbal (Below.refl _ _) _) _
  go_enter Try.func7, Try.ntmps7
  go_wp2_with fail
  generalize (w.alloc (ivB al ah)).alloc (ivB 0 0) = W0 at *
  refine (HA.out _).mono ?_
  rintro e w1 ⟨rfl, hb⟩
  rcases ivC_cases al ah with ⟨h, x1, x2, x3⟩ | ⟨h, _⟩
  · have hr := sqAB (al := al) (ah := ah) ⟨x1, x2, x3⟩
    have hin : j1 al ah (mkI (max al (max (-ah) 0)) (max (-al) ah)) = ⟨sqA al ah, sqB al ah, 0⟩ := by
      rw [j1_ok h]; exact mkI_in (by have := hr.1; unfold sqA at this; omega) hr.2.2
    rw [hin]
    have HO : Hid (j1 al ah (sqO al ah) = sqO al ah) := j1_ok h
    obtain ⟨A, hA⟩ : ∃ A, A = sqA al ah := ⟨_, rfl⟩
    obtain ⟨B, hB⟩ : ∃ B, B = sqB al ah := ⟨_, rfl⟩
    have hj := fun W => rmul_self W A B (by rw [hA]; exact hr.1) (by rw [hA, hB]; exact hr.2.1) (by rw [hB]; exact hr.2.2)
    have ho : mkI (A * A / 1099511627776) (cdiv (B * B) 1099511627776) = sqO al ah := by rw [hA, hB]; rfl
    rw [ho] at hj
    rw [← hA, ← hB]
    have HJ := Lib.hid hj
    have P1 := Lib.hid ((PR.out.via hb).alloc (ivB A B))
    have B1 := Lib.hid (sbal (sbtr BW.out hb) (ivB A B))
    have X1 := Lib.hid (Pr.new w1 _ rfl (.int .i64 A) (.int .i64 B) 23)
    clear hb PR HA BW hr hin hj ho hA hB h x1 x2 x3
    generalize sqO al ah = o at *
    go_wp2_with fail
    generalize w1.alloc (ivB A B) = W1 at *
    refine (HJ.out _).mono ?_
    rintro e w2 ⟨rfl, hb⟩
    have P2 := Lib.hid (P1.out.via hb)
    have B2 := Lib.hid (sbtr B1.out hb)
    clear hb P1 B1 HJ X1
    have ⟨r0, r1, r2, r3, rl⟩ := P2.out
    go_wp2
    exact post_iv Try.results7 rfl rfl (P2.out.set _ _) ⟨by rw [HO.out]; rfl, below_set2 B2.out (by omega) _ _⟩
  · have hin : j1 al ah (mkI (max al (max (-ah) 0)) (max (-al) ah)) = ⟨0, 0, 8⟩ := j1_bad h
    rw [hin]
    have HO : Hid (j1 al ah (sqO al ah) = ⟨0, 0, 8⟩) := j1_bad h
    have P1 := Lib.hid (PR.out.via hb)
    have B1 := Lib.hid (sbtr BW.out hb)
    clear hb PR HA BW hin h
    have ⟨r0, r1, r2, r3, rl⟩ := P1.out
    go_wp2
    exact post_iv Try.results7 rfl rfl ((P1.out.set _ _).alloc _) ⟨by rw [HO.out]; rfl, sbal (below_set2 B1.out (by omega) _ _) _⟩
end Go.Proofs.Ytegpckhfncblhaa

/- Intervals: Scale of package span. -/
namespace Go.Proofs.Ytegpckhfncblhaa
open Go.RowKit

def sN (x num den : Int) : Int := if den < 0 then -(x * num) else x * num
def scO (al ah num den : Int) : Out :=
  if den = 0 then ⟨0, 0, 18⟩ else mkI (min (sN al num den / (den.natAbs : Int)) (sN ah num den / (den.natAbs : Int))) (max (cdiv (sN al num den) (den.natAbs : Int)) (cdiv (sN ah num den) (den.natAbs : Int)))
theorem sgn_sN (x num den : Int) : sgn (sgB x num != decide (den < 0)) (x.natAbs * num.natAbs) = sN x num den := by
  have h := sgn_mul x num
  unfold sN
  rcases neg_cases den with hy | ⟨hy, hy'⟩
  · rw [if_pos hy, decide_eq_true hy, show (sgB x num != true) = !sgB x num by cases sgB x num <;> rfl, sgn_not, h]
  · rw [if_neg (by omega), hy, show (sgB x num != false) = sgB x num by cases sgB x num <;> rfl, h]
theorem mo_ex (x num den : Int) (hx1 : -9223372036854775808 ≤ x) (hx2 : x ≤ 9223372036854775807) (hn1 : -9223372036854775808 ≤ num) (hn2 : num ≤ 9223372036854775807) (hd0 : den ≠ 0) (hd1 : -9223372036854775808 ≤ den) (hd2 : den ≤ 9223372036854775807) :
    ∃ v lo hi, lo ≤ hi ∧ cl lo = cl (sN x num den / (den.natAbs : Int)) ∧ cl hi = cl (cdiv (sN x num den) (den.natAbs : Int)) ∧
      (∀ w, Calls Try.prog 30 #[.int .i64 x, .int .i64 num] w fun e w' => e = .returned v ∧ Below w.heap.size w w') ∧
      ∀ w, Calls Try.prog 31 #[v, .int .i64 den] w (RV w lo hi) := by
  obtain ⟨lo, hi, h1, h2, h3, h4⟩ := over_ex (sgB x num) (x.natAbs * num.natAbs) den hd0 hd1 hd2
  rw [sgn_sN] at h2 h3
  exact ⟨_, lo, hi, h1, h2, h3, fun w => smul_any w x num hx1 hx2 hn1 hn2, h4⟩
set_option maxRecDepth 100000 in
set_option maxHeartbeats 2000000 in
theorem sscale_any (w : World) (al ah num den : Int) (hn1 : -9223372036854775808 ≤ num) (hn2 : num ≤ 9223372036854775807) (hd1 : -9223372036854775808 ≤ den) (hd2 : den ≤ 9223372036854775807) :
    Calls Try.prog 12 #[iv al ah, .int .i64 num, .int .i64 den] w (RO w (j1 al ah (scO al ah num den))) := by
  have PA := Lib.hid ((Pr.new w w.heap.size rfl (.int .i64 al) (.int .i64 ah) 23).alloc (ivB 0 0))
  have PR := Lib.hid (Pr.new (w.alloc (ivB al ah)) (w.heap.size + 1) (by simp) (.int .i64 0) (.int .i64 0) 23)
  have BW : Hid (Below w.heap.size w ((w.alloc (ivB al ah)).alloc (ivB 0 0))) := sbal (sbal (Below.refl _ _) _) _
  go_enter Try.func12, Try.ntmps12
  go_wp2_with fail
  generalize (w.alloc (ivB al ah)).alloc (ivB 0 0) = W0 at *
  refine (scheck_any _ al ah).mono ?_
  rintro e w1 ⟨rfl, hb⟩
  have P1 := Lib.hid (PA.out.via hb)
  have P3 := Lib.hid (PR.out.via hb)
  have B1 := Lib.hid (sbtr BW.out hb)
  clear hb PA PR BW
  rcases ivC_cases al ah with ⟨h, x1, x2, x3⟩ | ⟨h, _⟩
  · rw [h]
    have HO : Hid (j1 al ah (scO al ah num den) = scO al ah num den) := j1_ok h
    clear h
    by_cases hz : den = 0
    · subst hz
      have HM : Hid (scO al ah num 0 = ⟨0, 0, 18⟩) := by show _ = _; unfold scO; rw [if_pos rfl]
      have ⟨r0, r1, r2, r3, r4⟩ := P3.out
      clear x1 x2 x3 hn1 hn2 hd1 hd2
      go_wp2
      exact post_iv Try.results12 rfl rfl (P3.out.set _ _) ⟨ret_out (HO.out.trans HM.out), below_set2 B1.out (by omega) _ _⟩
    · obtain ⟨v0, l0, h0, u0, q0, r0, m0, k0⟩ := mo_ex al num den (by omega) (by omega) hn1 hn2 hz hd1 hd2
      obtain ⟨v1, l1, h1, u1, q1, r1, m1, k1⟩ := mo_ex ah num den (by omega) (by omega) hn1 hn2 hz hd1 hd2
      have hD : 0 < (den.natAbs : Int) := by omega
      have HM : Hid (mkI (min l0 l1) (max h0 h1) = scO al ah num den) := by
        show _ = _
        unfold scO
        rw [if_neg hz]
        have f0 := fdiv_le_cdiv (p := sN al num den) hD
        refine mkI_cl2 (by rw [cl_min, cl_min, q0, q1]) (by rw [cl_max, cl_max, r0, r1]) (by omega)
      have M0 := Lib.hid m0
      have M1 := Lib.hid m1
      have K0 := Lib.hid k0
      have K1 := Lib.hid k1
      have hle : min l0 l1 ≤ max h0 h1 := by omega
      have hdz : ((den : Int) == 0) = false := by simp [hz]
      have HLE := Lib.hid hle
      clear q0 q1 r0 r1 m0 m1 k0 k1 u0 u1 hD x1 x2 x3 hn1 hn2 hd1 hd2 hle
      have ⟨a0, a1, _, _, _⟩ := P1.out
      go_wp2_with fail
      clear a0 a1
      have HKS : Hid (∀ X : World, Below w1.heap.size w1 X → X.cell? ⟨w.heap.size, 0, none⟩ = some (.int .i64 al) ∧ X.cell? ⟨w.heap.size, 1, none⟩ = some (.int .i64 ah)) := fun X h => ⟨(P1.out.via h).c0, (P1.out.via h).c1⟩
      have hqa := P1.out.lt
      have hqr := P3.out.lt
      go_region_held3 (fun X => X.cell? ⟨w.heap.size, 0, none⟩ = some (.int .i64 al) ∧ X.cell? ⟨w.heap.size, 1, none⟩ = some (.int .i64 ah))
        (first | exact HKS.out _ (Below.refl _ _) | exact HKS.out _ (Below.refl _ _).drew | exact HKS.out _ E5 | exact HKS.out _ E4 | exact HKS.out _ E3 | exact HKS.out _ (sbal E3 _) | exact HKS.out _ E2 | exact HKS.out _ E1 | exact HKS.out _ E0 | exact ⟨((P1.out.via E5).far (by omega) _ _).c0, ((P1.out.via E5).far (by omega) _ _).c1⟩)
        (first
         | (have _t := E4; go_at_call 26; refine (smade_any _ (min l0 l1) (max h0 h1) HLE.out).mono ?_; rintro e y5 ⟨rfl, h5⟩; have E5 : Below w1.heap.size w1 y5 := sbtr E4 h5; have P7 := P3.out.via E5; have ⟨q0, q1, q2, q3, ql⟩ := P7)
         | (have _t := E3; go_at_call 29; refine (hull1_any _ y3.heap.size l0 h0 l1 h1 ⟨(Pr.new y3 _ rfl (.int .i64 l1) (.int .i64 h1) 23).c0, (Pr.new y3 _ rfl (.int .i64 l1) (.int .i64 h1) 23).c1, (Pr.new y3 _ rfl (.int .i64 l1) (.int .i64 h1) 23).lt⟩).mono ?_; rintro e y4 ⟨rfl, h4⟩; have E4 : Below w1.heap.size w1 y4 := sbtr E3 (bbox h4))
         | (have _t := E2; go_at_call 31; refine (K1.out _).mono ?_; rintro e y3 ⟨rfl, h3⟩; have E3 : Below w1.heap.size w1 y3 := sbtr E2 h3)
         | (have _t := E1; go_at_call 30; refine (M1.out _).mono ?_; rintro e y2 ⟨rfl, h2⟩; have E2 : Below w1.heap.size w1 y2 := sbtr E1 h2)
         | (have _t := E0; go_at_call 31; refine (K0.out _).mono ?_; rintro e y1 ⟨rfl, hh1⟩; have E1 : Below w1.heap.size w1 y1 := sbtr E0 hh1)
         | (go_at_call 30; refine (M0.out _).mono ?_; rintro e y0 ⟨rfl, hh0⟩; have E0 : Below w1.heap.size w1 y0 := (by first | exact (bdrewN (Below.refl _ _) 1).trans hh0 | exact hh0))
         | fail)
      all_goals
        go_wp2
        exact post_iv Try.results12 rfl rfl (P7.set _ _) ⟨ret_mk (HM.out.trans HO.out.symm), below_set2 (sbtr B1.out E5) (by omega) _ _⟩
  · rw [h]
    have HO : Hid (j1 al ah (scO al ah num den) = ⟨0, 0, 8⟩) := j1_bad h
    have ⟨r0, r1, r2, r3, r4⟩ := P3.out
    clear h hn1 hn2 hd1 hd2
    go_wp2
    exact post_iv Try.results12 rfl rfl (P3.out.set _ _) ⟨by rw [HO.out]; rfl, below_set2 B1.out (by omega) _ _⟩
end Go.Proofs.Ytegpckhfncblhaa

/- Intervals: length of a product; turned of the reference. -/
namespace Go.Proofs.Ytegpckhfncblhaa
open Go.RowKit

def plen (H L : Nat) : Nat := if H = 0 then Lib.bitLen L else 64 + Lib.bitLen H
theorem plen_lt {H L : Nat} (hH : H < 18446744073709551616) (hL : L < 18446744073709551616) : H * 18446744073709551616 + L < 2 ^ plen H L := by
  unfold plen
  by_cases h : H = 0
  · rw [if_pos h, h, Nat.zero_mul, Nat.zero_add]
    rcases Nat.eq_zero_or_pos L with h0 | h0
    · rw [h0]; exact Nat.pow_pos (by omega)
    · exact (bitLen_bd h0 hL).2.2.2
  · rw [if_neg h, Nat.pow_add]
    have h1 := (bitLen_bd (show 0 < H by omega) hH).2.2.2
    have h2 := Nat.mul_le_mul_right 18446744073709551616 (show H + 1 ≤ 2 ^ Lib.bitLen H from h1)
    have e : (2 : Nat) ^ 64 = 18446744073709551616 := rfl
    rw [e, Nat.mul_comm]
    omega
theorem plen_le {H L : Nat} (hH : H < 18446744073709551616) (hL : L < 18446744073709551616) : plen H L ≤ 128 := by
  unfold plen
  have h1 := Lib.bitLen_le L 64 (by omega) hL
  have h2 := Lib.bitLen_le H 64 (by omega) hH
  split <;> omega
set_option maxRecDepth 100000 in
theorem length_any (w : World) (neg : Bool) (H L : Nat) (hH : H < 18446744073709551616) (hL : L < 18446744073709551616) :
    Calls Try.prog 44 #[.agg #[.bool neg, .int .u64 (H : Int), .int .u64 (L : Int)]] w (RN1 w ((plen H L : Nat) : Int)) := by
  have S1 := Lib.hid (fun W => slen64_any L W hL)
  have S2 := Lib.hid (fun W => slen64_any H W hH)
  have b2 := Lib.bitLen_le H 64 (by omega) hH
  rcases Nat.eq_zero_or_pos H with h | h
  · subst h
    have HP : Hid (plen 0 L = Lib.bitLen L) := by show _ = _; unfold plen; rw [if_pos rfl]
    clear S2 hH b2
    go_enter Try.func44, Try.ntmps44
    go_wp2_with fail
    refine (S1.out _).mono ?_
    rintro e w1 ⟨rfl, rfl⟩
    clear S1 hL
    go_wp2
    go_ret
    exact ⟨ret_int (by rw [HP.out]), by go_grown⟩
  · have HP : Hid (plen H L = 64 + Lib.bitLen H) := by show _ = _; unfold plen; rw [if_neg (by omega)]
    have he : ((H : Int) == 0) = false := by simp; omega
    have he2 : (H == 0) = false := by simp; omega
    have b3 : (Lib.bitLen H : Int) ≤ 64 := by omega
    clear S1 hL b2 h
    go_enter Try.func44, Try.ntmps44
    go_wp2_with fail
    refine (S2.out _).mono ?_
    rintro e w1 ⟨rfl, rfl⟩
    clear S2 hH
    go_wp2
    go_ret
    exact ⟨ret_int (by rw [HP.out]; omega), by go_grown⟩
end Go.Proofs.Ytegpckhfncblhaa

/- Square roots by Newton's rule, in numbers. -/
namespace Go.Proofs.Ytegpckhfncblhaa
theorem sq_le {a b : Nat} : 2 * a * b ≤ a * a + b * b := by
  rcases Nat.le_total a b with h | h
  · obtain ⟨d, rfl⟩ := Nat.le.dest h
    have : (a + d) * (a + d) = a * a + 2 * a * d + d * d := by grind
    have : 2 * a * (a + d) = 2 * (a * a) + 2 * a * d := by grind
    have := Nat.zero_le (d * d)
    omega
  · obtain ⟨d, rfl⟩ := Nat.le.dest h
    have : (b + d) * (b + d) = b * b + 2 * b * d + d * d := by grind
    have : 2 * (b + d) * b = 2 * (b * b) + 2 * b * d := by grind
    have := Nat.zero_le (d * d)
    omega
theorem le_of_sq {d t : Nat} (h : t * t ≤ d * d) : t ≤ d := by
  rcases Nat.lt_or_ge d t with h1 | h1
  · have := Nat.mul_self_lt_mul_self h1
    omega
  · exact h1
/-- One step of Newton's rule: the next number is less than a unit away. -/
theorem newton_core {N Y T p q : Nat} (hY : 0 < p) (h2 : 2 * p = Y) (hTT : T * T ≤ 2 * Y) (hTY : T ≤ Y) (h3 : (Y - T) * (Y - T) < N) (h4 : N < (Y + T) * (Y + T)) (hq : 2 * Y * q ≤ N) (hq' : N < 2 * Y * (q + 1)) :
    (p + q - 1) * (p + q - 1) < N ∧ N < (p + q + 1) * (p + q + 1) := by
  subst h2
  constructor
  · obtain ⟨u, hu⟩ : ∃ u, p + q = u + 1 := ⟨p + q - 1, by omega⟩
    rw [hu, Nat.add_sub_cancel]
    refine Nat.lt_of_not_le fun hN => ?_
    have e1 : 2 * (2 * p) * (p + q) = 2 * p * (2 * p) + 2 * (2 * p) * q := by grind
    rw [hu] at e1
    have e2 : 2 * (2 * p) * (u + 1) = 2 * (2 * p) * u + 2 * (2 * p) := by grind
    have hm : 2 * (2 * p) * u + 2 * (2 * p) ≤ 2 * p * (2 * p) + N := by omega
    clear e1 e2
    rcases Nat.le_total u (2 * p) with h | h
    · obtain ⟨d, hd⟩ := Nat.le.dest h
      have e3 : d * d + 2 * (2 * p) * u = 2 * p * (2 * p) + u * u := by rw [← hd]; grind
      have hT : T ≤ d := le_of_sq (by omega)
      have h5 : u ≤ 2 * p - T := by omega
      have := Nat.mul_le_mul h5 h5
      omega
    · obtain ⟨d, hd⟩ := Nat.le.dest h
      have e3 : d * d + 2 * (2 * p) * u = 2 * p * (2 * p) + u * u := by rw [← hd]; grind
      have hT : T ≤ d := le_of_sq (by omega)
      have e4 : (2 * p + T) * (2 * p + T) = 2 * p * (2 * p) + 2 * (2 * p) * T + T * T := by grind
      have e5 : 2 * (2 * p) * u = 2 * (2 * p * (2 * p)) + 2 * (2 * p) * d := by rw [← hd]; grind
      have h6 : 2 * (2 * p) * T ≤ 2 * (2 * p) * d := Nat.mul_le_mul_left _ hT
      omega
  · refine Nat.lt_of_not_le fun hN => ?_
    have h5 := @sq_le (2 * p) (p + q + 1)
    have e1 : 2 * (2 * p) * (p + q + 1) = 2 * p * (2 * p) + 2 * (2 * p) * (q + 1) := by grind
    omega
/-- r is the root of v, rounded down. -/
def IsRt (v r : Nat) : Prop := r * r ≤ v ∧ v < (r + 1) * (r + 1)
theorem IsRt.uniq {v r s : Nat} (h : IsRt v r) (k : IsRt v s) : r = s := by
  have h1 : r < s + 1 := Nat.lt_of_not_le fun h' => by have := Nat.mul_le_mul h' h'; have := h.1; have := k.2; omega
  have h2 : s < r + 1 := Nat.lt_of_not_le fun h' => by have := Nat.mul_le_mul h' h'; have := k.1; have := h.2; omega
  omega
/-- a is nearer than a unit to the root of the number v without its lowest 2 * (c - e) digits. -/
def RtInv (v c e a : Nat) : Prop := 2 ^ e ≤ a ∧ (a - 1) * (a - 1) < v / 4 ^ (c - e) ∧ v / 4 ^ (c - e) < (a + 1) * (a + 1)
theorem rt_start {v c : Nat} (h1 : 4 ^ c ≤ v) (h2 : v < 4 ^ (c + 1)) : RtInv v c 0 1 := by
  refine ⟨by simp, ?_, ?_⟩
  · simp only [Nat.sub_self, Nat.mul_zero, Nat.sub_zero]
    exact (Nat.le_div_iff_mul_le (Nat.pow_pos (by omega))).2 (by omega)
  · rw [Nat.sub_zero]
    exact (Nat.div_lt_iff_lt_mul (Nat.pow_pos (by omega))).2 (by rw [Nat.pow_succ] at h2; omega)
theorem rt_end {v c a : Nat} (h : RtInv v c c a) : (a - 1) * (a - 1) < v ∧ v < (a + 1) * (a + 1) := by
  have := h.2
  simpa using this
theorem rt_root {v a : Nat} (h0 : 1 ≤ a) (h : (a - 1) * (a - 1) < v ∧ v < (a + 1) * (a + 1)) : IsRt v (if v < a * a then a - 1 else a) := by
  split
  · exact ⟨by omega, by rw [Nat.sub_add_cancel h0]; assumption⟩
  · exact ⟨by omega, h.2⟩
theorem rt_mid {N a k M q : Nat} (hk : 2 ^ k ≤ a) (hlo : (a - 1) * (a - 1) < M) (hhi : M < (a + 1) * (a + 1)) (hM : N / (2 ^ (k + 1) * 2 ^ (k + 1)) = M) (hq : N / (2 * (2 ^ (k + 1) * a)) = q) :
    (2 ^ k * a + q - 1) * (2 ^ k * a + q - 1) < N ∧ N < (2 ^ k * a + q + 1) * (2 ^ k * a + q + 1) := by
  have ha0 : 0 < a := Nat.lt_of_lt_of_le (Nat.pow_pos (by omega)) hk
  have hTp : 0 < 2 ^ (k + 1) * 2 ^ (k + 1) := Nat.mul_pos (Nat.pow_pos (by omega)) (Nat.pow_pos (by omega))
  have hT2 : 2 ^ (k + 1) = 2 * 2 ^ k := by rw [Nat.pow_succ]; omega
  have n1 := Nat.div_mul_le_self N (2 ^ (k + 1) * 2 ^ (k + 1))
  have n2 := Nat.lt_mul_div_succ N hTp
  have hT0 : 0 < 2 ^ (k + 1) := Nat.pow_pos (by omega)
  have hTT : 2 ^ (k + 1) * 2 ^ (k + 1) ≤ 2 * (2 ^ (k + 1) * a) := by
    have := Nat.mul_le_mul_left (2 ^ (k + 1)) hk
    rw [hT2] at this ⊢
    have e : 2 * 2 ^ k * (2 * 2 ^ k) = 2 * (2 * 2 ^ k * 2 ^ k) := by grind
    omega
  have hpY : 2 * (2 ^ k * a) = 2 ^ (k + 1) * a := by rw [hT2]; grind
  have hP : 0 < 2 ^ k * a := Nat.mul_pos (Nat.pow_pos (by omega)) ha0
  rw [hM] at n1 n2
  clear hM hT2
  generalize hT : 2 ^ (k + 1) = T at *
  clear hT
  have hY : 0 < T * a := Nat.mul_pos hT0 ha0
  have q1 := Nat.mul_div_le N (2 * (T * a))
  have q2 := Nat.lt_mul_div_succ N (show 0 < 2 * (T * a) by omega)
  rw [hq] at q1 q2
  refine @newton_core N (T * a) T (2 ^ k * a) q hP hpY hTT (Nat.le_mul_of_pos_right _ ha0) ?_ ?_ q1 q2
  · have e : (T * a - T) * (T * a - T) = (a - 1) * (a - 1) * (T * T) := by
      rw [show T * a - T = T * (a - 1) from by rw [Nat.mul_sub, Nat.mul_one]]; grind
    rw [e]
    have h5 := Nat.mul_lt_mul_of_pos_right hlo hTp
    omega
  · have e : (T * a + T) * (T * a + T) = (a + 1) * (a + 1) * (T * T) := by grind
    rw [e]
    have h5 := Nat.mul_le_mul_right (T * T) (Nat.succ_le_of_lt hhi)
    rw [Nat.mul_comm (T * T)] at n2
    exact Nat.lt_of_lt_of_le n2 h5
theorem rt_step {v c d e a : Nat} (hc : d ≤ c) (h0 : e < d) (hd : d ≤ 2 * e + 1) (h1 : 4 ^ c ≤ v) (h : RtInv v c e a) :
    RtInv v c d (a * 2 ^ (d - e - 1) + v / 2 ^ (2 * c - e - d + 1) / a) := by
  obtain ⟨ha, hlo, hhi⟩ := h
  obtain ⟨k, rfl⟩ : ∃ k, d = e + k + 1 := ⟨d - e - 1, by omega⟩
  have hk : 2 ^ k ≤ a := Nat.le_trans (Nat.pow_le_pow_right (by omega) (by omega)) ha
  rw [show e + k + 1 - e - 1 = k from by omega]
  have hM : v / 4 ^ (c - (e + k + 1)) / (2 ^ (k + 1) * 2 ^ (k + 1)) = v / 4 ^ (c - e) := by
    rw [Nat.div_div_eq_div_mul]
    congr 1
    rw [show (4 : Nat) = 2 ^ 2 from rfl, ← Nat.pow_mul, ← Nat.pow_mul, ← Nat.pow_add, ← Nat.pow_add]
    congr 1
    omega
  have hq : v / 4 ^ (c - (e + k + 1)) / (2 * (2 ^ (k + 1) * a)) = v / 2 ^ (2 * c - e - (e + k + 1) + 1) / a := by
    rw [Nat.div_div_eq_div_mul, Nat.div_div_eq_div_mul]
    congr 1
    rw [show (4 : Nat) = 2 ^ 2 from rfl, ← Nat.pow_mul, show 2 * (2 ^ (k + 1) * a) = 2 ^ (k + 2) * a from by rw [Nat.pow_succ 2 (k + 1)]; grind, ← Nat.mul_assoc, ← Nat.pow_add]
    congr 2
    omega
  have core := rt_mid hk hlo hhi hM hq
  rw [Nat.mul_comm a]
  refine ⟨?_, core⟩
  have h4 : 4 ^ (e + k + 1) ≤ v / 4 ^ (c - (e + k + 1)) := by
    refine (Nat.le_div_iff_mul_le (Nat.pow_pos (by omega))).2 ?_
    rw [← Nat.pow_add, show e + k + 1 + (c - (e + k + 1)) = c from by omega]
    exact h1
  have h5 : 2 ^ (e + k + 1) * 2 ^ (e + k + 1) < (2 ^ k * a + v / 2 ^ (2 * c - e - (e + k + 1) + 1) / a + 1) * (2 ^ k * a + v / 2 ^ (2 * c - e - (e + k + 1) + 1) / a + 1) := by
    rw [show (4 : Nat) = 2 * 2 from rfl, Nat.mul_pow] at h4
    exact Nat.lt_of_le_of_lt h4 core.2
  refine Nat.le_of_lt_succ (Nat.lt_of_not_le fun h6 => ?_)
  have := Nat.mul_le_mul h6 h6
  exact Nat.lt_irrefl _ (Nat.lt_of_lt_of_le h5 this)
end Go.Proofs.Ytegpckhfncblhaa

/- Newton's steps from above, in numbers. -/
namespace Go.Proofs.Ytegpckhfncblhaa
theorem newt_next {v x : Nat} (hx : 0 < x) : v < ((v / x + x) / 2 + 1) * ((v / x + x) / 2 + 1) := by
  obtain ⟨q, hq⟩ : ∃ q, v / x = q := ⟨_, rfl⟩
  obtain ⟨h, hh⟩ : ∃ h, (q + x) / 2 = h := ⟨_, rfl⟩
  rw [hq, hh]
  have h1 : v < x * (q + 1) := by rw [← hq]; exact Nat.lt_mul_div_succ v hx
  have h2 : x + (q + 1) ≤ 2 * (h + 1) := by omega
  have h3 := Nat.mul_le_mul h2 h2
  have h4 := @sq_le x (q + 1)
  have e1 : 2 * (h + 1) * (2 * (h + 1)) = 4 * ((h + 1) * (h + 1)) := by grind
  have e2 : (x + (q + 1)) * (x + (q + 1)) = x * x + (q + 1) * (q + 1) + 2 * x * (q + 1) := by grind
  have e3 : 2 * x * (q + 1) = 2 * (x * (q + 1)) := by grind
  omega
theorem newt_end {v x : Nat} (h : v < (x + 1) * (x + 1)) (hh : x ≤ (v / x + x) / 2) : IsRt v x := by
  refine ⟨?_, h⟩
  have h1 : x ≤ v / x := by omega
  exact Nat.le_trans (Nat.mul_le_mul_right x h1) (Nat.div_mul_le_self v x)
theorem newt_pos {v x : Nat} (hv : 0 < v) (hx : 0 < x) : 0 < (v / x + x) / 2 := by
  rcases Nat.lt_or_ge 1 x with h | h
  · generalize v / x = q
    omega
  · obtain rfl : x = 1 := by omega
    rw [Nat.div_one]
    omega
theorem newt_start {v n : Nat} (h : v < 2 ^ n) : v < (2 ^ ((n + 1) / 2) + 1) * (2 ^ ((n + 1) / 2) + 1) := by
  have h1 : 2 ^ n ≤ 2 ^ ((n + 1) / 2) * 2 ^ ((n + 1) / 2) := by
    rw [← Nat.pow_add]
    exact Nat.pow_le_pow_right (by omega) (by omega)
  have h2 : 2 ^ ((n + 1) / 2) * 2 ^ ((n + 1) / 2) ≤ (2 ^ ((n + 1) / 2) + 1) * (2 ^ ((n + 1) / 2) + 1) := Nat.mul_le_mul (by omega) (by omega)
  omega
end Go.Proofs.Ytegpckhfncblhaa

/- Intervals: the square root of a product, by Newton's rule. -/
namespace Go.Proofs.Ytegpckhfncblhaa
open Go.RowKit

theorem isRt_ex : ∀ N : Nat, ∃ r, IsRt N r
  | 0 => ⟨0, by unfold IsRt; omega⟩
  | N + 1 => by
    obtain ⟨r, h1, h2⟩ := isRt_ex N
    by_cases h : (r + 1) * (r + 1) ≤ N + 1
    · refine ⟨r + 1, h, ?_⟩
      have : (r + 1 + 1) * (r + 1 + 1) = (r + 1) * (r + 1) + 2 * (r + 1) + 1 := by grind
      omega
    · exact ⟨r, by omega, by omega⟩
theorem rt_high {H L r : Nat} (h0 : 0 < r) (hr : r ≤ 2251799813685248) (h : H * 18446744073709551616 + L < (r + 1) * (r + 1)) : H < r := by
  have h1 : (r + 1) * (r + 1) ≤ (2 * r) * (2 * r) := Nat.mul_le_mul (by omega) (by omega)
  have h2 : (2 * r) * (2 * r) = 4 * (r * r) := by grind
  have h3 : r * r ≤ r * 2251799813685248 := Nat.mul_le_mul_left r hr
  omega
theorem rt_quo {N r : Nat} (h0 : 0 < r) (h : N < (r + 1) * (r + 1)) : N / r ≤ r + 2 := by
  refine Nat.le_of_lt_succ ((Nat.div_lt_iff_lt_mul h0).2 ?_)
  have h1 : (r + 2).succ * r = r * r + 3 * r := by grind
  have h2 : (r + 1) * (r + 1) = r * r + 2 * r + 1 := by grind
  omega
set_option maxRecDepth 100000 in
set_option maxHeartbeats 2000000 in
theorem root_any (w : World) (H L R : Nat) (hN : 0 < H * 18446744073709551616 + L) (hb : plen H L ≤ 102) (hH : H < 18446744073709551616) (hL : L < 18446744073709551616) (hR : IsRt (H * 18446744073709551616 + L) R) :
    Calls Try.prog 39 #[.agg #[.bool false, .int .u64 (H : Int), .int .u64 (L : Int)]] w (RN1 w (R : Int)) := by
  have HL := Lib.hid (fun W => length_any W false H L hH hL)
  have hst := newt_start (plen_lt hH hL)
  have hDV : ∀ (r : Nat) (h0 : 0 < r) (hr : r ≤ 2251799813685248) (h : H * 18446744073709551616 + L < (r + 1) * (r + 1)) (W : World), Calls Try.prog 43 #[.int .u64 (H : Int), .int .u64 (L : Int), .int .u64 (r : Int)] W fun e w' => e = .returned (.tuple #[.int .u64 (((H * 18446744073709551616 + L) / r : Nat) : Int), .int .u64 (((H * 18446744073709551616 + L) % r : Nat) : Int)]) ∧ ∃ d, w' = W.drewN d :=
    fun r h0 hr h W => div64_any W H L r (rt_high h0 hr h) (by omega) hL
  obtain ⟨N, hNN⟩ : ∃ N, N = H * 18446744073709551616 + L := ⟨_, rfl⟩
  rw [← hNN] at hst hDV hR hN
  have hsp : H = 0 ∧ ¬ L = 0 ∨ ¬ H = 0 := by omega
  have HDV := Lib.hid hDV
  have HRT := Lib.hid hR
  have PN := hN
  obtain ⟨k, hk⟩ : ∃ k, k = (plen H L + 1) / 2 := ⟨_, rfl⟩
  have hk51 : k ≤ 51 := by omega
  rw [← hk] at hst
  have hp0 : 0 < 2 ^ k := Nat.pow_pos (by omega)
  have hp1 : 2 ^ k ≤ 2 ^ 51 := Nat.pow_le_pow_right (by omega) hk51
  have hki : ((plen H L : Int) + 1) / 2 = (k : Int) := by omega
  have hkt : ((plen H L : Int) + 1).tdiv 2 = (k : Int) := by rw [Int.tdiv_eq_ediv_of_nonneg (by omega)]; exact hki
  obtain ⟨r0, hr0⟩ : ∃ r0 : Nat, r0 = 2 ^ k := ⟨_, rfl⟩
  have hpw : IntKind.u64.wrap ((2 : Int) ^ k) = (r0 : Int) := by
    have e : ((2 : Int) ^ k) = ((2 ^ k : Nat) : Int) := by rw [Int.natCast_pow]; rfl
    rw [e, wrap_nat, Nat.mod_eq_of_lt (by omega), ← hr0]
  rw [← hr0] at hst hp0 hp1
  have hp2 : r0 ≤ 2251799813685248 := hp1
  have HST := Lib.hid hst
  have P3 := Lib.hid (C3.new w w.heap.size rfl (.bool false) (.int .u64 (H : Int)) (.int .u64 (L : Int)) 49)
  have BW : Hid (Below w.heap.size w (w.alloc (.cells #[.bool false, .int .u64 (H : Int), .int .u64 (L : Int)] 49))) := sbal (Below.refl _ _) _
  clear hDV hR hst hH hL hk hr0 hp1 hNN
  generalize plen H L = pl at *
  rcases hsp with ⟨rfl, hz⟩ | hz
  · clear hN
    go_enter Try.func39, Try.ntmps39
    go_wp2_with fail
    generalize w.alloc _ = W0 at *
    refine (HL.out _).mono ?_
    rintro e w1 ⟨rfl, hb1⟩
    have P1 := Lib.hid (P3.out.via hb1)
    have B1 := Lib.hid (sbtr BW.out hb1)
    clear hb1 P3 BW HL
    go_wp2_with fail
    go_loopw [3] (fun s wr => ∃ r : Nat, s = .int .u64 (r : Int) ∧ 0 < r ∧ r ≤ 2251799813685248 ∧ N < (r + 1) * (r + 1) ∧ C3 wr w.heap.size (.bool false) (.int .u64 0) (.int .u64 (L : Int)) ∧ Below w.heap.size w wr) (fun s _ => (intOf s).toNat)
    case atStart => exact ⟨r0, rfl, hp0, hp2, HST.out, P1.out, B1.out⟩
    case round =>
      obtain ⟨r, rfl, q0, q1, q2, cp, bx⟩ := hrel
      have HD := Lib.hid (HDV.out r q0 q1 q2)
      have hq := rt_quo q0 q2
      have QN := Lib.hid q2
      have P2 := Lib.hid cp
      have B2 := Lib.hid bx
      clear cp bx q2 P1 B1 HST hp0 hp2 HDV
      obtain ⟨q, hqq⟩ : ∃ q, q = N / r := ⟨_, rfl⟩
      rw [← hqq] at HD hq
      have HQ := Lib.hid hqq
      clear hqq
      have ⟨c0, c1, c2, _, _, _, _⟩ := P2.out
      go_wp2_with fail
      clear c0 c1 c2
      refine (HD.out _).mono ?_
      rintro e w2 ⟨rfl, d, rfl⟩
      have P4 := Lib.hid (P2.out.drewN d)
      have B4 := Lib.hid (bdrewN B2.out d)
      clear P2 B2 HD
      by_cases hlt : (r + q) / 2 < r
      · have hld : decide ((r : Int) ≤ ((r : Int) + (q : Int)) / 2) = false := decide_eq_false (by omega)
        have hnd : decide (r ≤ (r + q) / 2) = false := decide_eq_false (by omega)
        go_wp2
        go_roundw
        case rel => exact ⟨(r + q) / 2, by go_num, by rw [HQ.out, Nat.add_comm r]; exact newt_pos (by have := PN; omega) q0, by omega, by rw [HQ.out, Nat.add_comm r]; exact newt_next q0, P4.out, B4.out⟩
        case measure => simp [intOf]; omega
      · have hrr : r = R := IsRt.uniq (newt_end QN.out (by rw [← HQ.out, Nat.add_comm q]; omega)) HRT.out
        have HRR := Lib.hid hrr
        have hli : (r : Int) ≤ ((r : Int) + (q : Int)) / 2 := by omega
        have hni : r ≤ (r + q) / 2 := by omega
        clear hrr hlt
        go_wp2
        go_ret
        exact ⟨ret_int (by rw [HRR.out]), B4.out⟩
  · clear hN
    go_enter Try.func39, Try.ntmps39
    go_wp2_with fail
    generalize w.alloc _ = W0 at *
    refine (HL.out _).mono ?_
    rintro e w1 ⟨rfl, hb1⟩
    have P1 := Lib.hid (P3.out.via hb1)
    have B1 := Lib.hid (sbtr BW.out hb1)
    clear hb1 P3 BW HL
    go_wp2_with fail
    go_loopw [3] (fun s wr => ∃ r : Nat, s = .int .u64 (r : Int) ∧ 0 < r ∧ r ≤ 2251799813685248 ∧ N < (r + 1) * (r + 1) ∧ C3 wr w.heap.size (.bool false) (.int .u64 (H : Int)) (.int .u64 (L : Int)) ∧ Below w.heap.size w wr) (fun s _ => (intOf s).toNat)
    case atStart => exact ⟨r0, rfl, hp0, hp2, HST.out, P1.out, B1.out⟩
    case round =>
      obtain ⟨r, rfl, q0, q1, q2, cp, bx⟩ := hrel
      have HD := Lib.hid (HDV.out r q0 q1 q2)
      have hq := rt_quo q0 q2
      have QN := Lib.hid q2
      have P2 := Lib.hid cp
      have B2 := Lib.hid bx
      clear cp bx q2 P1 B1 HST hp0 hp2 HDV
      obtain ⟨q, hqq⟩ : ∃ q, q = N / r := ⟨_, rfl⟩
      rw [← hqq] at HD hq
      have HQ := Lib.hid hqq
      clear hqq
      have ⟨c0, c1, c2, _, _, _, _⟩ := P2.out
      go_wp2_with fail
      clear c0 c1 c2
      refine (HD.out _).mono ?_
      rintro e w2 ⟨rfl, d, rfl⟩
      have P4 := Lib.hid (P2.out.drewN d)
      have B4 := Lib.hid (bdrewN B2.out d)
      clear P2 B2 HD
      by_cases hlt : (r + q) / 2 < r
      · have hld : decide ((r : Int) ≤ ((r : Int) + (q : Int)) / 2) = false := decide_eq_false (by omega)
        have hnd : decide (r ≤ (r + q) / 2) = false := decide_eq_false (by omega)
        go_wp2
        go_roundw
        case rel => exact ⟨(r + q) / 2, by go_num, by rw [HQ.out, Nat.add_comm r]; exact newt_pos (by have := PN; omega) q0, by omega, by rw [HQ.out, Nat.add_comm r]; exact newt_next q0, P4.out, B4.out⟩
        case measure => simp [intOf]; omega
      · have hrr : r = R := IsRt.uniq (newt_end QN.out (by rw [← HQ.out, Nat.add_comm q]; omega)) HRT.out
        have HRR := Lib.hid hrr
        have hli : (r : Int) ≤ ((r : Int) + (q : Int)) / 2 := by omega
        have hni : r ≤ (r + q) / 2 := by omega
        clear hrr hlt
        go_wp2
        go_ret
        exact ⟨ret_int (by rw [HRR.out]), B4.out⟩
end Go.Proofs.Ytegpckhfncblhaa

/- Intervals: squareRoot of package span. -/
namespace Go.Proofs.Ytegpckhfncblhaa
open Go.RowKit

set_option maxRecDepth 100000 in
theorem root_zero (w : World) : Calls Try.prog 39 #[.agg #[.bool false, .int .u64 ((0 : Nat) : Int), .int .u64 ((0 : Nat) : Int)]] w (RN1 w 0) := by
  go_enter Try.func39, Try.ntmps39
  go_wp2
  go_ret
  exact ⟨rfl, by go_grown⟩
theorem plen_small {H L : Nat} (h : H * 18446744073709551616 + L ≤ 2535301200456458802993406410752) (hL : L < 18446744073709551616) : plen H L ≤ 102 := by
  unfold plen
  by_cases h0 : H = 0
  · rw [if_pos h0]; have := Lib.bitLen_le L 64 (by omega) hL; omega
  · rw [if_neg h0]
    have h1 : H < 2 ^ 38 := by have e : (2 : Nat) ^ 38 = 274877906944 := rfl; rw [e]; omega
    have := Lib.bitLen_le H 38 (by omega) h1
    omega
/-- root at every product of the square root's range. -/
theorem root_all (w : World) (H L R : Nat) (h : H * 18446744073709551616 + L ≤ 2535301200456458802993406410752) (hL : L < 18446744073709551616) (hR : IsRt (H * 18446744073709551616 + L) R) :
    Calls Try.prog 39 #[.agg #[.bool false, .int .u64 (H : Int), .int .u64 (L : Int)]] w (RN1 w (R : Int)) := by
  rcases Nat.eq_zero_or_pos (H * 18446744073709551616 + L) with h0 | h0
  · obtain rfl : H = 0 := by omega
    obtain rfl : L = 0 := by omega
    obtain rfl : R = 0 := IsRt.uniq hR (by unfold IsRt; omega)
    exact root_zero w
  · exact root_any w H L R h0 (plen_small h hL) (by omega) hL hR
theorem smul_self (r : Nat) (hr : r ≤ 9223372036854775807) (w : World) : Calls Try.prog 30 #[.int .i64 (r : Int), .int .i64 (r : Int)] w (RP w false (r * r)) := by
  have h := smul_any w (r : Int) (r : Int) (by omega) (by omega) (by omega) (by omega)
  rw [Int.natAbs_natCast, show sgB (r : Int) (r : Int) = false by unfold sgB; simp] at h
  exact h
end Go.Proofs.Ytegpckhfncblhaa

/- Intervals: squareRoot of package span. -/
namespace Go.Proofs.Ytegpckhfncblhaa
open Go.RowKit
theorem Pr.farO {w : World} {g h : Nat} {x y : Value} (p : Pr w g x y) (hne : g ≠ h) (i : Nat) (z : Value) : Pr (w.setCell ⟨h, i, none⟩ z) g x y := by
  have h1 := p.c0; have h2 := p.c1; have h3 := p.f0; have h4 := p.f1; have h5 := p.lt
  have hne2 : ¬ h = g := fun e => hne e.symm
  exact ⟨by go_simp, by go_simp, by simpa using h3, by simpa using h4, by simpa [World.size_setCell] using h5⟩
theorem smul_hl (x y : Nat) (hx : x ≤ 9223372036854775807) (hy : y ≤ 9223372036854775807) : ∃ H L, H * 18446744073709551616 + L = x * y ∧ L < 18446744073709551616 ∧ ∀ w, Calls Try.prog 30 #[.int .i64 (x : Int), .int .i64 (y : Int)] w fun e w' => e = .returned (.agg #[.bool false, .int .u64 (H : Int), .int .u64 (L : Int)]) ∧ Below w.heap.size w w' := by
  refine ⟨x * y / 18446744073709551616, x * y % 18446744073709551616, Nat.div_add_mod' _ _, Nat.mod_lt _ (by omega), fun w => ?_⟩
  have h := smul_any w (x : Int) (y : Int) (by omega) (by omega) (by omega) (by omega)
  rw [Int.natAbs_natCast, Int.natAbs_natCast, show sgB (x : Int) (y : Int) = false by unfold sgB; rw [decide_eq_false (by omega), decide_eq_false (by omega)]; rfl] at h
  exact h
def rtHi (N R : Nat) : Int := if R * R = N then (R : Int) else (R : Int) + 1
set_option maxRecDepth 100000 in
set_option maxHeartbeats 2000000 in
theorem sroot_any (w : World) (x R : Nat) (hx : x ≤ 2305843009213693952) (hR : IsRt (x * 1099511627776) R) :
    Calls Try.prog 27 #[.int .i64 (x : Int)] w (RV w (R : Int) (rtHi (x * 1099511627776) R)) := by
  have hR9 : R ≤ 9223372036854775806 := by
    have h1 := hR.1
    rcases Nat.lt_or_ge R 9223372036854775807 with h | h
    · omega
    · have := Nat.mul_le_mul h h; omega
  obtain ⟨H, L, e1, l1, m1⟩ := smul_hl x 1099511627776 (by omega) (by omega)
  obtain ⟨H2, L2, e2, l2, m2⟩ := smul_hl R R (by omega) (by omega)
  have hrt := fun W => root_all W H L R (by rw [e1]; omega) l1 (by rw [e1]; exact hR)
  have heq : R * R = x * 1099511627776 ↔ H2 = H ∧ L2 = L := by rw [← e1, ← e2]; omega
  have M1 := Lib.hid m1
  have M2 := Lib.hid m2
  have RT := Lib.hid hrt
  have HV : Hid (H2 = H ∧ L2 = L → rtHi (x * 1099511627776) R = (R : Int)) := fun h => by unfold rtHi; rw [if_pos (heq.2 h)]
  have HW : Hid (¬ (H2 = H ∧ L2 = L) → rtHi (x * 1099511627776) R = (R : Int) + 1) := fun h => by unfold rtHi; rw [if_neg (fun e => h (heq.1 e))]
  clear m1 m2 hrt e1 e2 l1 l2 heq hR
  generalize rtHi (x * 1099511627776) R = v at *
  have PR := Lib.hid (Pr.new w w.heap.size rfl (.int .i64 0) (.int .i64 0) 23)
  have BW : Hid (Below w.heap.size w (w.alloc (ivB 0 0))) := sbal (Below.refl _ _) _
  go_enter Try.func27, Try.ntmps27
  go_wp2_with fail
  generalize w.alloc (ivB 0 0) = W0 at *
  refine (M1.out _).mono ?_
  rintro e w1 ⟨rfl, hb⟩
  have P1 := Lib.hid ((PR.out.via hb).alloc (.cells #[.bool false, .int .u64 (H : Int), .int .u64 (L : Int)] 49))
  have B1 := Lib.hid (sbal (sbtr BW.out hb) (.cells #[.bool false, .int .u64 (H : Int), .int .u64 (L : Int)] 49))
  have X1 := Lib.hid (C3.new w1 _ rfl (.bool false) (.int .u64 (H : Int)) (.int .u64 (L : Int)) 49)
  have hl1 := (PR.out.via hb).lt
  clear hb PR BW M1
  go_wp2_with fail
  generalize w1.alloc (.cells #[.bool false, .int .u64 (H : Int), .int .u64 (L : Int)] 49) = W1 at *
  generalize w1.heap.size = g1 at *
  refine (RT.out _).mono ?_
  rintro e w2 ⟨rfl, hb⟩
  have P2 := Lib.hid ((P1.out.via hb).alloc (ivB R R))
  have B2 := Lib.hid (sbal (sbtr B1.out hb) (ivB R R))
  have X2 := Lib.hid ((X1.out.via hb).alloc (ivB R R))
  have Y2 := Lib.hid (Pr.new w2 _ rfl (.int .i64 (R : Int)) (.int .i64 (R : Int)) 23)
  have hl2 := (X1.out.via hb).lt
  clear hb P1 B1 X1 RT
  go_wp2_with fail
  generalize w2.alloc (ivB R R) = W2 at *
  generalize w2.heap.size = g2 at *
  have hlg : w.heap.size < g2 := by omega
  rcases (show H = H2 ∧ L = L2 ∨ H = H2 ∧ ¬ L2 = L ∨ ¬ H2 = H by omega) with ⟨rfl, rfl⟩ | ⟨rfl, hz⟩ | hz
  · have HKS : Hid (∀ X : World, Below W2.heap.size W2 X → X.cell? ⟨g1, 0, none⟩ = some (.bool false) ∧ X.cell? ⟨g1, 1, none⟩ = some (.int .u64 (H : Int)) ∧ X.cell? ⟨g1, 2, none⟩ = some (.int .u64 (L : Int))) := fun X h => ⟨(X2.out.via h).c0, (X2.out.via h).c1, (X2.out.via h).c2⟩
    go_region_held3 (fun X => X.cell? ⟨g1, 0, none⟩ = some (.bool false) ∧ X.cell? ⟨g1, 1, none⟩ = some (.int .u64 (H : Int)) ∧ X.cell? ⟨g1, 2, none⟩ = some (.int .u64 (L : Int)))
      (first | exact HKS.out _ (Below.refl _ _) | exact HKS.out _ (Below.refl _ _).drew | exact HKS.out _ E0)
      (first | (go_at_call 30; refine (M2.out _).mono ?_; rintro e y0 ⟨rfl, hh0⟩; have E0 : Below W2.heap.size W2 y0 := (by first | exact (bdrewN (Below.refl _ _) 1).trans hh0 | exact hh0)) | fail)
    have P5 := Lib.hid (P2.out.via E0)
    have Y5 := Lib.hid (Y2.out.via E0)
    have B5 := Lib.hid (sbtr B2.out E0)
    clear P2 Y2 X2 B2 HKS E0 M2
    have ⟨r0, r1, r2, r3, rl⟩ := P5.out
    have ⟨t0, t1, t2, t3, tl⟩ := Y5.out
    have hng := Nat.ne_of_lt hlg
    have hng2 := Nat.ne_of_gt hlg
    go_wp2
    exact post_iv1 Try.results27 rfl rfl (P5.out.set _ _) ⟨ret_iv rfl (HV.out (by simp)).symm, below_set2 B5.out (by omega) _ _⟩
  · have HW2 := Lib.hid (HW.out (by omega))
    have hz_a : (((L2 : Nat) : Int) == ((L : Nat) : Int)) = false := by simp; omega
    have hz_b : ¬ ((L2 : Int) = (L : Int)) := by omega
    have hz_c : decide ((L2 : Int) = (L : Int)) = false := decide_eq_false (by omega)
    have hz_d : decide (L2 = L) = false := decide_eq_false (by omega)
    have hz_e : (L2 == L) = false := by simp; omega
    have HKS : Hid (∀ X : World, Below W2.heap.size W2 X → X.cell? ⟨g1, 0, none⟩ = some (.bool false) ∧ X.cell? ⟨g1, 1, none⟩ = some (.int .u64 (H : Int)) ∧ X.cell? ⟨g1, 2, none⟩ = some (.int .u64 (L : Int))) := fun X h => ⟨(X2.out.via h).c0, (X2.out.via h).c1, (X2.out.via h).c2⟩
    go_region_held3 (fun X => X.cell? ⟨g1, 0, none⟩ = some (.bool false) ∧ X.cell? ⟨g1, 1, none⟩ = some (.int .u64 (H : Int)) ∧ X.cell? ⟨g1, 2, none⟩ = some (.int .u64 (L : Int)))
      (first | exact HKS.out _ (Below.refl _ _) | exact HKS.out _ (Below.refl _ _).drew | exact HKS.out _ E0)
      (first | (go_at_call 30; refine (M2.out _).mono ?_; rintro e y0 ⟨rfl, hh0⟩; have E0 : Below W2.heap.size W2 y0 := (by first | exact (bdrewN (Below.refl _ _) 1).trans hh0 | exact hh0)) | fail)
    have P5 := Lib.hid (P2.out.via E0)
    have Y5 := Lib.hid (Y2.out.via E0)
    have B5 := Lib.hid (sbtr B2.out E0)
    clear P2 Y2 X2 B2 HKS E0 M2
    have ⟨r0, r1, r2, r3, rl⟩ := P5.out
    have ⟨t0, t1, t2, t3, tl⟩ := Y5.out
    have hng := Nat.ne_of_lt hlg
    have hng2 := Nat.ne_of_gt hlg
    go_wp2
    have hP := (P5.out.farO hng 1 (.int .i64 ((R : Int) + 1))).set (.int .i64 (R : Int)) (.int .i64 ((R : Int) + 1))
    exact post_iv1 Try.results27 rfl rfl hP ⟨ret_iv rfl HW2.out.symm, below_set2 (B5.out.setCell (p := ⟨g2, 1, none⟩) (Nat.le_of_lt hlg) _) (by omega) _ _⟩
  · have HW2 := Lib.hid (HW.out (by omega))
    have hz_a : (((H2 : Nat) : Int) == ((H : Nat) : Int)) = false := by simp; omega
    have hz_b : ¬ ((H2 : Int) = (H : Int)) := by omega
    have hz_c : decide ((H2 : Int) = (H : Int)) = false := decide_eq_false (by omega)
    have hz_d : decide (H2 = H) = false := decide_eq_false (by omega)
    have hz_e : (H2 == H) = false := by simp; omega
    have HKS : Hid (∀ X : World, Below W2.heap.size W2 X → X.cell? ⟨g1, 0, none⟩ = some (.bool false) ∧ X.cell? ⟨g1, 1, none⟩ = some (.int .u64 (H : Int)) ∧ X.cell? ⟨g1, 2, none⟩ = some (.int .u64 (L : Int))) := fun X h => ⟨(X2.out.via h).c0, (X2.out.via h).c1, (X2.out.via h).c2⟩
    go_region_held3 (fun X => X.cell? ⟨g1, 0, none⟩ = some (.bool false) ∧ X.cell? ⟨g1, 1, none⟩ = some (.int .u64 (H : Int)) ∧ X.cell? ⟨g1, 2, none⟩ = some (.int .u64 (L : Int)))
      (first | exact HKS.out _ (Below.refl _ _) | exact HKS.out _ (Below.refl _ _).drew | exact HKS.out _ E0)
      (first | (go_at_call 30; refine (M2.out _).mono ?_; rintro e y0 ⟨rfl, hh0⟩; have E0 : Below W2.heap.size W2 y0 := (by first | exact (bdrewN (Below.refl _ _) 1).trans hh0 | exact hh0)) | fail)
    have P5 := Lib.hid (P2.out.via E0)
    have Y5 := Lib.hid (Y2.out.via E0)
    have B5 := Lib.hid (sbtr B2.out E0)
    clear P2 Y2 X2 B2 HKS E0 M2
    have ⟨r0, r1, r2, r3, rl⟩ := P5.out
    have ⟨t0, t1, t2, t3, tl⟩ := Y5.out
    have hng := Nat.ne_of_lt hlg
    have hng2 := Nat.ne_of_gt hlg
    go_wp2
    have hP := (P5.out.farO hng 1 (.int .i64 ((R : Int) + 1))).set (.int .i64 (R : Int)) (.int .i64 ((R : Int) + 1))
    exact post_iv1 Try.results27 rfl rfl hP ⟨ret_iv rfl HW2.out.symm, below_set2 (B5.out.setCell (p := ⟨g2, 1, none⟩) (Nat.le_of_lt hlg) _) (by omega) _ _⟩
end Go.Proofs.Ytegpckhfncblhaa

/- Intervals: Sqrt of package span. -/
namespace Go.Proofs.Ytegpckhfncblhaa
open Go.RowKit

theorem IsRt.mono {N M r s : Nat} (h : N ≤ M) (hr : IsRt N r) (hs : IsRt M s) : r ≤ s := by
  obtain ⟨a1, _⟩ := hr
  obtain ⟨_, b2⟩ := hs
  rcases Nat.lt_or_ge s r with g | g
  · have := Nat.mul_le_mul (show s + 1 ≤ r by omega) (show s + 1 ≤ r by omega); omega
  · exact g
theorem rtHi_le (N R : Nat) : (R : Int) ≤ rtHi N R := by unfold rtHi; split <;> omega
def rtO (al ah : Int) (Rl Rh : Nat) : Out := if al < 0 then ⟨0, 0, 2⟩ else mkI (Rl : Int) (rtHi (ah.toNat * 1099511627776) Rh)
set_option maxRecDepth 100000 in
set_option maxHeartbeats 2000000 in
theorem ssqrt_any (w : World) (al ah : Int) (Rl Rh : Nat) (hl : IsRt (al.toNat * 1099511627776) Rl) (hh : IsRt (ah.toNat * 1099511627776) Rh) :
    Calls Try.prog 8 #[iv al ah] w (RO w (j1 al ah (rtO al ah Rl Rh))) := by
  have PA := Lib.hid ((Pr.new w w.heap.size rfl (.int .i64 al) (.int .i64 ah) 23).alloc (ivB 0 0))
  have PR := Lib.hid (Pr.new (w.alloc (ivB al ah)) (w.heap.size + 1) (by simp) (.int .i64 0) (.int .i64 0) 23)
  have BW : Hid (Below w.heap.size w ((w.alloc (ivB al ah)).alloc (ivB 0 0))) := sbal (sbal (Below.refl _ _) _) _
  go_enter Try.func8, Try.ntmps8
  go_wp2_with fail
  generalize (w.alloc (ivB al ah)).alloc (ivB 0 0) = W0 at *
  refine (scheck_any _ al ah).mono ?_
  rintro e w1 ⟨rfl, hb⟩
  have P1 := Lib.hid (PA.out.via hb)
  have P3 := Lib.hid (PR.out.via hb)
  have B1 := Lib.hid (sbtr BW.out hb)
  clear hb PA PR BW
  rcases ivC_cases al ah with ⟨h, x1, x2, x3⟩ | ⟨h, _⟩
  · rw [h]
    have HO : Hid (j1 al ah (rtO al ah Rl Rh) = rtO al ah Rl Rh) := j1_ok h
    clear h
    by_cases hz : al < 0
    · have HM : Hid (rtO al ah Rl Rh = ⟨0, 0, 2⟩) := by show _ = _; unfold rtO; rw [if_pos hz]
      have ⟨a0, a1, _, _, _⟩ := P1.out
      have ⟨r0, r1, r2, r3, r4⟩ := P3.out
      clear x1 x2 x3 hl hh
      go_wp2
      exact post_iv Try.results8 rfl rfl (P3.out.set _ _) ⟨ret_out (HO.out.trans HM.out), below_set2 B1.out (by omega) _ _⟩
    · have hm : (Rl : Int) ≤ rtHi (ah.toNat * 1099511627776) Rh := by
        have h1 := IsRt.mono (Nat.mul_le_mul_right _ (show al.toNat ≤ ah.toNat by omega)) hl hh
        have h2 := rtHi_le (ah.toNat * 1099511627776) Rh
        omega
      have k0 : ∀ W, Calls Try.prog 27 #[.int .i64 al] W (RV W (Rl : Int) (rtHi (al.toNat * 1099511627776) Rl)) := fun W => by
        have := sroot_any W al.toNat Rl (by omega) hl
        rwa [Int.toNat_of_nonneg (by omega)] at this
      have k1 : ∀ W, Calls Try.prog 27 #[.int .i64 ah] W (RV W (Rh : Int) (rtHi (ah.toNat * 1099511627776) Rh)) := fun W => by
        have := sroot_any W ah.toNat Rh (by omega) hh
        rwa [Int.toNat_of_nonneg (by omega)] at this
      have HM : Hid (mkI (Rl : Int) (rtHi (ah.toNat * 1099511627776) Rh) = rtO al ah Rl Rh) := by show _ = _; unfold rtO; rw [if_neg hz]
      have RI := Lib.hid (fun W => rising_rt W al ah _ _ _ _ k0 k1)
      have HLE := Lib.hid hm
      have hal : decide (al < 0) = false := decide_eq_false hz
      clear k0 k1 hm hl hh x1 x2 x3
      generalize rtHi (ah.toNat * 1099511627776) Rh = v at *
      generalize rtO al ah Rl Rh = o at *
      have ⟨a0, a1, _, _, _⟩ := P1.out
      go_wp2_with fail
      clear a0 a1
      refine (RI.out _).mono ?_
      rintro e w2 ⟨rfl, hb⟩
      have P4 := Lib.hid (P3.out.via hb)
      have B2 := Lib.hid (sbtr B1.out hb)
      clear hb P3 B1 RI P1
      go_wp2_with fail
      refine (smade_any _ _ _ HLE.out).mono ?_
      rintro e w3 ⟨rfl, hb⟩
      have P5 := Lib.hid (P4.out.via hb)
      have B3 := Lib.hid (sbtr B2.out hb)
      clear hb P4 B2
      have ⟨r0, r1, r2, r3, r4⟩ := P5.out
      go_wp2
      exact post_iv Try.results8 rfl rfl (P5.out.set _ _) ⟨ret_mk (HM.out.trans HO.out.symm), below_set2 B3.out (by omega) _ _⟩
  · rw [h]
    have HO : Hid (j1 al ah (rtO al ah Rl Rh) = ⟨0, 0, 8⟩) := j1_bad h
    clear h hl hh
    have ⟨r0, r1, r2, r3, r4⟩ := P3.out
    go_wp2
    exact post_iv Try.results8 rfl rfl (P3.out.set _ _) ⟨by rw [HO.out]; rfl, below_set2 B1.out (by omega) _ _⟩
end Go.Proofs.Ytegpckhfncblhaa

