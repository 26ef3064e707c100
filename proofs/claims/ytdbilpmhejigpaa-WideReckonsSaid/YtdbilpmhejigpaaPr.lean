/- Pairs of cells: the boxes of numbers. -/
import Derived.Test.YtdbilpmhejigpaaBase
namespace Go.Proofs.Ytdbilpmhejigpaa
open Go.RowKit

/-- Block g holds the two cells of a number, and may be written. -/
structure Pr (w : World) (g : Nat) (x y : Value) : Prop where
  c0 : w.cell? ⟨g, 0, none⟩ = some x
  c1 : w.cell? ⟨g, 1, none⟩ = some y
  f0 : w.frozen? ⟨g, 0, none⟩ = false
  f1 : w.frozen? ⟨g, 1, none⟩ = false
  lt : g < w.heap.size
section
variable {w w' : World} {g h : Nat} {x y : Value}
theorem Pr.new (w : World) (k : Nat) (hk : w.heap.size = k) (x y : Value) (t : TypeId) : Pr (w.alloc (.cells #[x, y] t)) k x y := by
  subst hk
  refine ⟨?_, ?_, ?_, ?_, by simp⟩ <;> go_simp
theorem Pr.via (p : Pr w g x y) (hb : Below w.heap.size w w') : Pr w' g x y :=
  ⟨(hb.cell (p := ⟨g, 0, none⟩) p.lt).trans p.c0, (hb.cell (p := ⟨g, 1, none⟩) p.lt).trans p.c1, (hb.frozen (p := ⟨g, 0, none⟩) p.lt).trans p.f0, (hb.frozen (p := ⟨g, 1, none⟩) p.lt).trans p.f1, Nat.lt_of_lt_of_le p.lt hb.size⟩
theorem Pr.below (p : Pr w g x y) {B : Nat} (hb : Below B w w') (hg : g < B) : Pr w' g x y :=
  ⟨(hb.cell (p := ⟨g, 0, none⟩) hg).trans p.c0, (hb.cell (p := ⟨g, 1, none⟩) hg).trans p.c1, (hb.frozen (p := ⟨g, 0, none⟩) hg).trans p.f0, (hb.frozen (p := ⟨g, 1, none⟩) hg).trans p.f1, Nat.lt_of_lt_of_le p.lt hb.size⟩
theorem Pr.alloc (p : Pr w g x y) (o : Obj) : Pr (w.alloc o) g x y := p.via ((Below.refl _ _).alloc (Nat.le_refl _) o)
theorem Pr.drew (p : Pr w g x y) : Pr w.drew g x y := ⟨p.c0, p.c1, p.f0, p.f1, p.lt⟩
theorem Pr.drewN (p : Pr w g x y) (k : Nat) : Pr (w.drewN k) g x y := ⟨p.c0, p.c1, p.f0, p.f1, p.lt⟩
theorem size_set2 (w : World) (h : Nat) (x y : Value) : ((w.setCell ⟨h, 0, none⟩ x).setCell ⟨h, 1, none⟩ y).heap.size = w.heap.size := by simp [World.size_setCell]
theorem Pr.set (p : Pr w g x y) (x' y' : Value) : Pr ((w.setCell ⟨g, 0, none⟩ x').setCell ⟨g, 1, none⟩ y') g x' y' :=
  ⟨(set2 x' y' p.c0 p.c1).1, (set2 x' y' p.c0 p.c1).2, by have := p.f0; simpa using this, by have := p.f1; simpa using this, by rw [size_set2]; exact p.lt⟩
theorem Pr.far (p : Pr w g x y) (hne : g ≠ h) (x' y' : Value) : Pr ((w.setCell ⟨h, 0, none⟩ x').setCell ⟨h, 1, none⟩ y') g x y :=
  ⟨(far2 x' y' hne ⟨p.c0, p.c1⟩).1, (far2 x' y' hne ⟨p.c0, p.c1⟩).2, by have := p.f0; simpa using this, by have := p.f1; simpa using this, by rw [size_set2]; exact p.lt⟩
end
theorem Lm.setP {w : World} {n c : Nat} {A : Option Addr} {xs : List Nat} (h : Lm w w.heap.size A n c xs) {g n0 c0 : Nat} {b : Bool} {A0 : Option Addr} (p : Pr w g (.bool b) (.slice A0 n0 c0)) (x y : Value) :
    Lm ((w.setCell ⟨g, 0, none⟩ x).setCell ⟨g, 1, none⟩ y) ((w.setCell ⟨g, 0, none⟩ x).setCell ⟨g, 1, none⟩ y).heap.size A n c xs := h.set2 p.c0 p.c1 x y

/-- The results of a function that returns two numbers and one value more. -/
theorem res_ww {fn : Func} {r s u : Nat} (hr : fn.results = #[.cell r 24, .cell s 24, .tmp u]) {tmps : Array Value} {w : World} {g h : Nat} {x y x' y' : Value}
    (ht : tmps.getD r undef = .pointer (some ⟨g, 0, none⟩)) (hs : tmps.getD s undef = .pointer (some ⟨h, 0, none⟩)) (p : Pr w g x y) (q : Pr w h x' y') :
    (results fn tmps).run Try.prog w = .ok (.tuple #[.agg #[x, y], .agg #[x', y'], tmps.getD u undef]) w := by
  rw [Array.getD_eq_getD_getElem?] at ht hs
  simp [results, hr, go_sem, ht, hs, p.c0, p.c1, q.c0, q.c1]
theorem post_ww {fn : Func} {r s u : Nat} (hr : fn.results = #[.cell r 24, .cell s 24, .tmp u]) {R : Ending → World → Prop} {a : Act} {w : World} {g h : Nat} {x y x' y' : Value}
    (ht : a.tmps.getD r undef = .pointer (some ⟨g, 0, none⟩)) (hs : a.tmps.getD s undef = .pointer (some ⟨h, 0, none⟩)) (hd : a.defers = []) (p : Pr w g x y) (q : Pr w h x' y')
    (hR : R (.returned (.tuple #[.agg #[x, y], .agg #[x', y'], a.tmps.getD u undef])) w) : bodyPost Try.prog fn R .ret a w :=
  bodyPost_ret (res_ww hr ht hs p q) hd hR

/-- Four boxes of two cells, behind a call that keeps what was there. -/
theorem boxes4 {w w1 : World} {t0 t1 t2 t3 : TypeId} {a0 a1 b0 b1 q0 q1 r0 r1 : Value}
    (hb : Below ((((w.alloc (.cells #[a0, a1] t0)).alloc (.cells #[b0, b1] t1)).alloc (.cells #[q0, q1] t2)).alloc (.cells #[r0, r1] t3)).heap.size ((((w.alloc (.cells #[a0, a1] t0)).alloc (.cells #[b0, b1] t1)).alloc (.cells #[q0, q1] t2)).alloc (.cells #[r0, r1] t3)) w1) :
    Pr w1 w.heap.size a0 a1 ∧ Pr w1 (w.heap.size + 1) b0 b1 ∧ Pr w1 (w.heap.size + 1 + 1) q0 q1 ∧ Pr w1 (w.heap.size + 1 + 1 + 1) r0 r1 :=
  ⟨((((Pr.new w w.heap.size rfl a0 a1 t0).alloc _).alloc _).alloc _).via hb, (((Pr.new (w.alloc (.cells #[a0, a1] t0)) (w.heap.size + 1) (by simp) b0 b1 t1).alloc _).alloc _).via hb,
    ((Pr.new ((w.alloc (.cells #[a0, a1] t0)).alloc (.cells #[b0, b1] t1)) (w.heap.size + 1 + 1) (by simp) q0 q1 t2).alloc _).via hb,
    (Pr.new (((w.alloc (.cells #[a0, a1] t0)).alloc (.cells #[b0, b1] t1)).alloc (.cells #[q0, q1] t2)) (w.heap.size + 1 + 1 + 1) (by simp) r0 r1 t3).via hb⟩

end Go.Proofs.Ytdbilpmhejigpaa
