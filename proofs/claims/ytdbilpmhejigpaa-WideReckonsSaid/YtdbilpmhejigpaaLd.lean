/-
  A block of the call's own that is known whole: a list of limbs.
-/
import Derived.Test.YtdbilpmhejigpaaW2
import Derived.Test.YtdbilpmhejigpaaArith
import Derived.RangeFuncBox
namespace Go.Proofs.Ytdbilpmhejigpaa
open Go.RowKit

/-- Block g is just the limbs cs, none frozen. -/
def Ld (w : World) (g : Nat) (cs : List Nat) : Prop := w.heap[g]? = some (.cells (cs.map u32c).toArray 63 (0, 0))
section
variable {w w' : World} {g : Nat} {cs : List Nat}
theorem Ld.lt (h : Ld w g cs) : g < w.heap.size := (Array.getElem?_eq_some_iff.1 h).1
theorem Ld.cell (h : Ld w g cs) {i : Nat} (hi : i < cs.length) : w.cell? ⟨g, i, none⟩ = some (.int .u32 (cs[i]?.getD 0 : Nat)) := by
  have e := cell_of_row w g i _ _ (0, 0) h
  rw [e, List.getElem?_toArray, getD_map cs i hi]
theorem Ld.frozen (h : Ld w g cs) (i : Nat) : w.frozen? ⟨g, i, none⟩ = false := by
  unfold Ld at h
  simp [World.frozen?, h]
theorem Ld.set_ (h : Ld w g cs) (i t : Nat) : Ld (w.setCell ⟨g, i, none⟩ (.int .u32 (t : Int))) g (cs.set i t) := by
  unfold Ld at h ⊢
  simp [World.setCell, Array.getElem?_modify, h, u32c]
theorem Ld.grown (h : Ld w g cs) {row : Option Nat} (hb : w.grownBy w' row) (hg : some g ≠ row) : Ld w' g cs := (hb.block g h.lt hg).trans h
theorem Ld.below (h : Ld w g cs) {B : Nat} (hb : Below B w w') (hg : g < B) : Ld w' g cs := (hb.block g hg).trans h
theorem Ld.lm (h : Ld w g cs) (gd : Good cs) {off n c : Nat} (hn : off + n ≤ cs.length) (hc : n ≤ c) (hm : c ≤ 9223372036854775807) : Lm w w.heap.size (some ⟨g, off, none⟩) n c ((cs.drop off).take n) :=
  ⟨by rw [List.length_take, List.length_drop]; omega, (gd.drop _).take _, hc, hm, (fun e => by cases e), fun _ => ⟨g, off, rfl, h.lt, fun j hj => by
    rw [h.cell (by omega), List.getElem?_take_of_lt hj, List.getElem?_drop]⟩⟩
end
theorem grownBy_setCellAt (w : World) (g i : Nat) (v : Value) : w.grownBy (w.setCell ⟨g, i, none⟩ v) (some g) :=
  ⟨rfl, rfl, rfl, by simp [World.size_setCell], fun k _ hk => Below.heap_setCell _ _ _ k (fun e => hk (by rw [e]))⟩
theorem grownBy_trans {a b c : World} {g : Nat} (h : a.grownBy b (some g)) (k : b.grownBy c (some g)) : a.grownBy c (some g) :=
  ⟨k.os.trans h.os, k.tape.trans h.tape, k.output.trans h.output, Nat.le_trans h.size k.size, fun i hi hne => (k.block i (Nat.lt_of_lt_of_le hi h.size) hne).trans (h.block i hi hne)⟩
/-- A reading below a block is kept while that block alone is written. -/
theorem Lm.grownLt {w w' : World} {B n c : Nat} {A : Option Addr} {xs : List Nat} (h : Lm w B A n c xs) (hg : w.grownBy w' (some B)) (hB : B ≤ w.heap.size) : Lm w' B A n c xs :=
  h.keep fun b _ hb => World.cell?_of_block (hg.block b (by omega) (fun e => by injection e with e; omega))

/-- make([]uint32, n): a new block of zeros. -/
theorem made_zer (n : Nat) : madeCells (Value.int .u32 0).cells (n * 1) = ((zer n).map u32c).toArray := by
  apply Array.ext
  · simp [size_madeCells, zer]
  · intro i h1 h2
    simp [madeCells, zer, u32c, Value.cells, Nat.mod_one]
theorem run_make_u32 (l c : Int) (n : Nat) (hl : l = (n : Int)) (hc : c = (n : Int)) (hn : n ≤ 4000000000) (w : World) :
    (Instr.makeSlice 22 (.int .i64 l) (.int .i64 c)).run Try.prog w = .ok (.slice (some ⟨w.heap.size, 0, none⟩) n n) (w.alloc (.cells ((zer n).map u32c).toArray 63)) := by
  subst hl hc
  obtain ⟨i0, hi0, hz0, hz1, hz2⟩ := info_parts u32_info
  have h := run_make (P := Try.prog) w 22 63 i0 _ slice_u32 hi0 hz0 .i64 .i64 (n : Int) (n : Int) (by omega) (Int.le_refl _) (by rw [hz2]; omega) (by omega)
  rw [hz1, Int.toNat_natCast, made_zer] at h
  exact h
theorem Ld.new (w : World) (n : Nat) : Ld (w.alloc (.cells ((zer n).map u32c).toArray 63)) w.heap.size (zer n) := heap_alloc_new w _

end Go.Proofs.Ytdbilpmhejigpaa
