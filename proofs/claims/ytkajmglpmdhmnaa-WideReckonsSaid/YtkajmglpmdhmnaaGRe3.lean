/- Lemmas, part 3. -/
import Derived.Deep.QuietTactic
import Derived.BigQuiet
import Derived.Laws.CopyOwn
import Derived.Deep.RegionWith
import Derived.Laws.MathBits
import Derived.Deep.DeepCutAuto
import Derived.Deep.CutBlock
import Derived.Test.YtkajmglpmdhmnaaGRe2
/- wide.divideLimb. -/
namespace Go.Proofs.Ytkajmglpmdhmnaa
open Go.RowKit

/-- Block g begins with the limbs cs; none is frozen. -/
def Ob (w : World) (g : Nat) (cs : List Nat) : Prop := ∃ cur : Array Value, w.heap[g]? = some (.cells cur 47 (0, 0)) ∧ cs.length ≤ cur.size ∧ ∀ i, i < cs.length → cur[i]? = some (.int .u32 (cs[i]?.getD 0 : Nat))
section
variable {w w' : World} {g : Nat} {cs : List Nat}
theorem Ld.ob (h : Ld w g cs) : Ob w g cs := ⟨_, h, by simp, fun i hi => by rw [List.getElem?_toArray, getD_map cs i hi]⟩
theorem Ob.lt (h : Ob w g cs) : g < w.heap.size := by obtain ⟨cur, h, _⟩ := h; exact (Array.getElem?_eq_some_iff.1 h).1
theorem Ob.cell (h : Ob w g cs) {i : Nat} (hi : i < cs.length) : w.cell? ⟨g, i, none⟩ = some (.int .u32 (cs[i]?.getD 0 : Nat)) := by
  obtain ⟨cur, h, _, h2⟩ := h
  rw [cell_of_row w g i _ _ (0, 0) h]
  exact h2 i hi
theorem Ob.frozen (h : Ob w g cs) (i : Nat) : w.frozen? ⟨g, i, none⟩ = false := by
  obtain ⟨cur, h, _⟩ := h
  simp [World.frozen?, h]
theorem Ob.set_ (h : Ob w g cs) (i t : Nat) : Ob (w.setCell ⟨g, i, none⟩ (.int .u32 (t : Int))) g (cs.set i t) := by
  obtain ⟨cur, h, h1, h2⟩ := h
  refine ⟨cur.setIfInBounds i (.int .u32 (t : Int)), ?_, ?_, fun j hj => ?_⟩
  · simp [World.setCell, Array.getElem?_modify, h]
  · simpa using h1
  · rw [List.length_set] at hj
    rw [Array.getElem?_setIfInBounds]
    by_cases e : i = j
    · subst e
      have : i < cur.size := by omega
      simp [this, hj]
    · rw [if_neg e, h2 j hj, List.getElem?_set_ne e]
theorem Ob.grown (h : Ob w g cs) {row : Option Nat} (hb : w.grownBy w' row) (hg : some g ≠ row) : Ob w' g cs := by
  have hl := h.lt
  obtain ⟨cur, h, r⟩ := h
  exact ⟨cur, (hb.block g hl hg).trans h, r⟩
theorem Ob.below (h : Ob w g cs) {B : Nat} (hb : Below B w w') (hg : g < B) : Ob w' g cs := by
  obtain ⟨cur, h, r⟩ := h
  exact ⟨cur, (hb.block g hg).trans h, r⟩
theorem Ob.lm (h : Ob w g cs) (gd : Good cs) {off n c : Nat} (hn : off + n ≤ cs.length) (hc : n ≤ c) (hm : c ≤ 9223372036854775807) : Lm w w.heap.size (some ⟨g, off, none⟩) n c ((cs.drop off).take n) :=
  ⟨by rw [List.length_take, List.length_drop]; omega, (gd.drop _).take _, hc, hm, (fun e => by cases e), fun _ => ⟨g, off, rfl, h.lt, fun j hj => by
    rw [h.cell (by omega), List.getElem?_take_of_lt hj, List.getElem?_drop]⟩⟩
theorem Ow.ob {B : Nat} {A : Option Addr} {n c : Nat} (h : Ow w B (.slice A n c) cs) (hn : 0 < cs.length) : ∃ g, A = some ⟨g, 0, none⟩ ∧ n = cs.length ∧ B ≤ g ∧ Ob w g cs := by
  obtain ⟨h1, ⟨_, h0⟩ | ⟨g, cap, cur, e, hb, hg, hcap, _, hs, ht⟩⟩ := h
  · omega
  · injection e with e1 e2 e3
    refine ⟨g, e1, e2, hb, cur, hg, by omega, fun i hi => ?_⟩
    rw [Nat.mul_one] at ht
    have e4 := getD_map cs i hi
    rw [← ht, List.getElem?_take_of_lt hi] at e4
    simpa using e4
end

/-- A list of limbs divided by a limb: the quotient's limbs, the remainder. -/
def dvL (d : Nat) : List Nat → List Nat × Nat
  | [] => ([], 0)
  | x :: xs => (((dvL d xs).2 * 4294967296 + x) / d :: (dvL d xs).1, ((dvL d xs).2 * 4294967296 + x) % d)
theorem dvL_len (d : Nat) (xs : List Nat) : (dvL d xs).1.length = xs.length := by
  induction xs with
  | nil => rfl
  | cons x xs ih => simp [dvL, ih]
theorem dvL_lt {d : Nat} (hd : 0 < d) (xs : List Nat) : (dvL d xs).2 < d := by
  cases xs with
  | nil => exact hd
  | cons x xs => exact Nat.mod_lt _ hd
theorem dvL_good {d : Nat} (hd : 0 < d) {xs : List Nat} (g : Good xs) : Good (dvL d xs).1 := by
  induction xs with
  | nil => exact Good.nil
  | cons x xs ih =>
    refine Good.cons ?_ (ih g.tail)
    have h := dvL_lt hd xs
    have hx := g.head
    rw [Nat.div_lt_iff_lt_mul hd]
    have : ((dvL d xs).2 + 1) * 4294967296 ≤ d * 4294967296 := Nat.mul_le_mul_right _ h
    omega
theorem dvL_val {d : Nat} (_hd : 0 < d) (xs : List Nat) : val (dvL d xs).1 * d + (dvL d xs).2 = val xs := by
  induction xs with
  | nil => simp [dvL, val_nil]
  | cons x xs ih =>
    show val (((dvL d xs).2 * 4294967296 + x) / d :: (dvL d xs).1) * d + ((dvL d xs).2 * 4294967296 + x) % d = _
    rw [val_cons, val_cons, ← ih, Nat.add_mul]
    have h := Nat.div_add_mod ((dvL d xs).2 * 4294967296 + x) d
    rw [Nat.mul_comm d] at h
    rw [Nat.mul_assoc, Nat.mul_add]
    omega
theorem dvL_quot {d : Nat} (hd : 0 < d) (xs : List Nat) : val (dvL d xs).1 = val xs / d ∧ (dvL d xs).2 = val xs % d := by
  have h := dvL_val hd xs
  have h2 := dvL_lt hd xs
  rw [← h, Nat.mul_comm]
  exact ⟨by rw [Nat.mul_add_div hd, Nat.div_eq_of_lt h2, Nat.add_zero], by rw [Nat.mul_add_mod, Nat.mod_eq_of_lt h2]⟩

set_option maxRecDepth 100000 in
set_option maxHeartbeats 1000000 in
theorem divideLimb_any (w : World) (g n c d : Nat) (cs : List Nat) (hD : Ob w g cs) (hG : Good cs) (hn : cs.length = n) (_ : n ≤ c) (hn9 : n ≤ 1000000000) (hd : 0 < d) (hd9 : d < 4294967296) :
    Calls Try.prog 41 #[.slice (some ⟨g, 0, none⟩) n c, .int .u32 (d : Int)] w fun e w' => e = .returned (.int .u32 ((dvL d cs).2 : Nat)) ∧ Ob w' g (dvL d cs).1 ∧ w.grownBy w' (some g) := by
  have HD := Lib.hid hD
  have hd0 : ¬ ((d : Int) = 0) := by omega
  clear hD
  go_enter Try.func41, Try.ntmps41
  go_wp2
  go_loopw [5, 6] (fun r i wr => ∃ k : Nat, k ≤ n ∧ i = .int .i64 ((k : Int) - 1) ∧ r = .int .u64 ((dvL d (cs.drop k)).2 : Nat) ∧ Ob wr g (cs.take k ++ (dvL d (cs.drop k)).1) ∧ w.grownBy wr (some g)) (fun _ i _ => (intOf i + 1).toNat)
  case atStart => exact ⟨n, Nat.le_refl _, rfl, by rw [List.drop_of_length_le (by omega)]; rfl, by rw [List.drop_of_length_le (by omega), List.take_of_length_le (by omega)]; show Ob _ _ (cs ++ []); rw [List.append_nil]; exact HD.out, World.grownBy.refl _ _⟩
  case round =>
    obtain ⟨k, hk, rfl, rfl, hO, hg⟩ := hrel
    have HO := Lib.hid hO
    have HGr := Lib.hid hg
    clear hO hg
    have hlen : (cs.take k ++ (dvL d (cs.drop k)).1).length = n := by rw [List.length_append, dvL_len, ← List.length_append, List.take_append_drop]; exact hn
    have hr := dvL_lt hd (cs.drop k)
    rcases k with _ | k
    · go_wp2
      go_ret
      rw [List.drop_zero] at hr
      exact ⟨ret_int (by omega), HO.out, HGr.out⟩
    · have hct := HO.out.cell (i := k) (by omega)
      have hfr := HO.out.frozen k
      have hxg := hG.get k
      have hget : (cs.take (k + 1) ++ (dvL d (cs.drop (k + 1))).1)[k]?.getD 0 = cs[k]?.getD 0 := by
        rw [List.getElem?_append_left (by rw [List.length_take]; omega), List.getElem?_take_of_lt (by omega)]
      rw [hget] at hct
      have HStep : Hid (dvL d (cs.drop k) = (((dvL d (cs.drop (k + 1))).2 * 4294967296 + cs[k]?.getD 0) / d :: (dvL d (cs.drop (k + 1))).1, ((dvL d (cs.drop (k + 1))).2 * 4294967296 + cs[k]?.getD 0) % d)) := by
        show _ = _
        rw [drop_cons_ cs k (by omega)]; rfl
      have hq : ((dvL d (cs.drop (k + 1))).2 * 4294967296 + cs[k]?.getD 0) / d < 4294967296 := by
        rw [Nat.div_lt_iff_lt_mul hd]
        have : ((dvL d (cs.drop (k + 1))).2 + 1) * 4294967296 ≤ d * 4294967296 := Nat.mul_le_mul_right _ hr
        omega
      have HX : Hid (bits .or .u64 (((dvL d (cs.drop (k + 1))).2 : Nat) * 4294967296) ((cs[k]?.getD 0 : Nat) : Int) = (((dvL d (cs.drop (k + 1))).2 * 4294967296 + cs[k]?.getD 0 : Nat) : Int)) := by
        show _ = _
        have e1 : (((dvL d (cs.drop (k + 1))).2 : Nat) : Int) * 4294967296 = (((dvL d (cs.drop (k + 1))).2 * 4294967296 : Nat) : Int) := by omega
        rw [e1, bits_or _ _ (by omega) (by omega), Nat.or_comm, Nat.mul_comm, show (4294967296 : Nat) = 2 ^ 32 from rfl, or_add (by omega), Nat.add_comm]
      have HQ : Hid (IntKind.u64.wrap ((bits .or .u64 (((dvL d (cs.drop (k + 1))).2 : Nat) * 4294967296) ((cs[k]?.getD 0 : Nat) : Int)).tdiv (d : Int)) % 4294967296 = ((((dvL d (cs.drop (k + 1))).2 * 4294967296 + cs[k]?.getD 0) / d : Nat) : Int)) := by
        show _ = _
        rw [HX.out, Int.tdiv_eq_ediv_of_nonneg (by omega), ← Int.natCast_ediv, wrap_nat]
        generalize ((dvL d (cs.drop (k + 1))).2 * 4294967296 + cs[k]?.getD 0) / d = q at hq ⊢
        omega
      have HR : Hid ((bits .or .u64 (((dvL d (cs.drop (k + 1))).2 : Nat) * 4294967296) ((cs[k]?.getD 0 : Nat) : Int)).tmod (d : Int) = ((((dvL d (cs.drop (k + 1))).2 * 4294967296 + cs[k]?.getD 0) % d : Nat) : Int)) := by
        show _ = _
        rw [HX.out, Int.tmod_eq_emod_of_nonneg (by omega), ← Int.natCast_emod]
      go_wp2
      go_roundw
      case rel =>
        refine ⟨k, by omega, by go_num, ?_, ?_, grownBy_trans HGr.out (grownBy_setCellAt _ _ _ _)⟩
        · rw [HStep.out]
          exact congrArg (Value.int IntKind.u64) HR.out
        · rw [HQ.out, HStep.out]
          have e := HO.out.set_ k (((dvL d (cs.drop (k + 1))).2 * 4294967296 + cs[k]?.getD 0) / d)
          have e2 : (cs.take (k + 1) ++ (dvL d (cs.drop (k + 1))).1).set k (((dvL d (cs.drop (k + 1))).2 * 4294967296 + cs[k]?.getD 0) / d) = cs.take k ++ (((dvL d (cs.drop (k + 1))).2 * 4294967296 + cs[k]?.getD 0) / d :: (dvL d (cs.drop (k + 1))).1) := by
            rw [take_snocD cs k (by omega), List.append_assoc]
            have hkl : (cs.take k).length = k := by rw [List.length_take]; omega
            have e3 := set_mid (cs.take k) [] ([cs[k]?.getD 0] ++ (dvL d (cs.drop (k + 1))).1) (((dvL d (cs.drop (k + 1))).2 * 4294967296 + cs[k]?.getD 0) / d) (by simp)
            rw [hkl] at e3
            exact e3
          rw [e2] at e
          exact e
      case measure => simp [intOf]
end Go.Proofs.Ytkajmglpmdhmnaa

/- wide.subProduct. -/
namespace Go.Proofs.Ytkajmglpmdhmnaa
open Go.RowKit

/-- A list's product with a limb, taken off the first limbs of another one: the limbs, what is to be borrowed. -/
def sbK (ps xs : List Nat) (y : Nat) : Nat → List Nat × Nat
  | 0 => ([], 0)
  | k + 1 => ((sbK ps xs y k).1 ++ [(ps[k]?.getD 0 + 4294967296 - ((sbK ps xs y k).2 + xs[k]?.getD 0 * y) % 4294967296) % 4294967296],
      ((sbK ps xs y k).2 + xs[k]?.getD 0 * y) / 4294967296 + (if ps[k]?.getD 0 < ((sbK ps xs y k).2 + xs[k]?.getD 0 * y) % 4294967296 then 1 else 0))
theorem sbK_len (ps xs : List Nat) (y k : Nat) : (sbK ps xs y k).1.length = k := by
  induction k with
  | zero => rfl
  | succ k ih => unfold sbK; rw [List.length_append, ih]; rfl
theorem sbK_good (ps xs : List Nat) (y k : Nat) : Good (sbK ps xs y k).1 := by
  induction k with
  | zero => exact Good.nil
  | succ k ih => exact ih.append (Good.nil.cons (Nat.mod_lt _ (by omega)))
theorem sbK_carry {ps xs : List Nat} {y : Nat} (_hp : Good ps) (hx : Good xs) (hy : y < 4294967296) (k : Nat) : (sbK ps xs y k).2 < 4294967296 := by
  induction k with
  | zero => exact Nat.zero_lt_succ _
  | succ k ih =>
    have hm := mul_bd (hx.get k) hy
    show ((sbK ps xs y k).2 + xs[k]?.getD 0 * y) / 4294967296 + _ < _
    split <;> omega
theorem sb_step (c p : Nat) (hp : p < 4294967296) : (p + 4294967296 - c % 4294967296) % 4294967296 + c = p + 4294967296 * (c / 4294967296 + (if p < c % 4294967296 then 1 else 0)) := by
  split <;> omega
theorem sbK_val {ps xs : List Nat} (hp : Good ps) (y k : Nat) : val (sbK ps xs y k).1 + val (xs.take k) * y = val (ps.take k) + 4294967296 ^ k * (sbK ps xs y k).2 := by
  induction k with
  | zero => simp [sbK, val_nil]
  | succ k ih =>
    have hs := sb_step ((sbK ps xs y k).2 + xs[k]?.getD 0 * y) (ps[k]?.getD 0) (hp.get k)
    have hm := congrArg (fun z => 4294967296 ^ k * z) hs
    simp only [Nat.mul_add] at hm
    rw [val_take_succ', val_take_succ']
    show val ((sbK ps xs y k).1 ++ [_]) + _ = _ + _ * (_ + _)
    rw [val_snoc, sbK_len, Nat.add_mul, Nat.mul_assoc, Nat.pow_succ, Nat.mul_assoc, Nat.mul_add]
    simp only [Nat.mul_add]
    omega

set_option maxRecDepth 100000 in
set_option maxHeartbeats 1000000 in
theorem subProduct_any (w : World) (g off m c n cx : Nat) (A : Option Addr) (cs xs : List Nat) (y : Nat) (hL : Ld w g cs) (hG : Good cs) (hX : Lm w g A n cx xs) (hy : y < 4294967296)
    (hm : n ≤ m) (hmc : m ≤ c) (hc : c ≤ 9223372036854775807) (hoff : off + n ≤ cs.length) (hn : n ≤ 1000000000) :
    Calls Try.prog 53 #[.slice (some ⟨g, off, none⟩) m c, .slice A n cx, .int .u32 (y : Int)] w fun e w' => e = .returned (.int .u32 ((sbK (cs.drop off) xs y n).2 : Nat)) ∧
      Ld w' g (spl cs off (sbK (cs.drop off) xs y n).1) ∧ w.grownBy w' (some g) := by
  have hcap := hX.cap
  have hmax := hX.max
  have hgs := hL.lt
  have HX := Lib.hid hX
  have HL := Lib.hid hL
  have HC := Lib.hid (fun k => sbK_carry (hG.drop off) hX.good hy k)
  clear hX hL
  go_enter Try.func53, Try.ntmps53
  go_wp2
  go_loopw [7, 17] (fun v i wr => ∃ k : Nat, k ≤ n ∧ i = .int .i64 k ∧ v = .int .u64 ((sbK (cs.drop off) xs y k).2 : Nat) ∧ Ld wr g (spl cs off (sbK (cs.drop off) xs y k).1) ∧ w.grownBy wr (some g)) (fun _ i _ => n - (intOf i).toNat)
  case atStart => exact ⟨0, Nat.zero_le _, rfl, rfl, by show Ld w g (spl cs off []); rw [spl_nil]; exact HL.out, World.grownBy.refl w _⟩
  case round =>
    obtain ⟨k, hk, rfl, rfl, hLk, hgk⟩ := hrel
    by_cases hlt : k < n
    · have hlen := sbK_len (cs.drop off) xs y k
      obtain ⟨b, bo, rfl, hb, hcx⟩ := (HX.out.grownLt hgk (Nat.le_of_lt hgs)).cell hlt
      have hct := hLk.cell (i := off + k) (by rw [spl_len (by omega)]; omega)
      have hat := spl_at (cs := cs) (off := off) (ts := (sbK (cs.drop off) xs y k).1) (by omega)
      rw [hlen] at hat
      rw [hat] at hct
      have hfr := hLk.frozen (off + k)
      have hcy := HC.out k
      have hxg := HX.out.good.get k
      have hpg := hG.get (off + k)
      have hmul := mul_bd hxg hy
      obtain ⟨E, hE⟩ : ∃ E : Nat, E = (sbK (cs.drop off) xs y k).2 + xs[k]?.getD 0 * y := ⟨_, rfl⟩
      have HE : Hid ((((sbK (cs.drop off) xs y k).2 : Nat) : Int) + ((xs[k]?.getD 0 : Nat) : Int) * ((y : Nat) : Int) = (E : Int)) := by show _ = _; rw [hE]; simp
      have hE9 : E < 18446744073709551616 := by omega
      have HS : Hid ((sbK (cs.drop off) xs y (k + 1)).2 = E / 4294967296 + (if cs[off + k]?.getD 0 < E % 4294967296 then 1 else 0)) := by
        show (((sbK (cs.drop off) xs y k).2 + xs[k]?.getD 0 * y) / 4294967296 + (if (cs.drop off)[k]?.getD 0 < ((sbK (cs.drop off) xs y k).2 + xs[k]?.getD 0 * y) % 4294967296 then 1 else 0)) = _
        rw [List.getElem?_drop, ← hE]
      have HS1 : Hid ((sbK (cs.drop off) xs y (k + 1)).1 = (sbK (cs.drop off) xs y k).1 ++ [(cs[off + k]?.getD 0 + 4294967296 - E % 4294967296) % 4294967296]) := by
        show (sbK (cs.drop off) xs y k).1 ++ [((cs.drop off)[k]?.getD 0 + 4294967296 - ((sbK (cs.drop off) xs y k).2 + xs[k]?.getD 0 * y) % 4294967296) % 4294967296] = _
        rw [List.getElem?_drop, ← hE]
      have HK := Lib.hid hLk
      have HSet := Lib.hid (spl_set (cs := cs) (off := off) (ts := (sbK (cs.drop off) xs y k).1) ((cs[off + k]?.getD 0 + 4294967296 - E % 4294967296) % 4294967296) (by omega))
      have HLen := Lib.hid hlen
      clear hLk hat hlen
      go_wp2
      go_roundw
      case rel =>
        refine ⟨k + 1, by omega, by go_num, ?_, ?_, grownBy_trans hgk (grownBy_setCellAt _ _ _ _)⟩
        · rw [HS.out, HE.out]
          refine congrArg (Value.int IntKind.u64) ?_
          rw [IntKind.wrap_u64, IntKind.wrap_u64]
          split <;> omega
        · have e := HK.out.set_ (off + k) ((cs[off + k]?.getD 0 + 4294967296 - E % 4294967296) % 4294967296)
          have e2 := HSet.out
          rw [HLen.out] at e2
          rw [e2, ← HS1.out] at e
          have e3 : IntKind.u64.wrap (((cs[off + k]?.getD 0 : Nat) : Int) - (E : Int) % 4294967296) % 4294967296 = (((cs[off + k]?.getD 0 + 4294967296 - E % 4294967296) % 4294967296 : Nat) : Int) := by
            rw [IntKind.wrap_u64]; omega
          rw [HE.out, e3]
          exact e
      case measure => simp [intOf]; omega
    · obtain rfl : k = n := by omega
      have hcy := HC.out k
      go_wp2
      go_ret
      exact ⟨rfl, hLk, hgk⟩

end Go.Proofs.Ytkajmglpmdhmnaa

/- The guess of a quotient's digit, in numbers. -/
namespace Go.Proofs.Ytkajmglpmdhmnaa
open Go.RowKit

/-- The guess of a quotient's digit from three limbs and two. -/
def gs (b1 b2 h u1 u2 : Nat) : Nat := min 4294967295 (((h * 4294967296 + u1) * 4294967296 + u2) / (b1 * 4294967296 + b2))

theorem gs_le (b1 b2 h u1 u2 : Nat) : gs b1 b2 h u1 u2 ≤ 4294967295 := Nat.min_le_left _ _
set_option maxRecDepth 100000 in
theorem gs_lt {b1 b2 h u1 u2 D R : Nat} (hw : 0 < b1) (hD : D * b1 + R = h * 4294967296 + u1) (hc : 4294967295 < D ∨ R * 4294967296 + u2 < D * b2) : gs b1 b2 h u1 u2 < D := by
  rcases hc with hc | hc
  · exact Nat.lt_of_le_of_lt (gs_le _ _ _ _ _) hc
  · refine Nat.lt_of_le_of_lt (show gs b1 b2 h u1 u2 ≤ ((h * 4294967296 + u1) * 4294967296 + u2) / (b1 * 4294967296 + b2) from Nat.min_le_right _ _) ?_
    rw [Nat.div_lt_iff_lt_mul (by omega), ← hD, Nat.mul_add, ← Nat.mul_assoc, Nat.add_mul, Nat.add_assoc]
    exact Nat.add_lt_add_left hc _
theorem le_min_ {a b c : Nat} (h1 : a ≤ b) (h2 : a ≤ c) : a ≤ min b c := by omega
theorem gs_eq {b1 b2 h u1 u2 D R : Nat} (hw : 0 < b1) (hD : D * b1 + R = h * 4294967296 + u1) (h1 : D ≤ 4294967295) (h2 : D * b2 ≤ R * 4294967296 + u2) (hq : gs b1 b2 h u1 u2 ≤ D) : gs b1 b2 h u1 u2 = D := by
  refine Nat.le_antisymm hq ?_
  have h3 : D ≤ ((h * 4294967296 + u1) * 4294967296 + u2) / (b1 * 4294967296 + b2) := by
    rw [Nat.le_div_iff_mul_le (by omega), ← hD, Nat.mul_add, ← Nat.mul_assoc, Nat.add_mul]
    omega
  unfold gs
  exact le_min_ h1 h3
theorem gs_break {b1 b2 h u1 u2 D R : Nat} (hw : 0 < b1) (hb2 : b2 < 4294967296) (hu1 : u1 < 4294967296) (hh : h ≤ b1) (hD : D * b1 + R = h * 4294967296 + u1) (hR : 4294967296 ≤ R) (hq : gs b1 b2 h u1 u2 ≤ D) : gs b1 b2 h u1 u2 = D := by
  have h1 : D ≤ 4294967295 := by
    rcases Nat.lt_or_ge 4294967295 D with hc | hc
    · have := Nat.mul_le_mul_right b1 (show 4294967296 ≤ D from hc)
      omega
    · exact hc
  refine gs_eq hw hD h1 ?_ hq
  have := mul_bd (show D < 4294967296 by omega) hb2
  omega
theorem gs_start {b1 b2 h u1 u2 D R : Nat} (hu : u2 < 4294967296) (hD : b1 * D + R = h * 4294967296 + u1) (hR : R < b1) : gs b1 b2 h u1 u2 ≤ D := by
  unfold gs
  refine Nat.le_trans (Nat.min_le_right _ _) (Nat.le_of_lt_succ ?_)
  rw [Nat.div_lt_iff_lt_mul (by omega), ← hD, Nat.mul_add, ← Nat.mul_assoc]
  have h3 : D.succ * b1 = b1 * D + b1 := by rw [Nat.succ_mul, Nat.mul_comm]
  rw [h3]
  have h5 : 0 ≤ D.succ * b2 := Nat.zero_le _
  omega

/-- A step of division by a number of 64 bits whose highest one is set: the guess is the quotient. -/
theorem gs_exact {b1 b2 Y U u : Nat} (hY : Y = b1 * 4294967296 + b2) (hU : U < Y) (hu : u < 4294967296) :
    gs b1 b2 (U / 4294967296) (U % 4294967296) u = (U * 4294967296 + u) / Y := by
  unfold gs
  have e : U / 4294967296 * 4294967296 + U % 4294967296 = U := by omega
  rw [e, ← hY]
  have h : (U * 4294967296 + u) / Y < 4294967296 := by
    rw [Nat.div_lt_iff_lt_mul (by omega), Nat.mul_comm 4294967296 Y]
    have := Nat.mul_le_mul_right 4294967296 (show U + 1 ≤ Y from hU)
    omega
  omega
set_option maxRecDepth 100000 in
/-- The rest of such a step, in arithmetic of 64 bits. -/
theorem rest_wrap {Y U u q : Nat} (hq : q = (U * 4294967296 + u) / Y) (hY0 : 0 < Y) (hY : Y < 18446744073709551616) :
    (((U * 4294967296) % 18446744073709551616 + u) % 18446744073709551616 + 18446744073709551616 - (q * Y) % 18446744073709551616) % 18446744073709551616 = (U * 4294967296 + u) % Y := by
  have h1 := Nat.div_add_mod (U * 4294967296 + u) Y
  have h2 := Nat.mod_lt (U * 4294967296 + u) hY0
  rw [← hq, Nat.mul_comm Y q] at h1
  clear hq
  omega
theorem two_steps_gen (K Y B u0 : Nat) (hY0 : 0 < Y) : B / Y * K + (B % Y * K + u0) / Y = (B * K + u0) / Y ∧ (B % Y * K + u0) % Y = (B * K + u0) % Y := by
  have h1 := Nat.div_add_mod B Y
  have e : B * K + u0 = B % Y * K + u0 + Y * (B / Y * K) := by
    have h4 : B * K = Y * (B / Y) * K + B % Y * K := by rw [← Nat.add_mul, h1]
    rw [h4, Nat.mul_assoc]; omega
  rw [e, Nat.add_mul_div_left _ _ hY0, Nat.add_mul_mod_self_left]
  exact ⟨Nat.add_comm _ _, rfl⟩
/-- Both steps: the quotient and the rest of three parts. -/
theorem two_steps {Y U u1 u0 : Nat} (hY0 : 0 < Y) :
    (U * 4294967296 + u1) / Y * 4294967296 + ((U * 4294967296 + u1) % Y * 4294967296 + u0) / Y = ((U * 4294967296 + u1) * 4294967296 + u0) / Y ∧
    ((U * 4294967296 + u1) % Y * 4294967296 + u0) % Y = ((U * 4294967296 + u1) * 4294967296 + u0) % Y := two_steps_gen _ _ _ _ hY0
/-- The same quotient where both numbers are shifted left. -/
theorem shifted_div (N y s : Nat) (_hy : 0 < y) : (N * 2 ^ s) / (y * 2 ^ s) = N / y ∧ (N * 2 ^ s) % (y * 2 ^ s) / 2 ^ s = N % y := by
  have h2 : 0 < 2 ^ s := Nat.pow_pos (by omega)
  refine ⟨Nat.mul_div_mul_right _ _ h2, ?_⟩
  rw [Nat.mul_mod_mul_right, Nat.mul_div_cancel _ h2]
end Go.Proofs.Ytkajmglpmdhmnaa

/- wide.guess. -/
namespace Go.Proofs.Ytkajmglpmdhmnaa
open Go.RowKit

set_option maxRecDepth 100000 in
set_option maxHeartbeats 1000000 in
theorem guess_any (w : World) (g off m c n cb : Nat) (B : Option Addr) (cs ys : List Nat) (hL : Ld w g cs) (hG : Good cs) (hB : Lm w w.heap.size B n cb ys) (hn2 : 2 ≤ n) (hn9 : n ≤ 1000000000)
    (hm : n < m) (hoff : off + n < cs.length) (h1 : 1 ≤ ys[n - 1]?.getD 0) (hle : cs[off + n]?.getD 0 ≤ ys[n - 1]?.getD 0) :
    Calls Try.prog 52 #[.slice (some ⟨g, off, none⟩) m c, .slice B n cb] w fun e w' => e = .returned (.int .u32 (gs (ys[n - 1]?.getD 0) (ys[n - 2]?.getD 0) (cs[off + n]?.getD 0) (cs[off + (n - 1)]?.getD 0) (cs[off + (n - 2)]?.getD 0) : Nat)) ∧ ∃ d, w' = w.drewN d := by
  have hcap := hB.cap
  have hmax := hB.max
  have g1 := hB.good.get (n - 1)
  have g2 := hB.good.get (n - 2)
  have gh := hG.get (off + n)
  have gu1 := hG.get (off + (n - 1))
  have gu2 := hG.get (off + (n - 2))
  have ch := hL.cell (i := off + n) (by omega)
  have cu1 := hL.cell (i := off + (n - 1)) (by omega)
  have cu2 := hL.cell (i := off + (n - 2)) (by omega)
  obtain ⟨bb, bo, rfl, hbb, cb1⟩ := hB.cell (k := n - 1) (by omega)
  obtain ⟨bb', bo', e, _, cb2⟩ := hB.cell (k := n - 2) (by omega)
  cases e
  generalize ys[n - 1]?.getD 0 = b1 at *
  generalize ys[n - 2]?.getD 0 = b2 at *
  generalize cs[off + n]?.getD 0 = h at *
  generalize cs[off + (n - 1)]?.getD 0 = u1 at *
  generalize cs[off + (n - 2)]?.getD 0 = u2 at *
  clear hL hB hG hoff
  have i1 : ((n : Int) - 1).toNat = n - 1 := by omega
  have i2 : ((n : Int) - 2).toNat = n - 2 := by omega
  obtain ⟨hi, hhi⟩ : ∃ hi : Nat, hi = h * 4294967296 + u1 := ⟨_, rfl⟩
  have hbit : bits .or .u64 ((h : Int) * 4294967296) (u1 : Int) = (hi : Int) := by
    have e1 : (h : Int) * 4294967296 = ((h * 4294967296 : Nat) : Int) := by omega
    rw [e1, bits_or _ _ (by omega) (by omega), Nat.or_comm, Nat.mul_comm, show (4294967296 : Nat) = 2 ^ 32 from rfl, or_add (by omega), hhi]
    omega
  have hq0 : (hi : Int).tdiv (b1 : Int) = ((hi / b1 : Nat) : Int) := by rw [Int.tdiv_eq_ediv_of_nonneg (by omega), ← Int.natCast_ediv]
  have hr0 : (hi : Int).tmod (b1 : Int) = ((hi % b1 : Nat) : Int) := by rw [Int.tmod_eq_emod_of_nonneg (by omega), ← Int.natCast_emod]
  have hb0 : ¬ ((b1 : Int) = 0) := by omega
  have hdm := Nat.div_add_mod hi b1
  have hrl := Nat.mod_lt hi (show 0 < b1 by omega)
  have hq0' : (hi : Int) / (b1 : Int) = ((hi / b1 : Nat) : Int) := by rw [← Int.natCast_ediv]
  have hr0' : (hi : Int) % (b1 : Int) = ((hi % b1 : Nat) : Int) := by rw [← Int.natCast_emod]
  have hD9 := Nat.div_le_self hi b1
  generalize hi / b1 = D0 at *
  generalize hi % b1 = R0 at *
  obtain ⟨Q, hQ⟩ : ∃ Q, Q = gs b1 b2 h u1 u2 := ⟨_, rfl⟩
  have HI := Lib.hid hhi
  have HQ := Lib.hid hQ
  have hQ9 : Q ≤ 4294967295 := by rw [hQ]; exact gs_le _ _ _ _ _
  have hQ0 : Q ≤ D0 := by rw [hQ]; exact gs_start gu2 (by rw [← hhi]; exact hdm) hrl
  rw [← hQ]
  have hi9 : hi < 18446744073709551616 := by omega
  clear hhi hQ
  go_enter Try.func52, Try.ntmps52
  go_wp2
  go_quiet (fail)
  go_wp2
  go_quiet (fail)
  go_wp2
  go_loopw [7, 8] (fun x r wr => ∃ D R d : Nat, x = .int .u64 (D : Int) ∧ r = .int .u64 (R : Int) ∧ D * b1 + R = hi ∧ R < 4294967296 ∧ Q ≤ D ∧ wr = w.drewN d) (fun x _ _ => (intOf x).toNat)
  case atStart => exact ⟨D0, R0, _, rfl, rfl, by rw [Nat.mul_comm]; exact hdm, by omega, hQ0, drewN_add w _ _⟩
  case round =>
    obtain ⟨D, R, d, rfl, rfl, hDR, hR, hQD, rfl⟩ := hrel
    have hDle : D ≤ hi := by
      have := Nat.le_mul_of_pos_right D (show 0 < b1 by omega)
      omega
    by_cases hd : 4294967295 < D
    · have hlt : Q < D := by rw [HQ.out]; exact gs_lt (by omega) (by rw [← HI.out]; exact hDR) (.inl hd)
      have HDM : Hid ((D - 1) * b1 + (R + b1) = D * b1 + R) := by show _ = _; rw [Nat.sub_mul, Nat.one_mul]; have := Nat.le_mul_of_pos_left b1 (show 0 < D by omega); omega
      have hdi : (4294967295 : Int) < (D : Int) := by omega
      go_wp2_with fail
      go_quiet (fail)
      go_wp2
      · have hQE : Hid (Q = D - 1) := by
          show _ = _
          rw [HQ.out]
          exact gs_break (by omega) g2 gu1 hle (by rw [← HI.out, ← hDR]; exact HDM.out) (show 4294967296 ≤ R + b1 by omega) (by rw [← HQ.out]; omega)
        go_ret
        have hQE1 := hQE.out
        exact ⟨ret_int (by omega), _, rfl⟩
      · go_roundw
        case rel => exact ⟨D - 1, R + b1, _, by go_num, by go_num, by rw [← hDR]; exact HDM.out, by omega, by omega, rfl⟩
        case measure => simp [intOf]; omega
    · have hdd : decide ((4294967295 : Int) < (D : Int)) = false := by simp; omega
      have hmul := mul_bd (show D < 4294967296 by omega) g2
      obtain ⟨T, hT⟩ : ∃ T : Nat, T = R * 4294967296 + u2 := ⟨_, rfl⟩
      have hbit2 : bits .or .u64 ((R : Int) * 4294967296) (u2 : Int) = (T : Int) := by
        have e1 : (R : Int) * 4294967296 = ((R * 4294967296 : Nat) : Int) := by omega
        rw [e1, bits_or _ _ (by omega) (by omega), Nat.or_comm, Nat.mul_comm, show (4294967296 : Nat) = 2 ^ 32 from rfl, or_add (by omega), hT]
        omega
      have HT := Lib.hid hT
      clear hT
      by_cases hp : T < D * b2
      · have hlt : Q < D := by rw [HQ.out]; exact gs_lt (by omega) (by rw [← HI.out]; exact hDR) (.inr (by rw [← HT.out]; exact hp))
        have HDM : Hid ((D - 1) * b1 + (R + b1) = D * b1 + R) := by show _ = _; rw [Nat.sub_mul, Nat.one_mul]; have := Nat.le_mul_of_pos_left b1 (show 0 < D by omega); omega
        have hpi : (T : Int) < (D : Int) * (b2 : Int) := by rw [← Int.natCast_mul]; omega
        go_wp2_with fail
        go_quiet (fail)
        go_wp2
        · have hQE : Hid (Q = D - 1) := by
            show _ = _
            rw [HQ.out]
            exact gs_break (by omega) g2 gu1 hle (by rw [← HI.out, ← hDR]; exact HDM.out) (show 4294967296 ≤ R + b1 by omega) (by rw [← HQ.out]; omega)
          go_ret
          exact ⟨ret_int (by rw [hQE.out]; omega), _, rfl⟩
        · go_roundw
          case rel => exact ⟨D - 1, R + b1, _, by go_num, by go_num, by rw [← hDR]; exact HDM.out, by omega, by omega, rfl⟩
          case measure => simp [intOf]; omega
      · have hpd : decide ((T : Int) < (D : Int) * (b2 : Int)) = false := by rw [← Int.natCast_mul]; simp; omega
        have hQE : Hid (Q = D) := by show _ = _; rw [HQ.out]; exact gs_eq (by omega) (by rw [← HI.out]; exact hDR) (by omega) (by rw [← HT.out]; omega) (by rw [← HQ.out]; exact hQD)
        go_wp2_with fail
        go_quiet (fail)
        go_wp2
        go_ret
        exact ⟨ret_int (by rw [hQE.out]), _, rfl⟩
end Go.Proofs.Ytkajmglpmdhmnaa

/- A step of long division, in numbers. -/
namespace Go.Proofs.Ytkajmglpmdhmnaa
open Go.RowKit

theorem gs_bounds {V X W T P vl xl : Nat} (hV : V = vl + P * W) (hvl : vl < P) (hX : X = xl + P * T) (hxl : xl < P) (hXB : X < V * 4294967296) (hW : 4294967296 ≤ W) :
    X / V ≤ min 4294967295 (T / W) ∧ min 4294967295 (T / W) ≤ X / V + 1 := by
  have hV0 : 0 < V := by
    have := Nat.mul_le_mul (show 1 ≤ P by omega) hW
    omega
  have hq : X / V < 4294967296 := Nat.div_lt_of_lt_mul hXB
  have hqV := Nat.div_mul_le_self X V
  constructor
  · refine le_min_ (by omega) ?_
    rw [Nat.le_div_iff_mul_le (by omega)]
    have h1 : X / V * (P * W) ≤ X / V * V := Nat.mul_le_mul_left _ (by omega)
    have h2 : P * (X / V * W) < P * (T + 1) := by
      rw [Nat.mul_left_comm, Nat.mul_add, Nat.mul_one]
      omega
    have := Nat.lt_of_mul_lt_mul_left h2
    omega
  · obtain ⟨g, hg⟩ : ∃ g, g = min 4294967295 (T / W) := ⟨_, rfl⟩
    rw [← hg]
    have g1 : g ≤ 4294967295 := by omega
    have g2 : g ≤ T / W := by omega
    rw [Nat.le_div_iff_mul_le (by omega)] at g2
    clear hg
    rcases g with _ | g
    · exact Nat.zero_le _
    · refine Nat.succ_le_succ ?_
      rw [Nat.le_div_iff_mul_le hV0]
      rw [Nat.add_mul, Nat.one_mul] at g2
      have h3 : g * V ≤ g * (P * (W + 1)) := Nat.mul_le_mul_left _ (by rw [Nat.mul_add, Nat.mul_one]; omega)
      have h4 : g * (W + 1) ≤ T := by
        rw [Nat.mul_add, Nat.mul_one]
        omega
      have h6 : g * (P * (W + 1)) = P * (g * (W + 1)) := Nat.mul_left_comm _ _ _
      have h7 : P * (g * (W + 1)) ≤ P * T := Nat.mul_le_mul_left _ h4
      omega

/-- The guess was right. -/
theorem step_right {V X Y P S g h br : Nat} (hVP : V < P) (hX : X = Y + P * h) (hS : S + V * g = Y + P * br) (h1 : X / V ≤ g) (hV0 : 0 < V) (hle : br ≤ h) : X / V = g ∧ S = X % V ∧ h = br := by
  have h2 : P * h = P * br + P * (h - br) := by rw [← Nat.mul_add]; congr 1; omega
  have h3 : g ≤ X / V := by
    rw [Nat.le_div_iff_mul_le hV0, Nat.mul_comm]
    omega
  have hg : X / V = g := Nat.le_antisymm h1 h3
  have hm := Nat.div_add_mod X V
  have hl := Nat.mod_lt X hV0
  rw [hg] at hm
  have h4 : S + P * (h - br) = X % V := by omega
  have h5 : h - br = 0 := by
    rcases Nat.eq_zero_or_pos (h - br) with h | h
    · exact h
    · have := Nat.le_mul_of_pos_right P h
      omega
  rw [h5, Nat.mul_zero] at h4
  exact ⟨hg, by omega, by omega⟩
/-- The guess was 1 too great. -/
theorem step_over {V X Y P S M c g h br : Nat} (hVP : V < P) (hX : X = Y + P * h) (hS : S + V * g = Y + P * br) (hSP : S < P) (hM : M + P * c = V + S) (hMP : M < P) (h1 : g ≤ X / V + 1) (hV0 : 0 < V) (hlt : h < br) : X / V = g - 1 ∧ 1 ≤ g ∧ M = X % V ∧ c + h = br := by
  obtain ⟨t, rfl⟩ : ∃ t, br = h + t := ⟨br - h, by omega⟩
  rw [Nat.mul_add] at hS
  have h2' := Nat.le_mul_of_pos_right P (show 0 < t by omega)
  have h3 : X / V < g := Nat.div_lt_of_lt_mul (by omega)
  have hg : g = X / V + 1 := by omega
  have hm := Nat.div_add_mod X V
  have hl := Nat.mod_lt X hV0
  rw [hg, Nat.mul_add, Nat.mul_one] at hS
  have h4 : M + P * c = X % V + P * t := by omega
  have h5 : c = t := by
    rcases Nat.lt_trichotomy c t with k | k | k
    · obtain ⟨d, rfl⟩ : ∃ d, t = c + d := ⟨t - c, by omega⟩
      rw [Nat.mul_add] at h4
      have := Nat.le_mul_of_pos_right P (show 0 < d by omega)
      omega
    · exact k
    · obtain ⟨d, rfl⟩ : ∃ d, c = t + d := ⟨c - t, by omega⟩
      rw [Nat.mul_add] at h4
      have := Nat.le_mul_of_pos_right P (show 0 < d by omega)
      omega
  rw [h5] at h4
  exact ⟨by rw [hg, Nat.add_sub_cancel], by rw [hg]; exact Nat.le_add_left 1 _, by omega, by omega⟩

theorem val_take2 (xs : List Nat) (j : Nat) : val (xs.take (j + 2)) = val (xs.take j) + 4294967296 ^ j * (xs[j + 1]?.getD 0 * 4294967296 + xs[j]?.getD 0) := by
  rw [val_take_succ', val_take_succ', Nat.add_assoc]
  generalize xs[j + 1]?.getD 0 = y
  generalize xs[j]?.getD 0 = x
  congr 1
  rw [Nat.pow_succ, Nat.mul_assoc, ← Nat.mul_add]
  congr 1
  omega
theorem take3_alg (B P x y z : Nat) : P * (y * B + x) + P * B * B * z = P * ((z * B + y) * B + x) := by
  rw [Nat.mul_assoc, Nat.mul_assoc, ← Nat.mul_add, Nat.add_mul, Nat.mul_comm B (B * z), Nat.mul_comm B z]
  congr 1
  omega
theorem val_take3 (xs : List Nat) (j : Nat) : val (xs.take (j + 3)) = val (xs.take j) + 4294967296 ^ j * ((xs[j + 2]?.getD 0 * 4294967296 + xs[j + 1]?.getD 0) * 4294967296 + xs[j]?.getD 0) := by
  rw [val_take_succ', val_take2, Nat.add_assoc, Nat.pow_succ, Nat.pow_succ, take3_alg]
/-- What a list of limbs is, of which no more than j are other than 0. -/
theorem val_short {xs : List Nat} {j : Nat} (h : val xs < 4294967296 ^ j) : val (xs.take j) = val xs ∧ val (xs.drop j) = 0 := by
  rcases Nat.lt_or_ge xs.length j with hl | hl
  · rw [List.take_of_length_le (by omega), List.drop_of_length_le (by omega)]; exact ⟨rfl, rfl⟩
  · have e := val_split xs j hl
    rcases Nat.eq_zero_or_pos (val (xs.drop j)) with h0 | h0
    · rw [h0] at e; exact ⟨by omega, h0⟩
    · have := Nat.le_mul_of_pos_right (4294967296 ^ j) h0
      omega

/-- What the limbs of a part are, of which the higher ones are less than the divisor. -/
theorem part_facts {rs : List Nat} {V m k : Nat} (gr : Good rs) (hV : (digs V).length = m) (hm2 : 2 ≤ m) (hk : k + m < rs.length) (hlt : val (rs.drop (k + 1)) < V) :
    val (rs.drop k) = val ((rs.drop k).take m) + 4294967296 ^ m * rs[k + m]?.getD 0 ∧ rs[k + m]?.getD 0 ≤ (digs V)[m - 1]?.getD 0 ∧ V < 4294967296 ^ m ∧ val (rs.drop (k + m + 1)) = 0 ∧ 1 ≤ (digs V)[m - 1]?.getD 0 ∧
    val (rs.drop k) / V ≤ gs ((digs V)[m - 1]?.getD 0) ((digs V)[m - 2]?.getD 0) (rs[k + m]?.getD 0) (rs[k + (m - 1)]?.getD 0) (rs[k + (m - 2)]?.getD 0) ∧
    gs ((digs V)[m - 1]?.getD 0) ((digs V)[m - 2]?.getD 0) (rs[k + m]?.getD 0) (rs[k + (m - 1)]?.getD 0) (rs[k + (m - 2)]?.getD 0) ≤ val (rs.drop k) / V + 1 := by
  obtain ⟨j, rfl⟩ : ∃ j, m = j + 2 := ⟨m - 2, by omega⟩
  have hV0 : 0 < V := digs_pos.1 (by omega)
  have hVlt : V < 4294967296 ^ (j + 2) := digs_len.1 (Nat.le_of_eq hV)
  have hg := gr.get k
  have hd := val_step rs k
  have hXB : val (rs.drop k) < V * 4294967296 := by omega
  have hXP : val (rs.drop k) < 4294967296 ^ (j + 2 + 1) := by
    rw [Nat.pow_succ]
    exact Nat.lt_of_lt_of_le hXB (Nat.mul_le_mul_right _ (Nat.le_of_lt hVlt))
  obtain ⟨hs1, hs2⟩ := val_short hXP
  have e1 : ∀ i, (rs.drop k)[i]?.getD 0 = rs[k + i]?.getD 0 := fun i => by rw [List.getElem?_drop]
  have ht := val_take_succ' (rs.drop k) (j + 2)
  rw [hs1, e1] at ht
  have ht3 := val_take3 (rs.drop k) j
  rw [show j + 3 = j + 2 + 1 from rfl, hs1, e1, e1, e1] at ht3
  have hv2 := val_take2 (digs V) j
  rw [List.take_of_length_le (Nat.le_of_eq hV), digs_val] at hv2
  have hv1 := top_pos hV0
  rw [hV] at hv1
  have hpl : ∀ (xs : List Nat), Good xs → val (xs.take j) < 4294967296 ^ j := fun xs g => by
    refine Nat.lt_of_lt_of_le (val_lt (g.take j)) (pow_mono_ ?_)
    rw [List.length_take]; omega
  have gv1 := (digs_good V).get j
  refine ⟨ht, ?_, hVlt, by rwa [List.drop_drop] at hs2, Nat.pos_of_ne_zero hv1, ?_⟩
  · have h3 := val_take2 (rs.drop (k + 1)) j
    have h4 : val ((rs.drop (k + 1)).take (j + 2)) = val (rs.drop (k + 1)) := (val_short (Nat.lt_trans hlt hVlt)).1
    rw [h4, List.getElem?_drop, List.getElem?_drop] at h3
    have h5 := hpl _ (digs_good V)
    have h6 : k + 1 + (j + 1) = k + (j + 2) := by omega
    rw [h6] at h3
    show rs[k + (j + 2)]?.getD 0 ≤ (digs V)[j + 1]?.getD 0
    rcases Nat.lt_or_ge ((digs V)[j + 1]?.getD 0) (rs[k + (j + 2)]?.getD 0) with hc | hc
    · have h7 : 4294967296 ^ j * ((digs V)[j + 1]?.getD 0 * 4294967296 + (digs V)[j]?.getD 0 + 1) ≤ 4294967296 ^ j * (rs[k + (j + 2)]?.getD 0 * 4294967296 + rs[k + 1 + j]?.getD 0) := Nat.mul_le_mul_left _ (by omega)
      rw [Nat.mul_add _ _ 1, Nat.mul_one] at h7
      omega
    · exact hc
  · exact gs_bounds hv2 (hpl _ (digs_good V)) ht3 (hpl _ (gr.drop k)) hXB (by have h9 : (digs V)[j + 1]?.getD 0 ≠ 0 := hv1; omega)

theorem part_done {rs P : List Nat} {m k v : Nat} (hP : P.length = m) (hk : k + m < rs.length) (hz : val (rs.drop (k + m + 1)) = 0) (hv : val P = v) :
    val ((spl rs k (P ++ [0])).drop k) = v ∧ val (spl rs k (P ++ [0])) = val (rs.take k) + 4294967296 ^ k * v := by
  have hl : (rs.take k).length = k := by rw [List.length_take]; omega
  have e : val ((P ++ [0]) ++ rs.drop (k + (P ++ [0]).length)) = v := by
    rw [val_append, val_snoc, hv, List.length_append, hP, show k + (m + [0].length) = k + m + 1 from rfl, hz]
    simp
  unfold spl
  constructor
  · rw [List.drop_append_of_le_length (by omega), List.drop_of_length_le (by omega), List.nil_append]
    exact e
  · rw [val_append, hl, e]

theorem inv_step {rs qs rs' qs' : List Nat} {k U V X : Nat} (hk : k ≤ rs.length) (hX : X = val (rs.drop k)) (hI : val rs + 4294967296 ^ (k + 1) * (V * val (qs.drop (k + 1))) = U)
    (h1 : val rs' = val (rs.take k) + 4294967296 ^ k * (X % V)) (h2 : val (qs'.drop k) = X / V + 4294967296 * val (qs.drop (k + 1))) : val rs' + 4294967296 ^ k * (V * val (qs'.drop k)) = U := by
  have hs := val_split rs k hk
  rw [← hX] at hs
  have hm := Nat.div_add_mod X V
  rw [h1, h2, Nat.mul_add V, Nat.mul_add (4294967296 ^ k), Nat.mul_left_comm V, ← hI, hs, pow_succ_]
  have e1 : 4294967296 ^ k * X = 4294967296 ^ k * (V * (X / V)) + 4294967296 ^ k * (X % V) := by rw [← Nat.mul_add, hm]
  have e2 : 4294967296 * 4294967296 ^ k * (V * val (qs.drop (k + 1))) = 4294967296 ^ k * (4294967296 * (V * val (qs.drop (k + 1)))) := by rw [Nat.mul_comm 4294967296, Nat.mul_assoc]
  rw [e1, e2]
  omega

end Go.Proofs.Ytkajmglpmdhmnaa

/- wide.divideLong. -/
namespace Go.Proofs.Ytkajmglpmdhmnaa
open Go.RowKit

set_option maxRecDepth 100000 in
set_option maxHeartbeats 1000000 in
theorem lz32_any (w : World) (x : Nat) (h : x < 4294967296) :
    Calls Try.prog 50 #[.int .u32 (x : Int)] w fun e w' => e = .returned (.int .i64 ((32 - Lib.bitLen x : Nat) : Int)) ∧ w = w' := by
  have hb := bitLen32 x h
  go_enter Try.func50, Try.ntmps50
  go_wp2_with (go_at_call 60; refine (len32_any _ _ (by omega) (by omega)).mono ?_; rintro e w' ⟨rfl, rfl⟩)
  go_ret
  exact ⟨ret_int (by omega), rfl⟩

theorem Lm.addr {w : World} {B n c : Nat} {A : Option Addr} {xs : List Nat} (h : Lm w B A n c xs) (hn : 0 < n) : ∃ ad, A = some ad := by
  obtain ⟨b, off, e, _⟩ := h.at_ hn
  exact ⟨_, e⟩
/-- With the highest binary digit in its place. -/
theorem up_facts {b m : Nat} (hl : (digs b).length = m) (hm : 0 < m) : b * 2 ^ (32 - Lib.bitLen ((digs b)[m - 1]?.getD 0)) < 4294967296 ^ m ∧ 2147483648 * 4294967296 ^ (m - 1) ≤ b * 2 ^ (32 - Lib.bitLen ((digs b)[m - 1]?.getD 0)) ∧ (digs (b * 2 ^ (32 - Lib.bitLen ((digs b)[m - 1]?.getD 0)))).length = m ∧ 1 ≤ Lib.bitLen ((digs b)[m - 1]?.getD 0) := by
  have hb : 0 < b := digs_pos.1 (by omega)
  obtain ⟨h1, h2, h3⟩ := lenS_pos hb
  have e : lenS (digs b) = 32 * (m - 1) + Lib.bitLen ((digs b)[m - 1]?.getD 0) := by unfold lenS; rw [if_neg (by omega), hl]
  have hb32 := bitLen32 _ ((digs_good b).get (m - 1))
  obtain ⟨hx, _, _⟩ := bitLen_bounds (x := (digs b)[m - 1]?.getD 0) (by have := top_pos hb; rwa [hl] at this) ((digs_good b).get (m - 1))
  have p1 : b * 2 ^ (32 - Lib.bitLen ((digs b)[m - 1]?.getD 0)) < 4294967296 ^ m := by
    have h4 := (Nat.mul_lt_mul_right (a := 2 ^ (32 - Lib.bitLen ((digs b)[m - 1]?.getD 0))) (Nat.pow_pos (by omega))).2 h3
    rw [← Nat.pow_add] at h4
    rw [show (4294967296 : Nat) = 2 ^ 32 from rfl, ← Nat.pow_mul]
    have e5 : lenS (digs b) + (32 - Lib.bitLen ((digs b)[m - 1]?.getD 0)) = 32 * m := by omega
    rwa [e5] at h4
  have p2 : 2147483648 * 4294967296 ^ (m - 1) ≤ b * 2 ^ (32 - Lib.bitLen ((digs b)[m - 1]?.getD 0)) := by
    have h4 := Nat.mul_le_mul_right (2 ^ (32 - Lib.bitLen ((digs b)[m - 1]?.getD 0))) h2
    rw [← Nat.pow_add] at h4
    rw [show (4294967296 : Nat) = 2 ^ 32 from rfl, ← Nat.pow_mul, show (2147483648 : Nat) = 2 ^ 31 from rfl, ← Nat.pow_add]
    have e5 : lenS (digs b) - 1 + (32 - Lib.bitLen ((digs b)[m - 1]?.getD 0)) = 31 + 32 * (m - 1) := by omega
    rwa [e5] at h4
  refine ⟨p1, p2, ?_, hx⟩
  generalize b * 2 ^ (32 - Lib.bitLen ((digs b)[m - 1]?.getD 0)) = v at p1 p2
  refine Nat.le_antisymm (digs_len.2 p1) ?_
  rcases Nat.lt_or_ge (digs v).length m with h | h
  · have h5 := digs_len.1 (show (digs v).length ≤ m - 1 by omega)
    have hp := pow_pos_ (m - 1)
    omega
  · exact h

/-- copy(to, from): to a block of the call's own that is known whole, and is not shorter. -/
theorem wpList_copy_u32 {w : World} {ops : Array Oper} {rest : List Oper} {o : Oper} {a : Act} {Q : Exit → Act → World → Prop} (hgd : o.guard = none) (d s : Operand)
    (ho : o.op = .call { callee := .builtin .copy, args := #[d, s], argTypes := #[22, 22] }) (g k c : Nat) (cs : List Nat) (hL : Ld w g cs) (hk : cs.length = k) (hd : a.eval d = .slice (some ⟨g, 0, none⟩) k c)
    (B : Nat) (ad : Addr) (m c' : Nat) (xs : List Nat) (hs : a.eval s = .slice (some ad) m c') (hX : Lm w B (some ad) m c' xs) (hm : m ≤ k)
    (h : ∀ w', Ld w' g (xs ++ cs.drop m) → Below g w w' → wpList Try.prog ops Q rest (a.put o.dst (goInt m)) w') : wpList Try.prog ops Q (o :: rest) a w := by
  obtain ⟨i0, hi0, hz0, hz1, hz2⟩ := info_parts u32_info
  have hl := hX.len
  have e : (xs.map u32c).length = m := by rw [List.length_map, hl]
  refine wpList_copy_own hgd d s 22 22 ho 47 slice_u32 (by rw [hi0]; show some i0.size = some 1; rw [hz1]) g 0 k c ad m c' hd hs _ 47 hL (xs.map u32c) (by rw [e]; exact (Nat.min_eq_left hm).symm) hX.cells (by simp; omega) (u32c_one xs) ?_
  rw [e]
  refine h _ ?_ (below_setRow (Below.refl _ _) (Nat.le_refl _) _)
  have hr := setRow_heap w g _ ((cs.map u32c).toArray.toList.take 0 ++ (xs.map u32c ++ (cs.map u32c).toArray.toList.drop (0 + m))).toArray 47 _ hL
  unfold Ld
  rw [hr]
  simp [List.map_drop]

theorem Good.set {qs : List Nat} (g : Good qs) {q : Nat} (hq : q < 4294967296) (k : Nat) : Good (qs.set k q) := fun x hx => by
  rcases List.mem_or_eq_of_mem_set hx with h | h
  · exact g x h
  · rw [h]; exact hq
theorem val_set_drop {qs : List Nat} {k : Nat} (q : Nat) (hk : k < qs.length) : val ((qs.set k q).drop k) = q + 4294967296 * val (qs.drop (k + 1)) := by
  rw [val_step, List.drop_set_of_lt (Nat.lt_succ_self k), List.getElem?_set_self hk]
  rfl
theorem spl_drop_take {rs S : List Nat} {k : Nat} (t : Nat) (h : k + S.length < rs.length) : ((spl rs k (S ++ [t])).drop k).take S.length = S := by
  have hl : (rs.take k).length = k := by rw [List.length_take]; omega
  unfold spl
  rw [List.drop_append_of_le_length (by omega), List.drop_of_length_le (by omega), List.nil_append, List.append_assoc, List.take_left]
theorem spl_at_last {rs S : List Nat} {k : Nat} (t : Nat) (h : k + S.length < rs.length) : (spl rs k (S ++ [t]))[k + S.length]?.getD 0 = t := by
  have hl : (rs.take k).length = k := by rw [List.length_take]; omega
  unfold spl
  rw [List.getElem?_append_right (by omega), hl, Nat.add_sub_cancel_left, List.append_assoc, List.getElem?_append_right (Nat.le_refl _), Nat.sub_self]
  rfl
theorem spl_set_last {rs S : List Nat} {k : Nat} (t u : Nat) (h : k + S.length < rs.length) : (spl rs k (S ++ [t])).set (k + S.length) u = spl rs k (S ++ [u]) := by
  have hl : (rs.take k).length = k := by rw [List.length_take]; omega
  have e := set_mid (rs.take k) S ([t] ++ rs.drop (k + (S ++ [t]).length)) u (by simp)
  unfold spl
  rw [hl] at e
  rw [List.append_assoc, e]
  simp
theorem spl_spl {rs S M : List Nat} {k : Nat} (t : Nat) (h : k + S.length < rs.length) (hM : M.length = S.length) : spl (spl rs k (S ++ [t])) k M = spl rs k (M ++ [t]) := by
  have hl : (rs.take k).length = k := by rw [List.length_take]; omega
  have e1 : (spl rs k (S ++ [t])).take k = rs.take k := by
    unfold spl
    rw [List.take_append_of_le_length (by omega), List.take_of_length_le (by omega)]
  have e2 : (spl rs k (S ++ [t])).drop (k + M.length) = [t] ++ rs.drop (k + (S ++ [t]).length) := by
    unfold spl
    rw [hM, List.append_assoc, ← List.append_assoc, List.drop_append, List.drop_of_length_le (by rw [List.length_append, hl]; exact Nat.le_refl _), List.nil_append, List.length_append, hl, Nat.sub_self, List.drop_zero]
  show (spl rs k (S ++ [t])).take k ++ (M ++ (spl rs k (S ++ [t])).drop (k + M.length)) = rs.take k ++ ((M ++ [t]) ++ rs.drop (k + (M ++ [t]).length))
  rw [e1, e2, List.append_assoc M, List.length_append, List.length_append, hM]

set_option maxRecDepth 100000 in
set_option maxHeartbeats 1000000 in
theorem divideLong_ow (w : World) (A B : Option Addr) (n m ca cb a b : Nat) (hA : Lm w w.heap.size A n ca (digs a)) (hB : Lm w w.heap.size B m cb (digs b)) (hm2 : 2 ≤ m) (hle : b ≤ a) (hn9 : n ≤ 1000000) :
    Calls Try.prog 42 #[.slice A n ca, .slice B m cb] w fun e w' => ∃ Q cq R cr, e = .returned (.tuple #[.slice Q (digs (a / b)).length cq, .slice R (digs (a % b)).length cr]) ∧
      Lm w' w'.heap.size Q (digs (a / b)).length cq (digs (a / b)) ∧ Ow w' w.heap.size (.slice R (digs (a % b)).length cr) (digs (a % b)) ∧ Below w.heap.size w w' := by
  have hcA := hA.cap
  have hxA := hA.max
  have hcB := hB.cap
  have hxB := hB.max
  have hlA := hA.len
  have hlB := hB.len
  have hmn : m ≤ n := by rw [← hlA, ← hlB]; exact digs_mono hle
  have gt := hB.good.get (m - 1)
  obtain ⟨bb, bo, e, hbb, cb1⟩ := hB.cell (k := m - 1) (by omega)
  have hf := up_facts hlB (by omega)
  obtain ⟨up, hup⟩ : ∃ up, up = 32 - Lib.bitLen ((digs b)[m - 1]?.getD 0) := ⟨_, rfl⟩
  have hup9 : up ≤ 31 := by omega
  rw [← hup] at hf
  obtain ⟨V, hV⟩ : ∃ V, V = b * 2 ^ up := ⟨_, rfl⟩
  obtain ⟨U, hU⟩ : ∃ U, U = a * 2 ^ up := ⟨_, rfl⟩
  rw [← hV] at hf
  have HUP := Lib.hid hup
  have HUB : Hid (U < 2147483648 * 4294967296 ^ n) := by
    show _ < _
    have h1 := digs_len.1 (Nat.le_of_eq hlA)
    rw [hU, Nat.mul_comm]
    exact Nat.mul_lt_mul_of_le_of_lt (Nat.pow_le_pow_right (by omega) hup9) h1 (by decide)
  have HDiv : Hid (U / V = a / b ∧ U % V = a % b * 2 ^ up) := by
    show _ ∧ _
    rw [hU, hV]
    exact ⟨Nat.mul_div_mul_right _ _ (Nat.pow_pos (by omega)), Nat.mul_mod_mul_right _ _ _⟩
  have HV : Hid (val (digs b) * 2 ^ up = V) := by show _ = _; rw [digs_val, hV]
  have HU : Hid (val (digs a) * 2 ^ up = U) := by show _ = _; rw [digs_val, hU]
  have HF := Lib.hid hf
  have HLA := Lib.hid hlA
  have HUl : Hid ((digs U).length ≤ n + 1) := by
    show _ ≤ _
    have h1 := digs_len.1 (Nat.le_of_eq hlA)
    refine digs_len.2 ?_
    rw [hU, Nat.pow_succ]
    exact Nat.mul_lt_mul_of_lt_of_le h1 (Nat.pow_le_pow_right (by omega) (show up ≤ 32 by omega)) (by decide)
  have hap : 0 < a := by
    have := digs_pos (n := b)
    omega
  have HUp : Hid (0 < (digs U).length) := by
    show 0 < _
    rw [digs_pos, hU]
    exact Nat.mul_pos hap (Nat.pow_pos (by omega))
  clear hup hV hU hf
  have hmk := fun w => run_make_u32 ((n : Int) + 1) ((n : Int) + 1) (n + 1) (by omega) (by omega) (by omega) w
  have hmk2 := fun w => run_make_u32 ((n : Int) + 1 - (m : Int)) ((n : Int) + 1 - (m : Int)) (n + 1 - m) (by omega) (by omega) (by omega) w
  have i1 : ((m : Int) - 1).toNat = m - 1 := by omega
  have HA := Lib.hid hA
  have HB := Lib.hid hB
  clear hA hB hlA hlB
  subst e
  go_enter Try.func42, Try.ntmps42
  go_wp2_with (first
    | (go_at_call 50; refine (lz32_any _ _ gt).mono ?_; rintro e w1 ⟨rfl, rfl⟩; rw [← HUP.out])
    | (go_at_call 51; refine (left_any _ A _ _ _ _ U ((HA.out.via hb1).box _) (by omega) (by omega) HU.out).mono ?_; rintro e w2 ⟨B2, c2, rfl, hL2, hb2⟩; obtain ⟨a2, rfl⟩ := hL2.addr HUp.out; have hD2 := (Ld.new w1 (n + 1)).below hb2 (by simp))
    | (with_reducible refine wpList_copy_u32 rfl _ _ rfl w1.heap.size (n + 1) (n + 1) (zer (n + 1)) hD2 (zer_len _) rfl _ _ _ _ (digs U) rfl hL2 HUl.out ?_; intro w3 hD3 hb3)
    | (go_at_call 51; refine (left_any _ _ _ _ _ _ V HB.out (by omega) (by omega) HV.out).mono ?_; rintro e w1 ⟨B1, c1, rfl, hL1, hb1⟩; rw [HF.out.2.2.1] at hL1 ⊢))
  have hg1 : w1.heap.size < w3.heap.size := hD3.lt
  have hB1 : Below w1.heap.size w1 w3 := (((Below.refl _ _).alloc (Nat.le_refl _) _).trans (hb2.mono (by simp))).trans hb3
  have HB0 := Lib.hid hb1
  have HL1 := Lib.hid hL1
  have HB1 := Lib.hid hB1
  have HD3 := Lib.hid hD3
  clear hD2 hL2 hb2 hb3 hL1 hb1 hB1 hD3 hmk hmk2
  go_loopw [9] (fun i wr => ∃ (k : Nat) (rs qs : List Nat), k ≤ n + 1 - m ∧ i = .int .i64 ((k : Int) - 1) ∧ Ld wr w1.heap.size rs ∧ Good rs ∧ rs.length = n + 1 ∧ Ld wr w3.heap.size qs ∧ Good qs ∧ qs.length = n + 1 - m ∧
      val (rs.drop k) < V ∧ val rs + 4294967296 ^ k * (V * val (qs.drop k)) = U ∧ Below w1.heap.size w1 wr) (fun i _ => (intOf i + 1).toNat)
  case atStart =>
    have hrl : (digs U ++ (zer (n + 1)).drop (digs U).length).length = n + 1 := by have := HUl.out; simp [zer]; omega
    have hrv : val (digs U ++ (zer (n + 1)).drop (digs U).length) = U := by
      rw [val_append, digs_val, val_zero (xs := (zer (n + 1)).drop (digs U).length) (fun x hx => (List.mem_replicate.1 (List.mem_of_mem_drop hx)).2)]
      rfl
    have hgr : Good (digs U ++ (zer (n + 1)).drop (digs U).length) := (digs_good U).append ((zer_good _).drop _)
    refine ⟨n + 1 - m, _, zer (n + 1 - m), Nat.le_refl _, rfl, HD3.out.below ((Below.refl _ _).alloc (Nat.le_refl _) _) hg1, hgr, hrl, Ld.new _ _, zer_good _, zer_len _, ?_, ?_, HB1.out.alloc (Nat.le_of_lt hg1) _⟩
    · rw [val_drop _ hgr, hrv]
      refine Nat.div_lt_of_lt_mul (Nat.lt_of_lt_of_le HUB.out ?_)
      have h5 := Nat.mul_le_mul_left (4294967296 ^ (n + 1 - m)) HF.out.2.1
      rw [Nat.mul_left_comm, ← Nat.pow_add, show n + 1 - m + (m - 1) = n by omega] at h5
      exact h5
    · rw [hrv, List.drop_of_length_le (by rw [zer_len]; exact Nat.le_refl _)]
      simp [val_nil]
  case round =>
    obtain ⟨k, rs, qs, hk, rfl, hR, hGR, hlR, hQ, hGQ, hlQ, hI1, hI2, hb⟩ := hrel
    have HR := Lib.hid hR
    have HQ := Lib.hid hQ
    have HI1 := Lib.hid hI1
    have HI2 := Lib.hid hI2
    have HBl := Lib.hid hb
    have HGR := Lib.hid hGR
    have HGQ := Lib.hid hGQ
    clear hR hQ hI1 hI2 hb hGR hGQ
    rcases k with _ | k
    · have hQe : Hid (val qs = a / b) := by
        show _ = _
        have h1 := HI1.out
        have h2 := HI2.out
        simp only [List.drop_zero, Nat.pow_zero, Nat.one_mul] at h1 h2
        rw [← HDiv.out.1, ← h2, Nat.add_mul_div_left _ _ (by omega), Nat.div_eq_of_lt h1, Nat.zero_add]
      have hRe : Hid (val rs = a % b * 2 ^ up) := by
        show _ = _
        have h1 := HI1.out
        have h2 := HI2.out
        simp only [List.drop_zero, Nat.pow_zero, Nat.one_mul] at h1 h2
        rw [← HDiv.out.2, ← h2, Nat.add_mul_mod_self_left, Nat.mod_eq_of_lt h1]
      have HLq : Hid (Lm wr wr.heap.size (some ⟨w3.heap.size, 0, none⟩) (n + 1 - m) (n + 1 - m) qs) := by
        have e := HQ.out.lm HGQ.out (off := 0) (n := n + 1 - m) (c := n + 1 - m) (by omega) (Nat.le_refl _) (by omega)
        rwa [List.drop_zero, List.take_of_length_le (by omega)] at e
      have HLr : Hid (Lm wr wr.heap.size (some ⟨w1.heap.size, 0, none⟩) (n + 1) (n + 1) rs) := by
        have e := HR.out.lm HGR.out (off := 0) (n := n + 1) (c := n + 1) (by omega) (Nat.le_refl _) (by omega)
        rwa [List.drop_zero, List.take_of_length_le (by omega)] at e
      have hll : (digs (a % b * 2 ^ up)).length ≤ n + 1 := by
        have e := HLr.out.trim' hRe.out
        have e2 := val_lt HLr.out.good
        rw [hRe.out, HLr.out.len] at e2
        exact digs_len.2 e2
      go_wp2_with fail
      refine (trim_any _ _ _ _ _ _ (a / b) HLq.out hQe.out).mono ?_
      rintro e w8 ⟨rfl, rfl⟩
      go_wp2_with fail
      refine (trim_any _ _ _ _ _ _ (a % b * 2 ^ up) HLr.out hRe.out).mono ?_
      rintro e w8 ⟨rfl, rfl⟩
      go_wp2_with fail
      refine (right_ow wr _ _ _ up (a % b * 2 ^ up) (a % b) (HLr.out.trim' hRe.out) (by omega) (by omega) (Nat.mul_div_cancel _ (Nat.pow_pos (by omega)))).mono ?_
      rintro e w9 ⟨A9, c9, rfl, hL9, hb9⟩
      go_wp2
      go_ret2
      exact ⟨_, _, _, _, rfl, (HLq.out.trim' hQe.out).via hb9, hL9.mono (Nat.le_trans HB0.out.size HBl.out.size), HB0.out.trans ((HBl.out.trans (hb9.mono HBl.out.size)).mono HB0.out.size)⟩
    · have hkm : k + m < rs.length := by omega
      have HP := Lib.hid (part_facts HGR.out HF.out.2.2.1 hm2 hkm HI1.out)
      have hne : ¬ (n + 1 = k) := by omega
      have HLb := Lib.hid ((HL1.out.below HBl.out))
      go_wp2_with fail
      rw [show k + m + 1 - k = m + 1 by omega]
      refine (guess_any wr w1.heap.size k (m + 1) (n + 1 - k) m c1 B1 rs (digs V) HR.out HGR.out (HLb.out.mono HBl.out.size) hm2 (by omega) (by omega) hkm HP.out.2.2.2.2.1 HP.out.2.1).mono ?_
      rintro e w4 ⟨rfl, d4, rfl⟩
      obtain ⟨D, hD⟩ : ∃ D, D = gs ((digs V)[m - 1]?.getD 0) ((digs V)[m - 2]?.getD 0) (rs[k + m]?.getD 0) (rs[k + (m - 1)]?.getD 0) (rs[k + (m - 2)]?.getD 0) := ⟨_, rfl⟩
      have hD9 : D ≤ 4294967295 := by rw [hD]; exact gs_le _ _ _ _ _
      have HP2 := HP.out.2.2.2.2.2
      rw [← hD] at HP2 ⊢
      have HPq := Lib.hid HP2
      clear hD HP2
      go_wp2_with fail
      refine (subProduct_any (wr.drewN d4) w1.heap.size k (m + 1) (n + 1 - k) m c1 B1 rs (digs V) D HR.out HGR.out (HLb.out.keep (fun _ _ _ => rfl)) (by omega) (by omega) (by omega) (by omega) (by omega) (by omega)).mono ?_
      rintro e w5 ⟨rfl, hL5, hg5⟩
      have hSl := sbK_len (rs.drop k) (digs V) D m
      have hSg := sbK_good (rs.drop k) (digs V) D m
      have hbr := sbK_carry (HGR.out.drop k) (digs_good V) (show D < 4294967296 by omega) m
      have hSv := sbK_val (xs := digs V) (HGR.out.drop k) D m
      obtain ⟨S, hS⟩ : ∃ S, S = (sbK (rs.drop k) (digs V) D m).1 := ⟨_, rfl⟩
      obtain ⟨br, hbe⟩ : ∃ br, br = (sbK (rs.drop k) (digs V) D m).2 := ⟨_, rfl⟩
      rw [← hS] at hSl hSg hSv hL5
      rw [← hbe] at hbr hSv ⊢
      rw [List.take_of_length_le (Nat.le_of_eq HF.out.2.2.1), digs_val] at hSv
      have HSv := Lib.hid hSv
      have HSg := Lib.hid hSg
      have HSl := Lib.hid hSl
      clear hS hbe hSv hSg
      have hsl : (spl rs k S).length = n + 1 := by rw [spl_len (by omega), hlR]
      have hct := hL5.cell (i := k + m) (by omega)
      rw [spl_after (by omega) (by omega)] at hct
      have hfr := hL5.frozen (k + m)
      have hgt := HGR.out.get (k + m)
      have hQ5 : Ld w5 w3.heap.size qs := (show Ld (wr.drewN d4) w3.heap.size qs from HQ.out).grown hg5 (fun e => by injection e with e; omega)
      have hcq := hQ5.cell (i := k) (by omega)
      have hfq := hQ5.frozen k
      have hgh : ¬ (w1.heap.size = w3.heap.size) := by omega
      have hhg : ¬ (w3.heap.size = w1.heap.size) := by omega
      have HL5 := Lib.hid hL5
      have HG5 := Lib.hid hg5
      have HQ5 := Lib.hid hQ5
      clear hL5 hg5 hQ5
      have hV0 : 0 < V := by have := digs_pos (n := V); rw [HF.out.2.2.1] at this; omega
      have HSP : Hid (val S < 4294967296 ^ m) := by have e := val_lt HSg.out; rwa [HSl.out] at e
      have HFin : Hid (∀ (wz : World) (P : List Nat) (q : Nat), P.length = m → Good P → val P = val (rs.drop k) % V → val (rs.drop k) / V = q → q < 4294967296 → Ld wz w1.heap.size (spl rs k (P ++ [0])) → Ld wz w3.heap.size (qs.set k q) → Below w1.heap.size w1 wz →
          ∃ (k' : Nat) (rs' qs' : List Nat), k' ≤ n + 1 - m ∧ Value.int .i64 ((k : Int) - 1) = .int .i64 ((k' : Int) - 1) ∧ Ld wz w1.heap.size rs' ∧ Good rs' ∧ rs'.length = n + 1 ∧ Ld wz w3.heap.size qs' ∧ Good qs' ∧ qs'.length = n + 1 - m ∧
            val (rs'.drop k') < V ∧ val rs' + 4294967296 ^ k' * (V * val (qs'.drop k')) = U ∧ Below w1.heap.size w1 wz) := by
        intro wz P q hPl hPg hPv hq hq9 hLz hQz hBz
        obtain ⟨p1, p2⟩ := part_done hPl hkm HP.out.2.2.2.1 hPv
        refine ⟨k, _, _, by omega, rfl, hLz, spl_good HGR.out (hPg.append (Good.nil.cons (by omega))), by rw [spl_len (by rw [List.length_append, hPl]; show k + (m + 1) ≤ _; omega), hlR], hQz, HGQ.out.set hq9 k, by rw [List.length_set]; exact hlQ, ?_, ?_, hBz⟩
        · rw [p1]; exact Nat.mod_lt _ hV0
        · exact inv_step (by omega) rfl HI2.out p2 (by rw [hq]; exact val_set_drop q (by omega))
      by_cases hov : rs[k + m]?.getD 0 < br
      · have hovi : ((rs[k + m]?.getD 0 : Nat) : Int) < (br : Int) := by omega
        go_wp2_with fail
        obtain ⟨t, ht⟩ : ∃ t : Nat, (((rs[k + m]?.getD 0 : Nat) : Int) - (br : Int)) % 4294967296 = (t : Int) := ⟨((((rs[k + m]?.getD 0 : Nat) : Int) - (br : Int)) % 4294967296).toNat, by omega⟩
        have htl : t < 4294967296 := by omega
        have HT := Lib.hid ht
        rw [ht]
        clear ht
        have hL6 := HL5.out.set_ (k + m) t
        have hset := spl_set (cs := rs) (off := k) (ts := S) t (by omega)
        rw [HSl.out] at hset
        rw [hset] at hL6
        have hQ6 := HQ5.out.grown (grownBy_setCellAt w5 w1.heap.size (k + m) (.int .u32 (t : Int))) (fun e => by injection e with e; omega)
        have hg6 := grownBy_trans HG5.out (grownBy_setCellAt w5 w1.heap.size (k + m) (.int .u32 (t : Int)))
        generalize w5.setCell ⟨w1.heap.size, k + m, none⟩ (.int .u32 (t : Int)) = w6 at hL6 hQ6 hg6 ⊢
        have hl6 : (spl rs k (S ++ [t])).length = n + 1 := by rw [spl_len (by rw [List.length_append, HSl.out]; show k + (m + 1) ≤ _; omega), hlR]
        have hg6' : Good (spl rs k (S ++ [t])) := spl_good HGR.out (HSg.out.append (Good.nil.cons htl))
        have hc6 := hL6.cell (i := k + m) (by omega)
        have hat := spl_at_last (rs := rs) (k := k) (S := S) t (by omega)
        rw [HSl.out] at hat
        rw [hat] at hc6
        have hf6 := hL6.frozen (k + m)
        have hcq6 := hQ6.cell (i := k) (by omega)
        have hfq6 := hQ6.frozen k
        have HL6 := Lib.hid hL6
        have HQ6 := Lib.hid hQ6
        have HG6 := Lib.hid hg6
        have HGd6 := Lib.hid hg6'
        have HX6 : Hid (Lm w6 w1.heap.size B1 m c1 (digs V)) := (HLb.out.keep (w' := wr.drewN d4) (fun _ _ _ => rfl)).grownLt hg6 HBl.out.size
        have hml := mulK_len ((spl rs k (S ++ [t])).drop k) (digs V) 1 m
        have hcy := mulK_carry (HGd6.out.drop k) (digs_good V) (show 1 < 4294967296 by omega) m
        have HMv := Lib.hid (mulK_val ((spl rs k (S ++ [t])).drop k) (digs V) 1 m)
        have HMg := Lib.hid (mulK_good ((spl rs k (S ++ [t])).drop k) (digs V) 1 m)
        have hMv2 : val (mulK ((spl rs k (S ++ [t])).drop k) (digs V) 1 m).1 + 4294967296 ^ m * (mulK ((spl rs k (S ++ [t])).drop k) (digs V) 1 m).2 = V + val S := by
          have e := HMv.out
          have e2 := spl_drop_take (rs := rs) (k := k) (S := S) t (by omega)
          rw [HSl.out] at e2
          rw [e2, List.take_of_length_le (Nat.le_of_eq HF.out.2.2.1), digs_val, Nat.mul_one] at e
          exact e
        have hMP : val (mulK ((spl rs k (S ++ [t])).drop k) (digs V) 1 m).1 < 4294967296 ^ m := by have e := val_lt HMg.out; rwa [hml] at e
        have HOv := Lib.hid (step_over HP.out.2.2.1 HP.out.1 HSv.out HSP.out hMv2 hMP HPq.out.2 hV0 hov)
        have hD1 : 1 ≤ D := HOv.out.2.1
        have HB6 : Hid (Below w1.heap.size w1 w6) := (bdrewN HBl.out d4).grown HG6.out HBl.out.size (fun b e => by injection e with e; omega)
        clear hMv2 hMP
        have HSS := Lib.hid (spl_spl (rs := rs) (S := S) (M := (mulK ((spl rs k (S ++ [t])).drop k) (digs V) 1 m).1) (k := k) t (by omega) (by omega))
        have HAt7 := Lib.hid (spl_at_last (rs := rs) (k := k) (S := (mulK ((spl rs k (S ++ [t])).drop k) (digs V) 1 m).1) t (by omega))
        have hl7 : (spl rs k ((mulK ((spl rs k (S ++ [t])).drop k) (digs V) 1 m).1 ++ [t])).length = n + 1 := by rw [spl_len (by rw [List.length_append, hml]; show k + (m + 1) ≤ _; omega), hlR]
        clear hct hfr hcq hfq hL6 hQ6 hg6 hg6' hset hat
        go_region_with (go_at_call 37; refine (addProduct_any w6.drew w1.heap.size k (m + 1) (n + 1 - k) m c1 B1 (spl rs k (S ++ [t])) (digs V) 1 HL6.out HGd6.out (HX6.out.keep (fun _ _ _ => rfl)) (by omega) (by omega) (by omega) (by omega) (by omega) (by omega)).mono ?_; rintro e w7 ⟨rfl, hL7, hg7⟩; rw [HSS.out] at hL7; have hc7 := hL7.cell (i := k + m) (by omega); have hat7 := HAt7.out; rw [hml] at hat7; rw [hat7] at hc7; have hf7 := hL7.frozen (k + m))
        all_goals
          have hQ7 := (show Ld w6.drew w3.heap.size qs from HQ6.out).grown hg7 (fun e => by injection e with e; omega)
          have hcq7 := hQ7.cell (i := k) (by omega)
          have hfq7 := hQ7.frozen k
          have HL7 := Lib.hid hL7
          have HQ7 := Lib.hid hQ7
          have HG7 := Lib.hid hg7
          clear hL7 hQ7 hg7
          go_wp2
          go_roundw
          case rel =>
            have h0 := HOv.out.2.2.2
            have hT := HT.out
            have e1 : (((t : Nat) : Int) + (((mulK ((spl rs k (S ++ [t])).drop k) (digs V) 1 m).2 : Nat) : Int)) % 4294967296 = ((0 : Nat) : Int) := by omega
            have e2 : ((D : Int) - 1) % 4294967296 = ((D - 1 : Nat) : Int) := by omega
            rw [e1, e2]
            refine HFin.out _ _ (D - 1) hml HMg.out HOv.out.2.2.1 HOv.out.1 (by omega) ?_ ?_ ?_
            · have e3 := HL7.out.set_ (k + m) 0
              have e4 := spl_set_last (rs := rs) (S := (mulK ((spl rs k (S ++ [t])).drop k) (digs V) 1 m).1) (k := k) t 0 (by omega)
              rw [hml] at e4
              rw [e4] at e3
              exact e3.grown (grownBy_setCellAt _ _ _ _) (fun e => by injection e with e; omega)
            · exact (HQ7.out.grown (grownBy_setCellAt _ w1.heap.size (k + m) (.int .u32 ((0 : Nat) : Int))) (fun e => by injection e with e; omega)).set_ k (D - 1)
            · have hs6 := HB6.out.size
              exact ((HB6.out.drew.grown HG7.out hs6 (fun b e => by injection e with e; omega)).setCell (p := ⟨w1.heap.size, k + m, none⟩) (Nat.le_refl _) _).setCell (p := ⟨w3.heap.size, k, none⟩) (by show w1.heap.size ≤ w3.heap.size; omega) _
          case measure => simp [intOf]
      · have hovd : decide (((rs[k + m]?.getD 0 : Nat) : Int) < (br : Int)) = false := by simp; omega
        have HRt := Lib.hid (step_right HP.out.2.2.1 HP.out.1 HSv.out HPq.out.1 hV0 (by omega))
        have hheq : rs[k + m]?.getD 0 = br := HRt.out.2.2
        have HB5 : Hid (Below w1.heap.size w1 w5) := (bdrewN HBl.out d4).grown HG5.out HBl.out.size (fun b e => by injection e with e; omega)
        go_wp2
        go_roundw
        case rel =>
          refine HFin.out _ _ D HSl.out HSg.out HRt.out.2.1 HRt.out.1 (by omega) ?_ ?_ ?_
          · have e3 := HL5.out.set_ (k + m) 0
            have e4 := spl_set (cs := rs) (off := k) (ts := S) 0 (by omega)
            rw [HSl.out] at e4
            rw [e4] at e3
            exact e3.grown (grownBy_setCellAt _ _ _ _) (fun e => by injection e with e; omega)
          · exact (HQ5.out.grown (grownBy_setCellAt _ w1.heap.size (k + m) (.int .u32 ((0 : Nat) : Int))) (fun e => by injection e with e; omega)).set_ k D
          · exact (HB5.out.setCell (p := ⟨w1.heap.size, k + m, none⟩) (Nat.le_refl _) _).setCell (p := ⟨w3.heap.size, k, none⟩) (by show w1.heap.size ≤ w3.heap.size; omega) _
        case measure => simp [intOf]
end Go.Proofs.Ytkajmglpmdhmnaa

/- wide.divide. -/
namespace Go.Proofs.Ytkajmglpmdhmnaa
open Go.RowKit

set_option maxRecDepth 100000 in
set_option maxHeartbeats 1000000 in
theorem clone_own (w : World) (A : Option Addr) (n c : Nat) (xs : List Nat) (h : Lm w w.heap.size A n c xs) (hn0 : 0 < n) (hn : n ≤ 1000000000) :
    Calls Try.prog 40 #[.slice A n c] w fun e w' => ∃ g c', e = .returned (.slice (some ⟨g, 0, none⟩) n c') ∧ n ≤ c' ∧ c' ≤ 9223372036854775807 ∧ w.heap.size ≤ g ∧ Ob w' g xs ∧ Below w.heap.size w w' := by
  obtain ⟨i0, hi0, hz0, hz1, hz2⟩ := info_parts u32_info
  have hr := h.max
  have hl := h.len
  have HH := Lib.hid h
  have hnil := fun (w : World) (a : Option Addr) (n c n' c' : Nat) => Lib.run_eql_slice_nil (P := Try.prog) w 22 47 a n c n' c' slice_u32
  obtain ⟨ad, rfl⟩ := h.addr hn0
  go_enter Try.func40, Try.ntmps40
  go_wp2_with (at_builtin; refine wpList_append_lm _ rfl _ _ _ rfl w.heap.size _ i0 slice_u32 hi0 hz0 hz1 hz2 _ 0 [] rfl (World.ownsRow_made _ _ _ (Nat.le_refl _) (by simp [maxLen]) rfl) _ _ _ _ xs rfl (HH.out.box _) (by simp only [maxLen]; omega) (by omega) (by simp) ?_; intro v1 w1 hown1 hg1)
  go_ret
  rw [Nat.zero_add, List.nil_append] at hown1
  have hO : Ow w1 w.heap.size v1 xs := by unfold Ow; rw [hl]; exact hown1
  obtain ⟨A', c', rfl, hL⟩ := hO.lm HH.out.good
  obtain ⟨g, rfl, _, hgB, hOb⟩ := hO.ob (by omega)
  have hcp := hL.cap
  have hmx := hL.max
  rw [hl] at hcp hL ⊢
  refine ⟨g, c', rfl, hcp, hmx, hgB, hOb, ((Below.refl _ _).alloc (Nat.le_refl _) _).grown hg1 (by simp) (fun k hk => ?_)⟩
  have e : w.heap.size = k := Option.some.inj hk
  omega

set_option maxRecDepth 100000 in
set_option maxHeartbeats 1000000 in
theorem clone_ow (w : World) (A : Option Addr) (n c : Nat) (xs : List Nat) (h : Lm w w.heap.size A n c xs) (hn0 : 0 < n) (hn : n ≤ 1000000000) :
    Calls Try.prog 40 #[.slice A n c] w fun e w' => ∃ A' c', e = .returned (.slice A' n c') ∧ Ow w' w.heap.size (.slice A' n c') xs ∧ Below w.heap.size w w' := by
  obtain ⟨i0, hi0, hz0, hz1, hz2⟩ := info_parts u32_info
  have hr := h.max
  have hl := h.len
  have HH := Lib.hid h
  have hnil := fun (w : World) (a : Option Addr) (n c n' c' : Nat) => Lib.run_eql_slice_nil (P := Try.prog) w 22 47 a n c n' c' slice_u32
  obtain ⟨ad, rfl⟩ := h.addr hn0
  go_enter Try.func40, Try.ntmps40
  go_wp2_with (at_builtin; refine wpList_append_lm _ rfl _ _ _ rfl w.heap.size _ i0 slice_u32 hi0 hz0 hz1 hz2 _ 0 [] rfl (World.ownsRow_made _ _ _ (Nat.le_refl _) (by simp [maxLen]) rfl) _ _ _ _ xs rfl (HH.out.box _) (by simp only [maxLen]; omega) (by omega) (by simp) ?_; intro v1 w1 hown1 hg1)
  go_ret
  rw [Nat.zero_add, List.nil_append] at hown1
  have hO : Ow w1 w.heap.size v1 xs := by unfold Ow; rw [hl]; exact hown1
  obtain ⟨A', c', rfl, hL⟩ := hO.lm HH.out.good
  rw [hl] at hO ⊢
  refine ⟨A', c', rfl, hO, ((Below.refl _ _).alloc (Nat.le_refl _) _).grown hg1 (by simp) (fun k hk => ?_)⟩
  have e : w.heap.size = k := Option.some.inj hk
  omega

theorem Lm.one (w : World) (x : Nat) (X : Int) (hX : X = (x : Int)) (hx : x < 4294967296) :
    Lm (w.alloc (.cells #[.int .u32 X] 47)) (w.alloc (.cells #[.int .u32 X] 47)).heap.size (some ⟨w.heap.size, 0, none⟩) 1 1 [x] := by
  subst hX
  exact ⟨rfl, Good.nil.cons hx, Nat.le_refl _, by omega, fun h => (by cases h), fun _ => ⟨_, 0, rfl, by simp, fun j hj => by
    match j, hj with
    | 0, _ => go_simp⟩⟩
theorem val_one (x : Nat) : val [x] = x := by simp [val_cons, val_nil]

/-- A quotient and a remainder, which is the call's own. -/
def RDo (w : World) (q r : Nat) (e : Ending) (w' : World) : Prop := ∃ Q cq R cr, e = .returned (.tuple #[.slice Q (digs q).length cq, .slice R (digs r).length cr]) ∧
  Lm w' w'.heap.size Q (digs q).length cq (digs q) ∧ Ow w' w.heap.size (.slice R (digs r).length cr) (digs r) ∧ Below w.heap.size w w'
/-- A call returns a quotient and a remainder, as limbs. -/
def RD (w : World) (q r : Nat) (e : Ending) (w' : World) : Prop := ∃ Q cq R cr, e = .returned (.tuple #[.slice Q (digs q).length cq, .slice R (digs r).length cr]) ∧
  Lm w' w'.heap.size Q (digs q).length cq (digs q) ∧ Lm w' w'.heap.size R (digs r).length cr (digs r) ∧ Below w.heap.size w w'

set_option maxRecDepth 100000 in
set_option maxHeartbeats 1000000 in
theorem divide_less (w : World) (A B : Option Addr) (n m ca cb a b : Nat) (hA : Lm w w.heap.size A n ca (digs a)) (hB : Lm w w.heap.size B m cb (digs b)) (hlt : a < b) (hn9 : n ≤ 1000000) :
    Calls Try.prog 25 #[.slice A n ca, .slice B m cb] w (RD w (a / b) (a % b)) := by
  have HC : Hid (cmpL (digs a) (digs b) = -1) := by show _ = _; rw [cmpL_norm (digs_good _) (digs_good _) (digs_norm _) (digs_norm _), digs_val, digs_val]; exact cmpN_lt hlt
  have HA := Lib.hid hA
  have HB := Lib.hid hB
  rw [Nat.div_eq_of_lt hlt, Nat.mod_eq_of_lt hlt]
  have HN := Lib.hid hA.len
  clear hA hB hlt
  go_enter Try.func25, Try.ntmps25
  go_wp2_with fail
  refine (compare_any _ _ _ _ _ _ (digs a) (digs b) _ HA.out HB.out).mono ?_
  rintro e w1 ⟨he, hb1⟩
  rw [HC.out] at he
  subst he
  go_wp2_with fail
  refine (clone_any _ _ _ _ (digs a) (HA.out.via hb1) (by omega)).mono ?_
  rintro e w2 ⟨A2, c2, rfl, hL2, hb2⟩
  go_wp2
  go_ret2
  refine ⟨none, 0, A2, c2, by rw [HN.out]; rfl, Lm.nil _ _, by rw [HN.out]; exact hL2, hb1.trans (hb2.mono hb1.size)⟩

set_option maxRecDepth 100000 in
set_option maxHeartbeats 1000000 in
theorem divide_one (w : World) (A B : Option Addr) (n ca cb a b : Nat) (hA : Lm w w.heap.size A n ca (digs a)) (hB : Lm w w.heap.size B 1 cb (digs b)) (hle : b ≤ a) (hn9 : n ≤ 1000000) :
    Calls Try.prog 25 #[.slice A n ca, .slice B 1 cb] w (RD w (a / b) (a % b)) := by
  obtain ⟨z, hz, HC⟩ : ∃ z : Int, decide (z < 0) = false ∧ Hid (cmpL (digs a) (digs b) = z) := ⟨_, by rw [cmpL_norm (digs_good _) (digs_good _) (digs_norm _) (digs_norm _), digs_val, digs_val]; unfold cmpN; rw [if_neg (by omega)]; split <;> decide, rfl⟩
  have hb0 : 0 < b := by rw [← digs_pos, hB.len]; omega
  have hn0 : 0 < n := by rw [← hA.len, digs_pos]; omega
  have hbe : (digs b)[0]?.getD 0 = b := by
    have h1 := val_take_succ' (digs b) 0
    rw [List.take_of_length_le (by rw [hB.len]; omega), digs_val] at h1
    simpa [val_nil] using h1.symm
  have hb9 := hB.good.get 0
  obtain ⟨bb, bo, rfl, hbb, cb1⟩ := hB.cell (k := 0) (by omega)
  rw [hbe] at cb1 hb9
  have hcB := hB.cap
  have hxB := hB.max
  have HA := Lib.hid hA
  have HB := Lib.hid hB
  have HN := Lib.hid hA.len
  have HQ := Lib.hid (dvL_quot hb0 (digs a))
  have HG := Lib.hid (dvL_good hb0 (digs_good a))
  have HDl := Lib.hid (dvL_len b (digs a))
  have HVa := Lib.hid (digs_val a)
  have HRm : Hid ((dvL b (digs a)).2 < 4294967296) := Nat.lt_trans (dvL_lt hb0 _) hb9
  clear hA hB hle hbe
  go_enter Try.func25, Try.ntmps25
  go_wp2_with fail
  refine (compare_any _ _ _ _ _ _ (digs a) (digs b) _ HA.out HB.out).mono ?_
  rintro e w1 ⟨he, hb1⟩
  rw [HC.out] at he
  subst he
  go_wp2_with fail
  refine (clone_own _ _ _ _ (digs a) (HA.out.via hb1) hn0 (by omega)).mono ?_
  rintro e w2 ⟨g, c2, rfl, hc2, hx2, hg2, hO2, hb2⟩
  have hB2 := hb1.trans (hb2.mono hb1.size)
  have cb2 : w2.cell? ⟨bb, bo, none⟩ = some (.int .u32 (b : Int)) := (hB2.cell (p := ⟨bb, bo + 0, none⟩) hbb).trans cb1
  go_wp2_with fail
  refine (divideLimb_any w2 g n c2 b (digs a) hO2 (digs_good a) HN.out hc2 (by omega) hb0 hb9).mono ?_
  rintro e w3 ⟨rfl, hO3, hg3⟩
  have hs1 := hb1.size
  have HB3 : Hid (Below w.heap.size w w3) := hB2.grown hg3 (hB2.size) (fun k e => by injection e with e; omega)
  have HL3 : Hid (Lm w3 w3.heap.size (some ⟨g, 0, none⟩) n c2 (dvL b (digs a)).1) := by
    have e := hO3.lm HG.out (off := 0) (n := n) (c := c2) (by rw [HDl.out, HN.out]; omega) hc2 hx2
    rwa [List.drop_zero, List.take_of_length_le (by rw [HDl.out, HN.out]; exact Nat.le_refl _)] at e
  have HVq : Hid (val (dvL b (digs a)).1 = a / b) := by show _ = _; rw [HQ.out.1, HVa.out]
  have HVr : Hid (val [(dvL b (digs a)).2] = a % b) := by show _ = _; rw [val_one, HQ.out.2, HVa.out]
  clear hO3 hg3 hO2 hb2 hB2
  go_wp2_with fail
  refine (trim_any _ _ _ _ _ _ (a / b) HL3.out HVq.out).mono ?_
  rintro e w4 ⟨rfl, rfl⟩
  go_wp2_with fail
  refine (trim_any _ _ _ _ _ _ (a % b) (Lm.one w3 (dvL b (digs a)).2 _ rfl HRm.out) HVr.out).mono ?_
  rintro e w4 ⟨rfl, rfl⟩
  go_wp2
  go_ret2
  exact ⟨_, _, _, _, rfl, (HL3.out.trim' HVq.out).box _, (Lm.one w3 (dvL b (digs a)).2 _ rfl HRm.out).trim' HVr.out, HB3.out.alloc HB3.out.size _⟩

set_option maxRecDepth 100000 in
set_option maxHeartbeats 1000000 in
theorem divide_ow (w : World) (A B : Option Addr) (n m ca cb a b : Nat) (hA : Lm w w.heap.size A n ca (digs a)) (hB : Lm w w.heap.size B m cb (digs b)) (hle : b ≤ a) (hm : 2 ≤ m) (hn9 : n ≤ 1000000) :
    Calls Try.prog 25 #[.slice A n ca, .slice B m cb] w (RDo w (a / b) (a % b)) := by
  obtain ⟨z, hz, HC⟩ : ∃ z : Int, decide (z < 0) = false ∧ Hid (cmpL (digs a) (digs b) = z) := ⟨_, by rw [cmpL_norm (digs_good _) (digs_good _) (digs_norm _) (digs_norm _), digs_val, digs_val]; unfold cmpN; rw [if_neg (by omega)]; split <;> decide, rfl⟩
  have HA := Lib.hid hA
  have HB := Lib.hid hB
  have hm1 : ((m : Int) == 1) = false := by simp; omega
  have hcB := hB.cap
  have hxB := hB.max
  clear hA hB
  go_enter Try.func25, Try.ntmps25
  go_wp2_with fail
  refine (compare_any _ _ _ _ _ _ (digs a) (digs b) _ HA.out HB.out).mono ?_
  rintro e w1 ⟨he, hb1⟩
  rw [HC.out] at he
  subst he
  go_wp2_with fail
  refine (divideLong_ow w1 A B n m ca cb a b (HA.out.via hb1) (HB.out.via hb1) hm hle hn9).mono ?_
  rintro e w2 ⟨Q, cq, R, cr, rfl, hQ, hR, hb2⟩
  go_wp2
  go_ret2
  exact ⟨Q, cq, R, cr, rfl, hQ, hR.mono hb1.size, hb1.trans (hb2.mono hb1.size)⟩

theorem divide_long (w : World) (A B : Option Addr) (n m ca cb a b : Nat) (hA : Lm w w.heap.size A n ca (digs a)) (hB : Lm w w.heap.size B m cb (digs b)) (hle : b ≤ a) (hm : 2 ≤ m) (hn9 : n ≤ 1000000) :
    Calls Try.prog 25 #[.slice A n ca, .slice B m cb] w (RD w (a / b) (a % b)) :=
  (divide_ow w A B n m ca cb a b hA hB hle hm hn9).mono fun _ _ ⟨Q, cq, R, cr, e, hQ, hR, hb⟩ => ⟨Q, cq, R, cr, e, hQ, hR.toLm (digs_good _), hb⟩

theorem divide_any (w : World) (A B : Option Addr) (n m ca cb a b : Nat) (hA : Lm w w.heap.size A n ca (digs a)) (hB : Lm w w.heap.size B m cb (digs b)) (hb : 0 < b) (hn9 : n ≤ 1000000) :
    Calls Try.prog 25 #[.slice A n ca, .slice B m cb] w (RD w (a / b) (a % b)) := by
  rcases Nat.lt_or_ge a b with h | h
  · exact divide_less w A B n m ca cb a b hA hB h hn9
  · have hm : 0 < m := by rw [← hB.len, digs_pos]; exact hb
    rcases Nat.lt_or_ge m 2 with h1 | h1
    · obtain rfl : m = 1 := by omega
      exact divide_one w A B n ca cb a b hA hB h hn9
    · exact divide_long w A B n m ca cb a b hA hB h h1 hn9
end Go.Proofs.Ytkajmglpmdhmnaa

/- The reference's left and short. -/
namespace Go.Proofs.Ytkajmglpmdhmnaa
open Go.RowKit

/-- .. in a block of its own. -/
def RLo (w : World) (N v : Nat) (e : Ending) (w' : World) : Prop := ∃ A c ts, e = .returned (.slice A N c) ∧ Ow w' w.heap.size (.slice A N c) ts ∧ Good ts ∧ ts.length = N ∧ val ts = v ∧ Below w.heap.size w w'

set_option maxRecDepth 100000 in
set_option maxHeartbeats 1000000 in
theorem rleft_own (w : World) (A : Option Addr) (n c s : Nat) (xs : List Nat) (v : Nat) (hA : Lm w w.heap.size A n c xs) (hn : n ≤ 100000000) (hs32 : s < 32) (hv : val xs * 2 ^ s = v) :
    Calls Try.prog 45 #[.slice A n c, .int .u64 (s : Int)] w (RLo w (n + 1) v) := by
  have h1 := hA.cap
  have h2 := hA.max
  have HA := Lib.hid hA
  have HV := Lib.hid hv
  clear hA hv
  go_enter Try.func45, Try.ntmps45
  go_wp2
  go_loopw [5, 6, 7] (fun u cy i wr => ∃ k : Nat, k ≤ n ∧ i = .int .i64 k ∧ cy = .int .u64 ((mulK [] xs (2 ^ s) k).2 : Nat) ∧ Ow wr w.heap.size u (mulK [] xs (2 ^ s) k).1 ∧ Below w.heap.size w wr) (fun _ _ i _ => n - (intOf i).toNat)
  case atStart => exact ⟨0, Nat.zero_le _, rfl, rfl, Ow.nil _ _, Below.refl _ _⟩
  case round =>
    obtain ⟨k, hk, rfl, rfl, hO, hb⟩ := hrel
    have HO := Lib.hid hO
    have HBl := Lib.hid hb
    clear hO hb
    have hp31 : 2 ^ s ≤ 2147483648 := Nat.pow_le_pow_right (by omega) (show s ≤ 31 by omega)
    have hcy := shl_carry HA.out.good hp31 k
    have HLn := Lib.hid (mulK_len [] xs (2 ^ s) k)
    have hc32 : (mulK [] xs (2 ^ s) k).2 < 4294967296 := by omega
    clear hcy
    by_cases hlt : k < n
    · obtain ⟨b, bo, rfl, hbb, hcx⟩ := (HA.out.below HBl.out).cell hlt
      have hxg := HA.out.good.get k
      have hmx : xs[k]?.getD 0 * 2 ^ s ≤ 4294967295 * 2147483648 := Nat.mul_le_mul (by omega) hp31
      obtain ⟨S, hS⟩ : ∃ S : Nat, S = (mulK [] xs (2 ^ s) k).2 + (xs[k]?.getD 0 * 2 ^ s + 0) := ⟨_, rfl⟩
      have HX : Hid (IntKind.u64.wrap ((((mulK [] xs (2 ^ s) k).2 : Nat) : Int) + IntKind.u64.wrap (((xs[k]?.getD 0 : Nat) : Int) * 2 ^ s)) = (S : Int)) := by
        show _ = _
        rw [cast_shl, Nat.mul_comm, wrap_nat, Nat.mod_eq_of_lt (by omega), IntKind.wrap_u64]
        omega
      have HS : Hid (mulK [] xs (2 ^ s) (k + 1) = ((mulK [] xs (2 ^ s) k).1 ++ [S % 4294967296], S / 4294967296)) := by show _ = _; rw [hS]; rfl
      clear hS
      have hSb : S < 18446744073709551616 := by have := HX.out; rw [IntKind.wrap_u64] at this; omega
      go_wp2_with (at_builtin; refine wpList_append_u32 _ rfl _ _ rfl w.heap.size _ _ rfl HO.out _ (S % 4294967296) 1 (by rw [HX.out]; omega) (by have := HLn.out; omega) HBl.out.size rfl ?_; intro u' w1 hO1 hg1)
      go_roundw
      case rel =>
        refine ⟨k + 1, by omega, by go_num, ?_, hO1.eq ?_, HO.out.below HBl.out HBl.out.size hg1⟩
        · rw [HX.out, HS.out]
          exact congrArg (Value.int IntKind.u64) (Int.natCast_ediv _ _).symm
        · rw [HS.out]
      case measure => simp [intOf]; omega
    · obtain rfl : k = n := by omega
      have hgd : Hid (Good ((mulK [] xs (2 ^ s) k).1 ++ [(mulK [] xs (2 ^ s) k).2])) := (mulK_good _ _ _ _).append (Good.nil.cons hc32)
      have hlen : Hid (((mulK [] xs (2 ^ s) k).1 ++ [(mulK [] xs (2 ^ s) k).2]).length = k + 1) := by show _ = _; rw [List.length_append, HLn.out]; rfl
      have hvs : Hid (val ((mulK [] xs (2 ^ s) k).1 ++ [(mulK [] xs (2 ^ s) k).2]) = v) := by
        show _ = _
        have e := mulK_val [] xs (2 ^ s) k
        rw [val_snoc, mulK_len, e, List.take_of_length_le (by rw [HA.out.len]; exact Nat.le_refl _), ← HV.out]
        simp only [List.take_nil, val_nil, Nat.add_zero]
      go_wp2_with (at_builtin; refine wpList_append_u32 _ rfl _ _ rfl w.heap.size _ _ rfl HO.out _ ((mulK [] xs (2 ^ s) k).2) 1 (by omega) (by have := HLn.out; omega) HBl.out.size rfl ?_; intro u1 w1 hO1 hg1)
      go_ret
      obtain ⟨A1, c1, rfl, hL1⟩ := hO1.lm hgd.out
      rw [hlen.out] at hL1 hO1 ⊢
      exact ⟨A1, c1, _, rfl, hO1, hgd.out, hlen.out, hvs.out, HO.out.below HBl.out HBl.out.size hg1⟩

set_option maxRecDepth 100000 in
set_option maxHeartbeats 1000000 in
theorem rshort_any (w : World) (A : Option Addr) (n c d : Nat) (xs : List Nat) (v : Nat) (hA : Lm w w.heap.size A n c xs) (hn : n ≤ 100000000) (hd : 0 < d) (hd9 : d < 4294967296) (hv : val xs = v) :
    Calls Try.prog 44 #[.slice A n c, .int .u32 (d : Int)] w (RD w (v / d) (v % d)) := by
  have h1 := hA.cap
  have h2 := hA.max
  have hG := hA.good
  have hn' := hA.len
  have HA := Lib.hid hA
  have HV := Lib.hid hv
  have hd0 : ¬ ((d : Int) = 0) := by omega
  clear hA hv
  have hmk := fun w => run_make_u32 (n : Int) (n : Int) n rfl rfl (by omega) w
  go_enter Try.func44, Try.ntmps44
  go_wp2
  clear hmk
  go_loopw [7, 8] (fun r i wr => ∃ k : Nat, k ≤ n ∧ i = .int .i64 ((k : Int) - 1) ∧ r = .int .u64 ((dvL d (xs.drop k)).2 : Nat) ∧ Ld wr w.heap.size (zer k ++ (dvL d (xs.drop k)).1) ∧ Below w.heap.size w wr) (fun _ i _ => (intOf i + 1).toNat)
  case atStart => exact ⟨n, Nat.le_refl _, rfl, by rw [List.drop_of_length_le (by omega)]; rfl, by rw [List.drop_of_length_le (by omega)]; show Ld _ _ (zer n ++ []); rw [List.append_nil]; exact Ld.new _ _, (Below.refl _ _).alloc (Nat.le_refl _) _⟩
  case round =>
    obtain ⟨k, hk, rfl, rfl, hO, hb⟩ := hrel
    have HO := Lib.hid hO
    have HBl := Lib.hid hb
    have hgs := hO.lt
    clear hO hb
    have hlen : (zer k ++ (dvL d (xs.drop k)).1).length = n := by rw [List.length_append, dvL_len, zer_len, List.length_drop]; omega
    have HLen := Lib.hid hlen
    have hr := dvL_lt hd (xs.drop k)
    rcases k with _ | k
    · have HQ := Lib.hid (dvL_quot hd xs)
      have HGq := Lib.hid (dvL_good hd hG)
      have HL : Hid (Lm wr wr.heap.size (some ⟨w.heap.size, 0, none⟩) n n (dvL d xs).1) := by
        have e := HO.out.lm (by rw [List.drop_zero]; exact (zer_good 0).append HGq.out) (off := 0) (n := n) (c := n) (by omega) (Nat.le_refl _) (by omega)
        rw [List.drop_zero, List.take_of_length_le (by omega)] at e
        exact e
      have HVq : Hid (val (dvL d xs).1 = v / d) := by show _ = _; rw [HQ.out.1, HV.out]
      have HVr : Hid (val [(dvL d xs).2] = v % d) := by show _ = _; rw [val_one, HQ.out.2, HV.out]
      rw [List.drop_zero] at hr ⊢
      clear hlen hn'
      go_wp2_with fail
      refine (rtrim_any _ _ _ _ _ (v / d) HL.out HVq.out (by omega)).mono ?_
      rintro e w1 ⟨A1, c1, rfl, hL1, hb1⟩
      have HL1 := Lib.hid hL1
      have HB1 := Lib.hid (HBl.out.trans (hb1.mono HBl.out.size))
      clear hL1 hb1
      go_wp2_with fail
      refine (rtrim_any _ _ _ _ _ (v % d) (Lm.one w1 (dvL d xs).2 _ (by omega) (by omega)) HVr.out (by omega)).mono ?_
      rintro e w2 ⟨A2, c2, rfl, hL2, hb2⟩
      go_wp2
      go_ret2
      exact ⟨A1, c1, A2, c2, rfl, HL1.out.via (bbox hb2), hL2, HB1.out.trans ((bbox hb2).mono HB1.out.size)⟩
    · have hct := HO.out.cell (i := k) (by omega)
      have hfr := HO.out.frozen k
      obtain ⟨b, bo, rfl, hbb, hcx⟩ := (HA.out.below HBl.out).cell (k := k) (by omega)
      have hxg := hG.get k
      have HStep : Hid (dvL d (xs.drop k) = (((dvL d (xs.drop (k + 1))).2 * 4294967296 + xs[k]?.getD 0) / d :: (dvL d (xs.drop (k + 1))).1, ((dvL d (xs.drop (k + 1))).2 * 4294967296 + xs[k]?.getD 0) % d)) := by
        show _ = _
        rw [drop_cons_ xs k (by omega)]; rfl
      have hq : ((dvL d (xs.drop (k + 1))).2 * 4294967296 + xs[k]?.getD 0) / d < 4294967296 := by
        rw [Nat.div_lt_iff_lt_mul hd]
        have : ((dvL d (xs.drop (k + 1))).2 + 1) * 4294967296 ≤ d * 4294967296 := Nat.mul_le_mul_right _ hr
        omega
      obtain ⟨T, hT⟩ : ∃ T : Nat, T = (dvL d (xs.drop (k + 1))).2 * 4294967296 + xs[k]?.getD 0 := ⟨_, rfl⟩
      have hTi : (((dvL d (xs.drop (k + 1))).2 : Nat) : Int) * 4294967296 + ((xs[k]?.getD 0 : Nat) : Int) = (T : Int) := by rw [hT]; omega
      rw [← hT] at hq HStep
      have hT9 : T < 18446744073709551616 := by omega
      clear hT hlen hn'
      have HQ : Hid (IntKind.u64.wrap ((T : Int) / (d : Int)) % 4294967296 = ((T / d : Nat) : Int)) := by
        show _ = _
        rw [← Int.natCast_ediv, wrap_nat]
        generalize T / d = q at hq ⊢
        omega
      have HR : Hid ((T : Int) % (d : Int) = ((T % d : Nat) : Int)) := by
        show _ = _
        rw [← Int.natCast_emod]
      go_wp2
      go_roundw
      case rel =>
        refine ⟨k, by omega, by go_num, ?_, ?_, HBl.out.setCell (p := ⟨w.heap.size, k, none⟩) (Nat.le_refl _) _⟩
        · rw [HStep.out]
          exact congrArg (Value.int IntKind.u64) HR.out
        · rw [HQ.out, HStep.out]
          have e := HO.out.set_ k (T / d)
          have e2 : (zer (k + 1) ++ (dvL d (xs.drop (k + 1))).1).set k (T / d) = zer k ++ (T / d :: (dvL d (xs.drop (k + 1))).1) := by
            have e3 := set_mid (zer k) [] ([0] ++ (dvL d (xs.drop (k + 1))).1) (T / d) (by simp)
            rw [zer_len] at e3
            have e4 : zer (k + 1) = zer k ++ [0] := by unfold zer; exact List.replicate_succ'
            rw [e4, List.append_assoc]
            exact e3
          rw [e2] at e
          exact e
      case measure => simp [intOf]
end Go.Proofs.Ytkajmglpmdhmnaa

/- The reference's long division, in numbers. -/
namespace Go.Proofs.Ytkajmglpmdhmnaa
open Go.RowKit

/-- The reference's two carries together are the code's one. -/
theorem dg_step {S c b m p : Nat} (hS : c + b = S) (hb : b ≤ 1) (hp : p < 4294967296) :
    (p + 8589934592 - (c + m) % 4294967296 - b) % 4294967296 = (p + 4294967296 - (S + m) % 4294967296) % 4294967296 ∧
    (c + m) / 4294967296 + (if p < (c + m) % 4294967296 + b then 1 else 0) = (S + m) / 4294967296 + (if p < (S + m) % 4294967296 then 1 else 0) := by
  subst hS
  constructor
  · omega
  · split <;> split <;> omega

/-- What is left once nothing is to be borrowed. -/
theorem dg_done {X V T q : Nat} (hV : 0 < V) (h : T + V * q = X) (hq : X / V ≤ q) : X / V = q ∧ T = X % V := by
  have h1 : q ≤ X / V := by
    rw [Nat.le_div_iff_mul_le hV, Nat.mul_comm]
    omega
  have h2 : X / V = q := by omega
  refine ⟨h2, ?_⟩
  have h3 := Nat.div_add_mod X V
  rw [h2] at h3
  omega
/-- As long as something is to be borrowed, the digit is too great. -/
theorem dg_more {X V T q P : Nat} (_ : 0 < V) (h : T + V * q = X + P) (hT : T < P) : 1 ≤ q ∧ X / V ≤ q - 1 := by
  have h1 : X < V * q := by omega
  have h2 : X / V < q := Nat.div_lt_of_lt_mul h1
  generalize X / V = z at *
  exact ⟨by omega, by omega⟩
/-- Adding the divisor back: the carry is 0 or 1. -/
theorem dg_back {X V T T' q P cy : Nat} (hq : 1 ≤ q) (h : T + V * q = X + P) (hb : T' + P * cy = T + V) (hc : cy ≤ 1) : T' + V * (q - 1) = X + P * (1 - cy) := by
  have e : V * q = V * (q - 1) + V := by
    obtain ⟨r, rfl⟩ : ∃ r, q = r + 1 := ⟨q - 1, by omega⟩
    rw [Nat.add_sub_cancel, Nat.mul_add, Nat.mul_one]
  rcases Nat.eq_zero_or_pos cy with h0 | h0
  · subst h0; simp at hb ⊢; omega
  · obtain rfl : cy = 1 := by omega
    simp at hb ⊢; omega

/-! ### The rest moved back to the right -/
def shrL (s : Nat) (rs : List Nat) : Nat → List Nat
  | 0 => []
  | k + 1 => shrL s rs k ++ [(rs[k]?.getD 0 + 4294967296 * rs[k + 1]?.getD 0) / 2 ^ s % 4294967296]
theorem shrL_len (s : Nat) (rs : List Nat) (k : Nat) : (shrL s rs k).length = k := by
  induction k with
  | zero => rfl
  | succ k ih => unfold shrL; rw [List.length_append, ih]; rfl
theorem limb_at {rs : List Nat} (g : Good rs) (k : Nat) : val rs / 4294967296 ^ k = rs[k]?.getD 0 + 4294967296 * val (rs.drop (k + 1)) := by
  rw [← val_drop rs g k, val_step]
theorem pow_split (s : Nat) (hs : s < 32) : (4294967296 : Nat) = 2 ^ s * 2 ^ (32 - s) := by
  rw [← Nat.pow_add, show s + (32 - s) = 32 by omega]
theorem shr_limb {rs : List Nat} (g : Good rs) (s : Nat) (hs : s < 32) (k : Nat) : val rs / 2 ^ s / 4294967296 ^ k % 4294967296 = (rs[k]?.getD 0 + 4294967296 * rs[k + 1]?.getD 0) / 2 ^ s % 4294967296 := by
  rw [Nat.div_div_eq_div_mul, Nat.mul_comm, ← Nat.div_div_eq_div_mul, limb_at g k, val_step]
  generalize rs[k]?.getD 0 = x
  generalize rs[k + 1]?.getD 0 = y
  generalize val (rs.drop (k + 1 + 1)) = z
  have e : x + 4294967296 * (y + 4294967296 * z) = (x + 4294967296 * y) + 2 ^ s * (4294967296 * (2 ^ (32 - s) * z)) := by
    have e1 : 2 ^ s * (4294967296 * (2 ^ (32 - s) * z)) = 4294967296 * (4294967296 * z) := by
      rw [Nat.mul_left_comm, ← Nat.mul_assoc (2 ^ s), ← pow_split s hs]
    rw [e1]; omega
  rw [e, Nat.add_mul_div_left _ _ (Nat.pow_pos (by omega)), Nat.add_mul_mod_self_left]
theorem shrL_lims {rs : List Nat} (g : Good rs) (s : Nat) (hs : s < 32) (k : Nat) : shrL s rs k = lims (val rs / 2 ^ s) k := by
  induction k with
  | zero => rfl
  | succ k ih => unfold shrL lims; rw [ih, shr_limb g s hs k]
theorem shrL_val {rs : List Nat} (g : Good rs) (s : Nat) (hs : s < 32) {n : Nat} (hn : rs.length = n) : val (shrL s rs n) = val rs / 2 ^ s := by
  rw [shrL_lims g s hs, lims_val]
  have h := val_lt g
  rw [hn] at h
  exact Nat.mod_eq_of_lt (Nat.lt_of_le_of_lt (Nat.div_le_self _ _) h)
end Go.Proofs.Ytkajmglpmdhmnaa

/- The reference's digit. -/
namespace Go.Proofs.Ytkajmglpmdhmnaa
open Go.RowKit

theorem spl_get {cs M : List Nat} {off k : Nat} (h : off + M.length ≤ cs.length) (hk : k < M.length) : (spl cs off M)[off + k]?.getD 0 = M[k]?.getD 0 := by
  have hl : (cs.take off).length = off := by rw [List.length_take]; omega
  unfold spl
  rw [List.getElem?_append_right (by omega), hl, Nat.add_sub_cancel_left, List.getElem?_append_left hk]
theorem spl_seti {cs M : List Nat} {off k : Nat} (t : Nat) (h : off + M.length ≤ cs.length) (hk : k < M.length) : (spl cs off M).set (off + k) t = spl cs off (M.set k t) := by
  have hl : (cs.take off).length = off := by rw [List.length_take]; omega
  unfold spl
  rw [List.set_append_right _ _ (by omega), hl, Nat.add_sub_cancel_left, List.set_append_left _ _ hk, List.length_set]

set_option maxRecDepth 100000 in
set_option maxHeartbeats 4000000 in
theorem rdigit_any (w : World) (g off c n cb : Nat) (B : Option Addr) (cs ys : List Nat) (V : Nat) (hO : Ob w g cs) (hG : Good cs) (hB : Lm w g B n cb ys) (hn2 : 2 ≤ n) (hn9 : n ≤ 1000000000) (hc : n + 1 ≤ c) (hc9 : c ≤ 9223372036854775807)
    (hoff : off + n < cs.length) (hV : val ys = V) (hV0 : 0 < V) (h1 : 1 ≤ ys[n - 1]?.getD 0) (hle : cs[off + n]?.getD 0 ≤ ys[n - 1]?.getD 0)
    (hX : val ((cs.drop off).take (n + 1)) / V ≤ gs (ys[n - 1]?.getD 0) (ys[n - 2]?.getD 0) (cs[off + n]?.getD 0) (cs[off + (n - 1)]?.getD 0) (cs[off + (n - 2)]?.getD 0)) :
    Calls Try.prog 46 #[.slice (some ⟨g, off, none⟩) (n + 1) c, .slice B n cb] w fun e w' => e = .returned (.int .u32 ((val ((cs.drop off).take (n + 1)) / V : Nat) : Int)) ∧
      (∃ P, P.length = n + 1 ∧ Good P ∧ val P = val ((cs.drop off).take (n + 1)) % V ∧ Ob w' g (spl cs off P)) ∧ w.grownBy w' (some g) := by
  have hcap := hB.cap
  have hmax := hB.max
  have g1 := hB.good.get (n - 1)
  have g2 := hB.good.get (n - 2)
  have gh := hG.get (off + n)
  have gu1 := hG.get (off + (n - 1))
  have gu2 := hG.get (off + (n - 2))
  have ch := hO.cell (i := off + n) (by omega)
  have cu1 := hO.cell (i := off + (n - 1)) (by omega)
  have cu2 := hO.cell (i := off + (n - 2)) (by omega)
  have hgs := hO.lt
  have HO := Lib.hid hO
  have HG := Lib.hid hG
  have HB := Lib.hid hB
  have HV := Lib.hid hV
  have HOff := Lib.hid hoff
  obtain ⟨X, HXd⟩ : ∃ X, Hid (X = val ((cs.drop off).take (n + 1))) := ⟨_, rfl⟩
  rw [← HXd.out] at hX ⊢
  obtain ⟨bb, bo, rfl, hbb, cb1⟩ := hB.cell (k := n - 1) (by omega)
  obtain ⟨bb', bo', e, _, cb2⟩ := hB.cell (k := n - 2) (by omega)
  cases e
  clear hO hB hG hV
  generalize ys[n - 1]?.getD 0 = b1 at *
  generalize ys[n - 2]?.getD 0 = b2 at *
  generalize cs[off + n]?.getD 0 = h at *
  generalize cs[off + (n - 1)]?.getD 0 = u1 at *
  generalize cs[off + (n - 2)]?.getD 0 = u2 at *
  have i1 : ((n : Int) - 1).toNat = n - 1 := by omega
  have i2 : ((n : Int) - 2).toNat = n - 2 := by omega
  obtain ⟨hi, hhi⟩ : ∃ hi : Nat, hi = h * 4294967296 + u1 := ⟨_, rfl⟩
  have hq0' : (hi : Int) / (b1 : Int) = ((hi / b1 : Nat) : Int) := by rw [← Int.natCast_ediv]
  have hr0' : (hi : Int) % (b1 : Int) = ((hi % b1 : Nat) : Int) := by rw [← Int.natCast_emod]
  have hq0 : (hi : Int).tdiv (b1 : Int) = ((hi / b1 : Nat) : Int) := by rw [Int.tdiv_eq_ediv_of_nonneg (by omega), ← Int.natCast_ediv]
  have hr0 : (hi : Int).tmod (b1 : Int) = ((hi % b1 : Nat) : Int) := by rw [Int.tmod_eq_emod_of_nonneg (by omega), ← Int.natCast_emod]
  have hb0 : ¬ ((b1 : Int) = 0) := by omega
  have hdm := Nat.div_add_mod hi b1
  have hrl := Nat.mod_lt hi (show 0 < b1 by omega)
  have hD9 := Nat.div_le_self hi b1
  generalize hi / b1 = D0 at *
  generalize hi % b1 = R0 at *
  have hi9 : hi < 18446744073709551616 := by omega
  have hbit : IntKind.u64.wrap ((h : Int) * 4294967296 + (u1 : Int)) = (hi : Int) := by rw [IntKind.wrap_u64]; omega
  obtain ⟨Q, hQ⟩ : ∃ Q, Q = gs b1 b2 h u1 u2 := ⟨_, rfl⟩
  have hQ0 : Q ≤ D0 := by rw [hQ]; exact gs_start gu2 (by rw [← hhi]; exact hdm) hrl
  rw [← hQ] at hX
  have HI := Lib.hid hhi
  have HQ := Lib.hid hQ
  have HXq := Lib.hid hX
  clear hhi hQ hX
  go_enter Try.func46, Try.ntmps46
  go_wp2
  go_quiet (fail)
  go_wp2
  go_quiet (fail)
  go_upto_block 0 with (fail)
  go_cut [7] (fun s7 wx => ∃ D d : Nat, s7 = .int .u64 (D : Int) ∧ Q ≤ D ∧ D ≤ 4294967295 ∧ wx = w.drewN d)
  case first =>
    go_wp2
    go_loopw [7, 8] (fun x r wr => ∃ D R d : Nat, x = .int .u64 (D : Int) ∧ r = .int .u64 (R : Int) ∧ D * b1 + R = hi ∧ Q ≤ D ∧ wr = w.drewN d) (fun x _ _ => (intOf x).toNat)
    case atStart => exact ⟨D0, R0, _, rfl, rfl, by rw [Nat.mul_comm]; exact hdm, hQ0, drewN_add w _ _⟩
    case round =>
      obtain ⟨D, R, d, rfl, rfl, hDR, hQD, rfl⟩ := hrel
      have hDle : D ≤ hi := by
        have := Nat.le_mul_of_pos_right D (show 0 < b1 by omega)
        omega
      have hRle : R ≤ hi := by omega
      have HDR := Lib.hid hDR
      clear hDR
      by_cases hd : 4294967296 ≤ D
      · have hlt : Q < D := by rw [HQ.out]; exact gs_lt (by omega) (by rw [← HI.out]; exact HDR.out) (.inl (by omega))
        have HDM : Hid ((D - 1) * b1 + (R + b1) = D * b1 + R) := by show _ = _; rw [Nat.sub_mul, Nat.one_mul]; have := Nat.le_mul_of_pos_left b1 (show 0 < D by omega); omega
        have hRb : R + b1 ≤ hi := by have := HDM.out; have := HDR.out; omega
        have hdi : (4294967296 : Int) ≤ (D : Int) := by omega
        go_wp2_with fail
        go_quiet (fail)
        go_wp2
        all_goals
          first
          | (go_meet; exact ⟨D - 1, _, by go_num, by omega, by omega, by first | exact drewN_add w _ _ | rfl⟩)
          | (go_roundw
             case rel => exact ⟨D - 1, R + b1, _, by go_num, by go_num, by rw [← HDR.out]; exact HDM.out, by omega, rfl⟩
             case measure => simp [intOf]; omega)
      · have hdd : decide ((4294967296 : Int) ≤ (D : Int)) = false := by simp; omega
        by_cases hR : R < 4294967296
        · have hRi : (R : Int) < 4294967296 := by omega
          have hmul := mul_bd (show D < 4294967296 by omega) g2
          obtain ⟨T, hT⟩ : ∃ T : Nat, T = R * 4294967296 + u2 := ⟨_, rfl⟩
          have hbit2 : IntKind.u64.wrap ((R : Int) * 4294967296 + (u2 : Int)) = (T : Int) := by rw [IntKind.wrap_u64]; omega
          have HT := Lib.hid hT
          clear hT
          by_cases hp : T < D * b2
          · have hlt : Q < D := by rw [HQ.out]; exact gs_lt (by omega) (by rw [← HI.out]; exact HDR.out) (.inr (by rw [← HT.out]; exact hp))
            have HDM : Hid ((D - 1) * b1 + (R + b1) = D * b1 + R) := by show _ = _; rw [Nat.sub_mul, Nat.one_mul]; have := Nat.le_mul_of_pos_left b1 (show 0 < D by omega); omega
            have hRb : R + b1 ≤ hi := by have := HDM.out; have := HDR.out; omega
            have hpi : (T : Int) < (D : Int) * (b2 : Int) := by rw [← Int.natCast_mul]; omega
            clear hp
            by_cases hR2 : R + b1 < 4294967296
            case' pos => have hR2i : (R : Int) + (b1 : Int) < 4294967296 := by omega
            case' pos => have hR2d : decide ((4294967296 : Int) ≤ (R : Int) + (b1 : Int)) = false := by simp; omega
            case' neg => have hR2i : (4294967296 : Int) ≤ (R : Int) + (b1 : Int) := by omega
            all_goals have hD1i : (D : Int) - 1 < 4294967296 := by omega
            all_goals clear hR2
            all_goals
              go_wp2_with fail
              go_quiet (fail)
              go_wp2
            · go_meet
              exact ⟨D - 1, _, by go_num, by omega, by omega, by first | exact drewN_add w _ _ | rfl⟩
            · go_roundw
              case rel => exact ⟨D - 1, R + b1, _, by go_num, by go_num, by rw [← HDR.out]; exact HDM.out, by omega, rfl⟩
              case measure => simp [intOf]; omega
          · have hpd : decide ((T : Int) < (D : Int) * (b2 : Int)) = false := by rw [← Int.natCast_mul]; simp; omega
            go_wp2_with fail
            go_quiet (fail)
            go_wp2
            go_meet
            exact ⟨D, _, rfl, hQD, by omega, drewN_add w _ _⟩
        · have hRd : decide ((R : Int) < 4294967296) = false := by simp; omega
          go_wp2_with fail
          go_quiet (fail)
          go_wp2
          go_meet
          exact ⟨D, _, rfl, hQD, by omega, drewN_add w _ _⟩
  case rest =>
    obtain ⟨D, d, rfl, hQD, hDq, rfl⟩ := hcut
    clear hq0' hr0' hq0 hr0 hb0 hdm hrl hD9 hbit hQ0 hle i1 i2 ch cu1 cu2 cb1 cb2 gh gu1 gu2 g2 hi9 HI hoff
    have HXD : Hid (X / V ≤ D) := Nat.le_trans HXq.out hQD
    clear HXq hQD HQ
    have HCar := Lib.hid (fun k => sbK_carry (HG.out.drop off) HB.out.good (show D < 4294967296 by omega) k)
    go_wp2
    go_loopw [9, 10, 11] (fun bw cy i wr => ∃ k cc bw' : Nat, k ≤ n + 1 ∧ i = .int .i64 k ∧ cy = .int .u64 (cc : Int) ∧ bw = .int .i64 (bw' : Int) ∧ bw' ≤ 1 ∧ cc + bw' = (sbK (cs.drop off) ys D k).2 ∧ (n < k → cc = 0) ∧ Ob wr g (spl cs off (sbK (cs.drop off) ys D k).1) ∧ w.grownBy wr (some g)) (fun _ _ i _ => n + 1 - (intOf i).toNat)
    case atStart => exact ⟨0, 0, 0, Nat.zero_le _, rfl, rfl, rfl, Nat.zero_le _, rfl, fun _ => rfl, by show Ob _ g (spl cs off []); rw [spl_nil]; exact HO.out, grownBy_drewN (World.grownBy.refl w _) d⟩
    case round =>
      obtain ⟨k, cc, bw, hk, rfl, rfl, rfl, hbw, hcb, hcz, hOk, hgk⟩ := hrel
      by_cases hkn : k ≤ n
      · have hoff := HOff.out
        have hln := sbK_len (cs.drop off) ys D k
        have hct := hOk.cell (i := off + k) (by rw [spl_len (by omega)]; omega)
        have hat := spl_at (cs := cs) (off := off) (ts := (sbK (cs.drop off) ys D k).1) (by omega)
        rw [hln] at hat
        rw [hat] at hct
        have hfr := hOk.frozen (off + k)
        have hpg := HG.out.get (off + k)
        have hcl := HCar.out k
        have hyg := HB.out.good.get k
        have hmul := mul_bd (show D < 4294967296 by omega) hyg
        have HCb := Lib.hid hcb
        have HOk := Lib.hid hOk
        have HGk := Lib.hid hgk
        have HLn := Lib.hid hln
        have hcl2 : cc < 4294967296 := by omega
        clear hcb hOk hgk hln hat hcl hcz hoff
        have HFin : Hid (∀ (wz : World) (E bw2 : Nat), E = cc + ys[k]?.getD 0 * D → bw2 = (if cs[off + k]?.getD 0 < E % 4294967296 + bw then 1 else 0) → Ob wz g ((spl cs off (sbK (cs.drop off) ys D k).1).set (off + k) ((cs[off + k]?.getD 0 + 8589934592 - E % 4294967296 - bw) % 4294967296)) → w.grownBy wz (some g) →
            ∃ k' cc' bw' : Nat, k' ≤ n + 1 ∧ Value.int .i64 ((k : Int) + 1) = .int .i64 k' ∧ Value.int .u64 ((E : Int) / 4294967296) = .int .u64 (cc' : Int) ∧ Value.int .i64 (bw2 : Int) = .int .i64 (bw' : Int) ∧ bw' ≤ 1 ∧ cc' + bw' = (sbK (cs.drop off) ys D k').2 ∧ (n < k' → cc' = 0) ∧ Ob wz g (spl cs off (sbK (cs.drop off) ys D k').1) ∧ w.grownBy wz (some g)) := by
          intro wz E bw2 h1 h2 h3 h4
          have hst := dg_step (m := ys[k]?.getD 0 * D) HCb.out hbw hpg
          rw [← h1, ← h2] at hst
          have hdr : (cs.drop off)[k]?.getD 0 = cs[off + k]?.getD 0 := by rw [List.getElem?_drop]
          have e2 : (sbK (cs.drop off) ys D (k + 1)).2 = ((sbK (cs.drop off) ys D k).2 + ys[k]?.getD 0 * D) / 4294967296 + (if (cs.drop off)[k]?.getD 0 < ((sbK (cs.drop off) ys D k).2 + ys[k]?.getD 0 * D) % 4294967296 then 1 else 0) := rfl
          have e1 : (sbK (cs.drop off) ys D (k + 1)).1 = (sbK (cs.drop off) ys D k).1 ++ [((cs.drop off)[k]?.getD 0 + 4294967296 - ((sbK (cs.drop off) ys D k).2 + ys[k]?.getD 0 * D) % 4294967296) % 4294967296] := rfl
          rw [hdr] at e1 e2
          refine ⟨k + 1, E / 4294967296, bw2, by omega, by go_num, congrArg (Value.int IntKind.u64) (Int.natCast_ediv _ _).symm, rfl, by rw [h2]; split <;> omega, by rw [e2, hst.2], ?_, ?_, h4⟩
          · intro hlt
            have hz := getD_over (xs := ys) (k := k) (by rw [HB.out.len]; omega)
            rw [hz, Nat.zero_mul, Nat.add_zero] at h1
            rw [h1]
            exact Nat.div_eq_of_lt hcl2
          · have hs := spl_set (cs := cs) (off := off) (ts := (sbK (cs.drop off) ys D k).1) ((cs[off + k]?.getD 0 + 8589934592 - E % 4294967296 - bw) % 4294967296) (by have := HOff.out; rw [HLn.out]; omega)
            rw [HLn.out] at hs
            rw [e1, ← hst.1, ← hs]
            exact h3
        by_cases hkl : k < n
        · obtain ⟨b1', bo1', e1, _, hcy⟩ := (HB.out.grownLt HGk.out (Nat.le_of_lt hgs)).cell hkl
          cases e1
          obtain ⟨E, hE⟩ : ∃ E : Nat, E = cc + ys[k]?.getD 0 * D := ⟨_, rfl⟩
          rw [Nat.mul_comm] at hmul
          have hE9 : E < 18446744073709551616 := by omega
          have hEw : IntKind.u64.wrap ((cc : Int) + IntKind.u64.wrap ((D : Int) * ((ys[k]?.getD 0 : Nat) : Int))) = (E : Int) := by
            rw [← Int.natCast_mul, Nat.mul_comm, IntKind.wrap_u64, IntKind.wrap_u64]
            omega
          obtain ⟨m, hm⟩ : ∃ m, m = E % 4294967296 := ⟨_, rfl⟩
          have hand : bits .and .u64 (E : Int) 4294967295 = (m : Int) := by rw [and_low32 _ (by omega) (by omega), hm]; omega
          have hm9 : m < 4294967296 := by omega
          have HE := Lib.hid hE
          have HM := Lib.hid hm
          clear hE hmul hm
          by_cases hng : cs[off + k]?.getD 0 < m + bw
          · have hti : ((cs[off + k]?.getD 0 : Nat) : Int) - (m : Int) - (bw : Int) < 0 := by omega
            go_wp2
            go_roundw
            case rel =>
              have e3 : (((cs[off + k]?.getD 0 : Nat) : Int) - (m : Int) - (bw : Int) + 4294967296) = (((cs[off + k]?.getD 0 + 8589934592 - E % 4294967296 - bw) % 4294967296 : Nat) : Int) := by have := HM.out; omega
              rw [e3]
              exact HFin.out _ E 1 HE.out (by rw [if_pos (by have := HM.out; omega)]) (HOk.out.set_ (off + k) _) (grownBy_trans HGk.out (grownBy_setCellAt _ _ _ _))
            case measure => simp [intOf]; omega
          · have hti : 0 ≤ ((cs[off + k]?.getD 0 : Nat) : Int) - (m : Int) - (bw : Int) := by omega
            have htd : decide (((cs[off + k]?.getD 0 : Nat) : Int) - (m : Int) - (bw : Int) < 0) = false := by simp; omega
            go_wp2
            go_roundw
            case rel =>
              have e3 : (((cs[off + k]?.getD 0 : Nat) : Int) - (m : Int) - (bw : Int)) = (((cs[off + k]?.getD 0 + 8589934592 - E % 4294967296 - bw) % 4294967296 : Nat) : Int) := by have := HM.out; omega
              rw [e3]
              exact HFin.out _ E 0 HE.out (by rw [if_neg (by have := HM.out; omega)]) (HOk.out.set_ (off + k) _) (grownBy_trans HGk.out (grownBy_setCellAt _ _ _ _))
            case measure => simp [intOf]; omega
        · obtain rfl : k = n := by omega
          have hand : bits .and .u64 (cc : Int) 4294967295 = (cc : Int) := by rw [and_low32 _ (by omega) (by omega)]; omega
          have HZ : Hid (cc = cc + ys[k]?.getD 0 * D) := by
            show _ = _
            rw [getD_over (xs := ys) (k := k) (by rw [HB.out.len]; omega), Nat.zero_mul, Nat.add_zero]
          clear hmul
          by_cases hng : cs[off + k]?.getD 0 < cc + bw
          · have hti : ((cs[off + k]?.getD 0 : Nat) : Int) - (cc : Int) - (bw : Int) < 0 := by omega
            go_wp2
            go_roundw
            case rel =>
              have e3 : (((cs[off + k]?.getD 0 : Nat) : Int) - (cc : Int) - (bw : Int) + 4294967296) = (((cs[off + k]?.getD 0 + 8589934592 - cc % 4294967296 - bw) % 4294967296 : Nat) : Int) := by omega
              rw [e3]
              exact HFin.out _ cc 1 HZ.out (by rw [if_pos (by omega)]) (HOk.out.set_ (off + k) _) (grownBy_trans HGk.out (grownBy_setCellAt _ _ _ _))
            case measure => simp [intOf]
          · have hti : 0 ≤ ((cs[off + k]?.getD 0 : Nat) : Int) - (cc : Int) - (bw : Int) := by omega
            have htd : decide (((cs[off + k]?.getD 0 : Nat) : Int) - (cc : Int) - (bw : Int) < 0) = false := by simp; omega
            go_wp2
            go_roundw
            case rel =>
              have e3 : (((cs[off + k]?.getD 0 : Nat) : Int) - (cc : Int) - (bw : Int)) = (((cs[off + k]?.getD 0 + 8589934592 - cc % 4294967296 - bw) % 4294967296 : Nat) : Int) := by omega
              rw [e3]
              exact HFin.out _ cc 0 HZ.out (by rw [if_neg (by omega)]) (HOk.out.set_ (off + k) _) (grownBy_trans HGk.out (grownBy_setCellAt _ _ _ _))
            case measure => simp [intOf]
      · obtain rfl : k = n + 1 := by omega
        have hcc : cc = 0 := hcz (by omega)
        have HI3 : Hid (val (sbK (cs.drop off) ys D (n + 1)).1 + V * D = X + 4294967296 ^ (n + 1) * bw) := by
          show _ = _
          have e := sbK_val (xs := ys) (HG.out.drop off) D (n + 1)
          rw [List.take_of_length_le (by rw [HB.out.len]; omega), HV.out, ← HXd.out, ← hcb, hcc, Nat.zero_add] at e
          exact e
        have HOk := Lib.hid hOk
        have HGk := Lib.hid hgk
        have HLn := Lib.hid (sbK_len (cs.drop off) ys D (n + 1))
        have HTg := Lib.hid (sbK_good (cs.drop off) ys D (n + 1))
        clear hcb hcc hcz hOk hgk hkn hk
        go_wp2
        go_loopw [7, 9] (fun q bz wr' => ∃ (qq bb' : Nat) (T : List Nat), q = .int .u64 (qq : Int) ∧ bz = .int .i64 (bb' : Int) ∧ bb' ≤ 1 ∧ qq ≤ 4294967295 ∧ X / V ≤ qq ∧ T.length = n + 1 ∧ Good T ∧ val T + V * qq = X + 4294967296 ^ (n + 1) * bb' ∧ Ob wr' g (spl cs off T) ∧ w.grownBy wr' (some g)) (fun q _ _ => (intOf q).toNat)
        case atStart => exact ⟨D, bw, _, rfl, rfl, hbw, hDq, HXD.out, HLn.out, HTg.out, HI3.out, HOk.out, HGk.out⟩
        case round =>
          obtain ⟨qq, bb', T, rfl, rfl, hb1', hq9, hXq, hTl, hTG, hTv, hOT, hgT⟩ := hrel
          have HTl := Lib.hid hTl
          have HTG := Lib.hid hTG
          have HTv := Lib.hid hTv
          have HXq := Lib.hid hXq
          have HOT := Lib.hid hOT
          have HGT := Lib.hid hgT
          clear hTl hTG hTv hXq hOT hgT
          rcases Nat.eq_zero_or_pos bb' with h0 | h0
          · subst h0
            have HDn := Lib.hid (dg_done hV0 (by have e := HTv.out; rw [Nat.mul_zero, Nat.add_zero] at e; exact e) HXq.out)
            go_wp2
            go_ret
            exact ⟨ret_int (by rw [HDn.out.1]), ⟨T, HTl.out, HTG.out, HDn.out.2, HOT.out⟩, HGT.out⟩
          · obtain rfl : bb' = 1 := by omega
            have hTlt := val_lt HTG.out
            rw [HTl.out] at hTlt
            have hmo := dg_more hV0 (by have e := HTv.out; rw [Nat.mul_one] at e; exact e) hTlt
            have hq1 := hmo.1
            have HXq1 := Lib.hid hmo.2
            clear hmo hTlt
            go_wp2
            go_loopw [10, 13] (fun cy i wj => ∃ k : Nat, k ≤ n + 1 ∧ i = .int .i64 k ∧ cy = .int .u64 ((addK T ys k).2 : Nat) ∧ Ob wj g (spl cs off (spl T 0 (addK T ys k).1)) ∧ w.grownBy wj (some g)) (fun _ i _ => n + 1 - (intOf i).toNat)
            case atStart => exact ⟨0, Nat.zero_le _, rfl, rfl, by show Ob _ g (spl cs off (spl T 0 [])); rw [spl_nil]; exact HOT.out, HGT.out⟩
            case round =>
              obtain ⟨k, hk, rfl, rfl, hOj, hgj⟩ := hrel
              have HOj := Lib.hid hOj
              clear hOj
              have hcar := addK_carry HTG.out HB.out.good k
              have HAl := Lib.hid (addK_len T ys k)
              by_cases hkn : k ≤ n
              · have HMl : Hid ((spl T 0 (addK T ys k).1).length = n + 1) := by show _ = _; rw [spl_len (by rw [HAl.out, HTl.out]; omega), HTl.out]
                have hct := HOj.out.cell (i := off + k) (by have := HOff.out; rw [spl_len (by rw [HMl.out]; omega)]; omega)
                have hge : (spl cs off (spl T 0 (addK T ys k).1))[off + k]?.getD 0 = T[k]?.getD 0 := by
                  rw [spl_get (by have := HOff.out; rw [HMl.out]; omega) (by rw [HMl.out]; omega)]
                  have e := spl_at (cs := T) (off := 0) (ts := (addK T ys k).1) (by rw [HAl.out, HTl.out]; omega)
                  rw [HAl.out, Nat.zero_add] at e
                  exact e
                rw [hge] at hct
                have hfr := HOj.out.frozen (off + k)
                have hTg := HTG.out.get k
                have hyg := HB.out.good.get k
                have HFin : Hid (∀ (wz : World) (E : Int), E = (((addK T ys k).2 + (T[k]?.getD 0 + ys[k]?.getD 0) : Nat) : Int) → Ob wz g ((spl cs off (spl T 0 (addK T ys k).1)).set (off + k) (((addK T ys k).2 + (T[k]?.getD 0 + ys[k]?.getD 0)) % 4294967296)) → w.grownBy wz (some g) →
                    ∃ k' : Nat, k' ≤ n + 1 ∧ Value.int .i64 ((k : Int) + 1) = .int .i64 k' ∧ Value.int .u64 (E / 4294967296) = .int .u64 ((addK T ys k').2 : Nat) ∧ Ob wz g (spl cs off (spl T 0 (addK T ys k').1)) ∧ w.grownBy wz (some g)) := by
                  intro wz E h1 h2 h3
                  refine ⟨k + 1, by omega, by go_num, ?_, ?_, h3⟩
                  · rw [h1]
                    exact congrArg (Value.int IntKind.u64) (Int.natCast_ediv _ _).symm
                  · rw [spl_seti _ (by have := HOff.out; rw [HMl.out]; omega) (by rw [HMl.out]; omega)] at h2
                    have e := spl_set (cs := T) (off := 0) (ts := (addK T ys k).1) (((addK T ys k).2 + (T[k]?.getD 0 + ys[k]?.getD 0)) % 4294967296) (by rw [HAl.out, HTl.out]; omega)
                    rw [HAl.out, Nat.zero_add] at e
                    rw [e] at h2
                    exact h2
                clear hge
                by_cases hkl : k < n
                · obtain ⟨b1', bo1', e1, _, hcy⟩ := (HB.out.grownLt hgj (Nat.le_of_lt hgs)).cell hkl
                  cases e1
                  go_wp2
                  go_roundw
                  case rel =>
                    refine HFin.out _ _ (by omega) ?_ (grownBy_trans hgj (grownBy_setCellAt _ _ _ _))
                    have e := HOj.out.set_ (off + k) (((addK T ys k).2 + (T[k]?.getD 0 + ys[k]?.getD 0)) % 4294967296)
                    have e3 : ((((addK T ys k).2 + (T[k]?.getD 0 + ys[k]?.getD 0)) % 4294967296 : Nat) : Int) = (((addK T ys k).2 : Nat) + ((T[k]?.getD 0 : Nat) : Int) + ((ys[k]?.getD 0 : Nat) : Int)) % 4294967296 := by omega
                    rw [e3] at e
                    exact e
                  case measure => simp [intOf]; omega
                · obtain rfl : k = n := by omega
                  have HZ := Lib.hid (getD_over (xs := ys) (k := k) (by rw [HB.out.len]; omega))
                  go_wp2
                  go_roundw
                  case rel =>
                    have hz := HZ.out
                    refine HFin.out _ _ (by omega) ?_ (grownBy_trans hgj (grownBy_setCellAt _ _ _ _))
                    have e := HOj.out.set_ (off + k) (((addK T ys k).2 + (T[k]?.getD 0 + ys[k]?.getD 0)) % 4294967296)
                    have e3 : ((((addK T ys k).2 + (T[k]?.getD 0 + ys[k]?.getD 0)) % 4294967296 : Nat) : Int) = (((addK T ys k).2 : Nat) + ((T[k]?.getD 0 : Nat) : Int)) % 4294967296 := by omega
                    rw [e3] at e
                    exact e
                  case measure => simp [intOf]
              · obtain rfl : k = n + 1 := by omega
                have HE : Hid (spl T 0 (addK T ys (n + 1)).1 = (addK T ys (n + 1)).1) := by
                  show T.take 0 ++ ((addK T ys (n + 1)).1 ++ T.drop (0 + (addK T ys (n + 1)).1.length)) = _
                  rw [HAl.out, List.drop_of_length_le (by rw [HTl.out]; omega), List.append_nil]; rfl
                have HBk : Hid (val (addK T ys (n + 1)).1 + V * (qq - 1) = X + 4294967296 ^ (n + 1) * (1 - (addK T ys (n + 1)).2)) := by
                  refine dg_back hq1 (by have e := HTv.out; rw [Nat.mul_one] at e; exact e) ?_ hcar
                  rw [addK_val, List.take_of_length_le (by rw [HTl.out]; exact Nat.le_refl _), List.take_of_length_le (by rw [HB.out.len]; omega), HV.out]
                go_wp2
                go_roundw
                case rel =>
                  refine ⟨qq - 1, 1 - (addK T ys (n + 1)).2, (addK T ys (n + 1)).1, by go_num, by go_num, by omega, by omega, HXq1.out, HAl.out, addK_good _ _ _, HBk.out, ?_, hgj⟩
                  have e := HOj.out
                  rw [HE.out] at e
                  exact e
                case measure => simp [intOf]; omega
end Go.Proofs.Ytkajmglpmdhmnaa

/- The reference's over. -/
namespace Go.Proofs.Ytkajmglpmdhmnaa
open Go.RowKit

set_option maxRecDepth 100000 in
set_option maxHeartbeats 1000000 in
theorem rover_less (w : World) (A B : Option Addr) (n m ca cb b v : Nat) (xs : List Nat) (hA : Lm w w.heap.size A n ca xs) (hB : Lm w w.heap.size B m cb (digs b)) (hv : val xs = v) (hC : cmpL xs (digs b) = -1) (hlt : v < b) (hn9 : n ≤ 1000000) :
    Calls Try.prog 28 #[.slice A n ca, .slice B m cb] w (RD w (v / b) (v % b)) := by
  have HC := Lib.hid hC
  have HA := Lib.hid hA
  have HB := Lib.hid hB
  have HV := Lib.hid hv
  have hcB := hB.cap
  have hxB := hB.max
  rw [Nat.div_eq_of_lt hlt, Nat.mod_eq_of_lt hlt]
  clear hA hB hlt hv hC
  go_enter Try.func28, Try.ntmps28
  go_wp2_with fail
  refine (rcompare_any A B n m ca cb xs (digs b) w HA.out HB.out).mono ?_
  rintro e w1 ⟨he, d, rfl⟩
  rw [HC.out] at he
  subst he
  go_wp2_with fail
  refine (rtrim_any _ _ _ _ xs v (HA.out.drewN d) HV.out (by omega)).mono ?_
  rintro e w2 ⟨A2, c2, rfl, hL2, hb2⟩
  go_wp2
  go_ret2
  refine ⟨none, 0, A2, c2, rfl, Lm.nil _ _, hL2, (bdrewN (Below.refl w.heap.size w) d).trans hb2⟩

set_option maxRecDepth 100000 in
set_option maxHeartbeats 1000000 in
theorem rover_one (w : World) (A B : Option Addr) (n ca cb b v : Nat) (xs : List Nat) (hA : Lm w w.heap.size A n ca xs) (hB : Lm w w.heap.size B 1 cb (digs b)) (hv : val xs = v) (hC : 0 ≤ cmpL xs (digs b)) (hn9 : n ≤ 1000000) :
    Calls Try.prog 28 #[.slice A n ca, .slice B 1 cb] w (RD w (v / b) (v % b)) := by
  obtain ⟨z, hz, HC⟩ : ∃ z : Int, decide (z < 0) = false ∧ Hid (cmpL xs (digs b) = z) := ⟨_, by simp; omega, rfl⟩
  have hb0 : 0 < b := by rw [← digs_pos, hB.len]; omega
  have hbe : (digs b)[0]?.getD 0 = b := by
    have h1 := val_take_succ' (digs b) 0
    rw [List.take_of_length_le (by rw [hB.len]; omega), digs_val] at h1
    simpa [val_nil] using h1.symm
  have hb9 := hB.good.get 0
  obtain ⟨bb, bo, rfl, hbb, cb1⟩ := hB.cell (k := 0) (by omega)
  rw [hbe] at cb1 hb9
  rw [Nat.add_zero] at cb1
  have hcB := hB.cap
  have hxB := hB.max
  have HA := Lib.hid hA
  have HB := Lib.hid hB
  have HV := Lib.hid hv
  clear hA hB hbe hv hC
  go_enter Try.func28, Try.ntmps28
  go_wp2_with fail
  refine (rcompare_any A (some ⟨bb, bo, none⟩) n 1 ca cb xs (digs b) w HA.out HB.out).mono ?_
  rintro e w1 ⟨he, d, rfl⟩
  rw [HC.out] at he
  subst he
  go_wp2_with fail
  refine (rshort_any (w.drewN d) A n ca b xs v (HA.out.drewN d) (by omega) hb0 hb9 HV.out).mono ?_
  rintro e w2 ⟨Q, cq, R, cr, rfl, hQ, hR, hb2⟩
  go_wp2
  go_ret2
  exact ⟨Q, cq, R, cr, rfl, hQ, hR, (bdrewN (Below.refl w.heap.size w) d).trans hb2⟩

theorem up_aux {x s l : Nat} (l1 : 1 ≤ l) (l2 : 2 ^ (l - 1) ≤ x) (l3 : x < 2 ^ l) (h1 : 2 ^ 31 ≤ x * 2 ^ s) (h2 : x * 2 ^ s < 2 ^ 32) : s = 32 - l := by
  have m1 := Nat.mul_le_mul_right (2 ^ s) l2
  have m2 := (Nat.mul_lt_mul_right (a := 2 ^ s) (Nat.pow_pos (by decide))).2 l3
  have a1 := Nat.lt_of_le_of_lt m1 h2
  have a2 := Nat.lt_of_le_of_lt h1 m2
  rw [← Nat.pow_add] at a1 a2
  have b1 := (Nat.pow_lt_pow_iff_right (by decide : 1 < 2)).1 a1
  have b2 := (Nat.pow_lt_pow_iff_right (by decide : 1 < 2)).1 a2
  clear a1 a2 m1 m2 h1 h2 l2 l3
  omega
theorem up_of {x s : Nat} (h0 : x ≠ 0) (h : x < 4294967296) (h1 : 2147483648 ≤ x * 2 ^ s) (h2 : x * 2 ^ s < 4294967296) : s = 32 - Lib.bitLen x := by
  have hb := bitLen_bounds h0 h
  generalize Lib.bitLen x = l at hb ⊢
  exact up_aux hb.1 hb.2.1 hb.2.2 h1 h2
/-- A limb more than a number has is 0. -/
theorem take_dgs {ts : List Nat} {V m : Nat} (g : Good ts) (hl : ts.length = m + 1) (hv : val ts = V) (hV : (digs V).length = m) : ts.take m = digs V := by
  have h1 := val_short (xs := ts) (j := m) (by rw [hv]; exact digs_len.1 (Nat.le_of_eq hV))
  exact eq_of_val (g.take m) (digs_good V) (by rw [List.length_take, hl, hV]; omega) (by rw [h1.1, hv, digs_val])
theorem part_whole {rs : List Nat} {m k : Nat} (h : val (rs.drop k) = val ((rs.drop k).take m) + 4294967296 ^ m * rs[k + m]?.getD 0) : val ((rs.drop k).take (m + 1)) = val (rs.drop k) := by
  rw [val_take_succ', List.getElem?_drop]
  exact h.symm
theorem part_done2 {rs P : List Nat} {m k v : Nat} (hP : P.length = m + 1) (hk : k + m < rs.length) (hz : val (rs.drop (k + m + 1)) = 0) (hv : val P = v) :
    val ((spl rs k P).drop k) = v ∧ val (spl rs k P) = val (rs.take k) + 4294967296 ^ k * v := by
  have hl : (rs.take k).length = k := by rw [List.length_take]; omega
  have e : val (P ++ rs.drop (k + P.length)) = v := by
    have hz2 : val (rs.drop (k + P.length)) = 0 := by rw [hP, ← Nat.add_assoc]; exact hz
    rw [val_append, hv, hz2, Nat.mul_zero, Nat.add_zero]
  unfold spl
  constructor
  · rw [List.drop_append_of_le_length (by omega), List.drop_of_length_le (by omega), List.nil_append]
    exact e
  · rw [val_append, hl, e]
end Go.Proofs.Ytkajmglpmdhmnaa

/- The reference's over: long division. -/
namespace Go.Proofs.Ytkajmglpmdhmnaa
open Go.RowKit

theorem rleft_any (w : World) (A : Option Addr) (n c s : Nat) (xs : List Nat) (v : Nat) (hA : Lm w w.heap.size A n c xs) (hn : n ≤ 100000000) (hs32 : s < 32) (hv : val xs * 2 ^ s = v) :
    Calls Try.prog 45 #[.slice A n c, .int .u64 (s : Int)] w (RL w (n + 1) v) :=
  (rleft_own w A n c s xs v hA hn hs32 hv).mono fun e w' ⟨A, c, ts, he, hO, hG, hl, hv, hb⟩ => by
    obtain ⟨A', c', e3, hL⟩ := hO.lm hG
    rw [hl] at e3 hL
    cases e3
    exact ⟨A, c, ts, he, hL, hv, hb⟩

set_option maxRecDepth 100000 in
set_option maxHeartbeats 4000000 in
theorem rover_long (w : World) (A B : Option Addr) (n m ca cb a b : Nat) (hA : Lm w w.heap.size A n ca (digs a)) (hB : Lm w w.heap.size B m cb (digs b)) (hle : b ≤ a) (hm2 : 2 ≤ m) (hn9 : n ≤ 1000000) :
    Calls Try.prog 28 #[.slice A n ca, .slice B m cb] w (RD w (a / b) (a % b)) := by
  obtain ⟨z, hz, HC⟩ : ∃ z : Int, decide (z < 0) = false ∧ Hid (cmpL (digs a) (digs b) = z) := ⟨_, by rw [cmpL_norm (digs_good _) (digs_good _) (digs_norm _) (digs_norm _), digs_val, digs_val]; unfold cmpN; rw [if_neg (by omega)]; split <;> decide, rfl⟩
  have hcA := hA.cap
  have hxA := hA.max
  have hcB := hB.cap
  have hxB := hB.max
  have hlA := hA.len
  have hlB := hB.len
  have hmn : m ≤ n := by rw [← hlA, ← hlB]; exact digs_mono hle
  have hm1 : ((m : Int) == 1) = false := by simp; omega
  have hbp : 0 < b := digs_pos.1 (by omega)
  have gt := hB.good.get (m - 1)
  have htp := top_pos hbp
  rw [hlB] at htp
  obtain ⟨bb, bo, e, hbb, cb1⟩ := hB.cell (k := m - 1) (by omega)
  subst e
  have hf := up_facts hlB (by omega)
  have HF := Lib.hid hf
  have HLA := Lib.hid hlA
  have HLB := Lib.hid hlB
  have HA := Lib.hid hA
  have HB := Lib.hid hB
  have HLe := Lib.hid hle
  have i1 : ((m : Int) - 1).toNat = m - 1 := by omega
  obtain ⟨top, hto⟩ : ∃ top, top = (digs b)[m - 1]?.getD 0 := ⟨_, rfl⟩
  rw [← hto] at gt htp cb1
  have HTop := Lib.hid hto
  have ht0 : 0 < top := by omega
  clear hA hB hlA hlB hf hle hto htp
  go_enter Try.func28, Try.ntmps28
  go_wp2_with fail
  refine (rcompare_any A (some ⟨bb, bo, none⟩) n m ca cb (digs a) (digs b) w HA.out HB.out).mono ?_
  rintro e w1 ⟨he, d, rfl⟩
  rw [HC.out] at he
  subst he
  have HB0 : Hid (Below w.heap.size w (w.drewN d)) := bdrewN (Below.refl _ _) d
  have LA := Lib.hid (HA.out.drewN d)
  have LB := Lib.hid (HB.out.drewN d)
  have cb2 : (w.drewN d).cell? ⟨bb, bo + (m - 1), none⟩ = some (.int .u32 (top : Int)) := cb1
  have hsz : Hid ((w.drewN d).heap.size = w.heap.size) := (rfl : _ = _)
  generalize w.drewN d = w1 at *
  clear HA HB cb1
  go_wp2_with fail
  go_loop [7] (fun x => ∃ s : Nat, s ≤ 31 ∧ x = .int .u64 (s : Int) ∧ top * 2 ^ s < 4294967296) (fun x => 32 - (intOf x).toNat)
  case atStart => exact ⟨0, by omega, rfl, by rw [Nat.pow_zero, Nat.mul_one]; exact gt⟩
  case round =>
    obtain ⟨s, hs, rfl, hts⟩ := hrel
    obtain ⟨P, hP⟩ : ∃ P, P = top * 2 ^ s := ⟨_, rfl⟩
    have hw : IntKind.u32.wrap ((top : Int) * 2 ^ s) = (P : Int) := by
      rw [cast_shl, Nat.mul_comm, ← hP, IntKind.wrap_u32]
      omega
    have HP := Lib.hid hP
    rw [← hP] at hts
    clear hP
    by_cases hp : P < 2147483648
    · have hpi : (P : Int) < 2147483648 := by omega
      clear hp
      go_wp2
      go_round
      case rel => exact ⟨s + 1, by
        have e := HP.out
        rcases Nat.lt_or_ge s 31 with h | h
        · omega
        · obtain rfl : s = 31 := by omega
          have h5 := Nat.mul_le_mul_right (2 ^ 31) ht0
          omega, by go_num, by rw [Nat.pow_succ, ← Nat.mul_assoc, ← HP.out]; omega⟩
      case measure => simp [intOf]; omega
    · have hpi : (2147483648 : Int) ≤ (P : Int) := by omega
      have hpd : decide ((P : Int) < 2147483648) = false := by simp; omega
      have hup := up_of (x := top) (s := s) (by omega) gt (by rw [← HP.out]; omega) (by rw [← HP.out]; exact hts)
      rw [HTop.out] at hup
      have HF2 := HF.out
      rw [← hup] at HF2
      obtain ⟨V, hV⟩ : ∃ V, V = b * 2 ^ s := ⟨_, rfl⟩
      obtain ⟨U, hU⟩ : ∃ U, U = a * 2 ^ s := ⟨_, rfl⟩
      rw [← hV] at HF2
      have HVF := Lib.hid HF2
      have HUB : Hid (U < 2147483648 * 4294967296 ^ n) := by
        show _ < _
        have h1 := digs_len.1 (Nat.le_of_eq HLA.out)
        rw [hU, Nat.mul_comm]
        exact Nat.mul_lt_mul_of_le_of_lt (Nat.pow_le_pow_right (by omega) hs) h1 (by decide)
      have HDiv : Hid (U / V = a / b ∧ U % V = a % b * 2 ^ s) := by
        show _ ∧ _
        rw [hU, hV]
        exact ⟨Nat.mul_div_mul_right _ _ (Nat.pow_pos (by omega)), Nat.mul_mod_mul_right _ _ _⟩
      have HV : Hid (val (digs b) * 2 ^ s = V) := by show _ = _; rw [digs_val, hV]
      have HU : Hid (val (digs a) * 2 ^ s = U) := by show _ = _; rw [digs_val, hU]
      have hV0 : 0 < V := by rw [hV]; exact Nat.mul_pos hbp (Nat.pow_pos (by omega))
      have HVb := Lib.hid hV
      clear hup HF2 hV hU HP hp hts
      go_wp2_with fail
      clear hw hpi hpd
      refine (rleft_any w1 _ m cb s (digs b) V LB.out (by omega) (by omega) HV.out).mono ?_
      rintro e w2 ⟨A2, c2, ts, rfl, hL2, hv2, hb2⟩
      have HL2 := Lib.hid (hL2.take (Nat.le_succ m))
      have HT2 := Lib.hid (take_dgs hL2.good hL2.len hv2 HVF.out.2.2.1)
      have hcap2 := hL2.cap
      have hmax2 := hL2.max
      rw [HT2.out] at HL2
      have LA2 := Lib.hid (LA.out.via hb2)
      have HB2 := Lib.hid (HB0.out.trans (hb2.mono HB0.out.size))
      clear hL2 hv2 hb2
      go_wp2_with fail
      refine (rleft_own w2 A n ca s (digs a) U LA2.out (by omega) (by omega) HU.out).mono ?_
      rintro e w3 ⟨A3, c3, us, rfl, hO3, hG3, hl3, hv3, hb3⟩
      obtain ⟨A3', c3', e3, hL3⟩ := hO3.lm hG3
      have hcap3 := hL3.cap
      have hmax3 := hL3.max
      rw [hl3] at e3 hL3 hcap3
      cases e3
      obtain ⟨gu, rfl, -, hgu, hOb3⟩ := hO3.ob (by omega)
      have HX3 := Lib.hid (HL2.out.below hb3)
      have HB3 := Lib.hid (HB2.out.trans (hb3.mono HB2.out.size))
      have HO3 := Lib.hid hOb3
      have HG3 := Lib.hid hG3
      have HV3 := Lib.hid hv3
      have HL3l := Lib.hid hl3
      have hs3 := hOb3.lt
      clear hO3 hL3 hOb3 hG3 hv3 hl3 hb3
      have hmk2 := fun w => run_make_u32 ((n : Int) + 1 - (m : Int)) ((n : Int) + 1 - (m : Int)) (n + 1 - m) (by omega) (by omega) (by omega) w
      go_wp2_with fail
      clear hmk2
      go_loopw [11] (fun i wr => ∃ (k : Nat) (rs qs : List Nat), k ≤ n + 1 - m ∧ i = .int .i64 ((k : Int) - 1) ∧ Ob wr gu rs ∧ Good rs ∧ rs.length = n + 1 ∧ Ld wr w3.heap.size qs ∧ Good qs ∧ qs.length = n + 1 - m ∧
          val (rs.drop k) < V ∧ val rs + 4294967296 ^ k * (V * val (qs.drop k)) = U ∧ Below w2.heap.size w3 wr) (fun i _ => (intOf i + 1).toNat)
      case atStart =>
        refine ⟨n + 1 - m, us, zer (n + 1 - m), Nat.le_refl _, rfl, HO3.out.below ((Below.refl _ _).alloc (Nat.le_refl _) _) hs3, HG3.out, HL3l.out, Ld.new _ _, zer_good _, zer_len _, ?_, ?_, (Below.refl _ _).alloc (by omega) _⟩
        · rw [val_drop _ HG3.out, HV3.out]
          refine Nat.div_lt_of_lt_mul (Nat.lt_of_lt_of_le HUB.out ?_)
          have h5 := Nat.mul_le_mul_left (4294967296 ^ (n + 1 - m)) HVF.out.2.1
          rw [Nat.mul_left_comm, ← Nat.pow_add, show n + 1 - m + (m - 1) = n by omega] at h5
          exact h5
        · rw [HV3.out, List.drop_of_length_le (by rw [zer_len]; exact Nat.le_refl _)]
          simp [val_nil]
      case round =>
        obtain ⟨k, rs, qs, hk, rfl, hR, hGR, hlR, hQ, hGQ, hlQ, hI1, hI2, hb⟩ := hrel
        have HR := Lib.hid hR
        have HQ := Lib.hid hQ
        have HI1 := Lib.hid hI1
        have HI2 := Lib.hid hI2
        have HBl := Lib.hid hb
        have HGR := Lib.hid hGR
        have HGQ := Lib.hid hGQ
        have HlR := Lib.hid hlR
        have HlQ := Lib.hid hlQ
        have hgur := hR.lt
        clear hR hQ hI1 hI2 hb hGR hGQ hlR hlQ
        rcases k with _ | k
        · rw [show (((0 : Nat) : Int) - 1) = -1 from rfl]
          have hQe : Hid (val qs = a / b) := by
            show _ = _
            have h1 := HI1.out
            have h2 := HI2.out
            simp only [List.drop_zero, Nat.pow_zero, Nat.one_mul] at h1 h2
            rw [← HDiv.out.1, ← h2, Nat.add_mul_div_left _ _ hV0, Nat.div_eq_of_lt h1, Nat.zero_add]
          have hRv : Hid (val rs < V) := by have h1 := HI1.out; rw [List.drop_zero] at h1; exact h1
          have hRe : Hid (val rs = a % b * 2 ^ s) := by
            show _ = _
            have h2 := HI2.out
            simp only [List.drop_zero, Nat.pow_zero, Nat.one_mul] at h2
            rw [← HDiv.out.2, ← h2, Nat.add_mul_mod_self_left, Nat.mod_eq_of_lt hRv.out]
          have hRt : Hid (val (rs.take m) = a % b * 2 ^ s) := by
            show _ = _
            rw [← hRe.out]
            exact (val_short (Nat.lt_trans hRv.out (digs_len.1 (Nat.le_of_eq HVF.out.2.2.1)))).1
          have HLq : Hid (Lm wr wr.heap.size (some ⟨w3.heap.size, 0, none⟩) (n + 1 - m) (n + 1 - m) qs) := by
            have e := HQ.out.lm HGQ.out (off := 0) (n := n + 1 - m) (c := n + 1 - m) (by rw [HlQ.out]; omega) (Nat.le_refl _) (by omega)
            rwa [List.drop_zero, List.take_of_length_le (by rw [HlQ.out]; exact Nat.le_refl _)] at e
          have HLr : Hid (Lm wr wr.heap.size (some ⟨gu, 0, none⟩) m c3 (rs.take m)) := by
            have e := HR.out.lm HGR.out (off := 0) (n := m) (c := c3) (by rw [HlR.out]; omega) (by omega) (by omega)
            rwa [List.drop_zero] at e
          have HGt := Lib.hid (HGR.out.take m)
          have HSv : Hid (val (shrL s (rs.take m) m) = a % b) := by
            show _ = _
            rw [shrL_val HGt.out s (by omega) HLr.out.len, hRt.out, Nat.mul_div_cancel _ (Nat.pow_pos (by omega))]
          obtain ⟨r0, hr0⟩ : ∃ r0, r0 = rs.take m := ⟨_, rfl⟩
          rw [← hr0] at HLr HGt HSv
          clear hr0 hRt
          go_wp2
          go_loopw [13, 14] (fun u i wz => ∃ k : Nat, k ≤ m ∧ i = .int .i64 k ∧ Ow wz wr.heap.size u (shrL s r0 k) ∧ Below wr.heap.size wr wz) (fun _ i _ => m - (intOf i).toNat)
          case atStart => exact ⟨0, Nat.zero_le _, rfl, Ow.nil _ _, Below.refl _ _⟩
          case round =>
            obtain ⟨k, hk2, rfl, hO, hb⟩ := hrel
            have HO := Lib.hid hO
            have HBz := Lib.hid hb
            have HSl := Lib.hid (shrL_len s r0 k)
            clear hO hb
            by_cases hlt : k < m
            · obtain ⟨b1', bo1', e1, _, hcx⟩ := (HLr.out.below HBz.out).cell hlt
              cases e1
              have hxg := HGt.out.get k
              have hyg := HGt.out.get (k + 1)
              by_cases hlt2 : k + 1 < m
              · obtain ⟨b2', bo2', e2, _, hcy⟩ := (HLr.out.below HBz.out).cell hlt2
                cases e2
                rw [Nat.zero_add] at hcx hcy
                have HX : Hid ((((r0[k]?.getD 0 : Nat) : Int) + ((r0[k + 1]?.getD 0 : Nat) : Int) * 4294967296) / 2 ^ s % 4294967296 = (((r0[k]?.getD 0 + 4294967296 * r0[k + 1]?.getD 0) / 2 ^ s % 4294967296 : Nat) : Int)) := by
                  show _ = _
                  have e : ((r0[k]?.getD 0 : Nat) : Int) + ((r0[k + 1]?.getD 0 : Nat) : Int) * 4294967296 = ((r0[k]?.getD 0 + 4294967296 * r0[k + 1]?.getD 0 : Nat) : Int) := by omega
                  rw [e, cast_shr, Int.natCast_emod]
                  rfl
                go_wp2_with (at_builtin; refine wpList_append_u32 _ rfl _ _ rfl _ _ _ rfl HO.out _ ((r0[k]?.getD 0 + 4294967296 * r0[k + 1]?.getD 0) / 2 ^ s % 4294967296) 1 HX.out (by rw [HSl.out]; omega) HBz.out.size rfl ?_; intro u' w6 hO6 hg6)
                go_roundw
                case rel => exact ⟨k + 1, by omega, by go_num, hO6, HO.out.below HBz.out HBz.out.size hg6⟩
                case measure => simp [intOf]; omega
              · have HZ := Lib.hid (getD_over (xs := r0) (k := k + 1) (by rw [HLr.out.len]; omega))
                rw [Nat.zero_add] at hcx
                have HX : Hid (((r0[k]?.getD 0 : Nat) : Int) / 2 ^ s % 4294967296 = (((r0[k]?.getD 0 + 4294967296 * r0[k + 1]?.getD 0) / 2 ^ s % 4294967296 : Nat) : Int)) := by
                  show _ = _
                  rw [HZ.out, Nat.mul_zero, Nat.add_zero, cast_shr, Int.natCast_emod]
                  rfl
                have HY : Hid (((r0[k]?.getD 0 : Nat) : Int) / 2 ^ s = ((r0[k]?.getD 0 / 2 ^ s : Nat) : Int)) := cast_shr _ _
                have hy9 := Nat.div_le_self (r0[k]?.getD 0) (2 ^ s)
                have HW : Hid ((r0[k]?.getD 0 + 4294967296 * r0[k + 1]?.getD 0) / 2 ^ s % 4294967296 = r0[k]?.getD 0 / 2 ^ s) := by
                  show _ = _
                  rw [HZ.out, Nat.mul_zero, Nat.add_zero]
                  exact Nat.mod_eq_of_lt (by omega)
                have HWY : Hid (((r0[k]?.getD 0 : Nat) : Int) / 2 ^ s = (((r0[k]?.getD 0 + 4294967296 * r0[k + 1]?.getD 0) / 2 ^ s % 4294967296 : Nat) : Int)) := by show _ = _; rw [HW.out, HY.out]
                clear hy9
                go_wp2_with (at_builtin; refine wpList_append_u32 _ rfl _ _ rfl _ _ _ rfl HO.out _ ((r0[k]?.getD 0 + 4294967296 * r0[k + 1]?.getD 0) / 2 ^ s % 4294967296) 1 (by first | exact HX.out | exact HWY.out) (by rw [HSl.out]; omega) HBz.out.size rfl ?_; intro u' w6 hO6 hg6)
                go_roundw
                case rel => exact ⟨k + 1, by omega, by go_num, hO6, HO.out.below HBz.out HBz.out.size hg6⟩
                case measure => simp [intOf]; omega
            · obtain rfl : k = m := by omega
              have HGs : Hid (Good (shrL s r0 k)) := by
                show Good _
                rw [shrL_lims HGt.out s (by omega)]
                exact lims_good _ _
              obtain ⟨A7, c7, rfl, hL7⟩ := HO.out.lm HGs.out
              rw [HSl.out] at hL7 ⊢
              have HL7 := Lib.hid hL7
              have HLq7 := Lib.hid (HLq.out.via HBz.out)
              clear hL7
              go_wp2_with fail
              refine (rtrim_any _ _ _ _ _ (a / b) HLq7.out hQe.out (by omega)).mono ?_
              rintro e w8 ⟨A8, c8, rfl, hL8, hb8⟩
              have HL8 := Lib.hid hL8
              have HL78 := Lib.hid (HL7.out.via hb8)
              have HB8 := Lib.hid hb8
              clear hL8 hb8
              go_wp2_with fail
              refine (rtrim_any _ _ _ _ _ (a % b) HL78.out HSv.out (by omega)).mono ?_
              rintro e w9 ⟨A9, c9, rfl, hL9, hb9⟩
              go_wp2
              go_ret2
              have hs23 := HBl.out.size
              have hsz1 := HB3.out.size
              refine ⟨A8, c8, A9, c9, rfl, HL8.out.via hb9, hL9, ?_⟩
              have q1 := HB3.out.trans (HBl.out.mono HB2.out.size)
              have q2 := q1.trans (HBz.out.mono q1.size)
              have q3 := q2.trans (HB8.out.mono q2.size)
              exact q3.trans (hb9.mono q3.size)
        · have hkm : k + m < rs.length := by rw [HlR.out]; omega
          have HP := Lib.hid (part_facts HGR.out HVF.out.2.2.1 hm2 hkm HI1.out)
          have HW := Lib.hid (part_whole HP.out.1)
          have HLb : Hid (Lm wr gu A2 m c2 (digs V)) := (HX3.out.below HBl.out).mono hgu
          have hcut1 : ((k : Int) + 1 - 1) = (k : Int) := by omega
          go_wp2_with fail
          rw [show k + m + 1 - k = m + 1 by omega]
          refine (rdigit_any wr gu k (c3 - k) m c2 A2 rs (digs V) V HR.out HGR.out HLb.out hm2 (by omega) (by omega) (by omega) hkm (digs_val V) hV0 HP.out.2.2.2.2.1 HP.out.2.1 (by rw [HW.out]; exact HP.out.2.2.2.2.2.1)).mono ?_
          rw [HW.out]
          rintro e w5 ⟨rfl, ⟨P5, hPl, hPg, hPv, hO5⟩, hg5⟩
          have hgu3 : ¬ (w3.heap.size = gu) := by omega
          have hQ5 := HQ.out.grown hg5 (fun e => by injection e with e; omega)
          have hcq := hQ5.cell (i := k) (by rw [HlQ.out]; omega)
          have hfq := hQ5.frozen k
          have hD9 : val (rs.drop k) / V ≤ 4294967295 := Nat.le_trans HP.out.2.2.2.2.2.1 (gs_le _ _ _ _ _)
          have HPD := Lib.hid (part_done2 (rs := rs) (P := P5) (m := m) (k := k) hPl hkm HP.out.2.2.2.1 hPv)
          have HO5 := Lib.hid hO5
          have HG5 := Lib.hid hg5
          have HQ5 := Lib.hid hQ5
          have HPg := Lib.hid hPg
          have HPl := Lib.hid hPl
          have hml : val (rs.drop k) % V < V := Nat.mod_lt _ hV0
          clear hPl hPg hPv hO5 hg5 hQ5
          have HD9 := Lib.hid hD9
          clear hD9
          go_wp2
          go_roundw
          case rel =>
            refine ⟨k, _, _, by omega, rfl, HO5.out.grown (grownBy_setCellAt _ _ _ _) (fun e => by injection e with e; omega), spl_good HGR.out HPg.out, by rw [spl_len (by rw [HPl.out]; omega), HlR.out], HQ5.out.set_ k _, HGQ.out.set (by have := HD9.out; omega) k, by rw [List.length_set, HlQ.out], ?_, ?_, ?_⟩
            · rw [HPD.out.1]; exact hml
            · exact inv_step (by omega) rfl HI2.out HPD.out.2 (val_set_drop _ (by rw [HlQ.out]; omega))
            · exact (HBl.out.grown HG5.out (by have := HBl.out.size; omega) (fun b e => by injection e with e; omega)).setCell (p := ⟨w3.heap.size, k, none⟩) (by show w2.heap.size ≤ w3.heap.size; omega) _
          case measure => simp [intOf]

/-- over, by a divisor other than 0. -/
theorem rover_any (w : World) (A B : Option Addr) (n m ca cb a b : Nat) (hA : Lm w w.heap.size A n ca (digs a)) (hB : Lm w w.heap.size B m cb (digs b)) (hb : 0 < b) (hn9 : n ≤ 1000000) :
    Calls Try.prog 28 #[.slice A n ca, .slice B m cb] w (RD w (a / b) (a % b)) := by
  have hc := cmpL_norm (digs_good a) (digs_good b) (digs_norm a) (digs_norm b)
  rw [digs_val, digs_val] at hc
  rcases Nat.lt_or_ge a b with h | h
  · exact rover_less w A B n m ca cb b a _ hA hB (digs_val a) (by rw [hc]; exact cmpN_lt h) h hn9
  · have hm : 0 < m := by rw [← hB.len, digs_pos]; exact hb
    rcases Nat.lt_or_ge m 2 with h1 | h1
    · obtain rfl : m = 1 := by omega
      refine rover_one w A B n ca cb b a _ hA hB (digs_val a) ?_ hn9
      rw [hc]
      unfold cmpN
      rw [if_neg (by omega)]
      split <;> decide
    · exact rover_long w A B n m ca cb a b hA hB h h1 hn9
end Go.Proofs.Ytkajmglpmdhmnaa

