/- wide.divideLimb. -/
import Derived.Test.YtdbilpmhejigpaaRight
namespace Go.Proofs.Ytdbilpmhejigpaa
open Go.RowKit

/-- Block g begins with the limbs cs; none is frozen. -/
def Ob (w : World) (g : Nat) (cs : List Nat) : Prop := ∃ cur : Array Value, w.heap[g]? = some (.cells cur 63 (0, 0)) ∧ cs.length ≤ cur.size ∧ ∀ i, i < cs.length → cur[i]? = some (.int .u32 (cs[i]?.getD 0 : Nat))
section
variable {w w' : World} {g : Nat} {cs : List Nat}
theorem Ld.ob (h : Ld w g cs) : Ob w g cs := ⟨_, h, by simp, fun i hi => by rw [List.getElem?_toArray, getD_map cs i hi]⟩
theorem Ob.lt (h : Ob w g cs) : g < w.heap.size := by obtain ⟨cur, h, _⟩ := h; exact (Array.getElem?_eq_some_iff.1 h).1
theorem Ob.cell (h : Ob w g cs) {i : Nat} (hi : i < cs.length) : w.cell? ⟨g, i, none⟩ = some (.int .u32 (cs[i]?.getD 0 : Nat)) := by
  obtain ⟨cur, h, _, h2⟩ := h
  rw [cell_of_row w g i _ _ (0, 0) h]
  exact h2 i hi
theorem Ob.frozen (h : Ob w g cs) (i : Nat) : w.frozen? ⟨g, i, none⟩ = false := by
  obtain ⟨cur, h, _⟩ := h
  simp [World.frozen?, h]
theorem Ob.set_ (h : Ob w g cs) (i t : Nat) : Ob (w.setCell ⟨g, i, none⟩ (.int .u32 (t : Int))) g (cs.set i t) := by
  obtain ⟨cur, h, h1, h2⟩ := h
  refine ⟨cur.setIfInBounds i (.int .u32 (t : Int)), ?_, ?_, fun j hj => ?_⟩
  · simp [World.setCell, Array.getElem?_modify, h]
  · simpa using h1
  · rw [List.length_set] at hj
    rw [Array.getElem?_setIfInBounds]
    by_cases e : i = j
    · subst e
      have : i < cur.size := by omega
      simp [this, hj]
    · rw [if_neg e, h2 j hj, List.getElem?_set_ne e]
theorem Ob.grown (h : Ob w g cs) {row : Option Nat} (hb : w.grownBy w' row) (hg : some g ≠ row) : Ob w' g cs := by
  have hl := h.lt
  obtain ⟨cur, h, r⟩ := h
  exact ⟨cur, (hb.block g hl hg).trans h, r⟩
theorem Ob.below (h : Ob w g cs) {B : Nat} (hb : Below B w w') (hg : g < B) : Ob w' g cs := by
  obtain ⟨cur, h, r⟩ := h
  exact ⟨cur, (hb.block g hg).trans h, r⟩
theorem Ob.lm (h : Ob w g cs) (gd : Good cs) {off n c : Nat} (hn : off + n ≤ cs.length) (hc : n ≤ c) (hm : c ≤ 9223372036854775807) : Lm w w.heap.size (some ⟨g, off, none⟩) n c ((cs.drop off).take n) :=
  ⟨by rw [List.length_take, List.length_drop]; omega, (gd.drop _).take _, hc, hm, (fun e => by cases e), fun _ => ⟨g, off, rfl, h.lt, fun j hj => by
    rw [h.cell (by omega), List.getElem?_take_of_lt hj, List.getElem?_drop]⟩⟩
theorem Ow.ob {B : Nat} {A : Option Addr} {n c : Nat} (h : Ow w B (.slice A n c) cs) (hn : 0 < cs.length) : ∃ g, A = some ⟨g, 0, none⟩ ∧ n = cs.length ∧ B ≤ g ∧ Ob w g cs := by
  obtain ⟨h1, ⟨_, h0⟩ | ⟨g, cap, cur, e, hb, hg, hcap, _, hs, ht⟩⟩ := h
  · omega
  · injection e with e1 e2 e3
    refine ⟨g, e1, e2, hb, cur, hg, by omega, fun i hi => ?_⟩
    rw [Nat.mul_one] at ht
    have e4 := getD_map cs i hi
    rw [← ht, List.getElem?_take_of_lt hi] at e4
    simpa using e4
end

/-- A list of limbs divided by a limb: the quotient's limbs, the remainder. -/
def dvL (d : Nat) : List Nat → List Nat × Nat
  | [] => ([], 0)
  | x :: xs => (((dvL d xs).2 * 4294967296 + x) / d :: (dvL d xs).1, ((dvL d xs).2 * 4294967296 + x) % d)
theorem dvL_len (d : Nat) (xs : List Nat) : (dvL d xs).1.length = xs.length := by
  induction xs with
  | nil => rfl
  | cons x xs ih => simp [dvL, ih]
theorem dvL_lt {d : Nat} (hd : 0 < d) (xs : List Nat) : (dvL d xs).2 < d := by
  cases xs with
  | nil => exact hd
  | cons x xs => exact Nat.mod_lt _ hd
theorem dvL_good {d : Nat} (hd : 0 < d) {xs : List Nat} (g : Good xs) : Good (dvL d xs).1 := by
  induction xs with
  | nil => exact Good.nil
  | cons x xs ih =>
    refine Good.cons ?_ (ih g.tail)
    have h := dvL_lt hd xs
    have hx := g.head
    rw [Nat.div_lt_iff_lt_mul hd]
    have : ((dvL d xs).2 + 1) * 4294967296 ≤ d * 4294967296 := Nat.mul_le_mul_right _ h
    omega
theorem dvL_val {d : Nat} (_hd : 0 < d) (xs : List Nat) : val (dvL d xs).1 * d + (dvL d xs).2 = val xs := by
  induction xs with
  | nil => simp [dvL, val_nil]
  | cons x xs ih =>
    show val (((dvL d xs).2 * 4294967296 + x) / d :: (dvL d xs).1) * d + ((dvL d xs).2 * 4294967296 + x) % d = _
    rw [val_cons, val_cons, ← ih, Nat.add_mul]
    have h := Nat.div_add_mod ((dvL d xs).2 * 4294967296 + x) d
    rw [Nat.mul_comm d] at h
    rw [Nat.mul_assoc, Nat.mul_add]
    omega
theorem dvL_quot {d : Nat} (hd : 0 < d) (xs : List Nat) : val (dvL d xs).1 = val xs / d ∧ (dvL d xs).2 = val xs % d := by
  have h := dvL_val hd xs
  have h2 := dvL_lt hd xs
  rw [← h, Nat.mul_comm]
  exact ⟨by rw [Nat.mul_add_div hd, Nat.div_eq_of_lt h2, Nat.add_zero], by rw [Nat.mul_add_mod, Nat.mod_eq_of_lt h2]⟩

set_option maxRecDepth 100000 in
set_option maxHeartbeats 1000000 in
theorem divideLimb_any (w : World) (g n c d : Nat) (cs : List Nat) (hD : Ob w g cs) (hG : Good cs) (hn : cs.length = n) (hc : n ≤ c) (hn9 : n ≤ 1000000000) (hd : 0 < d) (hd9 : d < 4294967296) :
    Calls Try.prog 58 #[.slice (some ⟨g, 0, none⟩) n c, .int .u32 (d : Int)] w fun e w' => e = .returned (.int .u32 ((dvL d cs).2 : Nat)) ∧ Ob w' g (dvL d cs).1 ∧ w.grownBy w' (some g) := by
  have HD := Lib.hid hD
  have hd0 : ¬ ((d : Int) = 0) := by omega
  clear hD
  go_enter Try.func58, Try.ntmps58
  go_wp2
  go_loopw [5, 6] (fun r i wr => ∃ k : Nat, k ≤ n ∧ i = .int .i64 ((k : Int) - 1) ∧ r = .int .u64 ((dvL d (cs.drop k)).2 : Nat) ∧ Ob wr g (cs.take k ++ (dvL d (cs.drop k)).1) ∧ w.grownBy wr (some g)) (fun _ i _ => (intOf i + 1).toNat)
  case atStart => exact ⟨n, Nat.le_refl _, rfl, by rw [List.drop_of_length_le (by omega)]; rfl, by rw [List.drop_of_length_le (by omega), List.take_of_length_le (by omega)]; show Ob _ _ (cs ++ []); rw [List.append_nil]; exact HD.out, World.grownBy.refl _ _⟩
  case round =>
    obtain ⟨k, hk, rfl, rfl, hO, hg⟩ := hrel
    have HO := Lib.hid hO
    have HGr := Lib.hid hg
    clear hO hg
    have hlen : (cs.take k ++ (dvL d (cs.drop k)).1).length = n := by rw [List.length_append, dvL_len, ← List.length_append, List.take_append_drop]; exact hn
    have hr := dvL_lt hd (cs.drop k)
    rcases k with _ | k
    · go_wp2
      go_ret
      rw [List.drop_zero] at hr
      exact ⟨ret_int (by omega), HO.out, HGr.out⟩
    · have hct := HO.out.cell (i := k) (by omega)
      have hfr := HO.out.frozen k
      have hxg := hG.get k
      have hget : (cs.take (k + 1) ++ (dvL d (cs.drop (k + 1))).1)[k]?.getD 0 = cs[k]?.getD 0 := by
        rw [List.getElem?_append_left (by rw [List.length_take]; omega), List.getElem?_take_of_lt (by omega)]
      rw [hget] at hct
      have HStep : Hid (dvL d (cs.drop k) = (((dvL d (cs.drop (k + 1))).2 * 4294967296 + cs[k]?.getD 0) / d :: (dvL d (cs.drop (k + 1))).1, ((dvL d (cs.drop (k + 1))).2 * 4294967296 + cs[k]?.getD 0) % d)) := by
        show _ = _
        rw [drop_cons_ cs k (by omega)]; rfl
      have hq : ((dvL d (cs.drop (k + 1))).2 * 4294967296 + cs[k]?.getD 0) / d < 4294967296 := by
        rw [Nat.div_lt_iff_lt_mul hd]
        have : ((dvL d (cs.drop (k + 1))).2 + 1) * 4294967296 ≤ d * 4294967296 := Nat.mul_le_mul_right _ hr
        omega
      have HX : Hid (bits .or .u64 (((dvL d (cs.drop (k + 1))).2 : Nat) * 4294967296) ((cs[k]?.getD 0 : Nat) : Int) = (((dvL d (cs.drop (k + 1))).2 * 4294967296 + cs[k]?.getD 0 : Nat) : Int)) := by
        show _ = _
        have e1 : (((dvL d (cs.drop (k + 1))).2 : Nat) : Int) * 4294967296 = (((dvL d (cs.drop (k + 1))).2 * 4294967296 : Nat) : Int) := by omega
        rw [e1, bits_or _ _ (by omega) (by omega), Nat.or_comm, Nat.mul_comm, show (4294967296 : Nat) = 2 ^ 32 from rfl, or_add (by omega), Nat.add_comm]
      have HQ : Hid (IntKind.u64.wrap ((bits .or .u64 (((dvL d (cs.drop (k + 1))).2 : Nat) * 4294967296) ((cs[k]?.getD 0 : Nat) : Int)).tdiv (d : Int)) % 4294967296 = ((((dvL d (cs.drop (k + 1))).2 * 4294967296 + cs[k]?.getD 0) / d : Nat) : Int)) := by
        show _ = _
        rw [HX.out, Int.tdiv_eq_ediv_of_nonneg (by omega), ← Int.natCast_ediv, wrap_nat]
        generalize ((dvL d (cs.drop (k + 1))).2 * 4294967296 + cs[k]?.getD 0) / d = q at hq ⊢
        omega
      have HR : Hid ((bits .or .u64 (((dvL d (cs.drop (k + 1))).2 : Nat) * 4294967296) ((cs[k]?.getD 0 : Nat) : Int)).tmod (d : Int) = ((((dvL d (cs.drop (k + 1))).2 * 4294967296 + cs[k]?.getD 0) % d : Nat) : Int)) := by
        show _ = _
        rw [HX.out, Int.tmod_eq_emod_of_nonneg (by omega), ← Int.natCast_emod]
      go_wp2
      go_roundw
      case rel =>
        refine ⟨k, by omega, by go_num, ?_, ?_, grownBy_trans HGr.out (grownBy_setCellAt _ _ _ _)⟩
        · rw [HStep.out]
          exact congrArg (Value.int IntKind.u64) HR.out
        · rw [HQ.out, HStep.out]
          have e := HO.out.set_ k (((dvL d (cs.drop (k + 1))).2 * 4294967296 + cs[k]?.getD 0) / d)
          have e2 : (cs.take (k + 1) ++ (dvL d (cs.drop (k + 1))).1).set k (((dvL d (cs.drop (k + 1))).2 * 4294967296 + cs[k]?.getD 0) / d) = cs.take k ++ (((dvL d (cs.drop (k + 1))).2 * 4294967296 + cs[k]?.getD 0) / d :: (dvL d (cs.drop (k + 1))).1) := by
            rw [take_snocD cs k (by omega), List.append_assoc]
            have hkl : (cs.take k).length = k := by rw [List.length_take]; omega
            have e3 := set_mid (cs.take k) [] ([cs[k]?.getD 0] ++ (dvL d (cs.drop (k + 1))).1) (((dvL d (cs.drop (k + 1))).2 * 4294967296 + cs[k]?.getD 0) / d) (by simp)
            rw [hkl] at e3
            exact e3
          rw [e2] at e
          exact e
      case measure => simp [intOf]
end Go.Proofs.Ytdbilpmhejigpaa
