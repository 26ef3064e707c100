/- Lemmas, part 5. -/
import Derived.Deep.DeepCutAuto
import Derived.Deep.CutBlock
import Derived.Deep.RegionWith
import Derived.Laws.OwnMore
import Derived.Deep.QuietTactic
import Derived.BigQuiet
import Derived.Laws.BitsLemmas
import Derived.Deep.RegionLaw
import Derived.Deep.RegionHeld3
import Derived.WalkLawsBesides
import Derived.RegionTactic
import Derived.Lib.ItoaNum
import Derived.Lib.UnsafeStr
import Derived.Lib.OthersKept
import Derived.Laws.RangeAny
import Derived.Lib.OwnKind
import Derived.Lib.Strings
import Derived.Lib.Slices
import Derived.Lib.Walk
import Derived.Defers
import Derived.Recover
import Derived.Test.YtegpckhfncblhaaDoormakes4
/- steps.take: what two numbers become by Lehmer's steps. -/
namespace Go.Proofs.YtegpckhfncblhaaDoor
open Go.RowKit

/-- An append of one limb to a slice of the call's own: it lies where it lay, or in a new block. -/
theorem wpList_append_at (w : World) {ops : Array Oper} {rest : List Oper} {o : Oper} {a : Act} {Q : Exit → Act → World → Prop} (hgd : o.guard = none) (s x : Operand)
    (ho : o.op = .call { callee := .builtin .append, args := #[s, x], argTypes := #[22, 22] })
    (B : Nat) (g n c : Nat) (ts : List Nat) (hs : a.eval s = .slice (some ⟨g, 0, none⟩) n c) (hown : Ow w B (.slice (some ⟨g, 0, none⟩) n c) ts) (E : Int) (y cx : Nat) (hE : E = (y : Int)) (hlen : ts.length < 4000000000) (hn : n = ts.length) (hB : B ≤ w.heap.size)
    (hx : a.eval x = .slice (some ⟨w.heap.size, 0, none⟩) 1 cx)
    (h : ∀ g' c' w', Ow w' B (.slice (some ⟨g', 0, none⟩) (n + 1) c') (ts ++ [y]) → (w.alloc (.cells #[.int .u32 E] 64)).grownBy w' (some g) → (g' = g ∨ w.heap.size < g') → wpList Tryd.prog ops Q rest (a.put o.dst (.slice (some ⟨g', 0, none⟩) (n + 1) c')) w') :
    wpList Tryd.prog ops Q (o :: rest) a (w.alloc (.cells #[.int .u32 E] 64)) := by
  subst hE
  subst hn
  obtain ⟨i0, hi0, hz0, hz1, hz2⟩ := info_parts u32_info
  have hown1 : (w.alloc (.cells #[.int .u32 (y : Int)] 64)).ownsRow B 64 1 (.slice (some ⟨g, 0, none⟩) ts.length c) ts.length (ts.map u32c) := World.ownsRow.alloc hown _
  have hcell := cell_one_new w (.int .u32 (y : Int)) 64
  have hB1 : B ≤ (w.alloc (.cells #[.int .u32 (y : Int)] 64)).heap.size := by simp; omega
  have hsz : (w.alloc (.cells #[.int .u32 (y : Int)] 64)).heap.size = w.heap.size + 1 := by simp
  generalize w.alloc (.cells #[.int .u32 (y : Int)] 64) = W at *
  refine wpList_plain hgd fun K hK => ?_
  obtain ⟨v', w', hr, h2, h3, h4⟩ := run_append_own (P := Tryd.prog) W B 22 o.type 64 i0 (.int .u32 0) 1 4 slice_u32 hi0 hz0 hz1 hz2 rfl (by decide) _ ts.length _ hown1 ⟨w.heap.size, 0, none⟩ 1 cx [.int .u32 (y : Int)] rfl hcell (by simp [Value.oneCell']) (by simp only [maxLen]; omega) (by omega) hB1
  have hv : ∃ g' c', v' = .slice (some ⟨g', 0, none⟩) (ts.length + 1) c' ∧ (g' = g ∨ w.heap.size < g') := by
    rcases hown1.2 with ⟨e, _⟩ | ⟨g0, cap, cur, e, hbg, hg, hnc, hcm, hcs, htake⟩
    · cases e
    · injection e with e1 e2 e3
      injection e1 with e1
      injection e1 with e1
      subst e1 e3
      by_cases hroom : ts.length + 1 ≤ c
      · have hr2 := run_append_room (P := Tryd.prog) W 22 o.type 64 i0 slice_u32 hi0 g ts.length c cur hg ⟨w.heap.size, 0, none⟩ 1 cx [.int .u32 (y : Int)] (by rw [hz1]; rfl) hcell (by simp [Value.oneCell']) hroom (by rw [hz1, hcs]; simp; omega)
        rw [hr] at hr2
        injection hr2 with e _
        exact ⟨_, _, e, .inl rfl⟩
      · have hr2 := run_append_grow (P := Tryd.prog) W 22 o.type 64 i0 (.int .u32 0) slice_u32 hi0 hz0 ⟨g, 0, none⟩ ts.length c (ts.map u32c) (by rw [hz1]; simp) (hown1.cells (g := g) rfl) ⟨w.heap.size, 0, none⟩ 1 cx [.int .u32 (y : Int)] (by rw [hz1]; rfl) hcell (by omega) (by omega) (growslice_fits (by omega) (by rw [hz2]; omega))
        rw [hr] at hr2
        injection hr2 with e _
        exact ⟨_, _, e, .inr (by omega)⟩
  obtain ⟨g', c', rfl, hg'⟩ := hv
  unfold Oper.wp execOp
  simp only [ho, resolve, invoke, builtin, Sem.run_bind, Sem.run_pure, Result.andThen_ok, List.map_toArray, List.map_cons, List.map_nil, hs, hx, hr]
  refine hK _ _ (h g' c' w' ?_ h3 hg')
  have e : (ts ++ [y]).map u32c = ts.map u32c ++ [.int .u32 (y : Int)] := by rw [List.map_append]; rfl
  unfold Ow
  rw [e, List.length_append]
  exact h2
/-- A limb of a slice of the call's own. -/
theorem Ow.nlen {w : World} {B g n c : Nat} {ts : List Nat} (h : Ow w B (.slice (some ⟨g, 0, none⟩) n c) ts) : ts.length = n := by
  rcases h.2 with ⟨e, _⟩ | ⟨g0, cap, cur, e, _⟩
  · cases e
  · injection e with _ e _; exact e.symm
theorem Ow.at_ {w : World} {B g n c : Nat} {ts : List Nat} (h : Ow w B (.slice (some ⟨g, 0, none⟩) n c) ts) {j : Nat} (hj : j < n) : w.cell? ⟨g, j, none⟩ = some (.int .u32 (ts[j]?.getD 0 : Nat)) := by
  have e := h.nlen
  subst e
  have e := World.ownsRow.cellAt h j (by omega)
  rw [getD_map ts j hj] at e
  exact e
theorem Ow.fr {w : World} {B g n c : Nat} {ts : List Nat} (h : Ow w B (.slice (some ⟨g, 0, none⟩) n c) ts) (j : Nat) : w.frozen? ⟨g, j, none⟩ = false := by
  have e := h.nlen
  subst e
  exact World.ownsRow.frozenAt h j
theorem Ow.put {w : World} {B g n c : Nat} {ts : List Nat} (h : Ow w B (.slice (some ⟨g, 0, none⟩) n c) ts) (j t : Nat) : Ow (w.setCell ⟨g, j, none⟩ (.int .u32 (t : Int))) B (.slice (some ⟨g, 0, none⟩) n c) (ts.set j t) := by
  have e := h.nlen
  subst e
  have e := (World.ownsRow.stored h j (u32c t)).1
  rw [← List.map_set] at e
  unfold Ow
  rw [List.length_set]
  exact e
theorem Ow.lt {w : World} {B g n c : Nat} {ts : List Nat} (h : Ow w B (.slice (some ⟨g, 0, none⟩) n c) ts) : B ≤ g ∧ g < w.heap.size := World.ownsRow.lt h g rfl
theorem Ow.keep {w w' : World} {B g n c : Nat} {ts : List Nat} {row : Option Nat} (h : Ow w B (.slice (some ⟨g, 0, none⟩) n c) ts) (hg : w.grownBy w' row) (hne : some g ≠ row) : Ow w' B (.slice (some ⟨g, 0, none⟩) n c) ts :=
  World.ownsRow.kept h hg (.inr hne)
theorem Ow.far {w : World} {B g n c : Nat} {ts : List Nat} (h : Ow w B (.slice (some ⟨g, 0, none⟩) n c) ts) {k i : Nat} (hk : k ≠ g) (v : Value) : Ow (w.setCell ⟨k, i, none⟩ v) B (.slice (some ⟨g, 0, none⟩) n c) ts :=
  h.keep (grownBy_setCellAt w k i v) (fun e => by injection e with e; exact hk e.symm)
theorem Ow.drew {w : World} {B : Nat} {v : Value} {ts : List Nat} (h : Ow w B v ts) : Ow w.drew B v ts := h
theorem Ow.drewN {w : World} {B : Nat} {v : Value} {ts : List Nat} (h : Ow w B v ts) (k : Nat) : Ow (w.drewN k) B v ts := h
theorem take_digs' {cs : List Nat} (g : Good cs) {v : Nat} (hv : val cs = v) : cs.take (digs v).length = digs v := by
  have h1 := tr_digs g rfl
  have h2 := tr_len g rfl
  rw [h2] at h1
  rw [← hv]
  exact h1
/-- What take returns: two numbers, each the call's own, in two blocks. -/
def RT (w : World) (G u v : Nat) (e : Ending) (w' : World) : Prop := ∃ g1 c1 g2 c2, e = .returned (.tuple #[.slice (some ⟨g1, 0, none⟩) (digs u).length c1, .slice (some ⟨g2, 0, none⟩) (digs v).length c2]) ∧
  Ow w' G (.slice (some ⟨g1, 0, none⟩) (digs u).length c1) (digs u) ∧ Ow w' G (.slice (some ⟨g2, 0, none⟩) (digs v).length c2) (digs v) ∧ g1 ≠ g2 ∧ Below G w w'

set_option maxRecDepth 100000 in
set_option maxHeartbeats 1600000 in
theorem take_any (w : World) (G ga gb n m ca cb a b : Nat) (c : Int) (A0 B0 A1 B1 : Nat) (hA : Ow w G (.slice (some ⟨ga, 0, none⟩) n ca) (digs a)) (hB : Ow w G (.slice (some ⟨gb, 0, none⟩) m cb) (digs b)) (hne : ga ≠ gb) (hG : G ≤ w.heap.size)
    (hn : (digs a).length = n) (hm : (digs b).length = m) (hmn : m ≤ n) (hn9 : n ≤ 1000000) (hc0 : 0 ≤ c) (_ : c ≤ 4294967296) (ha0 : A0 < 4294967296) (hb0 : B0 < 4294967296) (ha1 : A1 < 4294967296) (hb1 : B1 < 4294967296) (u v : Nat) (hu9 : u < 4294967296 ^ n) (hv9 : v < 4294967296 ^ n)
    (he : c % 2 = 0 → u + B0 * b = A0 * a ∧ v + A1 * a = B1 * b) (ho : c % 2 = 1 → u + A0 * a = B0 * b ∧ v + B1 * b = A1 * a) :
    Calls Tryd.prog 66 #[.agg (stV c A0 B0 A1 B1), .slice (some ⟨ga, 0, none⟩) n ca, .slice (some ⟨gb, 0, none⟩) m cb] w (RT w G u v) := by
  have hga := (World.ownsRow.lt hA ga rfl).2
  have hgb := (World.ownsRow.lt hB gb rfl).2
  have HA := Lib.hid hA
  have HB := Lib.hid hB
  clear hA hB
  go_enter Tryd.func66, Tryd.ntmps66
  go_wp2
  go_loopw [2] (fun bv wr => ∃ g k cc : Nat, m ≤ k ∧ k ≤ n ∧ bv = .slice (some ⟨g, 0, none⟩) k cc ∧ Ow wr G (.slice (some ⟨g, 0, none⟩) k cc) (digs b ++ zer (k - m)) ∧ g ≠ ga ∧ g ≠ w.heap.size ∧ Ow wr G (.slice (some ⟨ga, 0, none⟩) n ca) (digs a) ∧
      Kd wr w.heap.size 92 (stV c A0 B0 A1 B1) ∧ Below G w wr) (fun bv _ => n - (match bv with | .slice _ k _ => k | _ => 0))
  case atStart => exact ⟨gb, m, cb, Nat.le_refl _, hmn, rfl, (HB.out.alloc _).eq (by rw [Nat.sub_self]; exact (List.append_nil _).symm), Ne.symm hne, by omega, HA.out.alloc _, Kd.new w _ rfl _ _, (Below.refl _ _).alloc hG _⟩
  case round =>
    obtain ⟨g, k, cc, hk1, hk2, rfl, hOb, hg1, hg2, hOa, hS, hb⟩ := hrel
    have HOb := Lib.hid hOb
    have HOa := Lib.hid hOa
    have HS := Lib.hid hS
    have HBl := Lib.hid hb
    have hwr := hS.lt
    have hgs := hb.size
    have hgar := (World.ownsRow.lt hOa ga rfl).2
    clear hOb hOa hS hb
    by_cases hlt : k < n
    · have hlen : (digs b ++ zer (k - m)).length = k := by rw [List.length_append, zer_len, hm]; omega
      go_wp2_with (at_builtin; refine wpList_append_at _ rfl _ _ rfl G g k cc _ rfl HOb.out 0 0 1 rfl (by omega) hlen.symm (by omega) rfl ?_; intro g' c' w1 hO1 hgr hgg)
      go_roundw
      case rel =>
        refine ⟨g', k + 1, c', by omega, by omega, rfl, hO1.eq ?_, by omega, by omega, (HOa.out.alloc _).kept hgr (.inr (by simp [Value.ownBlock]; omega)), (HS.out.alloc _).grown hgr (by intro e; injection e with e; omega), HOb.out.below HBl.out (by omega) hgr⟩
        rw [List.append_assoc, show k + 1 - m = (k - m) + 1 by omega]
        congr 1
        simp [zer, List.replicate_succ']
      case measure => simp; omega
    · obtain rfl : k = n := by omega
      have HVs : Hid (val (digs b ++ zer (k - m)) = b) := by
        show _ = _
        rw [val_append, digs_val, val_zero (xs := zer (k - m)) (fun x hx => (List.mem_replicate.1 hx).2)]
        rfl
      have HGs : Hid (Good (digs b ++ zer (k - m))) := (digs_good b).append (zer_good _)
      have hys : (digs b ++ zer (k - m)).length = k := HOb.out.nlen
      have HVa : Hid (val (digs a) = a) := digs_val a
      have HGa : Hid (Good (digs a)) := digs_good a
      generalize hYY : digs b ++ zer (k - m) = ys at *
      generalize hXX : digs a = xs at *
      have s0 := HS.out.cell 0
      have s1 := HS.out.cell 1
      have s2 := HS.out.cell 2
      have s3 := HS.out.cell 3
      have s4 := HS.out.cell 4
      simp only [stV, List.getElem?_toArray, List.getElem?_cons_zero, List.getElem?_cons_succ] at s0 s1 s2 s3 s4
      by_cases hp : c % 2 = 1
      · have hp2 : c.tmod 2 = 1 := by rw [Int.tmod_eq_emod_of_nonneg hc0]; exact hp
        have HEQ := Lib.hid (ho hp)
        clear hlt he ho
        go_wp2
        have HK1 : Hid (Kd ((wr.alloc (.cells #[.int .u64 (B0 : Int), .int .u64 (A0 : Int), .int .u64 0, .int .u64 0] 106)).alloc (.cells #[.int .u64 (A1 : Int), .int .u64 (B1 : Int), .int .u64 0, .int .u64 0] 106)) wr.heap.size 106 (blV B0 A0 0 0)) := (Kd.new wr _ rfl _ _).alloc _
        have HK2 : Hid (Kd ((wr.alloc (.cells #[.int .u64 (B0 : Int), .int .u64 (A0 : Int), .int .u64 0, .int .u64 0] 106)).alloc (.cells #[.int .u64 (A1 : Int), .int .u64 (B1 : Int), .int .u64 0, .int .u64 0] 106)) (wr.heap.size + 1) 106 (blV A1 B1 0 0)) := Kd.new _ _ (by simp) _ _
        have HO1 := Lib.hid ((HOb.out.alloc (.cells #[.int .u64 (B0 : Int), .int .u64 (A0 : Int), .int .u64 0, .int .u64 0] 106)).alloc (.cells #[.int .u64 (A1 : Int), .int .u64 (B1 : Int), .int .u64 0, .int .u64 0] 106))
        have HO2 := Lib.hid ((HOa.out.alloc (.cells #[.int .u64 (B0 : Int), .int .u64 (A0 : Int), .int .u64 0, .int .u64 0] 106)).alloc (.cells #[.int .u64 (A1 : Int), .int .u64 (B1 : Int), .int .u64 0, .int .u64 0] 106))
        have HB1 : Hid (Below G w ((wr.alloc (.cells #[.int .u64 (B0 : Int), .int .u64 (A0 : Int), .int .u64 0, .int .u64 0] 106)).alloc (.cells #[.int .u64 (A1 : Int), .int .u64 (B1 : Int), .int .u64 0, .int .u64 0] 106))) := (HBl.out.alloc (by omega) _).alloc (by simp; omega) _
        have hL1 := HOb.out.lt.2
        have hL2 := HOa.out.lt.2
        generalize ((wr.alloc (.cells #[.int .u64 (B0 : Int), .int .u64 (A0 : Int), .int .u64 0, .int .u64 0] 106)).alloc (.cells #[.int .u64 (A1 : Int), .int .u64 (B1 : Int), .int .u64 0, .int .u64 0] 106)) = W0 at *
        clear HOa HOb HBl HS s0 s1 s2 s3 s4
        generalize wr.heap.size = N at *
        go_loopw [57] (fun iv wq => ∃ j : Nat, j ≤ k ∧ iv = .int .i64 (j : Int) ∧ Ow wq G (.slice (some ⟨g, 0, none⟩) k cc) ((blK B0 A0 ys xs j).1 ++ ys.drop j) ∧ Ow wq G (.slice (some ⟨ga, 0, none⟩) k ca) ((blK A1 B1 xs ys j).1 ++ xs.drop j) ∧
            Kd wq N 106 (blV B0 A0 (blK B0 A0 ys xs j).2.1 (blK B0 A0 ys xs j).2.2) ∧ Kd wq (N + 1) 106 (blV A1 B1 (blK A1 B1 xs ys j).2.1 (blK A1 B1 xs ys j).2.2) ∧ Below G w wq) (fun iv _ => k - (intOf iv).toNat)
        case atStart => exact ⟨0, Nat.zero_le _, rfl, HO1.out, HO2.out, HK1.out, HK2.out, HB1.out⟩
        case round =>
          obtain ⟨j, hj, rfl, hU1, hU2, hQ1, hQ2, hb⟩ := hrel
          have HU1 := Lib.hid hU1
          have HU2 := Lib.hid hU2
          have HQ1 := Lib.hid hQ1
          have HQ2 := Lib.hid hQ2
          have HBq := Lib.hid hb
          clear hU1 hU2 hQ1 hQ2 hb HO1 HO2 HK1 HK2 HB1
          have hbd1 := blK_bd hb0 ha0 HGs.out HGa.out j
          have hbd2 := blK_bd ha1 hb1 HGa.out HGs.out j
          have hx9 := HGs.out.get j
          have hy9 := HGa.out.get j
          by_cases hlt : j < k
          · have hc1 := HU1.out.at_ hlt
            have hc2 := HU2.out.at_ hlt
            rw [bl_at] at hc1 hc2
            have HSt1 := Lib.hid (bl_set (p := B0) (m := A0) (xs := ys) (ys := xs) (j := j) (by rw [hys]; exact hlt))
            have HSt2 := Lib.hid (bl_set (p := A1) (m := B1) (xs := xs) (ys := ys) (j := j) (by rw [hn]; exact hlt))
            have HDa : Hid ((blK B0 A0 ys xs (j + 1)).2.1 = blC ((blK B0 A0 ys xs j).2.1 + B0 * ys[j]?.getD 0) ∧ (blK B0 A0 ys xs (j + 1)).2.2 = blT ((blK B0 A0 ys xs j).2.1 + B0 * ys[j]?.getD 0) ((blK B0 A0 ys xs j).2.2 + A0 * xs[j]?.getD 0)) := ⟨rfl, rfl⟩
            have HDb : Hid ((blK A1 B1 xs ys (j + 1)).2.1 = blC ((blK A1 B1 xs ys j).2.1 + A1 * xs[j]?.getD 0) ∧ (blK A1 B1 xs ys (j + 1)).2.2 = blT ((blK A1 B1 xs ys j).2.1 + A1 * xs[j]?.getD 0) ((blK A1 B1 xs ys j).2.2 + B1 * ys[j]?.getD 0)) := ⟨rfl, rfl⟩
            have HLt1 : Hid (g < N) := hL1
            have HLt2 : Hid (ga < N) := hL2
            have hqs := HQ2.out.lt
            generalize ys[j]?.getD 0 = x at *
            generalize xs[j]?.getD 0 = y at *
            generalize (blK B0 A0 ys xs j).2.1 = ka at *
            generalize (blK B0 A0 ys xs j).2.2 = sa at *
            generalize (blK A1 B1 xs ys j).2.1 = kb at *
            generalize (blK A1 B1 xs ys j).2.2 = sb at *
            go_wp2
            go_quiet (fail)
            go_wp2_with fail
            refine (next_any _ N _ B0 A0 ka sa x y (HQ1.out.drewN nq) hb0 ha0 hbd1.1 hbd1.2 hx9 hy9).mono ?_
            rintro e w1 ⟨rfl, hR1, hG1⟩
            have HR1 := Lib.hid hR1
            have HV1 := Lib.hid ((HU1.out.drewN nq).keep hG1 (fun e => by injection e with e; have := HLt1.out; omega))
            have HV2 := Lib.hid ((HU2.out.drewN nq).keep hG1 (fun e => by injection e with e; have := HLt2.out; omega))
            have HR2 := Lib.hid ((HQ2.out.drewN nq).grown hG1 (fun e => by injection e with e; omega))
            have hGN : G ≤ N := by have := HLt1.out; have := HU1.out.lt.1; omega
            have HBr := Lib.hid ((bdrewN HBq.out nq).grown hG1 (Nat.le_trans hG HBq.out.size) (fun b e => by injection e with e; omega))
            clear hR1 hG1 hc1 hc2
            have hc1 := HV1.out.at_ hlt
            have hf1 := HV1.out.fr j
            go_wp2_with fail
            have HN1 : Hid (N ≠ g) := by show _ ≠ _; have := HLt1.out; omega
            refine (next_any _ (N + 1) _ A1 B1 kb sb y x (HR2.out.far (i := j) (show g ≠ N + 1 by have := HLt1.out; omega) _) ha1 hb1 hbd2.1 hbd2.2 hy9 hx9).mono ?_
            rintro e w2 ⟨rfl, hR2, hG2⟩
            have HX1 := Lib.hid ((HV1.out.put j _).keep hG2 (fun e => by injection e with e; have := HLt1.out; omega))
            have HX2 := Lib.hid ((HV2.out.far (i := j) hg1 _).keep hG2 (fun e => by injection e with e; have := HLt2.out; omega))
            have HY1 := Lib.hid ((HR1.out.far (i := j) (Ne.symm HN1.out) _).grown hG2 (fun e => by injection e with e; omega))
            have HY2 := Lib.hid hR2
            have HBs := Lib.hid ((HBr.out.setCell (p := ⟨g, j, none⟩) HU1.out.lt.1 _).grown hG2 (by rw [World.size_setCell]; exact Nat.le_trans hG HBr.out.size) (fun b e => by injection e with e; omega))
            clear hR2 hG2 hc1 hf1
            have hc2 := HX2.out.at_ hlt
            have hf2 := HX2.out.fr j
            go_wp2
            go_roundw
            case rel =>
              have e1 := HX1.out.far (i := j) (Ne.symm hg1) (.int .u32 ((blO (kb + A1 * y) (sb + B1 * x) : Nat) : Int))
              have e2 := HX2.out.put j (blO (kb + A1 * y) (sb + B1 * x))
              rw [HSt1.out] at e1
              rw [HSt2.out] at e2
              refine ⟨j + 1, by omega, by go_num, e1, e2, ?_, ?_, HBs.out.setCell (p := ⟨ga, j, none⟩) HU2.out.lt.1 _⟩
              · have e3 := HY1.out.far (i := j) (show ga ≠ N by have := HLt2.out; omega) (.int .u32 ((blO (kb + A1 * y) (sb + B1 * x) : Nat) : Int))
                rw [← HDa.out.1, ← HDa.out.2] at e3
                exact e3
              · have e3 := HY2.out.far (i := j) (show ga ≠ N + 1 by have := HLt2.out; omega) (.int .u32 ((blO (kb + A1 * y) (sb + B1 * x) : Nat) : Int))
                rw [← HDb.out.1, ← HDb.out.2] at e3
                exact e3
            case measure => simp [intOf]; omega
          · obtain rfl : j = k := by omega
            have HE1 : Hid (val (blK B0 A0 ys xs j).1 = u) := bl_all hys hn hu9 (by rw [HVs.out, HVa.out]; exact HEQ.out.1)
            have HE2 : Hid (val (blK A1 B1 xs ys j).1 = v) := bl_all hn hys hv9 (by rw [HVs.out, HVa.out]; exact HEQ.out.2)
            have HM1 := Lib.hid (HU1.out.toLm ((blK_good _ _ _ _ _).append (HGs.out.drop _)))
            have HM2 := Lib.hid (HU2.out.toLm ((blK_good _ _ _ _ _).append (HGa.out.drop _)))
            have HD1 : Hid (ys.drop j = []) := List.drop_of_length_le (by rw [hys]; exact Nat.le_refl _)
            have HD2 : Hid (xs.drop j = []) := List.drop_of_length_le (by rw [hn]; exact Nat.le_refl _)
            rw [HD1.out, List.append_nil] at HM1 HU1
            rw [HD2.out, List.append_nil] at HM2 HU2
            go_wp2_with fail
            refine (trim_any _ _ _ _ _ _ u HM1.out HE1.out).mono ?_
            rintro e w1 ⟨rfl, rfl⟩
            go_wp2_with fail
            refine (trim_any _ _ _ _ _ _ v HM2.out HE2.out).mono ?_
            rintro e w1 ⟨rfl, rfl⟩
            go_wp2
            go_ret2
            have hl1 : (digs u).length ≤ j := digs_len.2 hu9
            have hl2 : (digs v).length ≤ j := digs_len.2 hv9
            refine ⟨_, _, _, _, rfl, (HU1.out.shrink hl1).eq (take_digs' (blK_good _ _ _ _ _) HE1.out), (HU2.out.shrink hl2).eq (take_digs' (blK_good _ _ _ _ _) HE2.out), hg1, HBq.out⟩
      · have hp2 : c % 2 = 0 := by omega
        have hp3 : c.tmod 2 = 0 := by rw [Int.tmod_eq_emod_of_nonneg hc0]; exact hp2
        have HEQ := Lib.hid (he hp2)
        clear hlt hp he ho
        go_wp2
        have HK1 : Hid (Kd ((wr.alloc (.cells #[.int .u64 (A0 : Int), .int .u64 (B0 : Int), .int .u64 0, .int .u64 0] 106)).alloc (.cells #[.int .u64 (B1 : Int), .int .u64 (A1 : Int), .int .u64 0, .int .u64 0] 106)) wr.heap.size 106 (blV A0 B0 0 0)) := (Kd.new wr _ rfl _ _).alloc _
        have HK2 : Hid (Kd ((wr.alloc (.cells #[.int .u64 (A0 : Int), .int .u64 (B0 : Int), .int .u64 0, .int .u64 0] 106)).alloc (.cells #[.int .u64 (B1 : Int), .int .u64 (A1 : Int), .int .u64 0, .int .u64 0] 106)) (wr.heap.size + 1) 106 (blV B1 A1 0 0)) := Kd.new _ _ (by simp) _ _
        have HO1 := Lib.hid ((HOa.out.alloc (.cells #[.int .u64 (A0 : Int), .int .u64 (B0 : Int), .int .u64 0, .int .u64 0] 106)).alloc (.cells #[.int .u64 (B1 : Int), .int .u64 (A1 : Int), .int .u64 0, .int .u64 0] 106))
        have HO2 := Lib.hid ((HOb.out.alloc (.cells #[.int .u64 (A0 : Int), .int .u64 (B0 : Int), .int .u64 0, .int .u64 0] 106)).alloc (.cells #[.int .u64 (B1 : Int), .int .u64 (A1 : Int), .int .u64 0, .int .u64 0] 106))
        have HB1 : Hid (Below G w ((wr.alloc (.cells #[.int .u64 (A0 : Int), .int .u64 (B0 : Int), .int .u64 0, .int .u64 0] 106)).alloc (.cells #[.int .u64 (B1 : Int), .int .u64 (A1 : Int), .int .u64 0, .int .u64 0] 106))) := (HBl.out.alloc (by omega) _).alloc (by simp; omega) _
        have hL1 := HOa.out.lt.2
        have hL2 := HOb.out.lt.2
        generalize ((wr.alloc (.cells #[.int .u64 (A0 : Int), .int .u64 (B0 : Int), .int .u64 0, .int .u64 0] 106)).alloc (.cells #[.int .u64 (B1 : Int), .int .u64 (A1 : Int), .int .u64 0, .int .u64 0] 106)) = W0 at *
        clear HOa HOb HBl HS s0 s1 s2 s3 s4
        generalize wr.heap.size = N at *
        go_loopw [57] (fun iv wq => ∃ j : Nat, j ≤ k ∧ iv = .int .i64 (j : Int) ∧ Ow wq G (.slice (some ⟨ga, 0, none⟩) k ca) ((blK A0 B0 xs ys j).1 ++ xs.drop j) ∧ Ow wq G (.slice (some ⟨g, 0, none⟩) k cc) ((blK B1 A1 ys xs j).1 ++ ys.drop j) ∧
            Kd wq N 106 (blV A0 B0 (blK A0 B0 xs ys j).2.1 (blK A0 B0 xs ys j).2.2) ∧ Kd wq (N + 1) 106 (blV B1 A1 (blK B1 A1 ys xs j).2.1 (blK B1 A1 ys xs j).2.2) ∧ Below G w wq) (fun iv _ => k - (intOf iv).toNat)
        case atStart => exact ⟨0, Nat.zero_le _, rfl, HO1.out, HO2.out, HK1.out, HK2.out, HB1.out⟩
        case round =>
          obtain ⟨j, hj, rfl, hU1, hU2, hQ1, hQ2, hb⟩ := hrel
          have HU1 := Lib.hid hU1
          have HU2 := Lib.hid hU2
          have HQ1 := Lib.hid hQ1
          have HQ2 := Lib.hid hQ2
          have HBq := Lib.hid hb
          clear hU1 hU2 hQ1 hQ2 hb HO1 HO2 HK1 HK2 HB1
          have hbd1 := blK_bd ha0 hb0 HGa.out HGs.out j
          have hbd2 := blK_bd hb1 ha1 HGs.out HGa.out j
          have hx9 := HGa.out.get j
          have hy9 := HGs.out.get j
          by_cases hlt : j < k
          · have hc1 := HU1.out.at_ hlt
            have hc2 := HU2.out.at_ hlt
            rw [bl_at] at hc1 hc2
            have HSt1 := Lib.hid (bl_set (p := A0) (m := B0) (xs := xs) (ys := ys) (j := j) (by rw [hn]; exact hlt))
            have HSt2 := Lib.hid (bl_set (p := B1) (m := A1) (xs := ys) (ys := xs) (j := j) (by rw [hys]; exact hlt))
            have HDa : Hid ((blK A0 B0 xs ys (j + 1)).2.1 = blC ((blK A0 B0 xs ys j).2.1 + A0 * xs[j]?.getD 0) ∧ (blK A0 B0 xs ys (j + 1)).2.2 = blT ((blK A0 B0 xs ys j).2.1 + A0 * xs[j]?.getD 0) ((blK A0 B0 xs ys j).2.2 + B0 * ys[j]?.getD 0)) := ⟨rfl, rfl⟩
            have HDb : Hid ((blK B1 A1 ys xs (j + 1)).2.1 = blC ((blK B1 A1 ys xs j).2.1 + B1 * ys[j]?.getD 0) ∧ (blK B1 A1 ys xs (j + 1)).2.2 = blT ((blK B1 A1 ys xs j).2.1 + B1 * ys[j]?.getD 0) ((blK B1 A1 ys xs j).2.2 + A1 * xs[j]?.getD 0)) := ⟨rfl, rfl⟩
            have HLt1 : Hid (ga < N) := hL1
            have HLt2 : Hid (g < N) := hL2
            have hqs := HQ2.out.lt
            generalize xs[j]?.getD 0 = x at *
            generalize ys[j]?.getD 0 = y at *
            generalize (blK A0 B0 xs ys j).2.1 = ka at *
            generalize (blK A0 B0 xs ys j).2.2 = sa at *
            generalize (blK B1 A1 ys xs j).2.1 = kb at *
            generalize (blK B1 A1 ys xs j).2.2 = sb at *
            go_wp2
            go_quiet (fail)
            go_wp2_with fail
            refine (next_any _ N _ A0 B0 ka sa x y (HQ1.out.drewN nq) ha0 hb0 hbd1.1 hbd1.2 hx9 hy9).mono ?_
            rintro e w1 ⟨rfl, hR1, hG1⟩
            have HR1 := Lib.hid hR1
            have HV1 := Lib.hid ((HU1.out.drewN nq).keep hG1 (fun e => by injection e with e; have := HLt1.out; omega))
            have HV2 := Lib.hid ((HU2.out.drewN nq).keep hG1 (fun e => by injection e with e; have := HLt2.out; omega))
            have HR2 := Lib.hid ((HQ2.out.drewN nq).grown hG1 (fun e => by injection e with e; omega))
            have hGN : G ≤ N := by have := HLt1.out; have := HU1.out.lt.1; omega
            have HBr := Lib.hid ((bdrewN HBq.out nq).grown hG1 (Nat.le_trans hG HBq.out.size) (fun b e => by injection e with e; omega))
            clear hR1 hG1 hc1 hc2
            have hc1 := HV1.out.at_ hlt
            have hf1 := HV1.out.fr j
            go_wp2_with fail
            have HN1 : Hid (N ≠ ga) := by show _ ≠ _; have := HLt1.out; omega
            refine (next_any _ (N + 1) _ B1 A1 kb sb y x (HR2.out.far (i := j) (show ga ≠ N + 1 by have := HLt1.out; omega) _) hb1 ha1 hbd2.1 hbd2.2 hy9 hx9).mono ?_
            rintro e w2 ⟨rfl, hR2, hG2⟩
            have HX1 := Lib.hid ((HV1.out.put j _).keep hG2 (fun e => by injection e with e; have := HLt1.out; omega))
            have HX2 := Lib.hid ((HV2.out.far (i := j) (Ne.symm hg1) _).keep hG2 (fun e => by injection e with e; have := HLt2.out; omega))
            have HY1 := Lib.hid ((HR1.out.far (i := j) (Ne.symm HN1.out) _).grown hG2 (fun e => by injection e with e; omega))
            have HY2 := Lib.hid hR2
            have HBs := Lib.hid ((HBr.out.setCell (p := ⟨ga, j, none⟩) HU1.out.lt.1 _).grown hG2 (by rw [World.size_setCell]; exact Nat.le_trans hG HBr.out.size) (fun b e => by injection e with e; omega))
            clear hR2 hG2 hc1 hf1
            have hc2 := HX2.out.at_ hlt
            have hf2 := HX2.out.fr j
            go_wp2
            go_roundw
            case rel =>
              have e1 := HX1.out.far (i := j) hg1 (.int .u32 ((blO (kb + B1 * y) (sb + A1 * x) : Nat) : Int))
              have e2 := HX2.out.put j (blO (kb + B1 * y) (sb + A1 * x))
              rw [HSt1.out] at e1
              rw [HSt2.out] at e2
              refine ⟨j + 1, by omega, by go_num, e1, e2, ?_, ?_, HBs.out.setCell (p := ⟨g, j, none⟩) HU2.out.lt.1 _⟩
              · have e3 := HY1.out.far (i := j) (show g ≠ N by have := HLt2.out; omega) (.int .u32 ((blO (kb + B1 * y) (sb + A1 * x) : Nat) : Int))
                rw [← HDa.out.1, ← HDa.out.2] at e3
                exact e3
              · have e3 := HY2.out.far (i := j) (show g ≠ N + 1 by have := HLt2.out; omega) (.int .u32 ((blO (kb + B1 * y) (sb + A1 * x) : Nat) : Int))
                rw [← HDb.out.1, ← HDb.out.2] at e3
                exact e3
            case measure => simp [intOf]; omega
          · obtain rfl : j = k := by omega
            have HE1 : Hid (val (blK A0 B0 xs ys j).1 = u) := bl_all hn hys hu9 (by rw [HVa.out, HVs.out]; exact HEQ.out.1)
            have HE2 : Hid (val (blK B1 A1 ys xs j).1 = v) := bl_all hys hn hv9 (by rw [HVa.out, HVs.out]; exact HEQ.out.2)
            have HM1 := Lib.hid (HU1.out.toLm ((blK_good _ _ _ _ _).append (HGa.out.drop _)))
            have HM2 := Lib.hid (HU2.out.toLm ((blK_good _ _ _ _ _).append (HGs.out.drop _)))
            have HD1 : Hid (xs.drop j = []) := List.drop_of_length_le (by rw [hn]; exact Nat.le_refl _)
            have HD2 : Hid (ys.drop j = []) := List.drop_of_length_le (by rw [hys]; exact Nat.le_refl _)
            rw [HD1.out, List.append_nil] at HM1 HU1
            rw [HD2.out, List.append_nil] at HM2 HU2
            go_wp2_with fail
            refine (trim_any _ _ _ _ _ _ u HM1.out HE1.out).mono ?_
            rintro e w1 ⟨rfl, rfl⟩
            go_wp2_with fail
            refine (trim_any _ _ _ _ _ _ v HM2.out HE2.out).mono ?_
            rintro e w1 ⟨rfl, rfl⟩
            go_wp2
            go_ret2
            have hl1 : (digs u).length ≤ j := digs_len.2 hu9
            have hl2 : (digs v).length ≤ j := digs_len.2 hv9
            refine ⟨_, _, _, _, rfl, (HU1.out.shrink hl1).eq (take_digs' (blK_good _ _ _ _ _) HE1.out), (HU2.out.shrink hl2).eq (take_digs' (blK_good _ _ _ _ _) HE2.out), (Ne.symm hg1), HBq.out⟩
end Go.Proofs.YtegpckhfncblhaaDoor

/- wide.divisor and Gcd. -/
namespace Go.Proofs.YtegpckhfncblhaaDoor
open Go.RowKit

/-- A call returns the limbs of v. -/
def RGl (w : World) (v : Nat) (e : Ending) (w' : World) : Prop := ∃ A c, e = .returned (.slice A (digs v).length c) ∧ Lm w' w'.heap.size A (digs v).length c (digs v) ∧ Below w.heap.size w w'
theorem two_lt {b : Nat} (h : (digs b).length ≤ 2) : b < 18446744073709551616 := by
  have := digs_len.1 h
  omega
theorem clone_ow' (w : World) (A : Option Addr) (n c : Nat) (xs : List Nat) (h : Lm w w.heap.size A n c xs) (hn : n ≤ 1000000000) :
    Calls Tryd.prog 49 #[.slice A n c] w fun e w' => ∃ A' c', e = .returned (.slice A' n c') ∧ Ow w' w.heap.size (.slice A' n c') xs ∧ Below w.heap.size w w' := by
  obtain ⟨i0, hi0, hz0, hz1, hz2⟩ := info_parts u32_info
  have hr := h.max
  have hl := h.len
  have HH := Lib.hid h
  have hnil := fun (w : World) (a : Option Addr) (n c n' c' : Nat) => Lib.run_eql_slice_nil (P := Tryd.prog) w 22 64 a n c n' c' slice_u32
  rcases A with _ | ad
  · have hm : n = 0 := by
      rcases Nat.eq_zero_or_pos n with h0 | h0
      · exact h0
      · obtain ⟨b, off, e, _⟩ := h.at_ h0
        cases e
    subst hm
    obtain rfl := h.nil_ rfl
    obtain rfl : xs = [] := List.eq_nil_of_length_eq_zero hl
    go_enter Tryd.func49, Tryd.ntmps49
    go_wp2
    go_ret
    exact ⟨_, _, rfl, Ow.nil _ _, Below.refl _ _⟩
  · go_enter Tryd.func49, Tryd.ntmps49
    go_wp2_with (at_builtin; refine wpList_append_lm _ rfl _ _ _ rfl w.heap.size _ i0 slice_u32 hi0 hz0 hz1 hz2 _ 0 [] rfl (World.ownsRow_made _ _ _ (Nat.le_refl _) (by simp [maxLen]) rfl) _ _ _ _ xs rfl (HH.out.box _) (by simp only [maxLen]; omega) (by omega) (by simp) ?_; intro v1 w1 hown1 hg1)
    go_ret
    rw [Nat.zero_add, List.nil_append] at hown1
    have hO : Ow w1 w.heap.size v1 xs := by unfold Ow; rw [hl]; exact hown1
    obtain ⟨A', c', rfl, hL⟩ := hO.lm HH.out.good
    rw [hl] at hO ⊢
    refine ⟨A', c', rfl, hO, ((Below.refl _ _).alloc (Nat.le_refl _) _).grown hg1 (by simp) (fun k hk => ?_)⟩
    have e : w.heap.size = k := Option.some.inj hk
    omega
theorem Ow.via {w w' : World} {B : Nat} {v : Value} {ts : List Nat} (h : Ow w B v ts) (hb : Below w.heap.size w w') : Ow w' B v ts :=
  World.ownsRow.kept (row := none) h ⟨hb.os, hb.tape, hb.output, hb.size, fun k hk _ => hb.block k hk⟩ (by cases v.ownBlock <;> simp)
/-- Two slices do not share a block. -/
def Apt (v v' : Value) : Prop := ∀ g, v.ownBlock = some g → v'.ownBlock = some g → False
/-- The number that a slice of limbs reads as. -/
def rdV (w : World) : Value → Nat
  | .slice (some ad) n _ => val ((List.range n).map fun j => match w.cell? ⟨ad.block, ad.off + j, none⟩ with | some (.int _ z) => z.toNat | _ => 0)
  | _ => 0
theorem rdV_lm {w : World} {B n c : Nat} {A : Option Addr} {xs : List Nat} (h : Lm w B A n c xs) : rdV w (.slice A n c) = val xs := by
  rcases A with _ | ad
  · rcases Nat.eq_zero_or_pos n with h0 | h0
    · obtain rfl : xs = [] := List.eq_nil_of_length_eq_zero (by rw [h.len]; exact h0)
      rfl
    · obtain ⟨b, off, e, _⟩ := h.at_ h0
      cases e
  · show val _ = _
    congr 1
    refine List.ext_getElem? fun j => ?_
    by_cases hj : j < n
    · obtain ⟨b, off, e, _, hc⟩ := h.cell hj
      injection e with e
      subst e
      rw [List.getElem?_map, List.getElem?_range hj]
      show some (match w.cell? ⟨b, off + j, none⟩ with | some (.int _ z) => z.toNat | _ => 0) = _
      rw [hc, get_nat xs j (by rw [h.len]; exact hj)]
      rfl
    · rw [List.getElem?_eq_none (by simp; omega), List.getElem?_eq_none (by rw [h.len]; omega)]
theorem rdV_ow {w : World} {B n c v : Nat} {A : Option Addr} (h : Ow w B (.slice A n c) (digs v)) : rdV w (.slice A n c) = v := by rw [rdV_lm (h.toLm (digs_good _)), digs_val]
theorem win_0 {b : Nat} (h : b < 18446744073709551616) : win b 0 = b := by unfold win; rw [Nat.pow_zero, Nat.div_one]; exact Nat.mod_eq_of_lt h

set_option maxRecDepth 100000 in
set_option maxHeartbeats 2000000 in
theorem divisor_lt (w : World) (A B : Option Addr) (n0 m0 ca cb a0 b0 : Nat) (hA : Lm w w.heap.size A n0 ca (digs a0)) (hB : Lm w w.heap.size B m0 cb (digs b0)) (hlt : b0 < a0) (hn : n0 ≤ 4096) (hm : m0 ≤ 4096) :
    Calls Tryd.prog 47 #[.slice B m0 cb, .slice A n0 ca] w (RGl w (Nat.gcd a0 b0)) := by
  obtain ⟨z, hz, HC⟩ : ∃ z : Int, decide (z < 0) = true ∧ Hid (cmpL (digs b0) (digs a0) = z) := ⟨_, by rw [cmpL_norm (digs_good _) (digs_good _) (digs_norm _) (digs_norm _), digs_val, digs_val]; rw [cmpN_lt hlt]; decide, rfl⟩
  have hcA := hA.cap
  have hxA := hA.max
  have hcB := hB.cap
  have hxB := hB.max
  have HA := Lib.hid hA
  have HB := Lib.hid hB
  have HN0 := Lib.hid hA.len
  have HM0 := Lib.hid hB.len
  have HLE : Hid (b0 ≤ a0) := by show _ ≤ _; omega
  clear hA hB hlt
  go_enter Tryd.func47, Tryd.ntmps47
  go_wp2_with fail
  refine (compare_any _ _ _ _ _ _ (digs b0) (digs a0) _ HB.out HA.out).mono ?_
  rintro e w1 ⟨he, hb1⟩
  rw [HC.out] at he
  subst he
  have HA1 := Lib.hid (HA.out.via hb1)
  have HB1 := Lib.hid (HB.out.via hb1)
  have HBl1 := Lib.hid hb1
  clear hb1
  go_wp2_with fail
  refine (clone_ow' _ _ _ _ (digs a0) HA1.out (by omega)).mono ?_
  rintro e w2 ⟨A2, c2, rfl, hO2, hb2⟩
  have HB2 := Lib.hid (HB1.out.via hb2)
  have HO2 := Lib.hid hO2
  have HS2 : Hid (w1.heap.size ≤ w2.heap.size) := hb2.size
  have HBl2 := Lib.hid (HBl1.out.trans (hb2.mono HBl1.out.size))
  clear hb2 hO2 HA1 HB1
  go_wp2_with fail
  refine (clone_ow' _ _ _ _ (digs b0) HB2.out (by omega)).mono ?_
  rintro e w3 ⟨B3, c3, rfl, hO3, hb3⟩
  have HO3 := Lib.hid hO3
  have HO23 : Hid (Ow w3 w1.heap.size (.slice A2 n0 c2) (digs a0)) := HO2.out.via hb3
  have HBl3 := Lib.hid (HBl2.out.trans (hb3.mono HBl2.out.size))
  have HAp : Hid (Apt (.slice A2 n0 c2) (.slice B3 m0 c3)) := fun g h1 h2 => by
    have e1 := (World.ownsRow.lt HO2.out g h1).2
    have e2 := (World.ownsRow.lt HO3.out g h2).1
    omega
  have HW1 : Hid (w.heap.size ≤ w1.heap.size) := HBl1.out.size
  have HW2 : Hid (w.heap.size ≤ w2.heap.size) := HBl2.out.size
  clear hb3 hO3 HB2
  go_wp2
  go_loopw [0, 1] (fun p q wr => ∃ (a b n m c2 c3 : Nat) (A2 B3 : Option Addr), p = .slice A2 n c2 ∧ q = .slice B3 m c3 ∧ (digs a).length = n ∧ (digs b).length = m ∧ Ow wr w.heap.size (.slice A2 n c2) (digs a) ∧ Ow wr w.heap.size (.slice B3 m c3) (digs b) ∧ Apt (.slice A2 n c2) (.slice B3 m c3) ∧
      b ≤ a ∧ a ≤ a0 ∧ Nat.gcd a b = Nat.gcd a0 b0 ∧ Below w.heap.size w wr) (fun p q wr => rdV wr p + rdV wr q)
  case atStart => exact ⟨a0, b0, n0, m0, c2, c3, A2, B3, rfl, rfl, HN0.out, HM0.out, HO23.out.mono HW1.out, HO3.out.mono HW2.out, HAp.out, HLE.out, Nat.le_refl _, rfl, HBl3.out⟩
  case round =>
    clear HO2 HO3 HO23 HBl1 HBl2 HBl3 HAp HS2
    obtain ⟨a, b, n, m, c2, c3, A2, B3, rfl, rfl, hN, hM, hO2, hO3, hap, hle, haa, hg, hbl⟩ := hrel
    have hn : n ≤ 4096 := by
      have e := digs_mono haa
      rw [hN, HN0.out] at e
      omega
    have hm : m ≤ 4096 := by
      have e := digs_mono (Nat.le_trans hle haa)
      rw [hM, HN0.out] at e
      omega
    have HN := Lib.hid hN
    have HM := Lib.hid hM
    have HO2 := Lib.hid hO2
    have HO3 := Lib.hid hO3
    have HA3 := Lib.hid (hO2.toLm (digs_good _))
    have HB3 := Lib.hid (hO3.toLm (digs_good _))
    have HBl3 := Lib.hid hbl
    have HAp := Lib.hid hap
    have HGG := Lib.hid hg
    have HLE := Lib.hid hle
    have HAA := Lib.hid haa
    have hc2 := HA3.out.cap
    have hx2 := HA3.out.max
    have hc3 := HB3.out.cap
    have hx3 := HB3.out.max
    clear hN hM hO2 hO3 hbl hap hg hle haa
    by_cases hm2 : 2 < m
    · have hb0 : 0 < b := by rw [← digs_pos, HM.out]; omega
      have hs3 := HBl3.out.size
      go_wp2_with fail
      refine (foresee_any _ _ _ _ _ _ _ a b HA3.out HB3.out HLE.out (by omega) (by omega)).mono ?_
      rintro e w4 ⟨c, A0, B0, A1, B1, rfl, hc9, ⟨p, s, x, y, A2', B2', hI⟩, hb4⟩
      have HI := Lib.hid hI
      have HP2 := Lib.hid (HO2.out.via hb4)
      have HP3 := Lib.hid (HO3.out.via hb4)
      have HBl4 := Lib.hid (HBl3.out.trans (hb4.mono HBl3.out.size))
      clear hI hb4
      by_cases hc : 0 < c
      · obtain ⟨u, v, hvu, huv, hsum, hua, t1, t2, t3, t4, t5, t6⟩ := leh_take HI.out hc hb0
        have HU := Lib.hid hvu
        have HUV := Lib.hid huv
        have HSum := Lib.hid hsum
        have HUA := Lib.hid hua
        have HT5 := Lib.hid t5
        have HT6 := Lib.hid t6
        obtain ⟨ga, rfl, e1, _⟩ := HP2.out.ob (by rw [HN.out]; have := digs_mono HLE.out; rw [HN.out, HM.out] at this; omega)
        obtain ⟨gb, rfl, e2, _⟩ := HP3.out.ob (by rw [HM.out]; omega)
        have HNe : Hid (ga ≠ gb) := fun e => HAp.out ga rfl (by rw [e]; rfl)
        have HUB : Hid (u < 4294967296 ^ n) := Nat.lt_of_le_of_lt hua (digs_len.1 (Nat.le_of_eq HN.out))
        have HVB : Hid (v < 4294967296 ^ n) := Nat.lt_of_le_of_lt hvu HUB.out
        have HMN : Hid (m ≤ n) := by have := digs_mono HLE.out; rw [HN.out, HM.out] at this; exact this
        have hs4 := HBl4.out.size
        clear hvu huv hsum hua t5 t6 e1 e2
        go_wp2_with fail
        refine (take_any _ w.heap.size ga gb n m c2 c3 a b c A0 B0 A1 B1 (HP2.out.alloc _) (HP3.out.alloc _) HNe.out (by simp; omega) HN.out HM.out HMN.out (by omega) (by omega) hc9 t1 t2 t3 t4 u v HUB.out HVB.out HT5.out HT6.out).mono ?_
        rintro e w6 ⟨g1, k1, g2, k2, rfl, hU6, hV6, hne6, hb6⟩
        have HU6 := Lib.hid hU6
        have HV6 := Lib.hid hV6
        have HNe6 := Lib.hid hne6
        have HBl6 := Lib.hid ((HBl4.out.alloc hs4 _).trans hb6)
        clear hU6 hV6 hne6 hb6
        go_wp2
        go_roundw
        case rel =>
          exact ⟨u, v, _, _, k1, k2, some ⟨g1, 0, none⟩, some ⟨g2, 0, none⟩, rfl, rfl, rfl, rfl, HU6.out, HV6.out, (fun g e1 e2 => by injection e1 with e1; injection e2 with e2; exact HNe6.out (e1.trans e2.symm)), HU.out, Nat.le_trans HUA.out HAA.out, HUV.out.trans HGG.out, HBl6.out⟩
        case measure =>
          rw [rdV_ow HU6.out, rdV_ow HV6.out, rdV_ow HO2.out, rdV_ow HO3.out]
          exact HSum.out
      · have hcd : decide (0 < c) = false := by simpa using hc
        have HA4 := Lib.hid (HP2.out.toLm (digs_good _))
        have HB4 := Lib.hid (HP3.out.toLm (digs_good _))
        have hs4 := HBl4.out.size
        go_wp2_with fail
        refine (divide_ow _ A2 B3 n m c2 c3 a b (HA4.out.box _) (HB4.out.box _) HLE.out (by omega) (by omega)).mono ?_
        rintro e w6 ⟨Q, cq, R, cr, rfl, _, hR6, hb6⟩
        have HR6 := Lib.hid hR6
        have HP6 := Lib.hid ((HP3.out.alloc _).via hb6)
        have HBl6 := Lib.hid ((HBl4.out.alloc hs4 _).trans (hb6.mono (by simp; omega)))
        have HX : Hid (w.heap.size ≤ w4.heap.size + 1) := by show _ ≤ _; omega
        clear hR6 hb6
        go_wp2
        go_roundw
        case rel =>
          exact ⟨b, a % b, m, _, c3, cr, B3, R, rfl, rfl, HM.out, rfl, HP6.out, HR6.out.mono (by simp only [World.size_alloc]; exact HX.out), (fun g e1 e2 => by
            have l1 := (World.ownsRow.lt HP3.out g e1).2
            have l2 := (World.ownsRow.lt HR6.out g e2).1
            simp only [World.size_alloc] at l2
            omega), Nat.le_of_lt (Nat.mod_lt a hb0), Nat.le_trans HLE.out HAA.out, by rw [← HGG.out, Nat.gcd_comm b, ← Nat.gcd_rec, Nat.gcd_comm], HBl6.out⟩
        case measure =>
          rw [rdV_ow HP6.out, rdV_ow HR6.out, rdV_ow HO2.out, rdV_ow HO3.out]
          have := Nat.mod_lt a hb0
          have := HLE.out
          omega
    · have hb9 : b < 18446744073709551616 := two_lt (by rw [HM.out]; omega)
      have HWb := Lib.hid (win_0 hb9)
      have hm2' : m ≤ 2 := by omega
      clear hm2
      rcases Nat.eq_zero_or_pos m with h0 | h0
      · have HG : Hid (Nat.gcd a b = a) := by
          show _ = _
          obtain rfl : b = 0 := digs_nil.1 (List.eq_nil_of_length_eq_zero (by rw [HM.out]; exact h0))
          exact Nat.gcd_zero_right a
        subst h0
        go_wp2
        go_ret
        rw [← HGG.out, HG.out]
        exact ⟨A2, c2, by rw [HN.out]; rfl, by rw [HN.out]; exact HA3.out, HBl3.out⟩
      · have hb0 : 0 < b := by rw [← digs_pos, HM.out]; exact h0
        have hmz : ((m : Int) == 0) = false := by simp; omega
        go_wp2_with fail
        refine (divide_any wr A2 B3 n m c2 c3 a b HA3.out HB3.out hb0 (by omega)).mono ?_
        rintro e w4 ⟨Q, cq, R, cr, rfl, hQ, hR, hb4⟩
        have hr9 := Nat.mod_lt a hb0
        have HB4 := Lib.hid (HB3.out.via hb4)
        have HBl4 := Lib.hid (HBl3.out.trans (hb4.mono HBl3.out.size))
        have HR4 := Lib.hid hR
        have HWr : Hid (win (a % b) 0 = a % b) := win_0 (by omega)
        clear hQ hR hb4
        go_wp2_with fail
        refine (window_any w4 B3 m c3 (digs b) b 0 HB4.out (digs_val b) (by omega) (by omega)).mono ?_
        rintro e w5 ⟨rfl, d5, rfl⟩
        go_wp2_with fail
        refine (window_any _ R _ cr (digs (a % b)) (a % b) 0 (HR4.out.drewN d5) (digs_val _) (by omega) (by omega)).mono ?_
        rintro e w6 ⟨rfl, d6, rfl⟩
        rw [show (Int.toNat 0) = 0 from rfl, HWb.out, HWr.out]
        have HG : Hid (Nat.gcd b (a % b) = Nat.gcd a b) := by show _ = _; rw [Nat.gcd_comm b, ← Nat.gcd_rec, Nat.gcd_comm]
        obtain ⟨r, hr⟩ : ∃ r, a % b = r := ⟨_, rfl⟩
        rw [hr] at HG hr9 ⊢
        have HR := Lib.hid hr
        clear hr
        go_wp2
        go_loopw [10, 11] (fun x y wr => ∃ p q d : Nat, x = .int .u64 (p : Int) ∧ y = .int .u64 (q : Int) ∧ p < 18446744073709551616 ∧ q < 18446744073709551616 ∧ Nat.gcd p q = Nat.gcd a b ∧ wr = w4.drewN d) (fun _ y _ => (intOf y).toNat)
        case atStart => exact ⟨b, r, _, rfl, rfl, hb9, by omega, HG.out, rfl⟩
        case round =>
          obtain ⟨p, q, d, rfl, rfl, hp, hq, hg, rfl⟩ := hrel
          have HGp := Lib.hid hg
          clear hg
          by_cases hq0 : q = 0
          · subst hq0
            have HGq : Hid (p = Nat.gcd a b) := by show _ = _; rw [← HGp.out, Nat.gcd_zero_right]
            go_wp2_with fail
            refine (trim_any _ _ _ _ _ _ p (Lm.two _ _ _ (p % 4294967296) (p / 4294967296 % 4294967296) _ _ rfl (by omega) (by omega) (by omega) (by omega)) (val2 p hp)).mono ?_
            rintro e w7 ⟨rfl, rfl⟩
            go_wp2
            go_ret
            rw [← HGG.out, ← HGq.out]
            exact ⟨_, _, rfl, ((Lm.two _ _ _ (p % 4294967296) (p / 4294967296 % 4294967296) _ _ rfl (by omega) (by omega) (by omega) (by omega)).trim' (val2 p hp)).mono (by simp), (bdrewN HBl4.out d).alloc HBl4.out.size _⟩
          · have hq1 : 0 < q := Nat.pos_of_ne_zero hq0
            have hqi : ¬ ((q : Int) = 0) := by omega
            have hm0 : (p : Int) % (q : Int) = ((p % q : Nat) : Int) := by rw [← Int.natCast_emod]
            have hm1 : (p : Int).tmod (q : Int) = ((p % q : Nat) : Int) := by rw [Int.tmod_eq_emod_of_nonneg (by omega), ← Int.natCast_emod]
            have hl := Nat.mod_lt p hq1
            have HG2 : Hid (Nat.gcd q (p % q) = Nat.gcd a b) := by show _ = _; rw [Nat.gcd_comm q, ← Nat.gcd_rec, Nat.gcd_comm, HGp.out]
            generalize p % q = s at *
            clear hq0
            go_wp2_with fail
            go_quiet (fail)
            go_wp2
            go_roundw
            case rel => exact ⟨q, s, _, rfl, rfl, hq, by omega, HG2.out, drewN_add w4 _ _⟩
            case measure => simp [intOf]; omega

set_option maxRecDepth 100000 in
set_option maxHeartbeats 2000000 in
theorem divisor_ge (w : World) (A B : Option Addr) (n0 m0 ca cb a0 b0 : Nat) (hA : Lm w w.heap.size A n0 ca (digs a0)) (hB : Lm w w.heap.size B m0 cb (digs b0)) (hlt : b0 ≤ a0) (hn : n0 ≤ 4096) (hm : m0 ≤ 4096) :
    Calls Tryd.prog 47 #[.slice A n0 ca, .slice B m0 cb] w (RGl w (Nat.gcd a0 b0)) := by
  obtain ⟨z, hz, HC⟩ : ∃ z : Int, decide (z < 0) = false ∧ Hid (cmpL (digs a0) (digs b0) = z) := ⟨_, by rw [cmpL_norm (digs_good _) (digs_good _) (digs_norm _) (digs_norm _), digs_val, digs_val]; unfold cmpN; rw [if_neg (by omega)]; split <;> decide, rfl⟩
  have hcA := hA.cap
  have hxA := hA.max
  have hcB := hB.cap
  have hxB := hB.max
  have HA := Lib.hid hA
  have HB := Lib.hid hB
  have HN0 := Lib.hid hA.len
  have HM0 := Lib.hid hB.len
  have HLE : Hid (b0 ≤ a0) := by show _ ≤ _; omega
  clear hA hB hlt
  go_enter Tryd.func47, Tryd.ntmps47
  go_wp2_with fail
  refine (compare_any _ _ _ _ _ _ (digs a0) (digs b0) _ HA.out HB.out).mono ?_
  rintro e w1 ⟨he, hb1⟩
  rw [HC.out] at he
  subst he
  have HA1 := Lib.hid (HA.out.via hb1)
  have HB1 := Lib.hid (HB.out.via hb1)
  have HBl1 := Lib.hid hb1
  clear hb1
  go_wp2_with fail
  refine (clone_ow' _ _ _ _ (digs a0) HA1.out (by omega)).mono ?_
  rintro e w2 ⟨A2, c2, rfl, hO2, hb2⟩
  have HB2 := Lib.hid (HB1.out.via hb2)
  have HO2 := Lib.hid hO2
  have HS2 : Hid (w1.heap.size ≤ w2.heap.size) := hb2.size
  have HBl2 := Lib.hid (HBl1.out.trans (hb2.mono HBl1.out.size))
  clear hb2 hO2 HA1 HB1
  go_wp2_with fail
  refine (clone_ow' _ _ _ _ (digs b0) HB2.out (by omega)).mono ?_
  rintro e w3 ⟨B3, c3, rfl, hO3, hb3⟩
  have HO3 := Lib.hid hO3
  have HO23 : Hid (Ow w3 w1.heap.size (.slice A2 n0 c2) (digs a0)) := HO2.out.via hb3
  have HBl3 := Lib.hid (HBl2.out.trans (hb3.mono HBl2.out.size))
  have HAp : Hid (Apt (.slice A2 n0 c2) (.slice B3 m0 c3)) := fun g h1 h2 => by
    have e1 := (World.ownsRow.lt HO2.out g h1).2
    have e2 := (World.ownsRow.lt HO3.out g h2).1
    omega
  have HW1 : Hid (w.heap.size ≤ w1.heap.size) := HBl1.out.size
  have HW2 : Hid (w.heap.size ≤ w2.heap.size) := HBl2.out.size
  clear hb3 hO3 HB2
  go_wp2
  go_loopw [0, 1] (fun p q wr => ∃ (a b n m c2 c3 : Nat) (A2 B3 : Option Addr), p = .slice A2 n c2 ∧ q = .slice B3 m c3 ∧ (digs a).length = n ∧ (digs b).length = m ∧ Ow wr w.heap.size (.slice A2 n c2) (digs a) ∧ Ow wr w.heap.size (.slice B3 m c3) (digs b) ∧ Apt (.slice A2 n c2) (.slice B3 m c3) ∧
      b ≤ a ∧ a ≤ a0 ∧ Nat.gcd a b = Nat.gcd a0 b0 ∧ Below w.heap.size w wr) (fun p q wr => rdV wr p + rdV wr q)
  case atStart => exact ⟨a0, b0, n0, m0, c2, c3, A2, B3, rfl, rfl, HN0.out, HM0.out, HO23.out.mono HW1.out, HO3.out.mono HW2.out, HAp.out, HLE.out, Nat.le_refl _, rfl, HBl3.out⟩
  case round =>
    clear HO2 HO3 HO23 HBl1 HBl2 HBl3 HAp HS2
    obtain ⟨a, b, n, m, c2, c3, A2, B3, rfl, rfl, hN, hM, hO2, hO3, hap, hle, haa, hg, hbl⟩ := hrel
    have hn : n ≤ 4096 := by
      have e := digs_mono haa
      rw [hN, HN0.out] at e
      omega
    have hm : m ≤ 4096 := by
      have e := digs_mono (Nat.le_trans hle haa)
      rw [hM, HN0.out] at e
      omega
    have HN := Lib.hid hN
    have HM := Lib.hid hM
    have HO2 := Lib.hid hO2
    have HO3 := Lib.hid hO3
    have HA3 := Lib.hid (hO2.toLm (digs_good _))
    have HB3 := Lib.hid (hO3.toLm (digs_good _))
    have HBl3 := Lib.hid hbl
    have HAp := Lib.hid hap
    have HGG := Lib.hid hg
    have HLE := Lib.hid hle
    have HAA := Lib.hid haa
    have hc2 := HA3.out.cap
    have hx2 := HA3.out.max
    have hc3 := HB3.out.cap
    have hx3 := HB3.out.max
    clear hN hM hO2 hO3 hbl hap hg hle haa
    by_cases hm2 : 2 < m
    · have hb0 : 0 < b := by rw [← digs_pos, HM.out]; omega
      have hs3 := HBl3.out.size
      go_wp2_with fail
      refine (foresee_any _ _ _ _ _ _ _ a b HA3.out HB3.out HLE.out (by omega) (by omega)).mono ?_
      rintro e w4 ⟨c, A0, B0, A1, B1, rfl, hc9, ⟨p, s, x, y, A2', B2', hI⟩, hb4⟩
      have HI := Lib.hid hI
      have HP2 := Lib.hid (HO2.out.via hb4)
      have HP3 := Lib.hid (HO3.out.via hb4)
      have HBl4 := Lib.hid (HBl3.out.trans (hb4.mono HBl3.out.size))
      clear hI hb4
      by_cases hc : 0 < c
      · obtain ⟨u, v, hvu, huv, hsum, hua, t1, t2, t3, t4, t5, t6⟩ := leh_take HI.out hc hb0
        have HU := Lib.hid hvu
        have HUV := Lib.hid huv
        have HSum := Lib.hid hsum
        have HUA := Lib.hid hua
        have HT5 := Lib.hid t5
        have HT6 := Lib.hid t6
        obtain ⟨ga, rfl, e1, _⟩ := HP2.out.ob (by rw [HN.out]; have := digs_mono HLE.out; rw [HN.out, HM.out] at this; omega)
        obtain ⟨gb, rfl, e2, _⟩ := HP3.out.ob (by rw [HM.out]; omega)
        have HNe : Hid (ga ≠ gb) := fun e => HAp.out ga rfl (by rw [e]; rfl)
        have HUB : Hid (u < 4294967296 ^ n) := Nat.lt_of_le_of_lt hua (digs_len.1 (Nat.le_of_eq HN.out))
        have HVB : Hid (v < 4294967296 ^ n) := Nat.lt_of_le_of_lt hvu HUB.out
        have HMN : Hid (m ≤ n) := by have := digs_mono HLE.out; rw [HN.out, HM.out] at this; exact this
        have hs4 := HBl4.out.size
        clear hvu huv hsum hua t5 t6 e1 e2
        go_wp2_with fail
        refine (take_any _ w.heap.size ga gb n m c2 c3 a b c A0 B0 A1 B1 (HP2.out.alloc _) (HP3.out.alloc _) HNe.out (by simp; omega) HN.out HM.out HMN.out (by omega) (by omega) hc9 t1 t2 t3 t4 u v HUB.out HVB.out HT5.out HT6.out).mono ?_
        rintro e w6 ⟨g1, k1, g2, k2, rfl, hU6, hV6, hne6, hb6⟩
        have HU6 := Lib.hid hU6
        have HV6 := Lib.hid hV6
        have HNe6 := Lib.hid hne6
        have HBl6 := Lib.hid ((HBl4.out.alloc hs4 _).trans hb6)
        clear hU6 hV6 hne6 hb6
        go_wp2
        go_roundw
        case rel =>
          exact ⟨u, v, _, _, k1, k2, some ⟨g1, 0, none⟩, some ⟨g2, 0, none⟩, rfl, rfl, rfl, rfl, HU6.out, HV6.out, (fun g e1 e2 => by injection e1 with e1; injection e2 with e2; exact HNe6.out (e1.trans e2.symm)), HU.out, Nat.le_trans HUA.out HAA.out, HUV.out.trans HGG.out, HBl6.out⟩
        case measure =>
          rw [rdV_ow HU6.out, rdV_ow HV6.out, rdV_ow HO2.out, rdV_ow HO3.out]
          exact HSum.out
      · have hcd : decide (0 < c) = false := by simpa using hc
        have HA4 := Lib.hid (HP2.out.toLm (digs_good _))
        have HB4 := Lib.hid (HP3.out.toLm (digs_good _))
        have hs4 := HBl4.out.size
        go_wp2_with fail
        refine (divide_ow _ A2 B3 n m c2 c3 a b (HA4.out.box _) (HB4.out.box _) HLE.out (by omega) (by omega)).mono ?_
        rintro e w6 ⟨Q, cq, R, cr, rfl, _, hR6, hb6⟩
        have HR6 := Lib.hid hR6
        have HP6 := Lib.hid ((HP3.out.alloc _).via hb6)
        have HBl6 := Lib.hid ((HBl4.out.alloc hs4 _).trans (hb6.mono (by simp; omega)))
        have HX : Hid (w.heap.size ≤ w4.heap.size + 1) := by show _ ≤ _; omega
        clear hR6 hb6
        go_wp2
        go_roundw
        case rel =>
          exact ⟨b, a % b, m, _, c3, cr, B3, R, rfl, rfl, HM.out, rfl, HP6.out, HR6.out.mono (by simp only [World.size_alloc]; exact HX.out), (fun g e1 e2 => by
            have l1 := (World.ownsRow.lt HP3.out g e1).2
            have l2 := (World.ownsRow.lt HR6.out g e2).1
            simp only [World.size_alloc] at l2
            omega), Nat.le_of_lt (Nat.mod_lt a hb0), Nat.le_trans HLE.out HAA.out, by rw [← HGG.out, Nat.gcd_comm b, ← Nat.gcd_rec, Nat.gcd_comm], HBl6.out⟩
        case measure =>
          rw [rdV_ow HP6.out, rdV_ow HR6.out, rdV_ow HO2.out, rdV_ow HO3.out]
          have := Nat.mod_lt a hb0
          have := HLE.out
          omega
    · have hb9 : b < 18446744073709551616 := two_lt (by rw [HM.out]; omega)
      have HWb := Lib.hid (win_0 hb9)
      have hm2' : m ≤ 2 := by omega
      clear hm2
      rcases Nat.eq_zero_or_pos m with h0 | h0
      · have HG : Hid (Nat.gcd a b = a) := by
          show _ = _
          obtain rfl : b = 0 := digs_nil.1 (List.eq_nil_of_length_eq_zero (by rw [HM.out]; exact h0))
          exact Nat.gcd_zero_right a
        subst h0
        go_wp2
        go_ret
        rw [← HGG.out, HG.out]
        exact ⟨A2, c2, by rw [HN.out]; rfl, by rw [HN.out]; exact HA3.out, HBl3.out⟩
      · have hb0 : 0 < b := by rw [← digs_pos, HM.out]; exact h0
        have hmz : ((m : Int) == 0) = false := by simp; omega
        go_wp2_with fail
        refine (divide_any wr A2 B3 n m c2 c3 a b HA3.out HB3.out hb0 (by omega)).mono ?_
        rintro e w4 ⟨Q, cq, R, cr, rfl, hQ, hR, hb4⟩
        have hr9 := Nat.mod_lt a hb0
        have HB4 := Lib.hid (HB3.out.via hb4)
        have HBl4 := Lib.hid (HBl3.out.trans (hb4.mono HBl3.out.size))
        have HR4 := Lib.hid hR
        have HWr : Hid (win (a % b) 0 = a % b) := win_0 (by omega)
        clear hQ hR hb4
        go_wp2_with fail
        refine (window_any w4 B3 m c3 (digs b) b 0 HB4.out (digs_val b) (by omega) (by omega)).mono ?_
        rintro e w5 ⟨rfl, d5, rfl⟩
        go_wp2_with fail
        refine (window_any _ R _ cr (digs (a % b)) (a % b) 0 (HR4.out.drewN d5) (digs_val _) (by omega) (by omega)).mono ?_
        rintro e w6 ⟨rfl, d6, rfl⟩
        rw [show (Int.toNat 0) = 0 from rfl, HWb.out, HWr.out]
        have HG : Hid (Nat.gcd b (a % b) = Nat.gcd a b) := by show _ = _; rw [Nat.gcd_comm b, ← Nat.gcd_rec, Nat.gcd_comm]
        obtain ⟨r, hr⟩ : ∃ r, a % b = r := ⟨_, rfl⟩
        rw [hr] at HG hr9 ⊢
        have HR := Lib.hid hr
        clear hr
        go_wp2
        go_loopw [10, 11] (fun x y wr => ∃ p q d : Nat, x = .int .u64 (p : Int) ∧ y = .int .u64 (q : Int) ∧ p < 18446744073709551616 ∧ q < 18446744073709551616 ∧ Nat.gcd p q = Nat.gcd a b ∧ wr = w4.drewN d) (fun _ y _ => (intOf y).toNat)
        case atStart => exact ⟨b, r, _, rfl, rfl, hb9, by omega, HG.out, rfl⟩
        case round =>
          obtain ⟨p, q, d, rfl, rfl, hp, hq, hg, rfl⟩ := hrel
          have HGp := Lib.hid hg
          clear hg
          by_cases hq0 : q = 0
          · subst hq0
            have HGq : Hid (p = Nat.gcd a b) := by show _ = _; rw [← HGp.out, Nat.gcd_zero_right]
            go_wp2_with fail
            refine (trim_any _ _ _ _ _ _ p (Lm.two _ _ _ (p % 4294967296) (p / 4294967296 % 4294967296) _ _ rfl (by omega) (by omega) (by omega) (by omega)) (val2 p hp)).mono ?_
            rintro e w7 ⟨rfl, rfl⟩
            go_wp2
            go_ret
            rw [← HGG.out, ← HGq.out]
            exact ⟨_, _, rfl, ((Lm.two _ _ _ (p % 4294967296) (p / 4294967296 % 4294967296) _ _ rfl (by omega) (by omega) (by omega) (by omega)).trim' (val2 p hp)).mono (by simp), (bdrewN HBl4.out d).alloc HBl4.out.size _⟩
          · have hq1 : 0 < q := Nat.pos_of_ne_zero hq0
            have hqi : ¬ ((q : Int) = 0) := by omega
            have hm0 : (p : Int) % (q : Int) = ((p % q : Nat) : Int) := by rw [← Int.natCast_emod]
            have hm1 : (p : Int).tmod (q : Int) = ((p % q : Nat) : Int) := by rw [Int.tmod_eq_emod_of_nonneg (by omega), ← Int.natCast_emod]
            have hl := Nat.mod_lt p hq1
            have HG2 : Hid (Nat.gcd q (p % q) = Nat.gcd a b) := by show _ = _; rw [Nat.gcd_comm q, ← Nat.gcd_rec, Nat.gcd_comm, HGp.out]
            generalize p % q = s at *
            clear hq0
            go_wp2_with fail
            go_quiet (fail)
            go_wp2
            go_roundw
            case rel => exact ⟨q, s, _, rfl, rfl, hq, by omega, HG2.out, drewN_add w4 _ _⟩
            case measure => simp [intOf]; omega

theorem divisor_any (w : World) (A B : Option Addr) (n m ca cb a b : Nat) (hA : Lm w w.heap.size A n ca (digs a)) (hB : Lm w w.heap.size B m cb (digs b)) (hn : n ≤ 4096) (hm : m ≤ 4096) :
    Calls Tryd.prog 47 #[.slice A n ca, .slice B m cb] w (RGl w (Nat.gcd a b)) := by
  rcases Nat.lt_or_ge a b with h | h
  · rw [Nat.gcd_comm]
    exact divisor_lt w B A m n cb ca b a hB hA h hm hn
  · exact divisor_ge w A B n m ca cb a b hA hB h hn hm

set_option maxRecDepth 100000 in
set_option maxHeartbeats 1000000 in
theorem gcd_any (w : World) (na nb : Bool) (A B : Option Addr) (n m ca cb a b : Nat) (hA : Lm w w.heap.size A n ca (digs a)) (hB : Lm w w.heap.size B m cb (digs b)) (hv : chkB na (digs a) nb (digs b) = 0) (hn : n ≤ 4096) (hm : m ≤ 4096) :
    Calls Tryd.prog 22 #[.agg #[.bool na, .slice A n ca], .agg #[.bool nb, .slice B m cb]] w (RW w (mkN false (Nat.gcd a b)) (mkL (Nat.gcd a b)) (mkE (Nat.gcd a b))) := by
  have HA := Lib.hid hA
  have HB := Lib.hid hB
  have HV := Lib.hid hv
  clear hv
  go_enter Tryd.func22, Tryd.ntmps22
  go_wp2_with fail
  refine (both_any _ _ _ _ _ _ _ _ _ _ _ 0 (((HA.out.box _).box _).box _) (((HB.out.box _).box _).box _) HV.out).mono ?_
  rintro e w1 ⟨rfl, hb1⟩
  have ⟨hx0, hx1, hy0, hy1, hz0, hz1, hf0, hf1, hsz⟩ := box3 hb1
  have HA1 := Lib.hid ((((HA.out.box _).box _).box _).via hb1)
  have HB1 := Lib.hid ((((HB.out.box _).box _).box _).via hb1)
  have HBl1 := Lib.hid (bbox (bbox (bbox hb1)))
  clear hb1
  go_wp2_with fail
  refine (divisor_any w1 A B n m ca cb a b HA1.out HB1.out hn hm).mono ?_
  rintro e w2 ⟨A2, c2, rfl, hL2, hb2⟩
  have hz2 := keep2 hb2 hsz ⟨hz0, hz1⟩
  have hf2 := keepF hb2 hsz ⟨hf0, hf1⟩
  have hs2 := Nat.lt_of_lt_of_le hsz hb2.size
  have HBl2 := Lib.hid (HBl1.out.trans (hb2.mono HBl1.out.size))
  clear hb2
  go_wp2_with fail
  refine (made_any _ _ _ _ _ (Nat.gcd a b) hL2).mono ?_
  rintro e w3 ⟨A3, n3, c3, rfl, hL3, hb3⟩
  have hz3 := keep2 hb3 hs2 hz2
  have hf3 := keepF hb3 hs2 hf2
  have hs3 := Nat.lt_of_lt_of_le hs2 hb3.size
  have HBl3 := Lib.hid (HBl2.out.trans (hb3.mono HBl2.out.size))
  have HL3 := Lib.hid hL3
  clear hb3 hL3 hL2 hz2 hf2 hx0 hx1 hy0 hy1 hz0 hz1 hf0 hf1
  obtain ⟨z0, z1⟩ := hz3
  obtain ⟨f0, f1⟩ := hf3
  go_wp2
  exact post_ws Tryd.results22 rfl rfl z0 z1 ⟨A3, n3, c3, rfl, HL3.out.set2 z0 z1 _ _, below_set2 HBl3.out (by omega) _ _⟩
theorem gcd_small (w : World) (na nb : Bool) (A B : Option Addr) (n m ca cb a b : Nat) (hA : Lm w w.heap.size A n ca (digs a)) (hB : Lm w w.heap.size B m cb (digs b)) (hv : chkB na (digs a) nb (digs b) = 0) (hn : n ≤ 2) (hm : m ≤ 2) :
    Calls Tryd.prog 22 #[.agg #[.bool na, .slice A n ca], .agg #[.bool nb, .slice B m cb]] w (RW w (mkN false (Nat.gcd a b)) (mkL (Nat.gcd a b)) (mkE (Nat.gcd a b))) :=
  gcd_any w na nb A B n m ca cb a b hA hB hv (by omega) (by omega)
end Go.Proofs.YtegpckhfncblhaaDoor

/- wide.Pow. -/
namespace Go.Proofs.YtegpckhfncblhaaDoor
open Go.RowKit

/-- A number of at most 4096 limbs, or one that is too large. -/
theorem rz_cases {w : World} {z : Int} {e : Ending} {w' : World} (h : RZ w z e w') : ((digs z.natAbs).length ≤ 4096 ∧ RN w z e w') ∨ (4096 < (digs z.natAbs).length ∧ RW w false [] 16 e w') := by
  rcases Nat.lt_or_ge 4096 (digs z.natAbs).length with h1 | h1
  · right
    refine ⟨h1, ?_⟩
    unfold RZ mkN mkL mkE at h
    rw [decide_eq_false (by omega), if_neg (by omega), if_neg (by omega)] at h
    exact h
  · obtain ⟨k, hk⟩ : ∃ k, k = 4096 := ⟨_, rfl⟩
    exact .inl ⟨h1, rz_rn (k := k) (digs_len.1 (by omega)) (by omega) h⟩
theorem rz_big {w : World} {z : Int} (h1 : 4096 < (digs z.natAbs).length) : RZ w z = RW w false [] 16 := by
  unfold RZ mkN mkL mkE
  rw [decide_eq_false (by omega), if_neg (by omega), if_neg (by omega)]
  rfl
theorem rz_fit {w : World} {z : Int} (h1 : (digs z.natAbs).length ≤ 4096) : RZ w z = RW w (decide (z < 0)) (digs z.natAbs) 0 := by
  obtain ⟨k, hk⟩ : ∃ k, k = 4096 := ⟨_, rfl⟩
  have h2 := mkN_z (z := z) (k := k) (digs_len.1 (by omega)) (by omega)
  unfold RZ
  rw [h2.1, h2.2.1, h2.2.2]
theorem natAbs_pow_ (x : Int) (k : Nat) : (x ^ k).natAbs = x.natAbs ^ k := by
  induction k with
  | zero => simp
  | succ k ih => rw [Int.pow_succ, Nat.pow_succ, Int.natAbs_mul, ih]
/-- A power on the way is no longer than the last one. -/
theorem pow_way {x : Int} {a b : Nat} (h : a ≤ b) (hb : 4096 < (digs (x ^ a).natAbs).length) : 4096 < (digs (x ^ b).natAbs).length := by
  rw [natAbs_pow_] at hb ⊢
  rcases Nat.eq_zero_or_pos x.natAbs with h0 | h0
  · rw [h0] at hb
    have : (digs (0 ^ a)).length ≤ 1 := by
      refine digs_len.2 ?_
      rcases Nat.eq_zero_or_pos a with h1 | h1
      · subst h1; decide
      · rw [Nat.zero_pow h1]; decide
    omega
  · exact Nat.lt_of_lt_of_le hb (digs_mono (Nat.pow_le_pow_right h0 h))
theorem and_one (d : Nat) (h : d < 65536) : bits .and .i64 (d : Int) 1 = ((d % 2 : Nat) : Int) := by
  have e16 : (2 : Int) ^ 16 = 65536 := by decide
  have e1 : (2 : Int) ^ 1 = 2 := by decide
  have h1 := bits_mask .i64 16 (by decide) (fun n h0 h1 => by rw [e16] at h1; rw [IntKind.wrap_i64]; omega) 1 (by omega) (d : Int) (by omega) (by rw [e16]; omega)
  rw [e1] at h1
  have e2 : (2 : Int) - 1 = 1 := by decide
  rw [e2] at h1
  rw [h1]
  omega
theorem Pr.set1 {w : World} {g : Nat} {x y : Value} (p : Pr w g x y) (x' y' : Value) : Pr ((w.setCell ⟨g, 0, none⟩ x').setCell ⟨g, 1, none⟩ y') g x' y' := p.set x' y'

end Go.Proofs.YtegpckhfncblhaaDoor

/- Root, power, shift, greatest common divisor and exact division, in whole numbers. -/
namespace Go.Proofs.YtegpckhfncblhaaDoor
open Go.RowKit

theorem toI_scale (neg : Bool) (v m : Nat) : toI neg (v * m) = toI neg v * m := by
  unfold toI
  cases neg
  · simp
  · simp [Int.neg_mul]
theorem natAbs_two_pow (k : Nat) : ((2 : Int) ^ k).natAbs = 2 ^ k := by rw [natAbs_pow_]; rfl
theorem two_pow_cast (k : Nat) : (((2 : Nat) ^ k : Nat) : Int) = (2 : Int) ^ k := by simp
theorem two_lt8 (k : Nat) (hk : k ≤ 255) : 2 ^ k < 4294967296 ^ 8 :=
  Nat.lt_of_le_of_lt (Nat.pow_le_pow_right (by omega) hk) (by decide)
theorem sz_two (k : Nat) (hk : k ≤ 255) : Sz 8 ((2 : Int) ^ k) := by
  unfold Sz
  rw [natAbs_two_pow]
  exact two_lt8 k hk
section
variable (w : World) (A : Option Addr) (n c k : Nat) (x : Int) (hA : Lm w w.heap.size A n c (digs x.natAbs))
include hA
theorem shup_n (j : Nat) (hx : Sz j x) (hj : j ≤ 2000) (hk : k ≤ 255) {na : Bool} (ha : decide (x < 0) = na) :
    Calls Tryd.prog 29 #[.agg #[.bool na, .slice A n c], .int .i64 (k : Int)] w (RN w (x * (2 : Int) ^ k)) := by
  have hc := chk_z hx (show j ≤ 4096 by omega)
  subst ha
  have h := shift_up w _ A n c _ k hA hc (by omega)
  have e1 := rz_of w (decide (x < 0)) (x.natAbs * 2 ^ k) (z := x * (2 : Int) ^ k) (by rw [toI_scale, toI_self, two_pow_cast])
  rw [e1] at h
  exact h.mono fun e w' hr => rz_rn (hx.mul (sz_two k hk)) (by omega) hr
theorem shdn_n (j : Nat) (z : Int) (hx : Sz j x) (hj : j ≤ 2000) (hz : z = -(k : Int)) (hk : k ≤ 255) (hT : TabD w) {na : Bool} (ha : decide (x < 0) = na) :
    Calls Tryd.prog 29 #[.agg #[.bool na, .slice A n c], .int .i64 z] w (RN w (x / (2 : Int) ^ k)) := by
  rcases Nat.eq_zero_or_pos k with h0 | h0
  · subst h0
    obtain rfl : z = ((0 : Nat) : Int) := by omega
    have h := shup_n w A n c 0 x hA j hx hj (by omega) ha
    rw [Int.pow_zero, Int.mul_one] at h
    rw [Int.pow_zero, Int.ediv_one]
    exact h
  have hc := chk_z hx (show j ≤ 4096 by omega)
  have hd : x.natAbs / 2 ^ k ≤ x.natAbs := Nat.div_le_self _ _
  have hxs : x.natAbs < 4294967296 ^ j := hx
  have hj1 : 4294967296 ^ (j + 1) = 4294967296 ^ j * 4294967296 := rfl
  have hP : 0 < 2 ^ k := Nat.pow_pos (by omega)
  have key : ∀ (v : Nat) (ng : Bool), toI ng v = x / (2 : Int) ^ k → v ≤ x.natAbs + 1 → ∀ e w', RW w (mkN ng v) (mkL v) (mkE v) e w' → RN w (x / (2 : Int) ^ k) e w' := by
    intro v ng e0 hv e w' hr
    rw [rz_of w ng v e0.symm] at hr
    refine rz_rn (k := j + 1) ?_ (by omega) hr
    unfold Sz
    rw [← e0, toI_abs, pow_succ_]
    have := pow_pos_ j
    omega
  by_cases hs : x < 0
  · rw [← ha, decide_eq_true hs] at *
    have hdm := Nat.div_add_mod x.natAbs (2 ^ k)
    have hml := Nat.mod_lt x.natAbs hP
    by_cases hr : x.natAbs % 2 ^ k = 0
    · refine (shift_down_even w A n c _ k z hA hc hz h0 (by omega) hT hr).mono fun e w' => key _ true ?_ (by omega) e w'
      refine ((Int.ediv_emod_unique (a := x) (b := (2 : Int) ^ k) (r := 0) (q := toI true (x.natAbs / 2 ^ k)) (by rw [← two_pow_cast]; omega)).2 ⟨?_, by omega, by rw [← two_pow_cast]; omega⟩).1.symm
      have e1 := toI_scale true (x.natAbs / 2 ^ k) (2 ^ k)
      rw [two_pow_cast] at e1
      rw [Int.mul_comm, ← e1, Nat.mul_comm]
      rw [hr] at hdm
      rw [show 2 ^ k * (x.natAbs / 2 ^ k) = x.natAbs by omega]
      unfold toI
      rw [if_pos rfl]
      omega
    · refine (shift_down_lost w A n c _ k z hA hc hz h0 (by omega) hT hr).mono fun e w' => key _ true ?_ (by omega) e w'
      refine ((Int.ediv_emod_unique (a := x) (b := (2 : Int) ^ k) (r := (2 : Int) ^ k - (x.natAbs % 2 ^ k : Nat)) (q := toI true (x.natAbs / 2 ^ k + 1)) (by rw [← two_pow_cast]; omega)).2 ⟨?_, by rw [← two_pow_cast]; omega, by rw [← two_pow_cast]; omega⟩).1.symm
      have e1 := toI_scale true (x.natAbs / 2 ^ k + 1) (2 ^ k)
      rw [two_pow_cast] at e1
      rw [Int.mul_comm, ← e1, Nat.mul_comm, Nat.mul_add, Nat.mul_one]
      rw [← two_pow_cast]
      unfold toI
      rw [if_pos rfl]
      omega
  · rw [← ha, decide_eq_false hs] at *
    refine (shift_down_pos w A n c _ k z hA hc hz h0 (by omega)).mono fun e w' => key _ false ?_ (by omega) e w'
    have e0 : x = (x.natAbs : Int) := by omega
    rw [← two_pow_cast]
    unfold toI
    rw [if_neg (by simp)]
    conv => rhs; rw [e0]
    simp
end
section
variable (w : World) (A B : Option Addr) (n m ca cb k : Nat) (x y : Int) (hA : Lm w w.heap.size A n ca (digs x.natAbs)) (hB : Lm w w.heap.size B m cb (digs y.natAbs)) (hx : Sz k x) (hy : Sz k y) (hk : k ≤ 2000)
include hA hB hx hy hk
theorem sz_gcd : Sz k (Nat.gcd x.natAbs y.natAbs : Int) := by
  have _ := hA; have _ := hB; have _ := hk
  unfold Sz at *
  rw [Int.natAbs_natCast]
  rcases Nat.eq_zero_or_pos x.natAbs with h0 | h0
  · rw [h0, Nat.gcd_zero_left]; exact hy
  · exact Nat.lt_of_le_of_lt (Nat.gcd_le_left _ h0) hx
theorem gcd_n {na nb : Bool} (ha : decide (x < 0) = na) (hb : decide (y < 0) = nb) : Calls Tryd.prog 22 #[.agg #[.bool na, .slice A n ca], .agg #[.bool nb, .slice B m cb]] w (RN w (Nat.gcd x.natAbs y.natAbs : Int)) := by
  have hz := sz_gcd w A B n m ca cb k x y hA hB hx hy hk
  subst ha hb
  have h := gcd_any w _ _ A B n m ca cb _ _ hA hB (chkB_z hx (by omega) hy (by omega)) (by rw [← hA.len]; exact Nat.le_trans hx.len (by omega)) (by rw [← hB.len]; exact Nat.le_trans hy.len (by omega))
  refine h.mono fun e w' hr => ?_
  have hr2 := rw_rn (neg := false) (Nat.le_trans hz.len (by omega)) hr
  exact hr2
/-- Exact division of the reference: the rest is 0. -/
theorem rdiv0_n {na nb : Bool} (ha : decide (x < 0) = na) (hb : decide (y < 0) = nb) (hy0 : 0 < y) (hd : y.natAbs ∣ x.natAbs) : Calls Tryd.prog 16 #[.agg #[.bool na, .slice A n ca], .agg #[.bool nb, .slice B m cb]] w
      (fun e w' => ∃ Aq nq cq Ar cr gq gr, e = .returned (.tuple #[.agg #[.bool gq, .slice Aq nq cq], .agg #[.bool gr, .slice Ar 0 cr], .int .i64 0]) ∧ Below w.heap.size w w') := by
  have hv := chkB_z hx (show k ≤ 4096 by omega) hy (show k ≤ 4096 by omega)
  rw [ha, hb] at hv
  have h0 : x.natAbs % y.natAbs = 0 := Nat.mod_eq_zero_of_dvd hd
  have hnb : nb = false := by rw [← hb]; exact decide_eq_false (by omega)
  subst hnb
  have fin : ∀ (n1 n2 : Bool) (l1 : List Nat) e w', RWW w n1 l1 n2 (digs (x.natAbs % y.natAbs)) 0 e w' → ∃ Aq nq cq Ar cr gq gr, e = .returned (.tuple #[.agg #[.bool gq, .slice Aq nq cq], .agg #[.bool gr, .slice Ar 0 cr], .int .i64 0]) ∧ Below w.heap.size w w' := by
    rintro n1 n2 l1 e w' ⟨Aq, nq, cq, Ar, nr, cr, he, _, hr, hb⟩
    rw [h0] at hr
    obtain rfl : nr = 0 := hr.len.symm
    exact ⟨Aq, nq, cq, Ar, cr, n1, n2, he, hb⟩
  cases na
  · exact (rdivmod_same w false false A B n m ca cb _ _ hA hB hv (by omega) rfl (decide (0 < x.natAbs % y.natAbs)) rfl).mono fun e w' h => fin _ _ _ e w' h
  · exact (rdivmod_exact w true false A B n m ca cb _ _ hA hB hv (by omega) (.inl ⟨rfl, rfl⟩) h0).mono fun e w' h => fin _ _ _ e w' h
end
/-- The quotient of RD2 for a positive divisor is the floor. -/
theorem rd2_floor {x y q r : Int} (e1 : x = q * y + r) (e2 : r.natAbs < y.natAbs) (e3 : r = 0 ∨ decide (r < 0) = decide (y < 0)) (hy : 0 < y) : q = x / y := by
  have hr : 0 ≤ r := by
    rcases e3 with h | h
    · omega
    · rw [decide_eq_false (show ¬ y < 0 by omega)] at h
      have := of_decide_eq_false h
      omega
  exact ((Int.ediv_emod_unique (a := x) (b := y) (r := r) (q := q) hy).2 ⟨by rw [Int.mul_comm]; omega, hr, by omega⟩).1.symm
end Go.Proofs.YtegpckhfncblhaaDoor

/- The reference Twin: a copy of a number. -/
namespace Go.Proofs.YtegpckhfncblhaaDoor
open Go.RowKit

/-- 'append(out, xs...)' where out is the call's own, and xs reads as limbs, inside a region that draws. -/
theorem step_append_lm {P : Program} {ops : Array Oper} {o : Oper} {a : Act} {w : World} {K : Act → World → Prop} {Q : Exit → Act → World → Prop} {E : Prop}
    (hg : o.guard = none) (s x : Operand) (t : TypeId) (hop : o.op = Op.call { callee := Callee.builtin Builtin.append, args := #[s, x], argTypes := #[t, t] })
    (base : Nat) (e : TypeId) (i : TypeInfo) (ht : P.underlying t = some (.slice e)) (hi : P.info? e = some i) (hz : i.zero = some (.int .u32 0)) (hsize : i.size = 1) (hby : i.bytes = 4)
    (v : Value) (n : Nat) (ts : List Value) (hs : a.eval s = v) (hown : w.ownsRow base e 1 v n ts)
    (B : Nat) (A : Option Addr) (m c : Nat) (xs : List Nat) (hx : a.eval x = .slice A m c) (hr : Lm w B A m c xs)
    (h63 : n + m ≤ maxLen) (hbytes : (n + m) * 4 ≤ 140737488355328) (hbase : base ≤ w.heap.size)
    (hK : ∀ v' w', w'.ownsRow base e 1 v' (n + m) (ts ++ xs.map u32c) → w.grownBy w' v.ownBlock → K (a.put o.dst v') w') :
    if Region.wanted o (yielded ops a.tmps) = true then Oper.wp P o a w K Q else E := by
  have hw : Region.wanted o (yielded ops a.tmps) = true := by simp [Region.wanted, hg]
  rw [if_pos hw]
  rcases A with _ | ad
  · have hm : m = 0 := by
      rcases Nat.eq_zero_or_pos m with h0 | h0
      · exact h0
      · obtain ⟨b, off, e, _⟩ := hr.at_ h0
        cases e
    subst hm
    obtain rfl := hr.nil_ rfl
    obtain rfl : xs = [] := List.eq_nil_of_length_eq_zero hr.len
    have hrun := run_append_owned_none (P := P) (w := w) base t o.type e i 1 ht hi v n ts hown
    unfold Oper.wp
    simp [execOp, hop, resolve, invoke, builtin, hs, hx, hrun, Result.andThen]
    exact hK v w (by simpa using hown) (World.grownBy.refl w _)
  · obtain ⟨v', w', hrun, r1, r2, _⟩ := run_append_own (P := P) w base t o.type e i (.int .u32 0) 1 4 ht hi hz hsize hby rfl (by decide) v n ts hown ad m c (xs.map u32c) (by simp [hr.len]) hr.cells (u32c_one xs) h63 hbytes hbase
    unfold Oper.wp
    simp [execOp, hop, resolve, invoke, builtin, hs, hx, hrun, Result.andThen]
    exact hK v' w' r1 r2

theorem own_empty (w : World) (k : Nat) (hk : w.heap.size = k) : ((w.alloc (.cells #[] 64)).drew).ownsRow k 64 1 (.slice (some ⟨k, 0, none⟩) 0 0) 0 [] := by
  subst hk
  have h : (w.alloc (.cells #[] 64)).ownsRow w.heap.size 64 1 (.slice (some ⟨w.heap.size, 0, none⟩) 0 0) 0 [] := World.ownsRow_made w #[] _ (Nat.le_refl _) (by simp [maxLen]) rfl
  exact h

end Go.Proofs.YtegpckhfncblhaaDoor

/- Two copies laid in new boxes, in whatever order. -/
namespace Go.Proofs.YtegpckhfncblhaaDoor
open Go.RowKit

/-- Two slots point to copies of both numbers. -/
def TwinsAt (w2 : World) (na : Bool) (n : Nat) (xs : List Nat) (nb : Bool) (m : Nat) (ys : List Nat) (s5 s6 : Value) (wc : World) : Prop :=
  ∃ gx gy A' c' A'' c'', s5 = .pointer (some ⟨gx, 0, none⟩) ∧ s6 = .pointer (some ⟨gy, 0, none⟩) ∧ Pr wc gx (.bool na) (.slice A' n c') ∧ Pr wc gy (.bool nb) (.slice A'' m c'') ∧ Lm wc wc.heap.size A' n c' xs ∧ Lm wc wc.heap.size A'' m c'' ys ∧ Below w2.heap.size w2 wc

section
variable {w2 w4 : World} {na nb : Bool} {n m : Nat} {xs ys : List Nat} {A3 A4 : Option Addr} {c3 c4 : Nat} {t : TypeId}
theorem fin1 (hB : Below w2.heap.size w2 w4) (L3 : Lm w4 w4.heap.size A3 n c3 xs) (L4 : Lm w4 w4.heap.size A4 m c4 ys) :
    TwinsAt w2 na n xs nb m ys (.pointer (some ⟨w4.heap.size, 0, none⟩)) (.pointer (some ⟨w4.heap.size + 1, 0, none⟩)) ((w4.alloc (.cells #[.bool na, .slice A3 n c3] t)).alloc (.cells #[.bool nb, .slice A4 m c4] t)) :=
  ⟨_, _, A3, c3, A4, c4, rfl, rfl, (Pr.new w4 _ rfl _ _ t).alloc _, Pr.new (w4.alloc _) _ (by simp) _ _ t, (L3.box _).box _, (L4.box _).box _, (hB.alloc hB.size _).alloc (hB.alloc hB.size _).size _⟩
theorem fin2 (hB : Below w2.heap.size w2 w4) (L3 : Lm w4 w4.heap.size A3 n c3 xs) (L4 : Lm w4 w4.heap.size A4 m c4 ys) :
    TwinsAt w2 na n xs nb m ys (.pointer (some ⟨w4.heap.size + 1, 0, none⟩)) (.pointer (some ⟨w4.heap.size, 0, none⟩)) ((w4.alloc (.cells #[.bool nb, .slice A4 m c4] t)).alloc (.cells #[.bool na, .slice A3 n c3] t)) :=
  ⟨_, _, A3, c3, A4, c4, rfl, rfl, Pr.new (w4.alloc _) _ (by simp) _ _ t, (Pr.new w4 _ rfl _ _ t).alloc _, (L3.box _).box _, (L4.box _).box _, (hB.alloc hB.size _).alloc (hB.alloc hB.size _).size _⟩
theorem fin3 {g : Nat} (hB : Below w2.heap.size w2 w4) (L3 : Lm w4 w4.heap.size A3 n c3 xs) (L4 : Lm w4 w4.heap.size A4 m c4 ys) (P : Pr w4 g (.bool false) (.slice none 0 0)) (hg : w2.heap.size ≤ g) :
    TwinsAt w2 na n xs nb m ys (.pointer (some ⟨g, 0, none⟩)) (.pointer (some ⟨w4.heap.size, 0, none⟩)) (((w4.setCell ⟨g, 0, none⟩ (.bool na)).setCell ⟨g, 1, none⟩ (.slice A3 n c3)).alloc (.cells #[.bool nb, .slice A4 m c4] t)) :=
  ⟨_, _, A3, c3, A4, c4, rfl, rfl, (P.set _ _).alloc _, Pr.new _ _ (size_set2 _ _ _ _) _ _ t, (L3.setP P _ _).box _, (L4.setP P _ _).box _, (below_set2 hB hg _ _).alloc (below_set2 hB hg _ _).size _⟩
theorem fin4 {g : Nat} (hB : Below w2.heap.size w2 w4) (L3 : Lm w4 w4.heap.size A3 n c3 xs) (L4 : Lm w4 w4.heap.size A4 m c4 ys) (P : Pr w4 g (.bool false) (.slice none 0 0)) (hg : w2.heap.size ≤ g) :
    TwinsAt w2 na n xs nb m ys (.pointer (some ⟨w4.heap.size, 0, none⟩)) (.pointer (some ⟨g, 0, none⟩)) (((w4.setCell ⟨g, 0, none⟩ (.bool nb)).setCell ⟨g, 1, none⟩ (.slice A4 m c4)).alloc (.cells #[.bool na, .slice A3 n c3] t)) :=
  ⟨_, _, A3, c3, A4, c4, rfl, rfl, Pr.new _ _ (size_set2 _ _ _ _) _ _ t, (P.set _ _).alloc _, (L3.setP P _ _).box _, (L4.setP P _ _).box _, (below_set2 hB hg _ _).alloc (below_set2 hB hg _ _).size _⟩
theorem fin5 {g h : Nat} (hB : Below w2.heap.size w2 w4) (L3 : Lm w4 w4.heap.size A3 n c3 xs) (L4 : Lm w4 w4.heap.size A4 m c4 ys) (P : Pr w4 g (.bool false) (.slice none 0 0)) (Q : Pr w4 h (.bool false) (.slice none 0 0)) (hg : w2.heap.size ≤ g) (hh : w2.heap.size ≤ h) (hne : g ≠ h) :
    TwinsAt w2 na n xs nb m ys (.pointer (some ⟨g, 0, none⟩)) (.pointer (some ⟨h, 0, none⟩)) ((((w4.setCell ⟨g, 0, none⟩ (.bool na)).setCell ⟨g, 1, none⟩ (.slice A3 n c3)).setCell ⟨h, 0, none⟩ (.bool nb)).setCell ⟨h, 1, none⟩ (.slice A4 m c4)) :=
  have Q' := Q.far (h := g) (fun e => hne e.symm) (.bool na) (.slice A3 n c3)
  ⟨_, _, A3, c3, A4, c4, rfl, rfl, (P.set _ _).far hne _ _, Q'.set _ _, (L3.setP P _ _).setP Q' _ _, (L4.setP P _ _).setP Q' _ _, below_set2 (below_set2 hB hg _ _) hh _ _⟩
end
theorem b_one {w w' : World} {o : Obj} (h : Below (w.alloc o).heap.size (w.alloc o) w') : Below w.heap.size w w' := bbox h
theorem b_two {w w' : World} {o o' : Obj} (h : Below ((w.alloc o).alloc o').heap.size ((w.alloc o).alloc o') w') : Below w.heap.size w w' := bbox (bbox h)
theorem b_one_d {w w' : World} {o : Obj} (h : Below (w.alloc o).drew.heap.size (w.alloc o).drew w') : Below w.heap.size w w' :=
  ((Below.refl w.heap.size w).alloc (Nat.le_refl _) o).drew.trans (h.mono (((Below.refl w.heap.size w).alloc (Nat.le_refl _) o).drew.size))
theorem b_two_d {w w' : World} {o o' : Obj} (h : Below ((w.alloc o).alloc o').drew.heap.size ((w.alloc o).alloc o').drew w') : Below w.heap.size w w' :=
  have q := (((Below.refl w.heap.size w).alloc (Nat.le_refl _) o).alloc ((Below.refl w.heap.size w).alloc (Nat.le_refl _) o).size o').drew
  q.trans (h.mono q.size)
end Go.Proofs.YtegpckhfncblhaaDoor

/- The reference's Shift: multiplication by a power of 2, or the floor of division by one. -/
namespace Go.Proofs.YtegpckhfncblhaaDoor
open Go.RowKit

theorem own_zer {w : World} {B a : Nat} {v : Value} (h : Ow w B v (zer a)) : w.ownsRow B 64 1 v a ((zer a).map u32c) := by
  have h2 : w.ownsRow B 64 1 v (zer a).length ((zer a).map u32c) := h
  rw [zer_len] at h2
  exact h2
theorem Lm.loneE (w : World) (k : Nat) (t : TypeId) (hk : w.heap.size = k) (x : Nat) (E : Int) (hE : E = (x : Int)) (hx : x < 4294967296) : Lm (w.alloc (.cells #[.int .u32 E] t)) (w.alloc (.cells #[.int .u32 E] t)).heap.size (some ⟨k, 0, none⟩) 1 1 [x] := by
  subst hk hE
  exact ⟨rfl, by unfold Good; simpa using hx, Nat.le_refl _, by omega, fun h => (by cases h), fun _ => ⟨_, 0, rfl, by simp, fun j hj => by
    match j, hj with
    | 0, _ => go_simp⟩⟩
theorem Ow.madeK (w : World) (k n : Nat) (hk : w.heap.size = k) (hn : n ≤ 4000000000) : Ow (w.alloc (.cells ((zer n).map u32c).toArray 64)) k (.slice (some ⟨k, 0, none⟩) n n) (zer n) := by
  subst hk
  exact Ow.made w n n (Nat.le_refl _) hn
theorem pw_split (k : Nat) : 4294967296 ^ (k / 32) * 2 ^ (k % 32) = 2 ^ k := by
  rw [show (4294967296 : Nat) = 2 ^ 32 from by decide, ← Nat.pow_mul, ← Nat.pow_add]
  congr 1
  omega
theorem val_zer (a : Nat) : val (zer a) = 0 := val_zero fun _ hx => (List.mem_replicate.1 hx).2
theorem up_list {k v : Nat} {ts : List Nat} (h : val ts = v * 2 ^ (k % 32)) : val (zer (k / 32) ++ ts) = v * 2 ^ k := by
  rw [val_append, val_zer, zer_len, h, Nat.zero_add, ← pw_split k, Nat.mul_left_comm]
theorem two_digs (k : Nat) : zer (k / 32) ++ [2 ^ (k % 32)] = digs (2 ^ k) := by
  have h1 : 0 < 2 ^ (k % 32) := Nat.pow_pos (by omega)
  have h2 : 2 ^ (k % 32) < 4294967296 := Nat.lt_of_lt_of_le (Nat.pow_lt_pow_right (by omega) (show k % 32 < 32 by omega)) (by decide)
  refine eq_digs ((zer_good _).append (Good.nil.cons h2)) ?_ ?_
  · unfold Norm
    rw [List.getLast?_append]
    simp
  · have h := up_list (k := k) (v := 1) (ts := [2 ^ (k % 32)]) (by simp [val_cons, val_nil])
    rw [h, Nat.one_mul]

set_option maxRecDepth 100000 in
set_option maxHeartbeats 1000000 in
theorem rshift_bad (w : World) (neg : Bool) (A : Option Addr) (n c : Nat) (xs : List Nat) (k : Int) (h : Lm w w.heap.size A n c xs) (hc : chk neg xs = 8) :
    Calls Tryd.prog 14 #[.agg #[.bool neg, .slice A n c], .int .i64 k] w (RW w false [] 8) := by
  have HH := Lib.hid h
  have HC := Lib.hid hc
  clear hc
  go_enter Tryd.func14, Tryd.ntmps14
  go_wp2_with fail
  refine (rcheck_bad _ _ _ _ _ _ ((HH.out.box _).box _) HC.out).mono ?_
  rintro e w1 ⟨rfl, hb1⟩
  have ⟨hx0, hx1, hy0, hy1, hf0, hf1, hsz⟩ := box2 hb1
  go_wp2_with fail
  refine (rcheck_bad _ _ _ _ _ _ (((HH.out.box _).box _).via hb1) HC.out).mono ?_
  rintro e w2 ⟨rfl, hb2⟩
  have hky2 := keep2 hb2 hsz ⟨hy0, hy1⟩
  have ⟨hkf0, hkf1⟩ := keepF hb2 hsz ⟨hf0, hf1⟩
  go_wp2
  exact post_ws Tryd.results14 rfl rfl hky2.1 hky2.2 ⟨none, 0, 0, rfl, Lm.nil _ _, below_set2 ((bbox (bbox hb1)).trans (hb2.mono (by omega))) (by omega) _ _⟩

set_option maxRecDepth 100000 in
set_option maxHeartbeats 1000000 in
theorem rshift_arg (w : World) (neg : Bool) (A : Option Addr) (n c : Nat) (xs : List Nat) (k : Int) (h : Lm w w.heap.size A n c xs) (hc : chk neg xs = 0) (hk : k < -131072 ∨ 131072 < k) :
    Calls Tryd.prog 14 #[.agg #[.bool neg, .slice A n c], .int .i64 k] w (RW w false [] 2) := by
  have HH := Lib.hid h
  have HC := Lib.hid hc
  clear hc
  go_enter Tryd.func14, Tryd.ntmps14
  go_wp2_with fail
  refine (rcheck_ok _ _ _ _ _ _ ((HH.out.box _).box _) HC.out).mono ?_
  rintro e w1 ⟨rfl, hb1⟩
  have ⟨hx0, hx1, hy0, hy1, hf0, hf1, hsz⟩ := box2 hb1
  rcases hk with hk | hk
  · go_wp2
    exact post_ws Tryd.results14 rfl rfl hy0 hy1 ⟨none, 0, 0, rfl, Lm.nil _ _, below_set2 (bbox (bbox hb1)) (by omega) _ _⟩
  · have hk2 : decide (k < -131072) = false := by simp; omega
    go_wp2
    exact post_ws Tryd.results14 rfl rfl hy0 hy1 ⟨none, 0, 0, rfl, Lm.nil _ _, below_set2 (bbox (bbox hb1)) (by omega) _ _⟩

-- up
set_option maxRecDepth 100000 in
set_option maxHeartbeats 4000000 in
theorem rshift_up (w : World) (neg : Bool) (A : Option Addr) (n c v k : Nat) (h : Lm w w.heap.size A n c (digs v)) (hc : chk neg (digs v) = 0) (hk : k ≤ 131072) :
    Calls Tryd.prog 14 #[.agg #[.bool neg, .slice A n c], .int .i64 (k : Int)] w (RW w (mkN neg (v * 2 ^ k)) (mkL (v * 2 ^ k)) (mkE (v * 2 ^ k))) := by
  obtain ⟨i0, hi0, hz0, hz1, hz2⟩ := info_parts u32_info
  have hl := (chk_ok.1 hc).1
  rw [h.len] at hl
  have HU : Hid (∀ ts, val ts = v * 2 ^ (k % 32) → val (zer (k / 32) ++ ts) = v * 2 ^ k) := fun ts h => up_list h
  have HV : Hid (val (digs v) * 2 ^ (k % 32) = v * 2 ^ (k % 32)) := by show _ = _; rw [digs_val]
  generalize hX : v * 2 ^ k = X at *
  obtain ⟨a, ha⟩ : ∃ a : Nat, k / 32 = a := ⟨_, rfl⟩
  obtain ⟨s, hs⟩ : ∃ s : Nat, k % 32 = s := ⟨_, rfl⟩
  have hs32 : s < 32 := by omega
  have hq : ((k : Int)).tdiv 32 = (a : Int) := by rw [Int.tdiv_eq_ediv_of_nonneg (by omega)]; omega
  have hm : ((k : Int)).tmod 32 = (s : Int) := by rw [Int.tmod_eq_emod_of_nonneg (by omega)]; omega
  have ha9 : a ≤ 4096 := by omega
  have hk1 : decide ((k : Int) < -131072) = false := decide_eq_false (by omega)
  have hk2 : decide ((131072 : Int) < (k : Int)) = false := decide_eq_false (by omega)
  have hk3 : decide ((0 : Int) ≤ (k : Int)) = true := decide_eq_true (by omega)
  rw [ha, hs] at HU
  rw [hs] at HV
  have HWs : Hid (IntKind.u64.wrap (s : Int) = (s : Int)) := by show _ = _; rw [IntKind.wrap_u64]; omega
  have hmk := fun w => run_make_u32 (IntKind.i64.wrap (a : Int)) (IntKind.i64.wrap (a : Int)) a (by rw [IntKind.wrap_i64]; omega) (by rw [IntKind.wrap_i64]; omega) (by omega) w
  have HH := Lib.hid h
  have HC := Lib.hid hc
  clear h hc hX ha hs
  go_enter Tryd.func14, Tryd.ntmps14
  go_wp2_with fail
  refine (rcheck_ok _ _ _ _ _ _ ((HH.out.box _).box _) HC.out).mono ?_
  rintro e w1 ⟨rfl, hb1⟩
  have P0 := Lib.hid (((Pr.new w _ rfl (.bool neg) (.slice A n c) 24).alloc (.cells #[.bool false, .slice none 0 0] 24)).via hb1)
  have P1 := Lib.hid ((Pr.new (w.alloc (.cells #[.bool neg, .slice A n c] 24)) (w.heap.size + 1) (by simp) (.bool false) (.slice none 0 0) 24).via hb1)
  have L1 := Lib.hid (((HH.out.box _).box _).via hb1)
  have B1 := Lib.hid (bbox (bbox hb1))
  clear hb1
  have ⟨a0, a1, _, _, al⟩ := P0.out
  have hg1 := B1.out.size
  go_wp2_with fail
  have HKS : Hid (∀ V : World, Below w1.heap.size w1 V → V.cell? ⟨w.heap.size, 0, none⟩ = some (.bool neg) ∧ V.cell? ⟨w.heap.size, 1, none⟩ = some (.slice A n c)) := fun V h => ⟨(P0.out.below h al).c0, (P0.out.below h al).c1⟩
  go_region_held3 (fun w' => w'.cell? ⟨w.heap.size, 0, none⟩ = some (.bool neg) ∧ w'.cell? ⟨w.heap.size, 1, none⟩ = some (.slice A n c))
    (first | exact ⟨a0, a1⟩ | exact ⟨((P0.out.via Bc).far (by omega) _ _).c0, ((P0.out.via Bc).far (by omega) _ _).c1⟩ | (refine HKS.out _ ?_; (repeat' (first | exact Bb | exact Ba | exact (Below.refl _ _).drew | exact Below.refl _ _ | refine Below.drew ?_ | refine Below.alloc ?_ ?_ _)); all_goals (first | omega | (simp; done) | (simp; omega))))
    (first
     | (go_at_call 37; rw [HWs.out]; refine (rleft_any _ A n c s (digs v) _ (by first | exact L1.out | exact L1.out.drew | exact L1.out.box _ | exact L1.out.drew.box _ | exact (L1.out.box _).drew) (by omega) hs32 HV.out).mono ?_; rintro e wa ⟨Aa, ca, ts, rfl, hLa, hva, hba⟩; have Ba : Below w1.heap.size w1 wa := (by first | exact hba | exact (Below.refl _ _).drew.trans hba | exact b_one hba | exact b_one_d hba); have Bas := Ba.size; (try (have hOa : Ow wa w1.heap.size (.slice (some ⟨w1.heap.size, 0, none⟩) a a) (zer a) := (by first | exact (Ow.made _ a a (Nat.le_refl _) (by omega)).drew.via hba | exact (Ow.made _ a a (Nat.le_refl _) (by omega)).via hba))))
     | (go_at_call 36; refine (rmade_any _ _ Ab (a + (n + 1)) cb (zer a ++ ts) X hLb (HU.out ts hva) (by omega)).mono ?_; rintro e wc ⟨Ac, nc, cc, rfl, hLc, hbc⟩; have Bc := Bb.trans (hbc.mono Bb.size); have PR := P1.out.via Bc; have ⟨r0, r1, rf0, rf1, rl⟩ := PR)
     | (refine step_append_lm rfl (.tmp 28) (.tmp 34) 22 rfl w1.heap.size 64 i0 slice_u32 hi0 hz0 hz1 hz2 (.slice (some ⟨w1.heap.size, 0, none⟩) a a) a ((zer a).map u32c) (by simp [Act.eval]) (own_zer hOa) wa.heap.size Aa (n + 1) ca ts (by simp [Act.eval]) (hLa) (by simp only [maxLen]; omega) (by omega) (by omega) ?_; intro v1 wb hown hgb; have hgt : Good (zer a ++ ts) := (zer_good a).append hLa.good; obtain ⟨Ab, cb, rfl, hLb⟩ := Lm.own (ts := zer a ++ ts) (by rw [List.map_append]; exact hown) hgt; have Bb : Below w1.heap.size w1 wb := (by first | exact Ba.grown hgb (by omega) (fun k e => by simp [Value.ownBlock] at e; omega) | exact (Ba.alloc Ba.size _).grown hgb (by simp; omega) (fun k e => by simp [Value.ownBlock] at e; omega)); have Bbs := Bb.size)
     | (refine step_append_lm rfl (.tmp 28) (.tmp 34) 22 rfl w1.heap.size 64 i0 slice_u32 hi0 hz0 hz1 hz2 (.slice (some ⟨wa.heap.size, 0, none⟩) a a) a ((zer a).map u32c) (by simp [Act.eval]) (own_zer (Ow.mono (Ow.made _ a a (Nat.le_refl _) (by omega)) Bas)) (wa.heap.size + 1) Aa (n + 1) ca ts (by simp [Act.eval]) ((hLa.box _).mono (by simp)) (by simp only [maxLen]; omega) (by omega) (by simp only [World.size_alloc]; omega) ?_; intro v1 wb hown hgb; have hgt : Good (zer a ++ ts) := (zer_good a).append hLa.good; obtain ⟨Ab, cb, rfl, hLb⟩ := Lm.own (ts := zer a ++ ts) (by rw [List.map_append]; exact hown) hgt; have Bb : Below w1.heap.size w1 wb := (by first | exact Ba.grown hgb (by omega) (fun k e => by simp [Value.ownBlock] at e; omega) | exact (Ba.alloc Ba.size _).grown hgb (by simp; omega) (fun k e => by simp [Value.ownBlock] at e; omega)); have Bbs := Bb.size)
     | fail)
  all_goals
    go_wp2
    exact post_ws Tryd.results14 rfl rfl r0 r1 ⟨Ac, nc, cc, rfl, hLc.setP PR _ _, below_set2 (B1.out.trans (Bc.mono B1.out.size)) (by omega) _ _⟩

-- down
/-- What a shift down makes of an absolute value. -/
def DWN (neg : Bool) (v j : Nat) : Nat := if neg = true ∧ 0 < v % 2 ^ j then v / 2 ^ j + 1 else v / 2 ^ j
set_option maxRecDepth 100000 in
set_option maxHeartbeats 4000000 in
theorem rshift_down (w : World) (neg : Bool) (A : Option Addr) (n c v j : Nat) (z : Int) (h : Lm w w.heap.size A n c (digs v)) (hc : chk neg (digs v) = 0) (hz : z = -(j : Int)) (hj0 : 0 < j) (hj : j ≤ 131072) :
    Calls Tryd.prog 14 #[.agg #[.bool neg, .slice A n c], .int .i64 z] w (RW w (mkN neg (DWN neg v j)) (mkL (DWN neg v j)) (mkE (DWN neg v j))) := by
  obtain ⟨i0, hi0, hz0, hz1, hz2⟩ := info_parts u32_info
  have hl := (chk_ok.1 hc).1
  rw [h.len] at hl
  have hp : 0 < 2 ^ j := Nat.pow_pos (by omega)
  have HT := Lib.hid (two_digs j)
  have hql : (digs (v / 2 ^ j)).length ≤ n := by
    have h1 := digs_mono (Nat.div_le_self v (2 ^ j))
    rw [h.len] at h1
    exact h1
  obtain ⟨D, hD⟩ : ∃ D : Nat, DWN neg v j = D := ⟨_, rfl⟩
  have HD : Hid ((if neg = true ∧ 0 < v % 2 ^ j then v / 2 ^ j + 1 else v / 2 ^ j) = D) := hD
  rw [hD]
  generalize 2 ^ j = T at *
  obtain ⟨a, ha⟩ : ∃ a : Nat, j / 32 = a := ⟨_, rfl⟩
  obtain ⟨s, hs⟩ : ∃ s : Nat, j % 32 = s := ⟨_, rfl⟩
  have hs32 : s < 32 := by omega
  have hw : IntKind.i64.wrap (-z) = (j : Int) := by rw [IntKind.wrap_i64]; omega
  have hq : ((j : Int)).tdiv 32 = (a : Int) := by rw [Int.tdiv_eq_ediv_of_nonneg (by omega)]; omega
  have hm : ((j : Int)).tmod 32 = (s : Int) := by rw [Int.tmod_eq_emod_of_nonneg (by omega)]; omega
  have ha9 : a ≤ 4096 := by omega
  have hk1 : decide (z < -131072) = false := decide_eq_false (by omega)
  have hk2 : decide ((131072 : Int) < z) = false := decide_eq_false (by omega)
  have hk3 : decide ((0 : Int) ≤ z) = false := decide_eq_false (by omega)
  rw [ha, hs] at HT
  have hS9 : 2 ^ s < 4294967296 := Nat.lt_of_lt_of_le (Nat.pow_lt_pow_right (by omega) hs32) (by decide)
  have hsl : decide ((s : Int) < 0) = false := decide_eq_false (by omega)
  have HS : Hid (∀ E : Int, E = IntKind.u32.wrap (2 ^ s) ∨ E = IntKind.u32.wrap (1 * 2 ^ s) ∨ E = 2 ^ s → E = ((2 ^ s : Nat) : Int)) := by
    show ∀ E : Int, _
    have e : ((2 : Int) ^ s) = ((2 ^ s : Nat) : Int) := by rw [Int.natCast_pow]; rfl
    rw [Int.one_mul, e]
    generalize 2 ^ s = P at *
    intro E h
    rw [IntKind.wrap_u32] at h
    omega
  have hmk := fun w => run_make_u32 (IntKind.i64.wrap (a : Int)) (IntKind.i64.wrap (a : Int)) a (by rw [IntKind.wrap_i64]; omega) (by rw [IntKind.wrap_i64]; omega) (by omega) w
  have HH := Lib.hid h
  have HC := Lib.hid hc
  have HJ := Lib.hid (show 0 < j ∧ j ≤ 131072 from ⟨hj0, hj⟩)
  clear h hc hD ha hs hz
  go_enter Tryd.func14, Tryd.ntmps14
  go_wp2_with fail
  refine (rcheck_ok _ _ _ _ _ _ ((HH.out.box _).box _) HC.out).mono ?_
  rintro e w1 ⟨rfl, hb1⟩
  have P0 := Lib.hid (((Pr.new w _ rfl (.bool neg) (.slice A n c) 24).alloc (.cells #[.bool false, .slice none 0 0] 24)).via hb1)
  have P1 := Lib.hid ((Pr.new (w.alloc (.cells #[.bool neg, .slice A n c] 24)) (w.heap.size + 1) (by simp) (.bool false) (.slice none 0 0) 24).via hb1)
  have L1 := Lib.hid (((HH.out.box _).box _).via hb1)
  have B1 := Lib.hid (bbox (bbox hb1))
  clear hb1
  go_wp2_with fail
  go_cut [6] (fun sl wx => ∃ A' c', sl = .slice A' (a + 1) c' ∧ Lm wx wx.heap.size A' (a + 1) c' (digs T) ∧ Below w1.heap.size w1 wx)
  case first =>
    go_region_law (first
     | (refine step_append_lm rfl (.tmp 43) (.tmp 47) 22 rfl w1.heap.size 64 i0 slice_u32 hi0 hz0 hz1 hz2 (.slice (some ⟨w1.heap.size, 0, none⟩) a a) a ((zer a).map u32c) (by simp [Act.eval]) (own_zer ((Ow.madeK w1 w1.heap.size a rfl (by omega)).alloc _).drew) _ (some ⟨w1.heap.size + 1, 0, none⟩) 1 1 [2 ^ s] (by simp [Act.eval]) ((Lm.loneE (w1.alloc _) (w1.heap.size + 1) _ (by simp) (2 ^ s) _ (HS.out _ (by first | exact .inl rfl | exact .inr (.inl rfl) | exact .inr (.inr rfl))) hS9).drew) (by simp only [maxLen]; omega) (by omega) (by simp; omega) ?_; intro v1 wb hown hgb; have hgt : Good (zer a ++ [2 ^ s]) := (zer_good a).append (Good.nil.cons hS9); obtain ⟨Ab, cb, rfl, hLb⟩ := Lm.own (ts := zer a ++ [2 ^ s]) (by rw [List.map_append]; exact hown) hgt; have Bb : Below w1.heap.size w1 wb := ((((Below.refl w1.heap.size w1).alloc (Nat.le_refl _) _).alloc (by simp) _).drew).grown hgb (by simp; omega) (fun k e => by simp [Value.ownBlock] at e; omega))
     | (refine step_append_lm rfl (.tmp 43) (.tmp 47) 22 rfl w1.heap.size 64 i0 slice_u32 hi0 hz0 hz1 hz2 (.slice (some ⟨w1.heap.size + 1, 0, none⟩) a a) a ((zer a).map u32c) (by simp [Act.eval]) (own_zer ((Ow.madeK (w1.alloc _) (w1.heap.size + 1) a (by simp) (by omega)).mono (by omega)).drew) _ (some ⟨w1.heap.size, 0, none⟩) 1 1 [2 ^ s] (by simp [Act.eval]) (((Lm.loneE w1 w1.heap.size _ rfl (2 ^ s) _ (HS.out _ (by first | exact .inl rfl | exact .inr (.inl rfl) | exact .inr (.inr rfl))) hS9).box _).drew) (by simp only [maxLen]; omega) (by omega) (by simp; omega) ?_; intro v1 wb hown hgb; have hgt : Good (zer a ++ [2 ^ s]) := (zer_good a).append (Good.nil.cons hS9); obtain ⟨Ab, cb, rfl, hLb⟩ := Lm.own (ts := zer a ++ [2 ^ s]) (by rw [List.map_append]; exact hown) hgt; have Bb : Below w1.heap.size w1 wb := ((((Below.refl w1.heap.size w1).alloc (Nat.le_refl _) _).alloc (by simp) _).drew).grown hgb (by simp; omega) (fun k e => by simp [Value.ownBlock] at e; omega))
     | fail)
    all_goals
      go_wp2_with fail
      go_meet
      refine ⟨Ab, cb, rfl, ?_, Bb⟩
      rw [← HT.out]
      exact hLb
  case rest =>
  obtain ⟨A2, c2, rfl, hL2, hb2⟩ := hcut
  clear hmk hsl hw hq hm
  have P0' := Lib.hid (P0.out.via hb2)
  have P1' := Lib.hid (P1.out.via hb2)
  have L1' := Lib.hid (L1.out.via hb2)
  have B2 := Lib.hid (B1.out.trans (hb2.mono B1.out.size))
  have L2 := Lib.hid hL2
  clear hL2 hb2 P0 P1 L1 B1
  have ⟨a0, a1, _, _, al⟩ := P0'.out
  go_wp2_with fail
  refine (rover_any _ A A2 n (a + 1) c c2 v T L1'.out L2.out hp (by omega)).mono ?_
  rintro e w3 ⟨Q, cq, R, cr, rfl, hQ, hR, hb3⟩
  have P0 := Lib.hid (P0'.out.via hb3)
  have P1 := Lib.hid (P1'.out.via hb3)
  have B3 := Lib.hid (B2.out.trans (hb3.mono B2.out.size))
  have LQ := Lib.hid hQ
  have hcq := hQ.cap
  have hxq := hQ.max
  have hcr := hR.cap
  have hxr := hR.max
  clear hQ hR hb3 P0' P1' L1' L2 B2 a0 a1 al
  have ⟨a0, a1, _, _, al⟩ := P0.out
  by_cases hlost : neg = true ∧ 0 < v % T
  · obtain ⟨rfl, h0⟩ := hlost
    have HD2 : Hid (v / T + 1 = D) := by have e := HD.out; rw [if_pos ⟨rfl, h0⟩] at e; exact e
    have hy : (0 : Int) < ((digs (v % T)).length : Int) := by have := digs_pos.2 h0; omega
    clear h0
    go_wp2_with fail
    refine (rplus_any _ Q _ _ 1 cq 1 (max (digs (v / T)).length 1) (digs (v / T)) [1] (v / T + 1) (LQ.out.box _) (Lm.loneE _ _ _ rfl 1 _ rfl (by omega)) rfl (by omega) (by rw [digs_val]; rfl)).mono ?_
    rintro e w4 ⟨A4, c4, ts, rfl, hL4, hv4, hb4⟩
    have B4 := bbox hb4
    have P0' := Lib.hid (P0.out.via B4)
    have P1' := Lib.hid (P1.out.via B4)
    have BB4 := Lib.hid (B3.out.trans (B4.mono B3.out.size))
    have L4 := Lib.hid hL4
    have HV4 := Lib.hid hv4
    have hc4 := hL4.cap
    have hx4 := hL4.max
    clear hL4 hv4 hb4 B4 P0 P1 B3 LQ a0 a1 al
    go_wp2_with fail
    refine (rtrim_any _ _ _ _ ts (v / T + 1) L4.out HV4.out (by omega)).mono ?_
    rintro e w5 ⟨A5, c5, rfl, hL5, hb5⟩
    have P0 := Lib.hid (P0'.out.via hb5)
    have P1 := Lib.hid (P1'.out.via hb5)
    have B5 := Lib.hid (BB4.out.trans (hb5.mono BB4.out.size))
    have L5 := Lib.hid hL5
    have hc5 := hL5.cap
    have hx5 := hL5.max
    have hl5 : (digs (v / T + 1)).length ≤ 1000000 := by
      have h1 := tr_len L4.out.good L4.out.len
      rw [HV4.out] at h1
      have h2 := tr_le ts (max (digs (v / T)).length 1 + 1)
      omega
    clear hL5 hb5 P0' P1' BB4 L4 HV4
    have ⟨a0, a1, _, _, al⟩ := P0.out
    go_wp2_with fail
    refine (rmade_any _ _ _ _ _ _ D L5.out (by rw [digs_val]; exact HD2.out) (by omega)).mono ?_
    rintro e w6 ⟨A6, n6, c6, rfl, hL6, hb6⟩
    have PR := P1.out.via hb6
    have ⟨r0, r1, rf0, rf1, rl⟩ := PR
    clear a0 a1 al
    go_wp2
    exact post_ws Tryd.results14 rfl rfl r0 r1 ⟨A6, n6, c6, rfl, hL6.setP PR _ _, below_set2 (B5.out.trans (hb6.mono B5.out.size)) (by omega) _ _⟩
  · have HD2 : Hid (v / T = D) := by have e := HD.out; rw [if_neg hlost] at e; exact e
    have hy : neg = false ∨ neg = true ∧ v % T = 0 := by
      cases neg
      · exact .inl rfl
      · rcases Nat.eq_zero_or_pos (v % T) with h | h
        · exact .inr ⟨rfl, h⟩
        · exact absurd ⟨rfl, h⟩ hlost
    clear hlost
    rcases hy with rfl | ⟨rfl, hy⟩
    case' inr =>
      rw [hy, digs_zero, List.length_nil] at *
      clear hy
    all_goals
      go_wp2_with fail
      refine (rmade_any _ _ _ _ _ _ D LQ.out (by rw [digs_val]; exact HD2.out) (by omega)).mono ?_
      rintro e w6 ⟨A6, n6, c6, rfl, hL6, hb6⟩
      have PR := P1.out.via hb6
      have ⟨r0, r1, rf0, rf1, rl⟩ := PR
      clear a0 a1 al
      go_wp2
      exact post_ws Tryd.results14 rfl rfl r0 r1 ⟨A6, n6, c6, rfl, hL6.setP PR _ _, below_set2 (B3.out.trans (hb6.mono B3.out.size)) (by omega) _ _⟩
end Go.Proofs.YtegpckhfncblhaaDoor

/-
  The contracts of both sides for any number, valid or not: what the functions of the chapter return, as functions of the number's reading.
-/
namespace Go.Proofs.YtegpckhfncblhaaDoor
open Go.RowKit

def intVT (neg : Bool) (xs : List Nat) : Int := if chk neg xs = 0 then intV neg (val xs) else 0
def intET (neg : Bool) (xs : List Nat) : Int := if chk neg xs = 0 then intE neg (val xs) else 8
def unN (neg' neg : Bool) (xs : List Nat) : Bool := if chk neg xs = 0 then mkN neg' (val xs) else false
def unL (neg : Bool) (xs : List Nat) : List Nat := if chk neg xs = 0 then mkL (val xs) else []
def unE (neg : Bool) (xs : List Nat) : Int := if chk neg xs = 0 then mkE (val xs) else 8
def cmpVT (na : Bool) (xs : List Nat) (nb : Bool) (ys : List Nat) : Int := if chkB na xs nb ys = 0 then cmpZ (toI na (val xs)) (toI nb (val ys)) else 0
def cmpET (na : Bool) (xs : List Nat) (nb : Bool) (ys : List Nat) : Int := if chkB na xs nb ys = 0 then 0 else 8
def signVT (neg : Bool) (xs : List Nat) : Int := if chk neg xs = 0 then signZ neg (val xs) else 0
def errT (neg : Bool) (xs : List Nat) : Int := if chk neg xs = 0 then 0 else 8
def bitsVT (neg : Bool) (xs : List Nat) : Int := if chk neg xs = 0 then (lenS xs : Int) else 0
theorem not_zero {x : Int} (h : x = 8) : ¬ x = 0 := by omega

theorem int_t (w : World) (neg : Bool) (A : Option Addr) (n c : Nat) (xs : List Nat) (h : Lm w w.heap.size A n c xs) :
    Calls Tryd.prog 10 #[.agg #[.bool neg, .slice A n c]] w fun e w' => e = .returned (.tuple #[.int .i64 (intVT neg xs), .int .i64 (intET neg xs)]) ∧ Below w.heap.size w w' := by
  unfold intVT intET
  rcases chk_cases neg xs with hc | hc
  · rw [if_pos hc, if_pos hc]
    exact int_ok w neg A n c xs _ h hc rfl
  · rw [if_neg (not_zero hc), if_neg (not_zero hc)]
    exact int_bad w neg A n c xs h hc

theorem rint_t (w : World) (neg : Bool) (A : Option Addr) (n c : Nat) (xs : List Nat) (h : Lm w w.heap.size A n c xs) :
    Calls Tryd.prog 17 #[.agg #[.bool neg, .slice A n c]] w fun e w' => e = .returned (.tuple #[.int .i64 (intVT neg xs), .int .i64 (intET neg xs)]) ∧ Below w.heap.size w w' := by
  unfold intVT intET
  rcases chk_cases neg xs with hc | hc
  · rw [if_pos hc, if_pos hc]
    exact rint_ok w neg A n c xs _ h hc rfl
  · rw [if_neg (not_zero hc), if_neg (not_zero hc)]
    exact rint_bad w neg A n c xs h hc

theorem cmp_t (w : World) (na nb : Bool) (A B : Option Addr) (n m ca cb : Nat) (xs ys : List Nat) (hA : Lm w w.heap.size A n ca xs) (hB : Lm w w.heap.size B m cb ys) :
    Calls Tryd.prog 59 #[.agg #[.bool na, .slice A n ca], .agg #[.bool nb, .slice B m cb]] w fun e w' => e = .returned (.tuple #[.int .i64 (cmpVT na xs nb ys), .int .i64 (cmpET na xs nb ys)]) ∧ Below w.heap.size w w' := by
  unfold cmpVT cmpET
  rcases chkB_cases na xs nb ys with hc | hc
  · rw [if_pos hc, if_pos hc]
    have e1 := chk_digs (chkB_ok.1 hc).1 hA.good
    have e2 := chk_digs (chkB_ok.1 hc).2 hB.good
    rw [e1] at hA hc
    rw [e2] at hB hc
    exact cmp_ok w na nb A B n m ca cb _ _ hA hB hc
  · rw [if_neg (not_zero hc), if_neg (not_zero hc)]
    exact cmp_bad w na nb A B n m ca cb xs ys hA hB hc

theorem sign_t (w : World) (neg : Bool) (A : Option Addr) (n c : Nat) (xs : List Nat) (h : Lm w w.heap.size A n c xs) :
    Calls Tryd.prog 21 #[.agg #[.bool neg, .slice A n c]] w fun e w' => e = .returned (.tuple #[.int .i64 (signVT neg xs), .int .i64 (errT neg xs)]) ∧ Below w.heap.size w w' := by
  unfold signVT errT
  rcases chk_cases neg xs with hc | hc
  · rw [if_pos hc, if_pos hc]
    have e := chk_digs hc h.good
    rw [e] at h hc
    exact sign_ok w neg A n c _ h hc
  · rw [if_neg (not_zero hc), if_neg (not_zero hc)]
    exact sign_bad w neg A n c xs h hc

theorem rsame_self (w : World) (na : Bool) (A B : Option Addr) (n m ca cb : Nat) (xs : List Nat) (hA : Lm w w.heap.size A n ca xs) (hB : Lm w w.heap.size B m cb xs) :
    Calls Tryd.prog 34 #[.agg #[.bool na, .slice A n ca], .agg #[.bool na, .slice B m cb]] w fun e w' => e = .returned (.bool true) ∧ Below w.heap.size w w' :=
  (rsame_any w na na A B n m ca cb xs xs hA hB).mono fun _ _ ⟨he, hb⟩ => ⟨by rw [he, sameB_self], hb⟩

end Go.Proofs.YtegpckhfncblhaaDoor

/- Shift and DivMod of the reference, and Int on both sides, in whole numbers. -/
namespace Go.Proofs.YtegpckhfncblhaaDoor
open Go.RowKit

theorem rshup_n (w : World) (A : Option Addr) (n c k : Nat) (x : Int) (hA : Lm w w.heap.size A n c (digs x.natAbs)) (j : Nat) (hx : Sz j x) (hj : j ≤ 2000) (hk : k ≤ 255) {na : Bool} (ha : decide (x < 0) = na) :
    Calls Tryd.prog 14 #[.agg #[.bool na, .slice A n c], .int .i64 (k : Int)] w (RN w (x * (2 : Int) ^ k)) := by
  have hc := chk_z hx (show j ≤ 4096 by omega)
  subst ha
  have h := rshift_up w _ A n c _ k hA hc (by omega)
  have e1 := rz_of w (decide (x < 0)) (x.natAbs * 2 ^ k) (z := x * (2 : Int) ^ k) (by rw [toI_scale, toI_self, two_pow_cast])
  rw [e1] at h
  exact h.mono fun e w' hr => rz_rn (hx.mul (sz_two k hk)) (by omega) hr
theorem rdivmod_n (w : World) (A B : Option Addr) (n m ca cb k : Nat) (x y : Int) (hA : Lm w w.heap.size A n ca (digs x.natAbs)) (hB : Lm w w.heap.size B m cb (digs y.natAbs)) (hx : Sz k x) (hy : Sz k y) (hk : k ≤ 2000) (hy0 : y ≠ 0)
    {na nb : Bool} (ha : decide (x < 0) = na) (hb : decide (y < 0) = nb) :
    Calls Tryd.prog 16 #[.agg #[.bool na, .slice A n ca], .agg #[.bool nb, .slice B m cb]] w (RD2 w x y) := by
  have hv := chkB_z hx (show k ≤ 4096 by omega) hy (show k ≤ 4096 by omega)
  rw [ha, hb] at hv
  have hxl : (digs x.natAbs).length ≤ 4096 := Nat.le_trans hx.len (by omega)
  have hyl : (digs y.natAbs).length ≤ 4096 := Nat.le_trans hy.len (by omega)
  have hbp : 0 < y.natAbs := by omega
  have ex : toI na x.natAbs = x := by rw [← ha]; exact toI_self x
  have ey : toI nb y.natAbs = y := by rw [← hb]; exact toI_self y
  have hdm := Nat.div_add_mod x.natAbs y.natAbs
  have hml := Nat.mod_lt x.natAbs hbp
  have hdl := Nat.div_le_self x.natAbs y.natAbs
  have hm2 := Nat.mod_le x.natAbs y.natAbs
  have key : ∀ (s t : Bool), toI t y.natAbs = y → toI s (x.natAbs / y.natAbs) * y + toI (s != t) (x.natAbs % y.natAbs) = toI (s != t) x.natAbs := by
    intro s t ht
    have e := toI_mul s t (x.natAbs / y.natAbs) y.natAbs
    rw [ht] at e
    rw [e, toI_same rfl, Nat.mul_comm, hdm]
  by_cases hs : na = nb
  · refine (rdivmod_same w na nb A B n m ca cb _ _ hA hB hv hbp hs _ rfl).mono fun e w' h => rww_rd2 (Nat.le_trans (digs_mono hdl) hxl) (Nat.le_trans (digs_mono hm2) hxl) ?_ hml (.inr hb.symm) hdl h
    have h1 := key false nb ey
    subst hs
    rw [show (false != na) = na from by cases na <;> rfl, ex] at h1
    exact h1.symm
  · have hs2 : na = true ∧ nb = false ∨ na = false ∧ nb = true := by cases na <;> cases nb <;> simp_all
    have hnn : (true != nb) = na := by cases na <;> cases nb <;> simp_all
    have h1 := key true nb ey
    rw [hnn, ex] at h1
    rcases Nat.eq_zero_or_pos (x.natAbs % y.natAbs) with h0 | h0
    · refine (rdivmod_exact w na nb A B n m ca cb _ _ hA hB hv hbp hs2 h0).mono fun e w' h => rww_rd2 (Nat.le_trans (digs_mono hdl) hxl) (Nat.le_trans (digs_mono hm2) hxl) ?_ hml (.inl h0) hdl h
      exact h1.symm
    · have hq1 : x.natAbs / y.natAbs + 1 ≤ x.natAbs := by
        have h2 : 2 ≤ y.natAbs := by omega
        have h3 := Nat.mul_le_mul_right (x.natAbs / y.natAbs) h2
        omega
      refine (rdivmod_down w na nb A B n m ca cb _ _ hA hB hv hbp hs2 h0).mono fun e w' h => rww_rd2 (Nat.le_trans (digs_mono hq1) hxl) (Nat.le_trans (digs_mono (show y.natAbs - x.natAbs % y.natAbs ≤ y.natAbs by omega)) hyl) ?_ (by omega) (.inr hb.symm) hq1 h
      have h4 : toI true (x.natAbs / y.natAbs + 1) = toI true (x.natAbs / y.natAbs) - 1 := by unfold toI; simp; omega
      rw [h4, Int.sub_mul, Int.one_mul]
      have h5 : toI nb (y.natAbs - x.natAbs % y.natAbs) - y = toI na (x.natAbs % y.natAbs) := by
        rw [← ey, toI_abs]
        unfold toI
        cases na <;> cases nb <;> simp_all <;> omega
      omega
/-- What Int returns of the number z. -/
def i64V (z : Int) : Int := if -9223372036854775808 ≤ z ∧ z ≤ 9223372036854775807 then z else 0
def i64E (z : Int) : Int := if -9223372036854775808 ≤ z ∧ z ≤ 9223372036854775807 then 0 else 16
theorem int_z {z : Int} {k : Nat} (hz : Sz k z) (hk : k ≤ 2000) : intVT (decide (z < 0)) (digs z.natAbs) = i64V z ∧ intET (decide (z < 0)) (digs z.natAbs) = i64E z := by
  have hc := chk_z hz (show k ≤ 4096 by omega)
  unfold intVT intET intV intE i64V i64E
  rw [if_pos hc, if_pos hc, digs_val]
  by_cases h : z < 0
  · rw [decide_eq_true h]
    simp only [if_true]
    by_cases h2 : z.natAbs ≤ 9223372036854775808
    · rw [if_pos h2, if_pos h2, if_pos (by omega), if_pos (by omega)]; omega
    · rw [if_neg h2, if_neg h2, if_neg (by omega), if_neg (by omega)]; omega
  · rw [decide_eq_false h]
    simp only [Bool.false_eq_true, if_false]
    by_cases h2 : z.natAbs < 9223372036854775808
    · rw [if_pos h2, if_pos h2, if_pos (by omega), if_pos (by omega)]; omega
    · rw [if_neg h2, if_neg h2, if_neg (by omega), if_neg (by omega)]; omega
section
variable (w : World) (A : Option Addr) (n c k : Nat) (z : Int) (hA : Lm w w.heap.size A n c (digs z.natAbs)) (hz : Sz k z) (hk : k ≤ 2000)
include hA hz hk
theorem int_n {na : Bool} (ha : decide (z < 0) = na) : Calls Tryd.prog 10 #[.agg #[.bool na, .slice A n c]] w fun e w' => e = .returned (.tuple #[.int .i64 (i64V z), .int .i64 (i64E z)]) ∧ Below w.heap.size w w' := by
  have h := int_t w na A n c _ hA
  obtain ⟨h1, h2⟩ := int_z hz hk
  rw [← ha] at h ⊢
  rwa [h1, h2] at h
theorem rint_n {na : Bool} (ha : decide (z < 0) = na) : Calls Tryd.prog 17 #[.agg #[.bool na, .slice A n c]] w fun e w' => e = .returned (.tuple #[.int .i64 (i64V z), .int .i64 (i64E z)]) ∧ Below w.heap.size w w' := by
  have h := rint_t w na A n c _ hA
  obtain ⟨h1, h2⟩ := int_z hz hk
  rw [← ha] at h ⊢
  rwa [h1, h2] at h
end
end Go.Proofs.YtegpckhfncblhaaDoor

/- Package frac: isOne, pass, must. -/
namespace Go.Proofs.YtegpckhfncblhaaDoor
open Go.RowKit

set_option maxRecDepth 100000 in
set_option maxHeartbeats 400000 in
theorem isOne_yes (w : World) (A : Option Addr) (n c : Nat) (h : Lm w w.heap.size A n c (digs 1)) :
    Calls Tryd.prog 19 #[.agg #[.bool false, .slice A n c]] w fun e w' => e = .returned (.bool true) ∧ Below w.heap.size w w' := by
  obtain rfl : n = 1 := h.len.symm
  obtain ⟨b, off, rfl, hb, hc⟩ := h.cell (k := 0) (by omega)
  have hc1 : w.cell? ⟨b, off, none⟩ = some (.int .u32 1) := hc
  have h1 := h.cap
  have h2 := h.max
  clear hc
  go_enter Tryd.func19, Tryd.ntmps19
  go_wp2
  go_ret
  exact ⟨rfl, by go_grown⟩

set_option maxRecDepth 100000 in
set_option maxHeartbeats 400000 in
theorem isOne_no (w : World) (neg : Bool) (A : Option Addr) (n c : Nat) (xs : List Nat) (h : Lm w w.heap.size A n c xs) (hno : neg = true ∨ xs ≠ [1]) :
    Calls Tryd.prog 19 #[.agg #[.bool neg, .slice A n c]] w fun e w' => e = .returned (.bool false) ∧ Below w.heap.size w w' := by
  have h1 := h.cap
  have h2 := h.max
  cases neg
  · have hno2 : xs ≠ [1] := by rcases hno with h | h; cases h; exact h
    by_cases hn : n = 1
    · subst hn
      obtain ⟨b, off, rfl, hb, hc⟩ := h.cell (k := 0) (by omega)
      have hx : xs[0]?.getD 0 ≠ 1 := by
        intro e
        match xs, h.len, hno2, e with
        | [x], _, hn, e => exact hn (by simpa using e)
      have hc1 : w.cell? ⟨b, off, none⟩ = some (.int .u32 (xs[0]?.getD 0 : Nat)) := hc
      have hz : (((xs[0]?.getD 0 : Nat) : Int) == 1) = false := by simp; omega
      clear hc hno hno2 hx
      go_enter Tryd.func19, Tryd.ntmps19
      go_wp2
      go_ret
      exact ⟨rfl, by go_grown⟩
    · have hz : ((n : Int) == 1) = false := by simp; omega
      clear hno hno2 hn
      go_enter Tryd.func19, Tryd.ntmps19
      go_wp2
      go_ret
      exact ⟨rfl, by go_grown⟩
  · clear hno
    go_enter Tryd.func19, Tryd.ntmps19
    go_wp2
    go_ret
    exact ⟨rfl, by go_grown⟩

/-- A panic with an error of the chapter. -/
def Pan (e : Int) : Ending := .panicked [{ v := .iface 29 (.int .i64 e), recovered := false }]
end Go.Proofs.YtegpckhfncblhaaDoor

/- Package frac: must, quotient, divided. -/
namespace Go.Proofs.YtegpckhfncblhaaDoor
open Go.RowKit

/-- The results of a function that returns two numbers. -/
theorem res_w2 {fn : Func} {r s : Nat} (hr : fn.results = #[.cell r 24, .cell s 24]) {tmps : Array Value} {w : World} {g h : Nat} {x y x' y' : Value}
    (ht : tmps.getD r undef = .pointer (some ⟨g, 0, none⟩)) (hs : tmps.getD s undef = .pointer (some ⟨h, 0, none⟩)) (p : Pr w g x y) (q : Pr w h x' y') :
    (results fn tmps).run Tryd.prog w = .ok (.tuple #[.agg #[x, y], .agg #[x', y']]) w := by
  rw [Array.getD_eq_getD_getElem?] at ht hs
  simp [results, hr, go_sem, ht, hs, p.c0, p.c1, q.c0, q.c1]
/-- A call returns quotient and remainder, rounded down, without an error. -/
def RQR (w : World) (x y : Int) (e : Ending) (w' : World) : Prop := ∃ q r : Int, x = q * y + r ∧ r.natAbs < y.natAbs ∧ (r = 0 ∨ decide (r < 0) = decide (y < 0)) ∧ q.natAbs ≤ x.natAbs ∧
  ∃ A n c A' n' c', e = .returned (.tuple #[.agg #[.bool (decide (q < 0)), .slice A n c], .agg #[.bool (decide (r < 0)), .slice A' n' c']]) ∧ Lm w' w'.heap.size A n c (digs q.natAbs) ∧ Lm w' w'.heap.size A' n' c' (digs r.natAbs) ∧ Below w.heap.size w w'
end Go.Proofs.YtegpckhfncblhaaDoor

/- Decimal texts of numbers, in groups of nine digits. -/
namespace Go.Proofs.YtegpckhfncblhaaDoor

/-- A number's lowest k decimal digits. -/
def padk : Nat → Nat → List UInt8
  | 0, _ => []
  | k + 1, x => padk k (x / 10) ++ [UInt8.ofNat (48 + x % 10)]
theorem padk_len (k x : Nat) : (padk k x).length = k := by
  induction k generalizing x with
  | zero => rfl
  | succ k ih => simp [padk, ih]
theorem dec_small {u : Nat} (h : u < 10) : Lib.decDigits u = [UInt8.ofNat (48 + u)] := Lib.decDigits_one h
theorem dec_big {u : Nat} (h : 10 ≤ u) : Lib.decDigits u = Lib.decDigits (u / 10) ++ [UInt8.ofNat (48 + u % 10)] := by
  rw [Lib.decDigits, dif_neg (by omega)]
theorem dec_pad (k : Nat) : ∀ (q x : Nat), 0 < q → x < 10 ^ k → Lib.decDigits (q * 10 ^ k + x) = Lib.decDigits q ++ padk k x := by
  induction k with
  | zero => intro q x hq hx; rw [Nat.pow_zero] at hx; obtain rfl : x = 0 := by omega
            simp [padk]
  | succ k ih =>
    intro q x hq hx
    have hp : 0 < 10 ^ k := Nat.pow_pos (by omega)
    rw [Nat.pow_succ] at hx ⊢
    have h1 : 10 ≤ q * (10 ^ k * 10) + x := by
      have := Nat.mul_le_mul hq (show 1 * 10 ≤ 10 ^ k * 10 by omega)
      omega
    have e1 : q * (10 ^ k * 10) = 10 * (q * 10 ^ k) := by rw [← Nat.mul_assoc, Nat.mul_comm]
    rw [dec_big h1, padk, ← List.append_assoc, ← ih q (x / 10) hq (by omega)]
    rw [e1]
    congr 2
    · congr 1; omega
    · congr 2; omega
/-- The groups of nine digits of a number, the lowest one first. -/
def gB (v : Nat) : List Nat := if h : v = 0 then [] else v % 1000000000 :: gB (v / 1000000000)
termination_by v
decreasing_by omega
theorem gB_zero : gB 0 = [] := by rw [gB]; rfl
theorem gB_pos {v : Nat} (h : 0 < v) : gB v = v % 1000000000 :: gB (v / 1000000000) := by rw [gB, dif_neg (by omega)]
theorem gB_lt : ∀ (v : Nat), ∀ x ∈ gB v, x < 1000000000 := by
  intro v
  induction v using Nat.strongRecOn with
  | _ v ih =>
    rcases Nat.eq_zero_or_pos v with h | h
    · subst h; rw [gB_zero]; intro x hx; cases hx
    · rw [gB_pos h]
      intro x hx
      rcases List.mem_cons.1 hx with rfl | hx
      · omega
      · exact ih _ (by omega) x hx
theorem gB_good (v : Nat) : Good (gB v) := fun x hx => by have := gB_lt v x hx; omega
theorem gB_drop : ∀ (v k : Nat), k ≤ (gB v).length → (gB v).drop k = gB (v / 1000000000 ^ k) := by
  intro v k
  induction k generalizing v with
  | zero => intro _; simp
  | succ k ih =>
    intro hk
    rcases Nat.eq_zero_or_pos v with h | h
    · subst h; rw [gB_zero] at hk; simp at hk
    · rw [gB_pos h] at hk ⊢
      rw [List.drop_succ_cons, ih _ (by simpa using hk), Nat.div_div_eq_div_mul, Nat.pow_succ, Nat.mul_comm]
theorem gB_get {v k : Nat} (hk : k < (gB v).length) : (gB v)[k]?.getD 0 = v / 1000000000 ^ k % 1000000000 ∧ 0 < v / 1000000000 ^ k := by
  have h1 := gB_drop v k (by omega)
  have h2 := List.drop_eq_getElem_cons hk
  have h3 : 0 < v / 1000000000 ^ k := by
    refine Nat.pos_of_ne_zero fun e => ?_
    rw [e, gB_zero, h2] at h1
    cases h1
  rw [gB_pos h3, h2] at h1
  injection h1 with h4 _
  exact ⟨by rw [List.getElem?_eq_getElem hk]; exact h4, h3⟩
theorem gB_len_pos {v : Nat} (h : 0 < v) : 0 < (gB v).length := by rw [gB_pos h]; simp
theorem gB_top {v : Nat} (h : 0 < v) : v / 1000000000 ^ ((gB v).length) = 0 ∧ v / 1000000000 ^ ((gB v).length - 1) < 1000000000 := by
  have h1 := gB_drop v _ (Nat.le_refl _)
  rw [List.drop_length] at h1
  have h2 : v / 1000000000 ^ ((gB v).length) = 0 := by
    refine Nat.eq_zero_of_not_pos fun h3 => ?_
    rw [gB_pos h3] at h1
    cases h1
  refine ⟨h2, ?_⟩
  have h4 := gB_len_pos h
  rw [show (gB v).length = ((gB v).length - 1) + 1 from by omega, Nat.pow_succ, ← Nat.div_div_eq_div_mul] at h2
  omega
/-- The text grows by a group. -/
theorem dec_step {v k : Nat} (hk : 0 < v / 1000000000 ^ (k + 1)) : Lib.decDigits (v / 1000000000 ^ k) = Lib.decDigits (v / 1000000000 ^ (k + 1)) ++ padk 9 (v / 1000000000 ^ k % 1000000000) := by
  rw [Nat.pow_succ, ← Nat.div_div_eq_div_mul] at hk ⊢
  generalize v / 1000000000 ^ k = u at *
  have h := dec_pad 9 (u / 1000000000) (u % 1000000000) hk (by omega)
  rw [← h]
  congr 1
  omega
/-- The text of a number: a sign and its digits. -/
def txt (neg : Bool) (v : Nat) : List UInt8 := (if neg = true then [45] else []) ++ Lib.decDigits v
theorem padk_pre {x j : Nat} (hj : j < 9) : padk (j + 1) (x / 10 ^ (8 - j)) = padk j (x / 10 ^ (9 - j)) ++ [UInt8.ofNat (48 + x / 10 ^ (8 - j) % 10)] := by
  rw [padk, Nat.div_div_eq_div_mul, ← Nat.pow_succ, show (8 - j).succ = 9 - j from by omega]
theorem gB_len_le {v n : Nat} (h : v < 4294967296 ^ n) : (gB v).length ≤ 2 * n + 0 := by
  refine Nat.le_of_not_lt fun hk => ?_
  have h1 := (gB_get (k := 2 * n) (by omega)).2
  have h2 : (4294967296 : Nat) ^ n ≤ 1000000000 ^ (2 * n) := by
    rw [Nat.pow_mul]
    exact Nat.pow_le_pow_left (by decide) n
  rw [Nat.div_eq_of_lt (by omega)] at h1
  omega
/-- The text that rounds over the indices ks have made. -/
def txP (gs ks : List Nat) : List UInt8 := ks.foldl (fun t k => t ++ (if k < gs.length - 1 then padk 9 (gs[k]?.getD 0) else Lib.decDigits (gs[k]?.getD 0))) []
theorem txP_snoc (gs ks : List Nat) (k : Nat) : txP gs (ks ++ [k]) = txP gs ks ++ (if k < gs.length - 1 then padk 9 (gs[k]?.getD 0) else Lib.decDigits (gs[k]?.getD 0)) := by
  unfold txP; rw [List.foldl_append]; rfl
theorem dec_len (k : Nat) : ∀ (u : Nat), u < 10 ^ (k + 1) → (Lib.decDigits u).length ≤ k + 1 := by
  induction k with
  | zero => intro u h; rw [dec_small (by simpa using h)]; simp
  | succ k ih =>
    intro u h
    rcases Nat.lt_or_ge u 10 with h1 | h1
    · rw [dec_small h1]; simp
    · rw [dec_big h1, List.length_append]
      have := ih (u / 10) (by rw [Nat.pow_succ] at h; omega)
      simp only [List.length_cons, List.length_nil]
      omega
theorem txP_len {gs : List Nat} (hg : Good gs) (ks : List Nat) : (txP gs ks).length ≤ 10 * ks.length := by
  have H : ∀ (ks : List Nat) (n : Nat), ks.length = n → (txP gs ks).length ≤ 10 * n := by
    intro ks n
    induction n generalizing ks with
    | zero => intro h; rw [List.eq_nil_of_length_eq_zero h]; exact Nat.le_refl _
    | succ n ih =>
      intro h
      have hne : ks ≠ [] := fun e => by rw [e] at h; cases h
      rw [← List.dropLast_concat_getLast hne, txP_snoc, List.length_append]
      have h1 := ih ks.dropLast (by rw [List.length_dropLast]; omega)
      split
      · rw [padk_len]; omega
      · have := dec_len 9 (gs[ks.getLast hne]?.getD 0) (by have := hg.get (ks.getLast hne); omega)
        omega
  exact H ks _ rfl
end Go.Proofs.YtegpckhfncblhaaDoor

/- wide.isText: whether bytes are the text of an absolute value. -/
namespace Go.Proofs.YtegpckhfncblhaaDoor
open Go.RowKit

def isDig (c : UInt8) : Bool := decide (48 ≤ c.toNat) && decide (c.toNat ≤ 57)
def txtOk (l : List UInt8) : Bool := l.all isDig && (decide (l = [48]) || (decide (l ≠ []) && decide (l[0]?.getD 0 ≠ 48)))
def decV (l : List UInt8) : Nat := l.foldl (fun a c => a * 10 + (c.toNat - 48)) 0
theorem str_get (l : List UInt8) (k : Nat) (_ : k < l.length) (h2 : k < (⟨l.toArray⟩ : ByteArray).size) : (⟨l.toArray⟩ : ByteArray)[k]'h2 = l[k] := rfl
theorem str_size (l : List UInt8) : (⟨l.toArray⟩ : ByteArray).size = l.length := by simp [ByteArray.size]

end Go.Proofs.YtegpckhfncblhaaDoor

/- wide.pushGroup: an absolute value whose text has nine digits more. -/
namespace Go.Proofs.YtegpckhfncblhaaDoor
open Go.RowKit

/-- The limbs of a product with y and a sum with g, from the lowest one on, and what is carried. -/
def mgK (g : Nat) (xs : List Nat) (y : Nat) : Nat → List Nat × Nat
  | 0 => ([], g)
  | k + 1 => ((mgK g xs y k).1 ++ [((mgK g xs y k).2 + xs[k]?.getD 0 * y) % 4294967296], ((mgK g xs y k).2 + xs[k]?.getD 0 * y) / 4294967296)
theorem mgK_len (g : Nat) (xs : List Nat) (y k : Nat) : (mgK g xs y k).1.length = k := by
  induction k with
  | zero => rfl
  | succ k ih => simp [mgK, ih]
theorem mgK_good (g : Nat) (xs : List Nat) (y k : Nat) : Good (mgK g xs y k).1 := by
  induction k with
  | zero => exact Good.nil
  | succ k ih => exact ih.append (Good.nil.cons (Nat.mod_lt _ (by omega)))
theorem mgK_carry {g : Nat} {xs : List Nat} {y : Nat} (hx : Good xs) (hg : g < 1000000000) (hy : y ≤ 1000000000) (k : Nat) : (mgK g xs y k).2 ≤ 1000000000 := by
  induction k with
  | zero => show g ≤ _; omega
  | succ k ih =>
    show ((mgK g xs y k).2 + xs[k]?.getD 0 * y) / 4294967296 ≤ _
    have h1 := hx.get k
    have h2 : xs[k]?.getD 0 * y ≤ 4294967295 * 1000000000 := Nat.mul_le_mul (by omega) hy
    omega
theorem mgK_val (g : Nat) (xs : List Nat) (y k : Nat) : val (mgK g xs y k).1 + 4294967296 ^ k * (mgK g xs y k).2 = val (xs.take k) * y + g := by
  induction k with
  | zero => simp [mgK, val_nil]
  | succ k ih =>
    have h1 : (mgK g xs y (k + 1)).1 = (mgK g xs y k).1 ++ [((mgK g xs y k).2 + xs[k]?.getD 0 * y) % 4294967296] := rfl
    have h2 : (mgK g xs y (k + 1)).2 = ((mgK g xs y k).2 + xs[k]?.getD 0 * y) / 4294967296 := rfl
    rw [h1, h2, val_snoc, mgK_len, val_take_succ', pow_succ_]
    generalize (mgK g xs y k).2 = c at *
    generalize xs[k]?.getD 0 = x at *
    have h3 := Nat.div_add_mod (c + x * y) 4294967296
    generalize (c + x * y) / 4294967296 = q at *
    generalize (c + x * y) % 4294967296 = r at *
    have h4 : 4294967296 ^ k * r + 4294967296 * 4294967296 ^ k * q = 4294967296 ^ k * (4294967296 * q + r) := by grind
    have h5 : (val (xs.take k) + 4294967296 ^ k * x) * y = val (xs.take k) * y + 4294967296 ^ k * (x * y) := by grind
    rw [h3, Nat.mul_add] at h4
    rw [h5]
    omega
theorem norm_of_ge {xs : List Nat} (g : Good xs) (h : 0 < xs.length → 4294967296 ^ (xs.length - 1) ≤ val xs) : Norm xs := by
  intro h0
  have hne : xs ≠ [] := fun e => by subst e; cases h0
  have hl : 0 < xs.length := List.length_pos_iff.2 hne
  have h1 := h hl
  have h2 := val_split xs (xs.length - 1) (by omega)
  have h3 : val (xs.drop (xs.length - 1)) = 0 := by
    rw [val_step, show xs.length - 1 + 1 = xs.length from by omega, List.drop_length, val_nil, (last_get hl).1 h0]
  rw [h3, Nat.mul_zero, Nat.add_zero] at h2
  have h5 := val_lt (g.take (xs.length - 1))
  rw [List.length_take, Nat.min_eq_left (by omega)] at h5
  omega
/-- With the carry as a last limb, where there is one, these are the number's limbs. -/
theorem mg_digs {g V n : Nat} (hn : (digs V).length = n) (hg : g < 1000000000) (hc : 0 < (mgK g (digs V) 1000000000 n).2) : (mgK g (digs V) 1000000000 n).1 ++ [(mgK g (digs V) 1000000000 n).2] = digs (V * 1000000000 + g) := by
  have hcy := mgK_carry (digs_good V) hg (Nat.le_refl 1000000000) n
  have hv := mgK_val g (digs V) 1000000000 n
  rw [List.take_of_length_le (by omega), digs_val] at hv
  refine eq_digs ((mgK_good _ _ _ _).append (Good.nil.cons (by omega))) ?_ (by rw [val_snoc, mgK_len]; exact hv)
  intro h0
  rw [List.getLast?_append] at h0
  simp at h0
  omega
theorem mg_digs0 {g V n : Nat} (hn : (digs V).length = n) (hc : (mgK g (digs V) 1000000000 n).2 = 0) : (mgK g (digs V) 1000000000 n).1 = digs (V * 1000000000 + g) := by
  have hv := mgK_val g (digs V) 1000000000 n
  rw [List.take_of_length_le (by omega), digs_val, hc, Nat.mul_zero, Nat.add_zero] at hv
  refine eq_digs (mgK_good _ _ _ _) (norm_of_ge (mgK_good _ _ _ _) fun h0 => ?_) hv
  rw [mgK_len] at h0 ⊢
  rw [hv]
  have h1 := val_ge (digs_norm V) (n - 1) (by omega)
  rw [digs_val] at h1
  omega

/-- A call returns the limbs of v in a slice of the call's own. -/
def ROw (w : World) (B v : Nat) (e : Ending) (w' : World) : Prop := ∃ A c, e = .returned (.slice A (digs v).length c) ∧ Ow w' B (.slice A (digs v).length c) (digs v) ∧ Below B w w' ∧ Lib.OthersKept 64 none w w'
theorem Ow.slice {w : World} {B n c : Nat} {A : Option Addr} {ts : List Nat} (h : Ow w B (.slice A n c) ts) (hn : 0 < ts.length) : ∃ g, A = some ⟨g, 0, none⟩ := by
  rcases h.2 with ⟨_, h0⟩ | ⟨g, cap, cur, e, _⟩
  · omega
  · injection e with e1 _ _
    exact ⟨g, e1⟩

end Go.Proofs.YtegpckhfncblhaaDoor

/- wide.read: the absolute value with a text. -/
namespace Go.Proofs.YtegpckhfncblhaaDoor
open Go.RowKit

theorem decV_snoc (l : List UInt8) (c : UInt8) : decV (l ++ [c]) = decV l * 10 + (c.toNat - 48) := by
  unfold decV; rw [List.foldl_append]; rfl
theorem decV_take {l : List UInt8} {p : Nat} (h : p < l.length) : decV (l.take (p + 1)) = decV (l.take p) * 10 + ((l[p]'h).toNat - 48) := by
  rw [take_snoc_ l p h, decV_snoc]
theorem all_get {l : List UInt8} (h : l.all isDig = true) {p : Nat} (hp : p < l.length) : 48 ≤ (l[p]'hp).toNat ∧ (l[p]'hp).toNat ≤ 57 := by
  have h1 := List.all_eq_true.1 h _ (List.getElem_mem hp)
  unfold isDig at h1
  simpa using h1
theorem fold_lt : ∀ (l : List UInt8) (a : Nat), l.all isDig = true → l.foldl (fun a c => a * 10 + (c.toNat - 48)) a < (a + 1) * 10 ^ l.length
  | [], a, _ => by simp
  | c :: t, a, h => by
    rw [List.all_cons, Bool.and_eq_true] at h
    have h1 := fold_lt t (a * 10 + (c.toNat - 48)) h.2
    have h2 : c.toNat ≤ 57 := by
      have := h.1
      unfold isDig at this
      simp at this
      exact this.2
    have h3 : (a * 10 + (c.toNat - 48) + 1) * 10 ^ t.length ≤ ((a + 1) * 10) * 10 ^ t.length := Nat.mul_le_mul_right _ (by omega)
    rw [List.foldl_cons, List.length_cons, Nat.pow_succ, Nat.mul_comm (10 ^ t.length), ← Nat.mul_assoc]
    exact Nat.lt_of_lt_of_le h1 h3
theorem decV_lt {l : List UInt8} (h : l.all isDig = true) : decV l < 10 ^ l.length := by
  have := fold_lt l 0 h
  rw [Nat.zero_add, Nat.one_mul] at this
  exact this
theorem all_take {l : List UInt8} (h : l.all isDig = true) (k : Nat) : (l.take k).all isDig = true := by
  rw [List.all_eq_true] at h ⊢
  exact fun c hc => h c (List.mem_of_mem_take hc)
theorem decT_len {l : List UInt8} (h : l.all isDig = true) (k : Nat) : (digs (decV (l.take k))).length ≤ l.length := by
  have h1 := digs_len.2 (Nat.lt_of_lt_of_le (decV_lt (all_take h k)) (Nat.pow_le_pow_left (show 10 ≤ 4294967296 by omega) _))
  rw [List.length_take] at h1
  omega
/-- Where the last whole group ends. -/
def fl (L p : Nat) : Nat := if p < L % 9 then 0 else p - (p - L % 9) % 9
theorem fl_le (L p : Nat) : fl L p ≤ p := by unfold fl; split <;> omega
theorem fl_lt (L p : Nat) : p - fl L p ≤ 8 := by unfold fl; split <;> omega
theorem fl_hit {L p : Nat} (hp : p < L) (h : (L - 1 - p) % 9 = 0) : fl L (p + 1) = p + 1 ∧ (fl L p = 0 ∨ p + 1 - fl L p = 9) := by unfold fl; split <;> split <;> omega
theorem fl_miss {L p : Nat} (hp : p < L) (h : (L - 1 - p) % 9 ≠ 0) : fl L (p + 1) = fl L p := by unfold fl; split <;> split <;> omega
theorem ten_bd {d G : Nat} (h : d ≤ 8) (hG : G < 10 ^ d) : G < 100000000 := Nat.lt_of_lt_of_le hG (by
  have := Nat.pow_le_pow_right (show 1 ≤ 10 by omega) h
  exact this)
theorem Ow.iterAt {w : World} {B : Nat} {v : Value} {ts : List Nat} (h : Ow w B v ts) {k : Nat} {s : ByteArray} {pos : Nat} (hk : w.heap[k]? = some (.stringIter s pos)) (p : Nat) : Ow (w.iterAt k s p) B v ts := by
  refine ⟨h.1, ?_⟩
  rcases h.2 with h0 | ⟨g, cap, cur, e, hb, hg, r⟩
  · exact .inl h0
  · refine .inr ⟨g, cap, cur, e, hb, ?_, r⟩
    rw [Lib.iterAt_other w k g s p (fun e1 => by rw [e1, hk] at hg; cases hg)]
    exact hg
theorem read_step {L p f G d D1 D2 D3 T : Nat} (hT : T = 10 ^ 9) (hp : p < L) (hf : f = fl L p) (h1 : D1 = D2 * 10 ^ (p - f) + G) (h3 : D3 = D1 * 10 + d) (h0 : fl L p = 0 → D2 = 0) (hit : (L - 1 - p) % 9 = 0) : D3 = D2 * T + (G * 10 + d) := by
  have h4 := (fl_hit hp hit).2
  rw [← hf] at h4 h0
  rcases h4 with h5 | h5
  · rw [h0 h5, Nat.zero_mul, Nat.zero_add] at h1
    rw [h0 h5, Nat.zero_mul, Nat.zero_add, h3, h1]
  · have e : T = 10 ^ (p - f) * 10 := by rw [← Nat.pow_succ, show (p - f).succ = 9 from by omega, hT]
    rw [e, h3, h1, Nat.add_mul, Nat.mul_assoc, Nat.add_assoc]

end Go.Proofs.YtegpckhfncblhaaDoor

/- strings.CutPrefix of a minus sign. -/
namespace Go.Proofs.YtegpckhfncblhaaDoor
open Go.RowKit

/-- Whether a text begins with a minus sign, and what is behind it. -/
def minus : List UInt8 → Bool × List UInt8
  | 45 :: t => (true, t)
  | l => (false, l)
theorem minus_pfx (l : List UInt8) : Lib.hasPrefix l [45] = (minus l).1 ∧ Lib.trimPrefix l [45] = (minus l).2 := by
  cases l with
  | nil => exact ⟨rfl, rfl⟩
  | cons c t =>
    by_cases h : c = 45
    · subst h
      exact ⟨rfl, rfl⟩
    · have h0 : (45 == c) = false := by simpa using fun e => h e.symm
      have h1 : Lib.hasPrefix (c :: t) [45] = false := by
        unfold Lib.hasPrefix
        simp [List.isPrefixOf, h0]
      have h2 : minus (c :: t) = (false, c :: t) := by
        unfold minus
        split
        · rename_i e
          injection e with e1 _
          exact absurd e1 h
        · rfl
      rw [h1, h2]
      exact ⟨rfl, by unfold Lib.trimPrefix; rw [h1]; rfl⟩
theorem minus_len (l : List UInt8) : (minus l).2.length ≤ l.length := by
  unfold minus
  split
  · exact Nat.le_succ _
  · exact Nat.le_refl _
end Go.Proofs.YtegpckhfncblhaaDoor

/- wide.Parse: the number with a text. -/
namespace Go.Proofs.YtegpckhfncblhaaDoor
open Go.RowKit

/-- Whether bytes are the text of a number. -/
def pOk (l : List UInt8) : Bool := txtOk (minus l).2 && !((minus l).1 && decide ((minus l).2 = [48]))
theorem txtOk_all {l : List UInt8} (h : txtOk l = true) : l.all isDig = true := by
  unfold txtOk at h
  rw [Bool.and_eq_true] at h
  exact h.1
theorem eq_zero_text (t : List UInt8) : ((⟨t.toArray⟩ : ByteArray).toList == (⟨#[48]⟩ : ByteArray).toList) = decide (t = [48]) := by
  rw [Lib.toList_data, Lib.toList_data]
  by_cases h : t = [48]
  · subst h; rfl
  · rw [decide_eq_false h]
    simpa using h

theorem boxes1 {w w1 : World} {t0 : TypeId} {a0 a1 : Value} (hb : Below (w.alloc (.cells #[a0, a1] t0)).heap.size (w.alloc (.cells #[a0, a1] t0)) w1) : Pr w1 w.heap.size a0 a1 := (Pr.new w _ rfl a0 a1 t0).via hb

end Go.Proofs.YtegpckhfncblhaaDoor

/- Decimal texts and numbers: one is the other's. -/
namespace Go.Proofs.YtegpckhfncblhaaDoor
open Go.RowKit

theorem dig_toNat {d : Nat} (h : d < 10) : (UInt8.ofNat (48 + d)).toNat = 48 + d := by
  rw [UInt8.toNat_ofNat']
  exact Nat.mod_eq_of_lt (by omega)
theorem dig_isDig {d : Nat} (h : d < 10) : isDig (UInt8.ofNat (48 + d)) = true := by
  unfold isDig
  rw [dig_toNat h, decide_eq_true (by omega), decide_eq_true (by omega)]
  rfl
theorem decV_one (c : UInt8) : decV [c] = c.toNat - 48 := by
  show 0 * 10 + _ = _
  omega
theorem decV_dec (u : Nat) : decV (Lib.decDigits u) = u := by
  induction u using Nat.strongRecOn with
  | _ u ih =>
    by_cases h : u < 10
    · rw [dec_small h, decV_one, dig_toNat h]
      omega
    · rw [dec_big (by omega), decV_snoc, ih (u / 10) (by omega), dig_toNat (Nat.mod_lt _ (by omega))]
      omega
theorem dec_all (u : Nat) : (Lib.decDigits u).all isDig = true := by
  induction u using Nat.strongRecOn with
  | _ u ih =>
    by_cases h : u < 10
    · rw [dec_small h, List.all_cons, dig_isDig h]
      rfl
    · rw [dec_big (by omega), List.all_append, ih (u / 10) (by omega), List.all_cons, dig_isDig (Nat.mod_lt _ (by omega))]
      rfl
theorem dec_head (u : Nat) (h0 : 0 < u) : Lib.decDigits u ≠ [] ∧ (Lib.decDigits u)[0]?.getD 0 ≠ 48 := by
  induction u using Nat.strongRecOn with
  | _ u ih =>
    by_cases h : u < 10
    · rw [dec_small h]
      refine ⟨by simp, fun e => ?_⟩
      have e2 : (UInt8.ofNat (48 + u)).toNat = 48 := congrArg UInt8.toNat e
      rw [dig_toNat h] at e2
      omega
    · have h1 := ih (u / 10) (by omega) (by omega)
      rw [dec_big (by omega)]
      refine ⟨by simp, ?_⟩
      rw [List.getElem?_append_left (List.length_pos_iff.2 h1.1)]
      exact h1.2
theorem dec_ok (u : Nat) : txtOk (Lib.decDigits u) = true := by
  unfold txtOk
  rw [dec_all, Bool.true_and]
  rcases Nat.eq_zero_or_pos u with h | h
  · subst h
    rw [dec_small (by omega)]
    rfl
  · have h1 := dec_head u h
    rw [decide_eq_true h1.1, decide_eq_true h1.2]
    simp
theorem minus_dig {l : List UInt8} (h : l.all isDig = true) : minus l = (false, l) := by
  unfold minus
  split
  · rename_i t
    have h1 : isDig 45 = true := by
      rw [List.all_cons, Bool.and_eq_true] at h
      exact h.1
    exact absurd h1 (by decide)
  · rfl
theorem minus_txt (neg : Bool) (v : Nat) : minus (txt neg v) = (neg, Lib.decDigits v) := by
  unfold txt
  cases neg with
  | true => rfl
  | false =>
    rw [if_neg (by simp), List.nil_append]
    exact minus_dig (dec_all v)
theorem pOk_txt {neg : Bool} {v : Nat} (h : neg = true → v ≠ 0) : pOk (txt neg v) = true := by
  unfold pOk
  rw [minus_txt, dec_ok, Bool.true_and, Bool.not_eq_true']
  cases neg with
  | false => rfl
  | true =>
    rw [Bool.true_and]
    refine decide_eq_false fun e => (dec_head v (Nat.pos_of_ne_zero (h rfl))).2 ?_
    show (Lib.decDigits v)[0]?.getD 0 = 48
    rw [show Lib.decDigits v = [48] from e]
    rfl
theorem dec_short {v n : Nat} (h : (digs v).length ≤ n) (h0 : 0 < n) : (Lib.decDigits v).length ≤ 10 * n := by
  have h1 := digs_len.1 h
  have h2 : v < 10 ^ (10 * n) := by
    rw [Nat.pow_mul]
    exact Nat.lt_of_lt_of_le h1 (Nat.pow_le_pow_left (show 4294967296 ≤ 10 ^ 10 by decide) n)
  have h3 := dec_len (10 * n - 1) v (by rw [Nat.sub_add_cancel (by omega)]; exact h2)
  omega
theorem txt_short {v n : Nat} (neg : Bool) (h : (digs v).length ≤ n) (h0 : 0 < n) : (txt neg v).length ≤ 10 * n + 1 := by
  have := dec_short h h0
  unfold txt
  rw [List.length_append]
  cases neg <;> simp <;> omega
theorem dec_decV : ∀ (k : Nat) (t : List UInt8), t.length = k + 1 → t.all isDig = true → t[0]?.getD 0 ≠ 48 → Lib.decDigits (decV t) = t
  | 0, t, hk, ha, _ => by
    obtain ⟨c, rfl⟩ := List.length_eq_one_iff.1 hk
    have hc : isDig c = true := by simpa using ha
    unfold isDig at hc
    rw [Bool.and_eq_true, decide_eq_true_eq, decide_eq_true_eq] at hc
    rw [decV_one, dec_small (by omega), show 48 + (c.toNat - 48) = c.toNat from by omega, UInt8.ofNat_toNat]
  | k + 1, t, hk, ha, h0 => by
    obtain ⟨s, c, rfl⟩ : ∃ s c, t = s ++ [c] := ⟨t.dropLast, t.getLast (fun e => by subst e; cases hk), (List.dropLast_concat_getLast _).symm⟩
    rw [List.length_append, List.length_singleton] at hk
    have hs : s.length = k + 1 := by omega
    rw [List.all_append, Bool.and_eq_true] at ha
    have hc : isDig c = true := by simpa using ha.2
    unfold isDig at hc
    rw [Bool.and_eq_true, decide_eq_true_eq, decide_eq_true_eq] at hc
    rw [List.getElem?_append_left (by omega)] at h0
    have ih := dec_decV k s hs ha.1 h0
    have hp : 0 < decV s := by
      rcases Nat.eq_zero_or_pos (decV s) with e | e
      · rw [e, dec_small (by omega)] at ih
        rw [← ih] at h0
        exact absurd rfl h0
      · exact e
    rw [decV_snoc, dec_big (by omega), show (decV s * 10 + (c.toNat - 48)) / 10 = decV s from by omega, show (decV s * 10 + (c.toNat - 48)) % 10 = c.toNat - 48 from by omega, ih,
      show 48 + (c.toNat - 48) = c.toNat from by omega, UInt8.ofNat_toNat]
theorem dec_txt {t : List UInt8} (h : txtOk t = true) : Lib.decDigits (decV t) = t := by
  unfold txtOk at h
  rw [Bool.and_eq_true, Bool.or_eq_true, decide_eq_true_eq, Bool.and_eq_true, decide_eq_true_eq, decide_eq_true_eq] at h
  rcases h.2 with e | ⟨e1, e2⟩
  · subst e
    rw [decV_one]
    exact dec_small (by decide)
  · have hl := List.length_pos_iff.2 e1
    exact dec_decV (t.length - 1) t (by omega) h.1 e2
theorem minus_back (l : List UInt8) : (if (minus l).1 = true then [45] else []) ++ (minus l).2 = l := by
  unfold minus
  split <;> rfl
/-- The number that a text means. -/
def pZ (l : List UInt8) : Int := toI (minus l).1 (decV (minus l).2)
theorem pZ_abs (l : List UInt8) : (pZ l).natAbs = decV (minus l).2 := toI_abs _ _
theorem pZ_neg {l : List UInt8} (h : pOk l = true) : decide (pZ l < 0) = (minus l).1 := by
  unfold pOk at h
  rw [Bool.and_eq_true, Bool.not_eq_true'] at h
  unfold pZ toI
  cases hm : (minus l).1 with
  | false => simp
  | true =>
    rw [hm, Bool.true_and] at h
    have hne : decV (minus l).2 ≠ 0 := fun e => by
      have e2 := dec_txt h.1
      rw [e, dec_small (by omega)] at e2
      have h2 := h.2
      rw [← e2] at h2
      exact absurd h2 (by decide)
    simp
    omega
theorem pZ_txt {l : List UInt8} (h : pOk l = true) : txt (decide (pZ l < 0)) (pZ l).natAbs = l := by
  rw [pZ_neg h, pZ_abs]
  unfold pOk at h
  rw [Bool.and_eq_true] at h
  unfold txt
  rw [dec_txt h.1]
  exact minus_back l
theorem txt_pZ (x : Int) : pZ (txt (decide (x < 0)) x.natAbs) = x ∧ pOk (txt (decide (x < 0)) x.natAbs) = true := by
  constructor
  · unfold pZ
    rw [minus_txt, decV_dec, toI_self]
  · refine pOk_txt fun h => ?_
    have : x < 0 := by simpa using h
    omega
theorem pZ_sz {l : List UInt8} (h : pOk l = true) {k : Nat} (hl : l.length ≤ k) : Sz k (pZ l) := by
  unfold Sz
  rw [pZ_abs]
  unfold pOk at h
  rw [Bool.and_eq_true] at h
  have h1 := decV_lt (txtOk_all h.1)
  have h2 := minus_len l
  exact Nat.lt_of_lt_of_le h1 (Nat.le_trans (Nat.pow_le_pow_right (by omega) (show (minus l).2.length ≤ k by omega)) (Nat.pow_le_pow_left (by omega) k))
end Go.Proofs.YtegpckhfncblhaaDoor

/- planisphereref01.Text. -/
namespace Go.Proofs.YtegpckhfncblhaaDoor
open Go.RowKit

theorem padk_cons (k x : Nat) : padk (k + 1) x = UInt8.ofNat (48 + x / 10 ^ k % 10) :: padk k x := by
  induction k generalizing x with
  | zero => simp [padk]
  | succ k ih =>
    show padk (k + 1) (x / 10) ++ [UInt8.ofNat (48 + x % 10)] = _
    rw [ih]
    show _ = UInt8.ofNat (48 + x / 10 ^ (k + 1) % 10) :: (padk k (x / 10) ++ [UInt8.ofNat (48 + x % 10)])
    rw [Nat.div_div_eq_div_mul, Nat.pow_succ, Nat.mul_comm 10]
    rfl
theorem dec_padk : ∀ (k r : Nat), 10 ^ k ≤ r → r < 10 ^ (k + 1) → Lib.decDigits r = padk (k + 1) r := by
  intro k
  induction k with
  | zero =>
    intro r h1 h2
    rw [dec_small (by omega)]
    show _ = [] ++ [UInt8.ofNat (48 + r % 10)]
    rw [Nat.mod_eq_of_lt (show r < 10 by omega)]
    rfl
  | succ k ih =>
    intro r h1 h2
    have h3 : 10 ^ (k + 1) = 10 ^ k * 10 := Nat.pow_succ ..
    have h4 : 10 ^ (k + 1 + 1) = 10 ^ (k + 1) * 10 := Nat.pow_succ ..
    have h5 : 0 < 10 ^ k := Nat.pow_pos (by omega)
    rw [dec_big (by omega), ih (r / 10) (by omega) (by omega)]
    rfl
/-- The number that a slice of limbs reads as. -/
def rdN (w : World) : Value → Nat
  | .slice (some ad) n _ => val ((List.range n).map fun j => match w.cell? ⟨ad.block, ad.off + j, none⟩ with | some (.int _ z) => z.toNat | _ => 0)
  | _ => 0
theorem rdN_lm {w : World} {B n c v : Nat} {A : Option Addr} (h : Lm w B A n c (digs v)) : rdN w (.slice A n c) = v := by
  rw [← digs_val v]
  generalize digs v = xs at h
  rcases A with _ | ad
  · rcases Nat.eq_zero_or_pos n with h0 | h0
    · obtain rfl : xs = [] := List.eq_nil_of_length_eq_zero (by rw [h.len]; exact h0)
      rfl
    · obtain ⟨b, off, e, _⟩ := h.at_ h0
      cases e
  · show val _ = _
    congr 1
    refine List.ext_getElem? fun j => ?_
    by_cases hj : j < n
    · obtain ⟨b, off, e, _, hc⟩ := h.cell hj
      injection e with e
      subst e
      rw [List.getElem?_map, List.getElem?_range hj]
      show some (match w.cell? ⟨b, off + j, none⟩ with | some (.int _ z) => z.toNat | _ => 0) = _
      rw [hc, get_nat xs j (by rw [h.len]; exact hj)]
      rfl
    · rw [List.getElem?_eq_none (by simp; omega), List.getElem?_eq_none (by rw [h.len]; omega)]
/-- The digits of q ahead of a text. -/
def dcs (q : Nat) (s : List UInt8) : List UInt8 := if q = 0 then s else Lib.decDigits q ++ s
theorem dcs_step {q : Nat} (hq : 0 < q) (s : List UInt8) {i : Nat} (h9 : i ≤ 9) (h1 : 0 < q / 1000000000 → i = 9) (h2 : q / 1000000000 = 0 → q % 1000000000 / 10 ^ i = 0) (h3 : q / 1000000000 = 0 → 0 < i → 0 < q % 1000000000 / 10 ^ (i - 1)) :
    dcs q s = dcs (q / 1000000000) (padk i (q % 1000000000) ++ s) := by
  unfold dcs
  rw [if_neg (by omega)]
  rcases Nat.eq_zero_or_pos (q / 1000000000) with h | h
  · rw [if_pos h]
    have hr : q % 1000000000 = q := by omega
    rw [hr] at h2 h3 ⊢
    have hi : 0 < i := by
      refine Nat.pos_of_ne_zero fun e => ?_
      subst e
      have := h2 h
      simp at this
      omega
    obtain ⟨k, rfl⟩ : ∃ k, i = k + 1 := ⟨i - 1, by omega⟩
    have e1 : 10 ^ k ≤ q := by
      have e := h3 h hi
      rw [Nat.add_sub_cancel] at e
      exact (Nat.div_pos_iff.1 e).2
    have e2 : q < 10 ^ (k + 1) := by
      have e := h2 h
      exact Nat.lt_of_div_eq_zero (Nat.pow_pos (by omega)) e
    rw [dec_padk k q e1 e2]
  · rw [if_neg (by omega), h1 h, ← List.append_assoc, ← dec_pad 9 _ _ h (Nat.mod_lt _ (by omega))]
    congr 2
    omega
theorem dcs_len (q : Nat) (ss : List UInt8) : ss.length ≤ (dcs q ss).length := by
  unfold dcs
  split
  · exact Nat.le_refl _
  · rw [List.length_append]; omega
theorem dcs_v (v : Nat) : dcs v [] = if v = 0 then [] else Lib.decDigits v := by
  unfold dcs
  split
  · rfl
  · exact List.append_nil _
theorem digit_str {d : Nat} (h : d < 10) : (⟨#[48, 49, 50, 51, 52, 53, 54, 55, 56, 57]⟩ : ByteArray).extract d (d + 1) = ⟨[UInt8.ofNat (48 + d)].toArray⟩ := by
  rw [show (⟨#[48, 49, 50, 51, 52, 53, 54, 55, 56, 57]⟩ : ByteArray) = ⟨([48, 49, 50, 51, 52, 53, 54, 55, 56, 57] : List UInt8).toArray⟩ from rfl, Lib.extract_eq]
  match d, h with
  | 0, _ => rfl
  | 1, _ => rfl
  | 2, _ => rfl
  | 3, _ => rfl
  | 4, _ => rfl
  | 5, _ => rfl
  | 6, _ => rfl
  | 7, _ => rfl
  | 8, _ => rfl
  | 9, _ => rfl
theorem cat_str (a b : List UInt8) : (⟨a.toArray⟩ : ByteArray) ++ ⟨b.toArray⟩ = ⟨(a ++ b).toArray⟩ := by
  apply ByteArray.ext
  simp
theorem eq_str (a b : List UInt8) : ((⟨a.toArray⟩ : ByteArray).toList == (⟨b.toArray⟩ : ByteArray).toList) = decide (a = b) := by
  rw [Lib.toList_data, Lib.toList_data]
  by_cases h : a = b
  · subst h; simp
  · rw [decide_eq_false h]
    simpa using h

end Go.Proofs.YtegpckhfncblhaaDoor

/- The reference's Gcd. -/
namespace Go.Proofs.YtegpckhfncblhaaDoor
open Go.RowKit

set_option maxRecDepth 100000 in
set_option maxHeartbeats 1000000 in
theorem rgcd_bad (w : World) (na nb : Bool) (A B : Option Addr) (n m ca cb : Nat) (xs ys : List Nat) (hA : Lm w w.heap.size A n ca xs) (hB : Lm w w.heap.size B m cb ys) (hv : chkB na xs nb ys = 8) :
    Calls Tryd.prog 33 #[.agg #[.bool na, .slice A n ca], .agg #[.bool nb, .slice B m cb]] w (RW w false [] 8) := by
  have HA := Lib.hid hA
  have HB := Lib.hid hB
  have HV := Lib.hid hv
  clear hv
  go_enter Tryd.func33, Tryd.ntmps33
  go_wp2_with fail
  refine (rboth_any _ _ _ _ _ _ _ _ _ _ _ (((HA.out.box _).box _).box _) (((HB.out.box _).box _).box _) 8 HV.out).mono ?_
  rintro e w1 ⟨rfl, hb1⟩
  have ⟨hx0, hx1, hy0, hy1, hz0, hz1, hf0, hf1, hsz⟩ := box3 hb1
  go_wp2_with fail
  refine (rboth_any _ _ _ _ _ _ _ _ _ _ _ ((((HA.out.box _).box _).box _).via hb1) ((((HB.out.box _).box _).box _).via hb1) 8 HV.out).mono ?_
  rintro e w2 ⟨rfl, hb2⟩
  have hky2 := keep2 hb2 hsz ⟨hz0, hz1⟩
  have ⟨hkf0, hkf1⟩ := keepF hb2 hsz ⟨hf0, hf1⟩
  go_wp2
  exact post_ws Tryd.results33 rfl rfl hky2.1 hky2.2 ⟨none, 0, 0, rfl, Lm.nil _ _, below_set2 ((bbox (bbox (bbox hb1))).trans (hb2.mono (by omega))) (by omega) _ _⟩

set_option maxRecDepth 100000 in
set_option maxHeartbeats 1000000 in
theorem rgcd_ok (w : World) (na nb : Bool) (A B : Option Addr) (n m ca cb a b : Nat) (hA : Lm w w.heap.size A n ca (digs a)) (hB : Lm w w.heap.size B m cb (digs b)) (hv : chkB na (digs a) nb (digs b) = 0) :
    Calls Tryd.prog 33 #[.agg #[.bool na, .slice A n ca], .agg #[.bool nb, .slice B m cb]] w (RW w (mkN false (Nat.gcd a b)) (mkL (Nat.gcd a b)) (mkE (Nat.gcd a b))) := by
  have h41 := (chk_ok.1 (chkB_ok.1 hv).1).1
  have h42 := (chk_ok.1 (chkB_ok.1 hv).2).1
  have HA := Lib.hid hA
  have HB := Lib.hid hB
  have HV := Lib.hid hv
  clear hv hA hB
  go_enter Tryd.func33, Tryd.ntmps33
  go_wp2_with fail
  refine (rboth_any _ _ _ _ _ _ _ _ _ _ _ (((HA.out.box _).box _).box _) (((HB.out.box _).box _).box _) 0 HV.out).mono ?_
  rintro e w1 ⟨rfl, hb1⟩
  have ⟨PA0, PB0, PR0⟩ := boxes3 w 24 24 24 (.bool na) (.slice A n ca) (.bool nb) (.slice B m cb) (.bool false) (.slice none 0 0)
  have PA := Lib.hid (PA0.via hb1)
  have PB := Lib.hid (PB0.via hb1)
  have PR := Lib.hid (PR0.via hb1)
  have LA := Lib.hid ((((HA.out.box _).box _).box _).via hb1)
  have LB := Lib.hid ((((HB.out.box _).box _).box _).via hb1)
  have HB0 := Lib.hid (bbox (bbox (bbox hb1)))
  clear PA0 PB0 PR0 hb1
  have ⟨a0, a1, _, _, _⟩ := PA.out
  have ⟨b0, b1, _, _, _⟩ := PB.out
  go_wp2
  go_quiet (fail)
  go_wp2
  go_loopw [6, 7] (fun xv yv wr => ∃ (p q n' m' c2 c3 : Nat) (A2 B3 : Option Addr), xv = .slice A2 n' c2 ∧ yv = .slice B3 m' c3 ∧ Lm wr wr.heap.size A2 n' c2 (digs p) ∧ Lm wr wr.heap.size B3 m' c3 (digs q) ∧ (digs p).length ≤ 4096 ∧ (digs q).length ≤ 4096 ∧ Nat.gcd p q = Nat.gcd a b ∧
      Pr wr (w.heap.size + 1 + 1) (.bool false) (.slice none 0 0) ∧ Below w.heap.size w wr) (fun _ yv wr => rdN wr yv)
  case atStart => exact ⟨a, b, n, m, ca, cb, A, B, rfl, rfl, LA.out.drewN nq, LB.out.drewN nq, h41, h42, rfl, PR.out.drewN nq, bdrewN HB0.out nq⟩
  case round =>
    obtain ⟨p, q, n', m', c2, c3, A2, B3, rfl, rfl, hp, hq, lp, lq, hg, hP, hB⟩ := hrel
    have Lp := Lib.hid hp
    have Lq := Lib.hid hq
    have HP := Lib.hid hP
    have HBl := Lib.hid hB
    have HG := Lib.hid hg
    have hn4 : n' ≤ 4096 := by rw [← hp.len]; exact lp
    have hm4 : m' ≤ 4096 := by rw [← hq.len]; exact lq
    have hcq := hq.cap
    have hxq := hq.max
    clear hp hq hP hB hg a0 a1 b0 b1
    rcases Nat.eq_zero_or_pos q with h0 | h0
    · subst h0
      obtain rfl : m' = 0 := Lq.out.len.symm
      have HG2 : Hid (val (digs p) = Nat.gcd a b) := by show _ = _; rw [digs_val, ← HG.out, Nat.gcd_zero_right]
      go_wp2_with fail
      refine (rmade_any _ _ _ _ _ _ (Nat.gcd a b) Lp.out HG2.out (by omega)).mono ?_
      rintro e w3 ⟨A3, n3, c3, rfl, hL3, hb3⟩
      have HP3 := Lib.hid (HP.out.via hb3)
      have HB3 := Lib.hid (HBl.out.trans (hb3.mono HBl.out.size))
      clear hb3
      have ⟨r0, r1, _, _, _⟩ := HP3.out
      go_wp2
      exact post_ws Tryd.results33 rfl rfl r0 r1 ⟨A3, n3, c3, rfl, hL3.setP HP3.out _ _, below_set2 HB3.out (by omega) _ _⟩
    · have hm : 0 < m' := by rw [← Lq.out.len, digs_pos]; exact h0
      have hml := Nat.mod_lt p h0
      have HM := Lib.hid hml
      clear hml
      go_wp2_with fail
      refine (rover_any _ _ _ _ _ _ _ p q Lp.out Lq.out h0 (by omega)).mono ?_
      rintro e w2 ⟨Q, cq, R, cr, rfl, hQ, hR, hb2⟩
      have HR := Lib.hid hR
      have HQ := Lib.hid (Lq.out.via hb2)
      have HP2 := Lib.hid (HP.out.via hb2)
      have HB2 := Lib.hid (HBl.out.trans (hb2.mono HBl.out.size))
      clear hR hQ hb2
      go_wp2
      go_roundw
      case rel =>
        refine ⟨q, p % q, m', _, c3, cr, B3, R, rfl, rfl, HQ.out, HR.out, lq, Nat.le_trans (digs_mono (Nat.le_of_lt HM.out)) lq, ?_, HP2.out, HB2.out⟩
        rw [← HG.out, Nat.gcd_comm p q, Nat.gcd_rec q p, Nat.gcd_comm]
      case measure =>
        rw [rdN_lm HR.out, rdN_lm Lq.out]
        exact HM.out
end Go.Proofs.YtegpckhfncblhaaDoor

/- Gcd of any two numbers, valid or not, on both sides. -/
namespace Go.Proofs.YtegpckhfncblhaaDoor
open Go.RowKit

set_option maxRecDepth 100000 in
set_option maxHeartbeats 400000 in
theorem gcd_bad (w : World) (na nb : Bool) (A B : Option Addr) (n m ca cb : Nat) (xs ys : List Nat) (hA : Lm w w.heap.size A n ca xs) (hB : Lm w w.heap.size B m cb ys) (hv : chkB na xs nb ys = 8) :
    Calls Tryd.prog 22 #[.agg #[.bool na, .slice A n ca], .agg #[.bool nb, .slice B m cb]] w (RW w false [] 8) := by
  have HA := Lib.hid hA
  have HB := Lib.hid hB
  have HV := Lib.hid hv
  clear hv
  go_enter Tryd.func22, Tryd.ntmps22
  go_wp2_with (go_at_call 23; refine (both_any _ _ _ _ _ _ _ _ _ _ _ 8 (((HA.out.box _).box _).box _) (((HB.out.box _).box _).box _) HV.out).mono ?_; rintro e w1 ⟨rfl, hb1⟩; have ⟨hx0, hx1, hy0, hy1, hz0, hz1, hf0, hf1, hsz⟩ := box3 hb1)
  exact post_ws Tryd.results22 rfl rfl hz0 hz1 ⟨none, 0, 0, rfl, Lm.nil _ _, below_set2 (bbox (bbox (bbox hb1))) (by omega) _ _⟩
theorem gcd_both (na nb : Bool) (xs ys : List Nat) (gx : Good xs) (gy : Good ys) : ∃ g l e, (∀ (w : World) (A B : Option Addr) (n m ca cb : Nat), Lm w w.heap.size A n ca xs → Lm w w.heap.size B m cb ys → Calls Tryd.prog 22 #[.agg #[.bool na, .slice A n ca], .agg #[.bool nb, .slice B m cb]] w (RW w g l e)) ∧ (∀ (w : World) (A B : Option Addr) (n m ca cb : Nat), Lm w w.heap.size A n ca xs → Lm w w.heap.size B m cb ys → Calls Tryd.prog 33 #[.agg #[.bool na, .slice A n ca], .agg #[.bool nb, .slice B m cb]] w (RW w g l e)) := by
  rcases chkB_cases na xs nb ys with hc | hc
  · have hc1 := (chkB_ok.1 hc).1
    have hc2 := (chkB_ok.1 hc).2
    have e1 := chk_digs hc1 gx
    have e2 := chk_digs hc2 gy
    have l1 := (chk_ok.1 hc1).1
    have l2 := (chk_ok.1 hc2).1
    rw [e1, e2] at hc
    rw [e1] at l1 ⊢
    rw [e2] at l2 ⊢
    exact ⟨_, _, _, fun w A B n m ca cb hA hB => gcd_any w na nb A B n m ca cb _ _ hA hB hc (by rw [← hA.len]; exact l1) (by rw [← hB.len]; exact l2), fun w A B n m ca cb hA hB => rgcd_ok w na nb A B n m ca cb _ _ hA hB hc⟩
  · exact ⟨_, _, _, fun w A B n m ca cb hA hB => gcd_bad w na nb A B n m ca cb xs ys hA hB hc, fun w A B n m ca cb hA hB => rgcd_bad w na nb A B n m ca cb xs ys hA hB hc⟩
end Go.Proofs.YtegpckhfncblhaaDoor

/- Package frac: ratio.reduced. -/
namespace Go.Proofs.YtegpckhfncblhaaDoor
open Go.RowKit

/-- The divisor by which a ratio is reduced: it has the sign of the second number. -/
def dvr (x y : Int) : Int := if y < 0 then -(Nat.gcd x.natAbs y.natAbs : Int) else (Nat.gcd x.natAbs y.natAbs : Int)
theorem dvr_ne {x y : Int} (hy : y ≠ 0) : dvr x y ≠ 0 := by
  have h : 0 < Nat.gcd x.natAbs y.natAbs := Nat.gcd_pos_of_pos_right _ (by omega)
  unfold dvr
  split <;> omega
theorem dvr_dvd_left (x y : Int) : dvr x y ∣ x := by
  have h : ((Nat.gcd x.natAbs y.natAbs : Nat) : Int) ∣ x := Int.ofNat_dvd_left.2 (Nat.gcd_dvd_left _ _)
  unfold dvr
  split
  · exact Int.neg_dvd.2 h
  · exact h
theorem dvr_dvd_right (x y : Int) : dvr x y ∣ y := by
  have h : ((Nat.gcd x.natAbs y.natAbs : Nat) : Int) ∣ y := Int.ofNat_dvd_left.2 (Nat.gcd_dvd_right _ _)
  unfold dvr
  split
  · exact Int.neg_dvd.2 h
  · exact h
theorem dvr_left (x y : Int) : x = x / dvr x y * dvr x y := (Int.ediv_mul_cancel (dvr_dvd_left x y)).symm
theorem dvr_right (x y : Int) : y = y / dvr x y * dvr x y := (Int.ediv_mul_cancel (dvr_dvd_right x y)).symm
theorem sz_gcd2 {x y : Int} {k : Nat} (hy : Sz k y) (hy0 : y ≠ 0) : Sz k (Nat.gcd x.natAbs y.natAbs : Int) := by
  unfold Sz at *
  rw [Int.natAbs_natCast]
  exact Nat.lt_of_le_of_lt (Nat.gcd_le_right _ (by omega)) hy
theorem sz_dvr {x y : Int} {k : Nat} (hy : Sz k y) (hy0 : y ≠ 0) : Sz k (dvr x y) := by
  have h := sz_gcd2 (x := x) hy hy0
  unfold dvr
  split
  · exact h.neg
  · exact h
/-- A call returns the fraction p / q. -/
def RFr (w : World) (p q : Int) (e : Ending) (w' : World) : Prop := ∃ A n c B m c', e = .returned (fv (decide (p < 0)) A n c (decide (q < 0)) B m c') ∧ Lm w' w'.heap.size A n c (digs p.natAbs) ∧ Lm w' w'.heap.size B m c' (digs q.natAbs) ∧ Below w.heap.size w w'
section
variable (w : World) (A B : Option Addr) (n m ca cb k : Nat) (x y : Int) (hA : Lm w w.heap.size A n ca (digs x.natAbs)) (hB : Lm w w.heap.size B m cb (digs y.natAbs)) (hx : Sz k x) (hy : Sz k y) (hk : k ≤ 2000) {na nb : Bool} (ha : decide (x < 0) = na) (hb : decide (y < 0) = nb)
include hA hx hk ha
include hB hy hb
theorem gcd_n2 : Calls Tryd.prog 22 #[.agg #[.bool na, .slice A n ca], .agg #[.bool nb, .slice B m cb]] w fun e w' => ∃ A' n' c', e = .returned (.tuple #[.agg #[.bool false, .slice A' n' c'], .int .i64 0]) ∧ Lm w' w'.heap.size A' n' c' (digs (Nat.gcd x.natAbs y.natAbs)) ∧ Below w.heap.size w w' := by
  subst ha hb
  have hxl : (digs x.natAbs).length ≤ 4096 := Nat.le_trans hx.len (by omega)
  have hyl : (digs y.natAbs).length ≤ 4096 := Nat.le_trans hy.len (by omega)
  have h := gcd_any w _ _ A B n m ca cb _ _ hA hB (chkB_z hx (by omega) hy (by omega)) (by rw [← hA.len]; exact hxl) (by rw [← hB.len]; exact hyl)
  have hgl : (digs (Nat.gcd x.natAbs y.natAbs)).length ≤ 4096 := by
    rcases Nat.eq_zero_or_pos x.natAbs with h0 | h0
    · rw [h0, Nat.gcd_zero_left]; exact hyl
    · exact Nat.le_trans (digs_mono (Nat.gcd_le_left _ h0)) hxl
  refine h.mono fun e w' hr => ?_
  obtain ⟨A', n', c', he, hL, hb⟩ := rw_rn (neg := false) hgl hr
  have e1 : decide (toI false (Nat.gcd x.natAbs y.natAbs) < 0) = false := by unfold toI; simp
  rw [e1] at he
  have e2 : (toI false (Nat.gcd x.natAbs y.natAbs)).natAbs = Nat.gcd x.natAbs y.natAbs := toI_abs _ _
  rw [e2] at hL
  exact ⟨A', n', c', he, hL, hb⟩
end
theorem sign_n2 (w : World) (A : Option Addr) (n c k : Nat) (y : Int) (h : Lm w w.heap.size A n c (digs y.natAbs)) (hy : Sz k y) (hk : k ≤ 2000) {nb : Bool} (hb : decide (y < 0) = nb) (s : Int) (hs : s = if y < 0 then -1 else if y = 0 then 0 else 1) :
    Calls Tryd.prog 21 #[.agg #[.bool nb, .slice A n c]] w fun e w' => e = .returned (.tuple #[.int .i64 s, .int .i64 0]) ∧ Below w.heap.size w w' := by
  have hc := chk_z hy (show k ≤ 4096 by omega)
  rw [hb] at hc
  have h2 := sign_ok w nb A n c _ h hc
  have e1 : signZ nb y.natAbs = s := by
    subst hs hb
    unfold signZ sideZ
    by_cases h0 : y < 0
    · rw [decide_eq_true h0, if_pos h0]; simp; omega
    · rw [decide_eq_false h0, if_neg h0]
      by_cases h1 : y = 0
      · simp [h1]
      · rw [if_neg h1]; simp; try omega
  rw [e1] at h2
  exact h2

end Go.Proofs.YtegpckhfncblhaaDoor

/- Package frac: ratio.reduced of valid numbers. -/
namespace Go.Proofs.YtegpckhfncblhaaDoor
open Go.RowKit

end Go.Proofs.YtegpckhfncblhaaDoor

/- Package frac: attempt, which makes a panic a result. -/
namespace Go.Proofs.YtegpckhfncblhaaDoor
open Go.RowKit

/-- A store into a cell that holds an int touches no limb. -/
theorem Lm.err {w : World} {n c : Nat} {A : Option Addr} {xs : List Nat} (h : Lm w w.heap.size A n c xs) {g i : Nat} {z : Int} (hc : w.cell? ⟨g, i, none⟩ = some (.int .i64 z)) (v : Value) : Lm (w.setCell ⟨g, i, none⟩ v) (w.setCell ⟨g, i, none⟩ v).heap.size A n c xs := by
  rw [World.size_setCell]
  refine ⟨h.len, h.good, h.cap, h.max, h.nil_, fun hn => ?_⟩
  obtain ⟨b, off, e, hb, hcs⟩ := h.at_ hn
  refine ⟨b, off, e, hb, fun j hj => ?_⟩
  have hcj := hcs j hj
  rw [World.cell?_setCell_other]
  · exact hcj
  · intro e2
    rw [← e2, hc] at hcj
    have := Option.some.inj hcj
    injection this with h1 h2
    cases h1
theorem Qd.far1 {w : World} {g h : Nat} {x0 x1 x2 x3 : Value} (p : Qd w g x0 x1 x2 x3) (hne : g ≠ h) (i : Nat) (v : Value) : Qd (w.setCell ⟨h, i, none⟩ v) g x0 x1 x2 x3 := by
  have e : ∀ j, (⟨h, i, none⟩ : Addr) ≠ ⟨g, j, none⟩ := fun j e => hne (congrArg Addr.block e).symm
  exact ⟨(World.cell?_setCell_other _ _ _ _ (e 0)).trans p.c0, (World.cell?_setCell_other _ _ _ _ (e 1)).trans p.c1, (World.cell?_setCell_other _ _ _ _ (e 2)).trans p.c2, (World.cell?_setCell_other _ _ _ _ (e 3)).trans p.c3,
    by have := p.f0; simpa using this, by have := p.f1; simpa using this, by have := p.f2; simpa using this, by have := p.f3; simpa using this, by rw [World.size_setCell]; exact p.lt⟩

/-- A call returns a fraction and no error. -/
def RFE (w : World) (p q : Int) (e : Ending) (w' : World) : Prop := ∃ A n c B m c', e = .returned (.tuple #[fv (decide (p < 0)) A n c (decide (q < 0)) B m c', .int .i64 0]) ∧ Lm w' w'.heap.size A n c (digs p.natAbs) ∧ Lm w' w'.heap.size B m c' (digs q.natAbs) ∧ Below w.heap.size w w'
/-- A call returns an error. -/
def RFX (w : World) (x : Int) (e : Ending) (w' : World) : Prop := e = .returned (.tuple #[fv false none 0 0 false none 0 0, .int .i64 x]) ∧ Below w.heap.size w w'
/-- The world in which attempt calls: with the boxes of its two results. -/
def Wat (w : World) : World := (w.alloc (.cells #[.bool false, .slice none 0 0, .bool false, .slice none 0 0] 26)).alloc (.cells #[.int .i64 0] 29)
theorem wat_below (w : World) : Below w.heap.size w (Wat w) := ((Below.refl _ _).alloc (Nat.le_refl _) _).alloc (by simp) _
theorem wat_qd (w : World) : Qd (Wat w) w.heap.size (.bool false) (.slice none 0 0) (.bool false) (.slice none 0 0) := (Qd.new w _ rfl _ _ _ _ _).alloc _
theorem wat_c (w : World) : (Wat w).cell? ⟨w.heap.size + 1, 0, none⟩ = some (.int .i64 0) ∧ (Wat w).frozen? ⟨w.heap.size + 1, 0, none⟩ = false := by unfold Wat; constructor <;> go_simp
theorem wat_size (w : World) : (Wat w).heap.size = w.heap.size + 1 + 1 := by unfold Wat; simp

end Go.Proofs.YtegpckhfncblhaaDoor

