/- Lemmas, part 4. -/
import Derived.Deep.DeepCutAuto
import Derived.Deep.CutBlock
import Derived.Deep.RegionWith
import Derived.Laws.OwnMore
import Derived.Deep.QuietTactic
import Derived.BigQuiet
import Derived.Lib.ItoaNum
import Derived.Lib.UnsafeStr
import Derived.Lib.OthersKept
import Derived.Lib.BufferKept
import Derived.Lib.OwnKind
import Derived.Deep.LoopGhost
import Derived.Shelf.Strconv.AppendUint10
import Derived.Test.YtkcdijhfiahibaaDoorProg
import Derived.Lib.AppendIntMem
import Derived.Test.YtkcdijhfiahibaaDoorGBak3
/- steps.take: what two numbers become by Lehmer's steps. -/
namespace Go.Proofs.YtkcdijhfiahibaaDoor
open Go.RowKit

/-- An append of one limb to a slice of the call's own: it lies where it lay, or in a new block. -/
theorem wpList_append_at (w : World) {ops : Array Oper} {rest : List Oper} {o : Oper} {a : Act} {Q : Exit → Act → World → Prop} (hgd : o.guard = none) (s x : Operand)
    (ho : o.op = .call { callee := .builtin .append, args := #[s, x], argTypes := #[22, 22] })
    (B : Nat) (g n c : Nat) (ts : List Nat) (hs : a.eval s = .slice (some ⟨g, 0, none⟩) n c) (hown : Ow w B (.slice (some ⟨g, 0, none⟩) n c) ts) (E : Int) (y cx : Nat) (hE : E = (y : Int)) (hlen : ts.length < 4000000000) (hn : n = ts.length) (hB : B ≤ w.heap.size)
    (hx : a.eval x = .slice (some ⟨w.heap.size, 0, none⟩) 1 cx)
    (h : ∀ g' c' w', Ow w' B (.slice (some ⟨g', 0, none⟩) (n + 1) c') (ts ++ [y]) → (w.alloc (.cells #[.int .u32 E] 53)).grownBy w' (some g) → (g' = g ∨ w.heap.size < g') → wpList Tryd.prog ops Q rest (a.put o.dst (.slice (some ⟨g', 0, none⟩) (n + 1) c')) w') :
    wpList Tryd.prog ops Q (o :: rest) a (w.alloc (.cells #[.int .u32 E] 53)) := by
  subst hE
  subst hn
  obtain ⟨i0, hi0, hz0, hz1, hz2⟩ := info_parts u32_info
  have hown1 : (w.alloc (.cells #[.int .u32 (y : Int)] 53)).ownsRow B 53 1 (.slice (some ⟨g, 0, none⟩) ts.length c) ts.length (ts.map u32c) := World.ownsRow.alloc hown _
  have hcell := cell_one_new w (.int .u32 (y : Int)) 53
  have hB1 : B ≤ (w.alloc (.cells #[.int .u32 (y : Int)] 53)).heap.size := by simp; omega
  have hsz : (w.alloc (.cells #[.int .u32 (y : Int)] 53)).heap.size = w.heap.size + 1 := by simp
  generalize w.alloc (.cells #[.int .u32 (y : Int)] 53) = W at *
  refine wpList_plain hgd fun K hK => ?_
  obtain ⟨v', w', hr, h2, h3, h4⟩ := run_append_own (P := Tryd.prog) W B 22 o.type 53 i0 (.int .u32 0) 1 4 slice_u32 hi0 hz0 hz1 hz2 rfl (by decide) _ ts.length _ hown1 ⟨w.heap.size, 0, none⟩ 1 cx [.int .u32 (y : Int)] rfl hcell (by simp [Value.oneCell']) (by simp only [maxLen]; omega) (by omega) hB1
  have hv : ∃ g' c', v' = .slice (some ⟨g', 0, none⟩) (ts.length + 1) c' ∧ (g' = g ∨ w.heap.size < g') := by
    rcases hown1.2 with ⟨e, _⟩ | ⟨g0, cap, cur, e, hbg, hg, hnc, hcm, hcs, htake⟩
    · cases e
    · injection e with e1 e2 e3
      injection e1 with e1
      injection e1 with e1
      subst e1 e3
      by_cases hroom : ts.length + 1 ≤ c
      · have hr2 := run_append_room (P := Tryd.prog) W 22 o.type 53 i0 slice_u32 hi0 g ts.length c cur hg ⟨w.heap.size, 0, none⟩ 1 cx [.int .u32 (y : Int)] (by rw [hz1]; rfl) hcell (by simp [Value.oneCell']) hroom (by rw [hz1, hcs]; simp; omega)
        rw [hr] at hr2
        injection hr2 with e _
        exact ⟨_, _, e, .inl rfl⟩
      · have hr2 := run_append_grow (P := Tryd.prog) W 22 o.type 53 i0 (.int .u32 0) slice_u32 hi0 hz0 ⟨g, 0, none⟩ ts.length c (ts.map u32c) (by rw [hz1]; simp) (hown1.cells (g := g) rfl) ⟨w.heap.size, 0, none⟩ 1 cx [.int .u32 (y : Int)] (by rw [hz1]; rfl) hcell (by omega) (by omega) (growslice_fits (by omega) (by rw [hz2]; omega))
        rw [hr] at hr2
        injection hr2 with e _
        exact ⟨_, _, e, .inr (by omega)⟩
  obtain ⟨g', c', rfl, hg'⟩ := hv
  unfold Oper.wp execOp
  simp only [ho, resolve, invoke, builtin, Sem.run_bind, Sem.run_pure, Result.andThen_ok, List.map_toArray, List.map_cons, List.map_nil, hs, hx, hr]
  refine hK _ _ (h g' c' w' ?_ h3 hg')
  have e : (ts ++ [y]).map u32c = ts.map u32c ++ [.int .u32 (y : Int)] := by rw [List.map_append]; rfl
  unfold Ow
  rw [e, List.length_append]
  exact h2
/-- A limb of a slice of the call's own. -/
theorem Ow.nlen {w : World} {B g n c : Nat} {ts : List Nat} (h : Ow w B (.slice (some ⟨g, 0, none⟩) n c) ts) : ts.length = n := by
  rcases h.2 with ⟨e, _⟩ | ⟨g0, cap, cur, e, _⟩
  · cases e
  · injection e with _ e _; exact e.symm
theorem Ow.at_ {w : World} {B g n c : Nat} {ts : List Nat} (h : Ow w B (.slice (some ⟨g, 0, none⟩) n c) ts) {j : Nat} (hj : j < n) : w.cell? ⟨g, j, none⟩ = some (.int .u32 (ts[j]?.getD 0 : Nat)) := by
  have e := h.nlen
  subst e
  have e := World.ownsRow.cellAt h j (by omega)
  rw [getD_map ts j hj] at e
  exact e
theorem Ow.fr {w : World} {B g n c : Nat} {ts : List Nat} (h : Ow w B (.slice (some ⟨g, 0, none⟩) n c) ts) (j : Nat) : w.frozen? ⟨g, j, none⟩ = false := by
  have e := h.nlen
  subst e
  exact World.ownsRow.frozenAt h j
theorem Ow.put {w : World} {B g n c : Nat} {ts : List Nat} (h : Ow w B (.slice (some ⟨g, 0, none⟩) n c) ts) (j t : Nat) : Ow (w.setCell ⟨g, j, none⟩ (.int .u32 (t : Int))) B (.slice (some ⟨g, 0, none⟩) n c) (ts.set j t) := by
  have e := h.nlen
  subst e
  have e := (World.ownsRow.stored h j (u32c t)).1
  rw [← List.map_set] at e
  unfold Ow
  rw [List.length_set]
  exact e
theorem Ow.lt {w : World} {B g n c : Nat} {ts : List Nat} (h : Ow w B (.slice (some ⟨g, 0, none⟩) n c) ts) : B ≤ g ∧ g < w.heap.size := World.ownsRow.lt h g rfl
theorem Ow.keep {w w' : World} {B g n c : Nat} {ts : List Nat} {row : Option Nat} (h : Ow w B (.slice (some ⟨g, 0, none⟩) n c) ts) (hg : w.grownBy w' row) (hne : some g ≠ row) : Ow w' B (.slice (some ⟨g, 0, none⟩) n c) ts :=
  World.ownsRow.kept h hg (.inr hne)
theorem Ow.far {w : World} {B g n c : Nat} {ts : List Nat} (h : Ow w B (.slice (some ⟨g, 0, none⟩) n c) ts) {k i : Nat} (hk : k ≠ g) (v : Value) : Ow (w.setCell ⟨k, i, none⟩ v) B (.slice (some ⟨g, 0, none⟩) n c) ts :=
  h.keep (grownBy_setCellAt w k i v) (fun e => by injection e with e; exact hk e.symm)
theorem Ow.drew {w : World} {B : Nat} {v : Value} {ts : List Nat} (h : Ow w B v ts) : Ow w.drew B v ts := h
theorem Ow.drewN {w : World} {B : Nat} {v : Value} {ts : List Nat} (h : Ow w B v ts) (k : Nat) : Ow (w.drewN k) B v ts := h
theorem take_digs' {cs : List Nat} (g : Good cs) {v : Nat} (hv : val cs = v) : cs.take (digs v).length = digs v := by
  have h1 := tr_digs g rfl
  have h2 := tr_len g rfl
  rw [h2] at h1
  rw [← hv]
  exact h1
/-- What take returns: two numbers, each the call's own, in two blocks. -/
def RT (w : World) (G u v : Nat) (e : Ending) (w' : World) : Prop := ∃ g1 c1 g2 c2, e = .returned (.tuple #[.slice (some ⟨g1, 0, none⟩) (digs u).length c1, .slice (some ⟨g2, 0, none⟩) (digs v).length c2]) ∧
  Ow w' G (.slice (some ⟨g1, 0, none⟩) (digs u).length c1) (digs u) ∧ Ow w' G (.slice (some ⟨g2, 0, none⟩) (digs v).length c2) (digs v) ∧ g1 ≠ g2 ∧ Below G w w'

set_option maxRecDepth 100000 in
set_option maxHeartbeats 1600000 in
theorem take_any (w : World) (G ga gb n m ca cb a b : Nat) (c : Int) (A0 B0 A1 B1 : Nat) (hA : Ow w G (.slice (some ⟨ga, 0, none⟩) n ca) (digs a)) (hB : Ow w G (.slice (some ⟨gb, 0, none⟩) m cb) (digs b)) (hne : ga ≠ gb) (hG : G ≤ w.heap.size)
    (hn : (digs a).length = n) (hm : (digs b).length = m) (hmn : m ≤ n) (hn9 : n ≤ 1000000) (hc0 : 0 ≤ c) (_ : c ≤ 4294967296) (ha0 : A0 < 4294967296) (hb0 : B0 < 4294967296) (ha1 : A1 < 4294967296) (hb1 : B1 < 4294967296) (u v : Nat) (hu9 : u < 4294967296 ^ n) (hv9 : v < 4294967296 ^ n)
    (he : c % 2 = 0 → u + B0 * b = A0 * a ∧ v + A1 * a = B1 * b) (ho : c % 2 = 1 → u + A0 * a = B0 * b ∧ v + B1 * b = A1 * a) :
    Calls Tryd.prog 75 #[.agg (stV c A0 B0 A1 B1), .slice (some ⟨ga, 0, none⟩) n ca, .slice (some ⟨gb, 0, none⟩) m cb] w (RT w G u v) := by
  have hga := (World.ownsRow.lt hA ga rfl).2
  have hgb := (World.ownsRow.lt hB gb rfl).2
  have HA := Lib.hid hA
  have HB := Lib.hid hB
  clear hA hB
  go_enter Tryd.func75, Tryd.ntmps75
  go_wp2
  go_loopw [2] (fun bv wr => ∃ g k cc : Nat, m ≤ k ∧ k ≤ n ∧ bv = .slice (some ⟨g, 0, none⟩) k cc ∧ Ow wr G (.slice (some ⟨g, 0, none⟩) k cc) (digs b ++ zer (k - m)) ∧ g ≠ ga ∧ g ≠ w.heap.size ∧ Ow wr G (.slice (some ⟨ga, 0, none⟩) n ca) (digs a) ∧
      Kd wr w.heap.size 92 (stV c A0 B0 A1 B1) ∧ Below G w wr) (fun bv _ => n - (match bv with | .slice _ k _ => k | _ => 0))
  case atStart => exact ⟨gb, m, cb, Nat.le_refl _, hmn, rfl, (HB.out.alloc _).eq (by rw [Nat.sub_self]; exact (List.append_nil _).symm), Ne.symm hne, by omega, HA.out.alloc _, Kd.new w _ rfl _ _, (Below.refl _ _).alloc hG _⟩
  case round =>
    obtain ⟨g, k, cc, hk1, hk2, rfl, hOb, hg1, hg2, hOa, hS, hb⟩ := hrel
    have HOb := Lib.hid hOb
    have HOa := Lib.hid hOa
    have HS := Lib.hid hS
    have HBl := Lib.hid hb
    have hwr := hS.lt
    have hgs := hb.size
    have hgar := (World.ownsRow.lt hOa ga rfl).2
    clear hOb hOa hS hb
    by_cases hlt : k < n
    · have hlen : (digs b ++ zer (k - m)).length = k := by rw [List.length_append, zer_len, hm]; omega
      go_wp2_with (at_builtin; refine wpList_append_at _ rfl _ _ rfl G g k cc _ rfl HOb.out 0 0 1 rfl (by omega) hlen.symm (by omega) rfl ?_; intro g' c' w1 hO1 hgr hgg)
      go_roundw
      case rel =>
        refine ⟨g', k + 1, c', by omega, by omega, rfl, hO1.eq ?_, by omega, by omega, (HOa.out.alloc _).kept hgr (.inr (by simp [Value.ownBlock]; omega)), (HS.out.alloc _).grown hgr (by intro e; injection e with e; omega), HOb.out.below HBl.out (by omega) hgr⟩
        rw [List.append_assoc, show k + 1 - m = (k - m) + 1 by omega]
        congr 1
        simp [zer, List.replicate_succ']
      case measure => simp; omega
    · obtain rfl : k = n := by omega
      have HVs : Hid (val (digs b ++ zer (k - m)) = b) := by
        show _ = _
        rw [val_append, digs_val, val_zero (xs := zer (k - m)) (fun x hx => (List.mem_replicate.1 hx).2)]
        rfl
      have HGs : Hid (Good (digs b ++ zer (k - m))) := (digs_good b).append (zer_good _)
      have hys : (digs b ++ zer (k - m)).length = k := HOb.out.nlen
      have HVa : Hid (val (digs a) = a) := digs_val a
      have HGa : Hid (Good (digs a)) := digs_good a
      generalize hYY : digs b ++ zer (k - m) = ys at *
      generalize hXX : digs a = xs at *
      have s0 := HS.out.cell 0
      have s1 := HS.out.cell 1
      have s2 := HS.out.cell 2
      have s3 := HS.out.cell 3
      have s4 := HS.out.cell 4
      simp only [stV, List.getElem?_toArray, List.getElem?_cons_zero, List.getElem?_cons_succ] at s0 s1 s2 s3 s4
      by_cases hp : c % 2 = 1
      · have hp2 : c.tmod 2 = 1 := by rw [Int.tmod_eq_emod_of_nonneg hc0]; exact hp
        have HEQ := Lib.hid (ho hp)
        clear hlt he ho
        go_wp2
        have HK1 : Hid (Kd ((wr.alloc (.cells #[.int .u64 (B0 : Int), .int .u64 (A0 : Int), .int .u64 0, .int .u64 0] 104)).alloc (.cells #[.int .u64 (A1 : Int), .int .u64 (B1 : Int), .int .u64 0, .int .u64 0] 104)) wr.heap.size 104 (blV B0 A0 0 0)) := (Kd.new wr _ rfl _ _).alloc _
        have HK2 : Hid (Kd ((wr.alloc (.cells #[.int .u64 (B0 : Int), .int .u64 (A0 : Int), .int .u64 0, .int .u64 0] 104)).alloc (.cells #[.int .u64 (A1 : Int), .int .u64 (B1 : Int), .int .u64 0, .int .u64 0] 104)) (wr.heap.size + 1) 104 (blV A1 B1 0 0)) := Kd.new _ _ (by simp) _ _
        have HO1 := Lib.hid ((HOb.out.alloc (.cells #[.int .u64 (B0 : Int), .int .u64 (A0 : Int), .int .u64 0, .int .u64 0] 104)).alloc (.cells #[.int .u64 (A1 : Int), .int .u64 (B1 : Int), .int .u64 0, .int .u64 0] 104))
        have HO2 := Lib.hid ((HOa.out.alloc (.cells #[.int .u64 (B0 : Int), .int .u64 (A0 : Int), .int .u64 0, .int .u64 0] 104)).alloc (.cells #[.int .u64 (A1 : Int), .int .u64 (B1 : Int), .int .u64 0, .int .u64 0] 104))
        have HB1 : Hid (Below G w ((wr.alloc (.cells #[.int .u64 (B0 : Int), .int .u64 (A0 : Int), .int .u64 0, .int .u64 0] 104)).alloc (.cells #[.int .u64 (A1 : Int), .int .u64 (B1 : Int), .int .u64 0, .int .u64 0] 104))) := (HBl.out.alloc (by omega) _).alloc (by simp; omega) _
        have hL1 := HOb.out.lt.2
        have hL2 := HOa.out.lt.2
        generalize ((wr.alloc (.cells #[.int .u64 (B0 : Int), .int .u64 (A0 : Int), .int .u64 0, .int .u64 0] 104)).alloc (.cells #[.int .u64 (A1 : Int), .int .u64 (B1 : Int), .int .u64 0, .int .u64 0] 104)) = W0 at *
        clear HOa HOb HBl HS s0 s1 s2 s3 s4
        generalize wr.heap.size = N at *
        go_loopw [57] (fun iv wq => ∃ j : Nat, j ≤ k ∧ iv = .int .i64 (j : Int) ∧ Ow wq G (.slice (some ⟨g, 0, none⟩) k cc) ((blK B0 A0 ys xs j).1 ++ ys.drop j) ∧ Ow wq G (.slice (some ⟨ga, 0, none⟩) k ca) ((blK A1 B1 xs ys j).1 ++ xs.drop j) ∧
            Kd wq N 104 (blV B0 A0 (blK B0 A0 ys xs j).2.1 (blK B0 A0 ys xs j).2.2) ∧ Kd wq (N + 1) 104 (blV A1 B1 (blK A1 B1 xs ys j).2.1 (blK A1 B1 xs ys j).2.2) ∧ Below G w wq) (fun iv _ => k - (intOf iv).toNat)
        case atStart => exact ⟨0, Nat.zero_le _, rfl, HO1.out, HO2.out, HK1.out, HK2.out, HB1.out⟩
        case round =>
          obtain ⟨j, hj, rfl, hU1, hU2, hQ1, hQ2, hb⟩ := hrel
          have HU1 := Lib.hid hU1
          have HU2 := Lib.hid hU2
          have HQ1 := Lib.hid hQ1
          have HQ2 := Lib.hid hQ2
          have HBq := Lib.hid hb
          clear hU1 hU2 hQ1 hQ2 hb HO1 HO2 HK1 HK2 HB1
          have hbd1 := blK_bd hb0 ha0 HGs.out HGa.out j
          have hbd2 := blK_bd ha1 hb1 HGa.out HGs.out j
          have hx9 := HGs.out.get j
          have hy9 := HGa.out.get j
          by_cases hlt : j < k
          · have hc1 := HU1.out.at_ hlt
            have hc2 := HU2.out.at_ hlt
            rw [bl_at] at hc1 hc2
            have HSt1 := Lib.hid (bl_set (p := B0) (m := A0) (xs := ys) (ys := xs) (j := j) (by rw [hys]; exact hlt))
            have HSt2 := Lib.hid (bl_set (p := A1) (m := B1) (xs := xs) (ys := ys) (j := j) (by rw [hn]; exact hlt))
            have HDa : Hid ((blK B0 A0 ys xs (j + 1)).2.1 = blC ((blK B0 A0 ys xs j).2.1 + B0 * ys[j]?.getD 0) ∧ (blK B0 A0 ys xs (j + 1)).2.2 = blT ((blK B0 A0 ys xs j).2.1 + B0 * ys[j]?.getD 0) ((blK B0 A0 ys xs j).2.2 + A0 * xs[j]?.getD 0)) := ⟨rfl, rfl⟩
            have HDb : Hid ((blK A1 B1 xs ys (j + 1)).2.1 = blC ((blK A1 B1 xs ys j).2.1 + A1 * xs[j]?.getD 0) ∧ (blK A1 B1 xs ys (j + 1)).2.2 = blT ((blK A1 B1 xs ys j).2.1 + A1 * xs[j]?.getD 0) ((blK A1 B1 xs ys j).2.2 + B1 * ys[j]?.getD 0)) := ⟨rfl, rfl⟩
            have HLt1 : Hid (g < N) := hL1
            have HLt2 : Hid (ga < N) := hL2
            have hqs := HQ2.out.lt
            generalize ys[j]?.getD 0 = x at *
            generalize xs[j]?.getD 0 = y at *
            generalize (blK B0 A0 ys xs j).2.1 = ka at *
            generalize (blK B0 A0 ys xs j).2.2 = sa at *
            generalize (blK A1 B1 xs ys j).2.1 = kb at *
            generalize (blK A1 B1 xs ys j).2.2 = sb at *
            go_wp2
            go_quiet (fail)
            go_wp2_with fail
            refine (next_any _ N _ B0 A0 ka sa x y (HQ1.out.drewN nq) hb0 ha0 hbd1.1 hbd1.2 hx9 hy9).mono ?_
            rintro e w1 ⟨rfl, hR1, hG1⟩
            have HR1 := Lib.hid hR1
            have HV1 := Lib.hid ((HU1.out.drewN nq).keep hG1 (fun e => by injection e with e; have := HLt1.out; omega))
            have HV2 := Lib.hid ((HU2.out.drewN nq).keep hG1 (fun e => by injection e with e; have := HLt2.out; omega))
            have HR2 := Lib.hid ((HQ2.out.drewN nq).grown hG1 (fun e => by injection e with e; omega))
            have hGN : G ≤ N := by have := HLt1.out; have := HU1.out.lt.1; omega
            have HBr := Lib.hid ((bdrewN HBq.out nq).grown hG1 (Nat.le_trans hG HBq.out.size) (fun b e => by injection e with e; omega))
            clear hR1 hG1 hc1 hc2
            have hc1 := HV1.out.at_ hlt
            have hf1 := HV1.out.fr j
            go_wp2_with fail
            have HN1 : Hid (N ≠ g) := by show _ ≠ _; have := HLt1.out; omega
            refine (next_any _ (N + 1) _ A1 B1 kb sb y x (HR2.out.far (i := j) (show g ≠ N + 1 by have := HLt1.out; omega) _) ha1 hb1 hbd2.1 hbd2.2 hy9 hx9).mono ?_
            rintro e w2 ⟨rfl, hR2, hG2⟩
            have HX1 := Lib.hid ((HV1.out.put j _).keep hG2 (fun e => by injection e with e; have := HLt1.out; omega))
            have HX2 := Lib.hid ((HV2.out.far (i := j) hg1 _).keep hG2 (fun e => by injection e with e; have := HLt2.out; omega))
            have HY1 := Lib.hid ((HR1.out.far (i := j) (Ne.symm HN1.out) _).grown hG2 (fun e => by injection e with e; omega))
            have HY2 := Lib.hid hR2
            have HBs := Lib.hid ((HBr.out.setCell (p := ⟨g, j, none⟩) HU1.out.lt.1 _).grown hG2 (by rw [World.size_setCell]; exact Nat.le_trans hG HBr.out.size) (fun b e => by injection e with e; omega))
            clear hR2 hG2 hc1 hf1
            have hc2 := HX2.out.at_ hlt
            have hf2 := HX2.out.fr j
            go_wp2
            go_roundw
            case rel =>
              have e1 := HX1.out.far (i := j) (Ne.symm hg1) (.int .u32 ((blO (kb + A1 * y) (sb + B1 * x) : Nat) : Int))
              have e2 := HX2.out.put j (blO (kb + A1 * y) (sb + B1 * x))
              rw [HSt1.out] at e1
              rw [HSt2.out] at e2
              refine ⟨j + 1, by omega, by go_num, e1, e2, ?_, ?_, HBs.out.setCell (p := ⟨ga, j, none⟩) HU2.out.lt.1 _⟩
              · have e3 := HY1.out.far (i := j) (show ga ≠ N by have := HLt2.out; omega) (.int .u32 ((blO (kb + A1 * y) (sb + B1 * x) : Nat) : Int))
                rw [← HDa.out.1, ← HDa.out.2] at e3
                exact e3
              · have e3 := HY2.out.far (i := j) (show ga ≠ N + 1 by have := HLt2.out; omega) (.int .u32 ((blO (kb + A1 * y) (sb + B1 * x) : Nat) : Int))
                rw [← HDb.out.1, ← HDb.out.2] at e3
                exact e3
            case measure => simp [intOf]; omega
          · obtain rfl : j = k := by omega
            have HE1 : Hid (val (blK B0 A0 ys xs j).1 = u) := bl_all hys hn hu9 (by rw [HVs.out, HVa.out]; exact HEQ.out.1)
            have HE2 : Hid (val (blK A1 B1 xs ys j).1 = v) := bl_all hn hys hv9 (by rw [HVs.out, HVa.out]; exact HEQ.out.2)
            have HM1 := Lib.hid (HU1.out.toLm ((blK_good _ _ _ _ _).append (HGs.out.drop _)))
            have HM2 := Lib.hid (HU2.out.toLm ((blK_good _ _ _ _ _).append (HGa.out.drop _)))
            have HD1 : Hid (ys.drop j = []) := List.drop_of_length_le (by rw [hys]; exact Nat.le_refl _)
            have HD2 : Hid (xs.drop j = []) := List.drop_of_length_le (by rw [hn]; exact Nat.le_refl _)
            rw [HD1.out, List.append_nil] at HM1 HU1
            rw [HD2.out, List.append_nil] at HM2 HU2
            go_wp2_with fail
            refine (trim_any _ _ _ _ _ _ u HM1.out HE1.out).mono ?_
            rintro e w1 ⟨rfl, rfl⟩
            go_wp2_with fail
            refine (trim_any _ _ _ _ _ _ v HM2.out HE2.out).mono ?_
            rintro e w1 ⟨rfl, rfl⟩
            go_wp2
            go_ret2
            have hl1 : (digs u).length ≤ j := digs_len.2 hu9
            have hl2 : (digs v).length ≤ j := digs_len.2 hv9
            refine ⟨_, _, _, _, rfl, (HU1.out.shrink hl1).eq (take_digs' (blK_good _ _ _ _ _) HE1.out), (HU2.out.shrink hl2).eq (take_digs' (blK_good _ _ _ _ _) HE2.out), hg1, HBq.out⟩
      · have hp2 : c % 2 = 0 := by omega
        have hp3 : c.tmod 2 = 0 := by rw [Int.tmod_eq_emod_of_nonneg hc0]; exact hp2
        have HEQ := Lib.hid (he hp2)
        clear hlt hp he ho
        go_wp2
        have HK1 : Hid (Kd ((wr.alloc (.cells #[.int .u64 (A0 : Int), .int .u64 (B0 : Int), .int .u64 0, .int .u64 0] 104)).alloc (.cells #[.int .u64 (B1 : Int), .int .u64 (A1 : Int), .int .u64 0, .int .u64 0] 104)) wr.heap.size 104 (blV A0 B0 0 0)) := (Kd.new wr _ rfl _ _).alloc _
        have HK2 : Hid (Kd ((wr.alloc (.cells #[.int .u64 (A0 : Int), .int .u64 (B0 : Int), .int .u64 0, .int .u64 0] 104)).alloc (.cells #[.int .u64 (B1 : Int), .int .u64 (A1 : Int), .int .u64 0, .int .u64 0] 104)) (wr.heap.size + 1) 104 (blV B1 A1 0 0)) := Kd.new _ _ (by simp) _ _
        have HO1 := Lib.hid ((HOa.out.alloc (.cells #[.int .u64 (A0 : Int), .int .u64 (B0 : Int), .int .u64 0, .int .u64 0] 104)).alloc (.cells #[.int .u64 (B1 : Int), .int .u64 (A1 : Int), .int .u64 0, .int .u64 0] 104))
        have HO2 := Lib.hid ((HOb.out.alloc (.cells #[.int .u64 (A0 : Int), .int .u64 (B0 : Int), .int .u64 0, .int .u64 0] 104)).alloc (.cells #[.int .u64 (B1 : Int), .int .u64 (A1 : Int), .int .u64 0, .int .u64 0] 104))
        have HB1 : Hid (Below G w ((wr.alloc (.cells #[.int .u64 (A0 : Int), .int .u64 (B0 : Int), .int .u64 0, .int .u64 0] 104)).alloc (.cells #[.int .u64 (B1 : Int), .int .u64 (A1 : Int), .int .u64 0, .int .u64 0] 104))) := (HBl.out.alloc (by omega) _).alloc (by simp; omega) _
        have hL1 := HOa.out.lt.2
        have hL2 := HOb.out.lt.2
        generalize ((wr.alloc (.cells #[.int .u64 (A0 : Int), .int .u64 (B0 : Int), .int .u64 0, .int .u64 0] 104)).alloc (.cells #[.int .u64 (B1 : Int), .int .u64 (A1 : Int), .int .u64 0, .int .u64 0] 104)) = W0 at *
        clear HOa HOb HBl HS s0 s1 s2 s3 s4
        generalize wr.heap.size = N at *
        go_loopw [57] (fun iv wq => ∃ j : Nat, j ≤ k ∧ iv = .int .i64 (j : Int) ∧ Ow wq G (.slice (some ⟨ga, 0, none⟩) k ca) ((blK A0 B0 xs ys j).1 ++ xs.drop j) ∧ Ow wq G (.slice (some ⟨g, 0, none⟩) k cc) ((blK B1 A1 ys xs j).1 ++ ys.drop j) ∧
            Kd wq N 104 (blV A0 B0 (blK A0 B0 xs ys j).2.1 (blK A0 B0 xs ys j).2.2) ∧ Kd wq (N + 1) 104 (blV B1 A1 (blK B1 A1 ys xs j).2.1 (blK B1 A1 ys xs j).2.2) ∧ Below G w wq) (fun iv _ => k - (intOf iv).toNat)
        case atStart => exact ⟨0, Nat.zero_le _, rfl, HO1.out, HO2.out, HK1.out, HK2.out, HB1.out⟩
        case round =>
          obtain ⟨j, hj, rfl, hU1, hU2, hQ1, hQ2, hb⟩ := hrel
          have HU1 := Lib.hid hU1
          have HU2 := Lib.hid hU2
          have HQ1 := Lib.hid hQ1
          have HQ2 := Lib.hid hQ2
          have HBq := Lib.hid hb
          clear hU1 hU2 hQ1 hQ2 hb HO1 HO2 HK1 HK2 HB1
          have hbd1 := blK_bd ha0 hb0 HGa.out HGs.out j
          have hbd2 := blK_bd hb1 ha1 HGs.out HGa.out j
          have hx9 := HGa.out.get j
          have hy9 := HGs.out.get j
          by_cases hlt : j < k
          · have hc1 := HU1.out.at_ hlt
            have hc2 := HU2.out.at_ hlt
            rw [bl_at] at hc1 hc2
            have HSt1 := Lib.hid (bl_set (p := A0) (m := B0) (xs := xs) (ys := ys) (j := j) (by rw [hn]; exact hlt))
            have HSt2 := Lib.hid (bl_set (p := B1) (m := A1) (xs := ys) (ys := xs) (j := j) (by rw [hys]; exact hlt))
            have HDa : Hid ((blK A0 B0 xs ys (j + 1)).2.1 = blC ((blK A0 B0 xs ys j).2.1 + A0 * xs[j]?.getD 0) ∧ (blK A0 B0 xs ys (j + 1)).2.2 = blT ((blK A0 B0 xs ys j).2.1 + A0 * xs[j]?.getD 0) ((blK A0 B0 xs ys j).2.2 + B0 * ys[j]?.getD 0)) := ⟨rfl, rfl⟩
            have HDb : Hid ((blK B1 A1 ys xs (j + 1)).2.1 = blC ((blK B1 A1 ys xs j).2.1 + B1 * ys[j]?.getD 0) ∧ (blK B1 A1 ys xs (j + 1)).2.2 = blT ((blK B1 A1 ys xs j).2.1 + B1 * ys[j]?.getD 0) ((blK B1 A1 ys xs j).2.2 + A1 * xs[j]?.getD 0)) := ⟨rfl, rfl⟩
            have HLt1 : Hid (ga < N) := hL1
            have HLt2 : Hid (g < N) := hL2
            have hqs := HQ2.out.lt
            generalize xs[j]?.getD 0 = x at *
            generalize ys[j]?.getD 0 = y at *
            generalize (blK A0 B0 xs ys j).2.1 = ka at *
            generalize (blK A0 B0 xs ys j).2.2 = sa at *
            generalize (blK B1 A1 ys xs j).2.1 = kb at *
            generalize (blK B1 A1 ys xs j).2.2 = sb at *
            go_wp2
            go_quiet (fail)
            go_wp2_with fail
            refine (next_any _ N _ A0 B0 ka sa x y (HQ1.out.drewN nq) ha0 hb0 hbd1.1 hbd1.2 hx9 hy9).mono ?_
            rintro e w1 ⟨rfl, hR1, hG1⟩
            have HR1 := Lib.hid hR1
            have HV1 := Lib.hid ((HU1.out.drewN nq).keep hG1 (fun e => by injection e with e; have := HLt1.out; omega))
            have HV2 := Lib.hid ((HU2.out.drewN nq).keep hG1 (fun e => by injection e with e; have := HLt2.out; omega))
            have HR2 := Lib.hid ((HQ2.out.drewN nq).grown hG1 (fun e => by injection e with e; omega))
            have hGN : G ≤ N := by have := HLt1.out; have := HU1.out.lt.1; omega
            have HBr := Lib.hid ((bdrewN HBq.out nq).grown hG1 (Nat.le_trans hG HBq.out.size) (fun b e => by injection e with e; omega))
            clear hR1 hG1 hc1 hc2
            have hc1 := HV1.out.at_ hlt
            have hf1 := HV1.out.fr j
            go_wp2_with fail
            have HN1 : Hid (N ≠ ga) := by show _ ≠ _; have := HLt1.out; omega
            refine (next_any _ (N + 1) _ B1 A1 kb sb y x (HR2.out.far (i := j) (show ga ≠ N + 1 by have := HLt1.out; omega) _) hb1 ha1 hbd2.1 hbd2.2 hy9 hx9).mono ?_
            rintro e w2 ⟨rfl, hR2, hG2⟩
            have HX1 := Lib.hid ((HV1.out.put j _).keep hG2 (fun e => by injection e with e; have := HLt1.out; omega))
            have HX2 := Lib.hid ((HV2.out.far (i := j) (Ne.symm hg1) _).keep hG2 (fun e => by injection e with e; have := HLt2.out; omega))
            have HY1 := Lib.hid ((HR1.out.far (i := j) (Ne.symm HN1.out) _).grown hG2 (fun e => by injection e with e; omega))
            have HY2 := Lib.hid hR2
            have HBs := Lib.hid ((HBr.out.setCell (p := ⟨ga, j, none⟩) HU1.out.lt.1 _).grown hG2 (by rw [World.size_setCell]; exact Nat.le_trans hG HBr.out.size) (fun b e => by injection e with e; omega))
            clear hR2 hG2 hc1 hf1
            have hc2 := HX2.out.at_ hlt
            have hf2 := HX2.out.fr j
            go_wp2
            go_roundw
            case rel =>
              have e1 := HX1.out.far (i := j) hg1 (.int .u32 ((blO (kb + B1 * y) (sb + A1 * x) : Nat) : Int))
              have e2 := HX2.out.put j (blO (kb + B1 * y) (sb + A1 * x))
              rw [HSt1.out] at e1
              rw [HSt2.out] at e2
              refine ⟨j + 1, by omega, by go_num, e1, e2, ?_, ?_, HBs.out.setCell (p := ⟨g, j, none⟩) HU2.out.lt.1 _⟩
              · have e3 := HY1.out.far (i := j) (show g ≠ N by have := HLt2.out; omega) (.int .u32 ((blO (kb + B1 * y) (sb + A1 * x) : Nat) : Int))
                rw [← HDa.out.1, ← HDa.out.2] at e3
                exact e3
              · have e3 := HY2.out.far (i := j) (show g ≠ N + 1 by have := HLt2.out; omega) (.int .u32 ((blO (kb + B1 * y) (sb + A1 * x) : Nat) : Int))
                rw [← HDb.out.1, ← HDb.out.2] at e3
                exact e3
            case measure => simp [intOf]; omega
          · obtain rfl : j = k := by omega
            have HE1 : Hid (val (blK A0 B0 xs ys j).1 = u) := bl_all hn hys hu9 (by rw [HVa.out, HVs.out]; exact HEQ.out.1)
            have HE2 : Hid (val (blK B1 A1 ys xs j).1 = v) := bl_all hys hn hv9 (by rw [HVa.out, HVs.out]; exact HEQ.out.2)
            have HM1 := Lib.hid (HU1.out.toLm ((blK_good _ _ _ _ _).append (HGa.out.drop _)))
            have HM2 := Lib.hid (HU2.out.toLm ((blK_good _ _ _ _ _).append (HGs.out.drop _)))
            have HD1 : Hid (xs.drop j = []) := List.drop_of_length_le (by rw [hn]; exact Nat.le_refl _)
            have HD2 : Hid (ys.drop j = []) := List.drop_of_length_le (by rw [hys]; exact Nat.le_refl _)
            rw [HD1.out, List.append_nil] at HM1 HU1
            rw [HD2.out, List.append_nil] at HM2 HU2
            go_wp2_with fail
            refine (trim_any _ _ _ _ _ _ u HM1.out HE1.out).mono ?_
            rintro e w1 ⟨rfl, rfl⟩
            go_wp2_with fail
            refine (trim_any _ _ _ _ _ _ v HM2.out HE2.out).mono ?_
            rintro e w1 ⟨rfl, rfl⟩
            go_wp2
            go_ret2
            have hl1 : (digs u).length ≤ j := digs_len.2 hu9
            have hl2 : (digs v).length ≤ j := digs_len.2 hv9
            refine ⟨_, _, _, _, rfl, (HU1.out.shrink hl1).eq (take_digs' (blK_good _ _ _ _ _) HE1.out), (HU2.out.shrink hl2).eq (take_digs' (blK_good _ _ _ _ _) HE2.out), (Ne.symm hg1), HBq.out⟩
end Go.Proofs.YtkcdijhfiahibaaDoor

/- wide.divisor and Gcd. -/
namespace Go.Proofs.YtkcdijhfiahibaaDoor
open Go.RowKit

/-- A call returns the limbs of v. -/
def RGl (w : World) (v : Nat) (e : Ending) (w' : World) : Prop := ∃ A c, e = .returned (.slice A (digs v).length c) ∧ Lm w' w'.heap.size A (digs v).length c (digs v) ∧ Below w.heap.size w w'
theorem two_lt {b : Nat} (h : (digs b).length ≤ 2) : b < 18446744073709551616 := by
  have := digs_len.1 h
  omega
theorem clone_ow' (w : World) (A : Option Addr) (n c : Nat) (xs : List Nat) (h : Lm w w.heap.size A n c xs) (hn : n ≤ 1000000000) :
    Calls Tryd.prog 61 #[.slice A n c] w fun e w' => ∃ A' c', e = .returned (.slice A' n c') ∧ Ow w' w.heap.size (.slice A' n c') xs ∧ Below w.heap.size w w' := by
  obtain ⟨i0, hi0, hz0, hz1, hz2⟩ := info_parts u32_info
  have hr := h.max
  have hl := h.len
  have HH := Lib.hid h
  have hnil := fun (w : World) (a : Option Addr) (n c n' c' : Nat) => Lib.run_eql_slice_nil (P := Tryd.prog) w 22 53 a n c n' c' slice_u32
  rcases A with _ | ad
  · have hm : n = 0 := by
      rcases Nat.eq_zero_or_pos n with h0 | h0
      · exact h0
      · obtain ⟨b, off, e, _⟩ := h.at_ h0
        cases e
    subst hm
    obtain rfl := h.nil_ rfl
    obtain rfl : xs = [] := List.eq_nil_of_length_eq_zero hl
    go_enter Tryd.func61, Tryd.ntmps61
    go_wp2
    go_ret
    exact ⟨_, _, rfl, Ow.nil _ _, Below.refl _ _⟩
  · go_enter Tryd.func61, Tryd.ntmps61
    go_wp2_with (at_builtin; refine wpList_append_lm _ rfl _ _ _ rfl w.heap.size _ i0 slice_u32 hi0 hz0 hz1 hz2 _ 0 [] rfl (World.ownsRow_made _ _ _ (Nat.le_refl _) (by simp [maxLen]) rfl) _ _ _ _ xs rfl (HH.out.box _) (by simp only [maxLen]; omega) (by omega) (by simp) ?_; intro v1 w1 hown1 hg1)
    go_ret
    rw [Nat.zero_add, List.nil_append] at hown1
    have hO : Ow w1 w.heap.size v1 xs := by unfold Ow; rw [hl]; exact hown1
    obtain ⟨A', c', rfl, hL⟩ := hO.lm HH.out.good
    rw [hl] at hO ⊢
    refine ⟨A', c', rfl, hO, ((Below.refl _ _).alloc (Nat.le_refl _) _).grown hg1 (by simp) (fun k hk => ?_)⟩
    have e : w.heap.size = k := Option.some.inj hk
    omega
theorem Ow.via {w w' : World} {B : Nat} {v : Value} {ts : List Nat} (h : Ow w B v ts) (hb : Below w.heap.size w w') : Ow w' B v ts :=
  World.ownsRow.kept (row := none) h ⟨hb.os, hb.tape, hb.output, hb.size, fun k hk _ => hb.block k hk⟩ (by cases v.ownBlock <;> simp)
/-- Two slices do not share a block. -/
def Apt (v v' : Value) : Prop := ∀ g, v.ownBlock = some g → v'.ownBlock = some g → False
/-- The number that a slice of limbs reads as. -/
def rdV (w : World) : Value → Nat
  | .slice (some ad) n _ => val ((List.range n).map fun j => match w.cell? ⟨ad.block, ad.off + j, none⟩ with | some (.int _ z) => z.toNat | _ => 0)
  | _ => 0
theorem rdV_lm {w : World} {B n c : Nat} {A : Option Addr} {xs : List Nat} (h : Lm w B A n c xs) : rdV w (.slice A n c) = val xs := by
  rcases A with _ | ad
  · rcases Nat.eq_zero_or_pos n with h0 | h0
    · obtain rfl : xs = [] := List.eq_nil_of_length_eq_zero (by rw [h.len]; exact h0)
      rfl
    · obtain ⟨b, off, e, _⟩ := h.at_ h0
      cases e
  · show val _ = _
    congr 1
    refine List.ext_getElem? fun j => ?_
    by_cases hj : j < n
    · obtain ⟨b, off, e, _, hc⟩ := h.cell hj
      injection e with e
      subst e
      rw [List.getElem?_map, List.getElem?_range hj]
      show some (match w.cell? ⟨b, off + j, none⟩ with | some (.int _ z) => z.toNat | _ => 0) = _
      rw [hc, get_nat xs j (by rw [h.len]; exact hj)]
      rfl
    · rw [List.getElem?_eq_none (by simp; omega), List.getElem?_eq_none (by rw [h.len]; omega)]
theorem rdV_ow {w : World} {B n c v : Nat} {A : Option Addr} (h : Ow w B (.slice A n c) (digs v)) : rdV w (.slice A n c) = v := by rw [rdV_lm (h.toLm (digs_good _)), digs_val]
theorem win_0 {b : Nat} (h : b < 18446744073709551616) : win b 0 = b := by unfold win; rw [Nat.pow_zero, Nat.div_one]; exact Nat.mod_eq_of_lt h

set_option maxRecDepth 100000 in
set_option maxHeartbeats 2000000 in
theorem divisor_lt (w : World) (A B : Option Addr) (n0 m0 ca cb a0 b0 : Nat) (hA : Lm w w.heap.size A n0 ca (digs a0)) (hB : Lm w w.heap.size B m0 cb (digs b0)) (hlt : b0 < a0) (hn : n0 ≤ 4096) (hm : m0 ≤ 4096) :
    Calls Tryd.prog 48 #[.slice B m0 cb, .slice A n0 ca] w (RGl w (Nat.gcd a0 b0)) := by
  obtain ⟨z, hz, HC⟩ : ∃ z : Int, decide (z < 0) = true ∧ Hid (cmpL (digs b0) (digs a0) = z) := ⟨_, by rw [cmpL_norm (digs_good _) (digs_good _) (digs_norm _) (digs_norm _), digs_val, digs_val]; rw [cmpN_lt hlt]; decide, rfl⟩
  have hcA := hA.cap
  have hxA := hA.max
  have hcB := hB.cap
  have hxB := hB.max
  have HA := Lib.hid hA
  have HB := Lib.hid hB
  have HN0 := Lib.hid hA.len
  have HM0 := Lib.hid hB.len
  have HLE : Hid (b0 ≤ a0) := by show _ ≤ _; omega
  clear hA hB hlt
  go_enter Tryd.func48, Tryd.ntmps48
  go_wp2_with fail
  refine (compare_any _ _ _ _ _ _ (digs b0) (digs a0) _ HB.out HA.out).mono ?_
  rintro e w1 ⟨he, hb1⟩
  rw [HC.out] at he
  subst he
  have HA1 := Lib.hid (HA.out.via hb1)
  have HB1 := Lib.hid (HB.out.via hb1)
  have HBl1 := Lib.hid hb1
  clear hb1
  go_wp2_with fail
  refine (clone_ow' _ _ _ _ (digs a0) HA1.out (by omega)).mono ?_
  rintro e w2 ⟨A2, c2, rfl, hO2, hb2⟩
  have HB2 := Lib.hid (HB1.out.via hb2)
  have HO2 := Lib.hid hO2
  have HS2 : Hid (w1.heap.size ≤ w2.heap.size) := hb2.size
  have HBl2 := Lib.hid (HBl1.out.trans (hb2.mono HBl1.out.size))
  clear hb2 hO2 HA1 HB1
  go_wp2_with fail
  refine (clone_ow' _ _ _ _ (digs b0) HB2.out (by omega)).mono ?_
  rintro e w3 ⟨B3, c3, rfl, hO3, hb3⟩
  have HO3 := Lib.hid hO3
  have HO23 : Hid (Ow w3 w1.heap.size (.slice A2 n0 c2) (digs a0)) := HO2.out.via hb3
  have HBl3 := Lib.hid (HBl2.out.trans (hb3.mono HBl2.out.size))
  have HAp : Hid (Apt (.slice A2 n0 c2) (.slice B3 m0 c3)) := fun g h1 h2 => by
    have e1 := (World.ownsRow.lt HO2.out g h1).2
    have e2 := (World.ownsRow.lt HO3.out g h2).1
    omega
  have HW1 : Hid (w.heap.size ≤ w1.heap.size) := HBl1.out.size
  have HW2 : Hid (w.heap.size ≤ w2.heap.size) := HBl2.out.size
  clear hb3 hO3 HB2
  go_wp2
  go_loopw [0, 1] (fun p q wr => ∃ (a b n m c2 c3 : Nat) (A2 B3 : Option Addr), p = .slice A2 n c2 ∧ q = .slice B3 m c3 ∧ (digs a).length = n ∧ (digs b).length = m ∧ Ow wr w.heap.size (.slice A2 n c2) (digs a) ∧ Ow wr w.heap.size (.slice B3 m c3) (digs b) ∧ Apt (.slice A2 n c2) (.slice B3 m c3) ∧
      b ≤ a ∧ a ≤ a0 ∧ Nat.gcd a b = Nat.gcd a0 b0 ∧ Below w.heap.size w wr) (fun p q wr => rdV wr p + rdV wr q)
  case atStart => exact ⟨a0, b0, n0, m0, c2, c3, A2, B3, rfl, rfl, HN0.out, HM0.out, HO23.out.mono HW1.out, HO3.out.mono HW2.out, HAp.out, HLE.out, Nat.le_refl _, rfl, HBl3.out⟩
  case round =>
    clear HO2 HO3 HO23 HBl1 HBl2 HBl3 HAp HS2
    obtain ⟨a, b, n, m, c2, c3, A2, B3, rfl, rfl, hN, hM, hO2, hO3, hap, hle, haa, hg, hbl⟩ := hrel
    have hn : n ≤ 4096 := by
      have e := digs_mono haa
      rw [hN, HN0.out] at e
      omega
    have hm : m ≤ 4096 := by
      have e := digs_mono (Nat.le_trans hle haa)
      rw [hM, HN0.out] at e
      omega
    have HN := Lib.hid hN
    have HM := Lib.hid hM
    have HO2 := Lib.hid hO2
    have HO3 := Lib.hid hO3
    have HA3 := Lib.hid (hO2.toLm (digs_good _))
    have HB3 := Lib.hid (hO3.toLm (digs_good _))
    have HBl3 := Lib.hid hbl
    have HAp := Lib.hid hap
    have HGG := Lib.hid hg
    have HLE := Lib.hid hle
    have HAA := Lib.hid haa
    have hc2 := HA3.out.cap
    have hx2 := HA3.out.max
    have hc3 := HB3.out.cap
    have hx3 := HB3.out.max
    clear hN hM hO2 hO3 hbl hap hg hle haa
    by_cases hm2 : 2 < m
    · have hb0 : 0 < b := by rw [← digs_pos, HM.out]; omega
      have hs3 := HBl3.out.size
      go_wp2_with fail
      refine (foresee_any _ _ _ _ _ _ _ a b HA3.out HB3.out HLE.out (by omega) (by omega)).mono ?_
      rintro e w4 ⟨c, A0, B0, A1, B1, rfl, hc9, ⟨p, s, x, y, A2', B2', hI⟩, hb4⟩
      have HI := Lib.hid hI
      have HP2 := Lib.hid (HO2.out.via hb4)
      have HP3 := Lib.hid (HO3.out.via hb4)
      have HBl4 := Lib.hid (HBl3.out.trans (hb4.mono HBl3.out.size))
      clear hI hb4
      by_cases hc : 0 < c
      · obtain ⟨u, v, hvu, huv, hsum, hua, t1, t2, t3, t4, t5, t6⟩ := leh_take HI.out hc hb0
        have HU := Lib.hid hvu
        have HUV := Lib.hid huv
        have HSum := Lib.hid hsum
        have HUA := Lib.hid hua
        have HT5 := Lib.hid t5
        have HT6 := Lib.hid t6
        obtain ⟨ga, rfl, e1, _⟩ := HP2.out.ob (by rw [HN.out]; have := digs_mono HLE.out; rw [HN.out, HM.out] at this; omega)
        obtain ⟨gb, rfl, e2, _⟩ := HP3.out.ob (by rw [HM.out]; omega)
        have HNe : Hid (ga ≠ gb) := fun e => HAp.out ga rfl (by rw [e]; rfl)
        have HUB : Hid (u < 4294967296 ^ n) := Nat.lt_of_le_of_lt hua (digs_len.1 (Nat.le_of_eq HN.out))
        have HVB : Hid (v < 4294967296 ^ n) := Nat.lt_of_le_of_lt hvu HUB.out
        have HMN : Hid (m ≤ n) := by have := digs_mono HLE.out; rw [HN.out, HM.out] at this; exact this
        have hs4 := HBl4.out.size
        clear hvu huv hsum hua t5 t6 e1 e2
        go_wp2_with fail
        refine (take_any _ w.heap.size ga gb n m c2 c3 a b c A0 B0 A1 B1 (HP2.out.alloc _) (HP3.out.alloc _) HNe.out (by simp; omega) HN.out HM.out HMN.out (by omega) (by omega) hc9 t1 t2 t3 t4 u v HUB.out HVB.out HT5.out HT6.out).mono ?_
        rintro e w6 ⟨g1, k1, g2, k2, rfl, hU6, hV6, hne6, hb6⟩
        have HU6 := Lib.hid hU6
        have HV6 := Lib.hid hV6
        have HNe6 := Lib.hid hne6
        have HBl6 := Lib.hid ((HBl4.out.alloc hs4 _).trans hb6)
        clear hU6 hV6 hne6 hb6
        go_wp2
        go_roundw
        case rel =>
          exact ⟨u, v, _, _, k1, k2, some ⟨g1, 0, none⟩, some ⟨g2, 0, none⟩, rfl, rfl, rfl, rfl, HU6.out, HV6.out, (fun g e1 e2 => by injection e1 with e1; injection e2 with e2; exact HNe6.out (e1.trans e2.symm)), HU.out, Nat.le_trans HUA.out HAA.out, HUV.out.trans HGG.out, HBl6.out⟩
        case measure =>
          rw [rdV_ow HU6.out, rdV_ow HV6.out, rdV_ow HO2.out, rdV_ow HO3.out]
          exact HSum.out
      · have hcd : decide (0 < c) = false := by simpa using hc
        have HA4 := Lib.hid (HP2.out.toLm (digs_good _))
        have HB4 := Lib.hid (HP3.out.toLm (digs_good _))
        have hs4 := HBl4.out.size
        go_wp2_with fail
        refine (divide_ow _ A2 B3 n m c2 c3 a b (HA4.out.box _) (HB4.out.box _) HLE.out (by omega) (by omega)).mono ?_
        rintro e w6 ⟨Q, cq, R, cr, rfl, _, hR6, hb6⟩
        have HR6 := Lib.hid hR6
        have HP6 := Lib.hid ((HP3.out.alloc _).via hb6)
        have HBl6 := Lib.hid ((HBl4.out.alloc hs4 _).trans (hb6.mono (by simp; omega)))
        have HX : Hid (w.heap.size ≤ w4.heap.size + 1) := by show _ ≤ _; omega
        clear hR6 hb6
        go_wp2
        go_roundw
        case rel =>
          exact ⟨b, a % b, m, _, c3, cr, B3, R, rfl, rfl, HM.out, rfl, HP6.out, HR6.out.mono (by simp only [World.size_alloc]; exact HX.out), (fun g e1 e2 => by
            have l1 := (World.ownsRow.lt HP3.out g e1).2
            have l2 := (World.ownsRow.lt HR6.out g e2).1
            simp only [World.size_alloc] at l2
            omega), Nat.le_of_lt (Nat.mod_lt a hb0), Nat.le_trans HLE.out HAA.out, by rw [← HGG.out, Nat.gcd_comm b, ← Nat.gcd_rec, Nat.gcd_comm], HBl6.out⟩
        case measure =>
          rw [rdV_ow HP6.out, rdV_ow HR6.out, rdV_ow HO2.out, rdV_ow HO3.out]
          have := Nat.mod_lt a hb0
          have := HLE.out
          omega
    · have hb9 : b < 18446744073709551616 := two_lt (by rw [HM.out]; omega)
      have HWb := Lib.hid (win_0 hb9)
      have hm2' : m ≤ 2 := by omega
      clear hm2
      rcases Nat.eq_zero_or_pos m with h0 | h0
      · have HG : Hid (Nat.gcd a b = a) := by
          show _ = _
          obtain rfl : b = 0 := digs_nil.1 (List.eq_nil_of_length_eq_zero (by rw [HM.out]; exact h0))
          exact Nat.gcd_zero_right a
        subst h0
        go_wp2
        go_ret
        rw [← HGG.out, HG.out]
        exact ⟨A2, c2, by rw [HN.out]; rfl, by rw [HN.out]; exact HA3.out, HBl3.out⟩
      · have hb0 : 0 < b := by rw [← digs_pos, HM.out]; exact h0
        have hmz : ((m : Int) == 0) = false := by simp; omega
        go_wp2_with fail
        refine (divide_any wr A2 B3 n m c2 c3 a b HA3.out HB3.out hb0 (by omega)).mono ?_
        rintro e w4 ⟨Q, cq, R, cr, rfl, hQ, hR, hb4⟩
        have hr9 := Nat.mod_lt a hb0
        have HB4 := Lib.hid (HB3.out.via hb4)
        have HBl4 := Lib.hid (HBl3.out.trans (hb4.mono HBl3.out.size))
        have HR4 := Lib.hid hR
        have HWr : Hid (win (a % b) 0 = a % b) := win_0 (by omega)
        clear hQ hR hb4
        go_wp2_with fail
        refine (window_any w4 B3 m c3 (digs b) b 0 HB4.out (digs_val b) (by omega) (by omega)).mono ?_
        rintro e w5 ⟨rfl, d5, rfl⟩
        go_wp2_with fail
        refine (window_any _ R _ cr (digs (a % b)) (a % b) 0 (HR4.out.drewN d5) (digs_val _) (by omega) (by omega)).mono ?_
        rintro e w6 ⟨rfl, d6, rfl⟩
        rw [show (Int.toNat 0) = 0 from rfl, HWb.out, HWr.out]
        have HG : Hid (Nat.gcd b (a % b) = Nat.gcd a b) := by show _ = _; rw [Nat.gcd_comm b, ← Nat.gcd_rec, Nat.gcd_comm]
        obtain ⟨r, hr⟩ : ∃ r, a % b = r := ⟨_, rfl⟩
        rw [hr] at HG hr9 ⊢
        have HR := Lib.hid hr
        clear hr
        go_wp2
        go_loopw [10, 11] (fun x y wr => ∃ p q d : Nat, x = .int .u64 (p : Int) ∧ y = .int .u64 (q : Int) ∧ p < 18446744073709551616 ∧ q < 18446744073709551616 ∧ Nat.gcd p q = Nat.gcd a b ∧ wr = w4.drewN d) (fun _ y _ => (intOf y).toNat)
        case atStart => exact ⟨b, r, _, rfl, rfl, hb9, by omega, HG.out, rfl⟩
        case round =>
          obtain ⟨p, q, d, rfl, rfl, hp, hq, hg, rfl⟩ := hrel
          have HGp := Lib.hid hg
          clear hg
          by_cases hq0 : q = 0
          · subst hq0
            have HGq : Hid (p = Nat.gcd a b) := by show _ = _; rw [← HGp.out, Nat.gcd_zero_right]
            go_wp2_with fail
            refine (trim_any _ _ _ _ _ _ p (Lm.two _ _ _ (p % 4294967296) (p / 4294967296 % 4294967296) _ _ rfl (by omega) (by omega) (by omega) (by omega)) (val2 p hp)).mono ?_
            rintro e w7 ⟨rfl, rfl⟩
            go_wp2
            go_ret
            rw [← HGG.out, ← HGq.out]
            exact ⟨_, _, rfl, ((Lm.two _ _ _ (p % 4294967296) (p / 4294967296 % 4294967296) _ _ rfl (by omega) (by omega) (by omega) (by omega)).trim' (val2 p hp)).mono (by simp), (bdrewN HBl4.out d).alloc HBl4.out.size _⟩
          · have hq1 : 0 < q := Nat.pos_of_ne_zero hq0
            have hqi : ¬ ((q : Int) = 0) := by omega
            have hm0 : (p : Int) % (q : Int) = ((p % q : Nat) : Int) := by rw [← Int.natCast_emod]
            have hm1 : (p : Int).tmod (q : Int) = ((p % q : Nat) : Int) := by rw [Int.tmod_eq_emod_of_nonneg (by omega), ← Int.natCast_emod]
            have hl := Nat.mod_lt p hq1
            have HG2 : Hid (Nat.gcd q (p % q) = Nat.gcd a b) := by show _ = _; rw [Nat.gcd_comm q, ← Nat.gcd_rec, Nat.gcd_comm, HGp.out]
            generalize p % q = s at *
            clear hq0
            go_wp2_with fail
            go_quiet (fail)
            go_wp2
            go_roundw
            case rel => exact ⟨q, s, _, rfl, rfl, hq, by omega, HG2.out, drewN_add w4 _ _⟩
            case measure => simp [intOf]; omega

set_option maxRecDepth 100000 in
set_option maxHeartbeats 2000000 in
theorem divisor_ge (w : World) (A B : Option Addr) (n0 m0 ca cb a0 b0 : Nat) (hA : Lm w w.heap.size A n0 ca (digs a0)) (hB : Lm w w.heap.size B m0 cb (digs b0)) (hlt : b0 ≤ a0) (hn : n0 ≤ 4096) (hm : m0 ≤ 4096) :
    Calls Tryd.prog 48 #[.slice A n0 ca, .slice B m0 cb] w (RGl w (Nat.gcd a0 b0)) := by
  obtain ⟨z, hz, HC⟩ : ∃ z : Int, decide (z < 0) = false ∧ Hid (cmpL (digs a0) (digs b0) = z) := ⟨_, by rw [cmpL_norm (digs_good _) (digs_good _) (digs_norm _) (digs_norm _), digs_val, digs_val]; unfold cmpN; rw [if_neg (by omega)]; split <;> decide, rfl⟩
  have hcA := hA.cap
  have hxA := hA.max
  have hcB := hB.cap
  have hxB := hB.max
  have HA := Lib.hid hA
  have HB := Lib.hid hB
  have HN0 := Lib.hid hA.len
  have HM0 := Lib.hid hB.len
  have HLE : Hid (b0 ≤ a0) := by show _ ≤ _; omega
  clear hA hB hlt
  go_enter Tryd.func48, Tryd.ntmps48
  go_wp2_with fail
  refine (compare_any _ _ _ _ _ _ (digs a0) (digs b0) _ HA.out HB.out).mono ?_
  rintro e w1 ⟨he, hb1⟩
  rw [HC.out] at he
  subst he
  have HA1 := Lib.hid (HA.out.via hb1)
  have HB1 := Lib.hid (HB.out.via hb1)
  have HBl1 := Lib.hid hb1
  clear hb1
  go_wp2_with fail
  refine (clone_ow' _ _ _ _ (digs a0) HA1.out (by omega)).mono ?_
  rintro e w2 ⟨A2, c2, rfl, hO2, hb2⟩
  have HB2 := Lib.hid (HB1.out.via hb2)
  have HO2 := Lib.hid hO2
  have HS2 : Hid (w1.heap.size ≤ w2.heap.size) := hb2.size
  have HBl2 := Lib.hid (HBl1.out.trans (hb2.mono HBl1.out.size))
  clear hb2 hO2 HA1 HB1
  go_wp2_with fail
  refine (clone_ow' _ _ _ _ (digs b0) HB2.out (by omega)).mono ?_
  rintro e w3 ⟨B3, c3, rfl, hO3, hb3⟩
  have HO3 := Lib.hid hO3
  have HO23 : Hid (Ow w3 w1.heap.size (.slice A2 n0 c2) (digs a0)) := HO2.out.via hb3
  have HBl3 := Lib.hid (HBl2.out.trans (hb3.mono HBl2.out.size))
  have HAp : Hid (Apt (.slice A2 n0 c2) (.slice B3 m0 c3)) := fun g h1 h2 => by
    have e1 := (World.ownsRow.lt HO2.out g h1).2
    have e2 := (World.ownsRow.lt HO3.out g h2).1
    omega
  have HW1 : Hid (w.heap.size ≤ w1.heap.size) := HBl1.out.size
  have HW2 : Hid (w.heap.size ≤ w2.heap.size) := HBl2.out.size
  clear hb3 hO3 HB2
  go_wp2
  go_loopw [0, 1] (fun p q wr => ∃ (a b n m c2 c3 : Nat) (A2 B3 : Option Addr), p = .slice A2 n c2 ∧ q = .slice B3 m c3 ∧ (digs a).length = n ∧ (digs b).length = m ∧ Ow wr w.heap.size (.slice A2 n c2) (digs a) ∧ Ow wr w.heap.size (.slice B3 m c3) (digs b) ∧ Apt (.slice A2 n c2) (.slice B3 m c3) ∧
      b ≤ a ∧ a ≤ a0 ∧ Nat.gcd a b = Nat.gcd a0 b0 ∧ Below w.heap.size w wr) (fun p q wr => rdV wr p + rdV wr q)
  case atStart => exact ⟨a0, b0, n0, m0, c2, c3, A2, B3, rfl, rfl, HN0.out, HM0.out, HO23.out.mono HW1.out, HO3.out.mono HW2.out, HAp.out, HLE.out, Nat.le_refl _, rfl, HBl3.out⟩
  case round =>
    clear HO2 HO3 HO23 HBl1 HBl2 HBl3 HAp HS2
    obtain ⟨a, b, n, m, c2, c3, A2, B3, rfl, rfl, hN, hM, hO2, hO3, hap, hle, haa, hg, hbl⟩ := hrel
    have hn : n ≤ 4096 := by
      have e := digs_mono haa
      rw [hN, HN0.out] at e
      omega
    have hm : m ≤ 4096 := by
      have e := digs_mono (Nat.le_trans hle haa)
      rw [hM, HN0.out] at e
      omega
    have HN := Lib.hid hN
    have HM := Lib.hid hM
    have HO2 := Lib.hid hO2
    have HO3 := Lib.hid hO3
    have HA3 := Lib.hid (hO2.toLm (digs_good _))
    have HB3 := Lib.hid (hO3.toLm (digs_good _))
    have HBl3 := Lib.hid hbl
    have HAp := Lib.hid hap
    have HGG := Lib.hid hg
    have HLE := Lib.hid hle
    have HAA := Lib.hid haa
    have hc2 := HA3.out.cap
    have hx2 := HA3.out.max
    have hc3 := HB3.out.cap
    have hx3 := HB3.out.max
    clear hN hM hO2 hO3 hbl hap hg hle haa
    by_cases hm2 : 2 < m
    · have hb0 : 0 < b := by rw [← digs_pos, HM.out]; omega
      have hs3 := HBl3.out.size
      go_wp2_with fail
      refine (foresee_any _ _ _ _ _ _ _ a b HA3.out HB3.out HLE.out (by omega) (by omega)).mono ?_
      rintro e w4 ⟨c, A0, B0, A1, B1, rfl, hc9, ⟨p, s, x, y, A2', B2', hI⟩, hb4⟩
      have HI := Lib.hid hI
      have HP2 := Lib.hid (HO2.out.via hb4)
      have HP3 := Lib.hid (HO3.out.via hb4)
      have HBl4 := Lib.hid (HBl3.out.trans (hb4.mono HBl3.out.size))
      clear hI hb4
      by_cases hc : 0 < c
      · obtain ⟨u, v, hvu, huv, hsum, hua, t1, t2, t3, t4, t5, t6⟩ := leh_take HI.out hc hb0
        have HU := Lib.hid hvu
        have HUV := Lib.hid huv
        have HSum := Lib.hid hsum
        have HUA := Lib.hid hua
        have HT5 := Lib.hid t5
        have HT6 := Lib.hid t6
        obtain ⟨ga, rfl, e1, _⟩ := HP2.out.ob (by rw [HN.out]; have := digs_mono HLE.out; rw [HN.out, HM.out] at this; omega)
        obtain ⟨gb, rfl, e2, _⟩ := HP3.out.ob (by rw [HM.out]; omega)
        have HNe : Hid (ga ≠ gb) := fun e => HAp.out ga rfl (by rw [e]; rfl)
        have HUB : Hid (u < 4294967296 ^ n) := Nat.lt_of_le_of_lt hua (digs_len.1 (Nat.le_of_eq HN.out))
        have HVB : Hid (v < 4294967296 ^ n) := Nat.lt_of_le_of_lt hvu HUB.out
        have HMN : Hid (m ≤ n) := by have := digs_mono HLE.out; rw [HN.out, HM.out] at this; exact this
        have hs4 := HBl4.out.size
        clear hvu huv hsum hua t5 t6 e1 e2
        go_wp2_with fail
        refine (take_any _ w.heap.size ga gb n m c2 c3 a b c A0 B0 A1 B1 (HP2.out.alloc _) (HP3.out.alloc _) HNe.out (by simp; omega) HN.out HM.out HMN.out (by omega) (by omega) hc9 t1 t2 t3 t4 u v HUB.out HVB.out HT5.out HT6.out).mono ?_
        rintro e w6 ⟨g1, k1, g2, k2, rfl, hU6, hV6, hne6, hb6⟩
        have HU6 := Lib.hid hU6
        have HV6 := Lib.hid hV6
        have HNe6 := Lib.hid hne6
        have HBl6 := Lib.hid ((HBl4.out.alloc hs4 _).trans hb6)
        clear hU6 hV6 hne6 hb6
        go_wp2
        go_roundw
        case rel =>
          exact ⟨u, v, _, _, k1, k2, some ⟨g1, 0, none⟩, some ⟨g2, 0, none⟩, rfl, rfl, rfl, rfl, HU6.out, HV6.out, (fun g e1 e2 => by injection e1 with e1; injection e2 with e2; exact HNe6.out (e1.trans e2.symm)), HU.out, Nat.le_trans HUA.out HAA.out, HUV.out.trans HGG.out, HBl6.out⟩
        case measure =>
          rw [rdV_ow HU6.out, rdV_ow HV6.out, rdV_ow HO2.out, rdV_ow HO3.out]
          exact HSum.out
      · have hcd : decide (0 < c) = false := by simpa using hc
        have HA4 := Lib.hid (HP2.out.toLm (digs_good _))
        have HB4 := Lib.hid (HP3.out.toLm (digs_good _))
        have hs4 := HBl4.out.size
        go_wp2_with fail
        refine (divide_ow _ A2 B3 n m c2 c3 a b (HA4.out.box _) (HB4.out.box _) HLE.out (by omega) (by omega)).mono ?_
        rintro e w6 ⟨Q, cq, R, cr, rfl, _, hR6, hb6⟩
        have HR6 := Lib.hid hR6
        have HP6 := Lib.hid ((HP3.out.alloc _).via hb6)
        have HBl6 := Lib.hid ((HBl4.out.alloc hs4 _).trans (hb6.mono (by simp; omega)))
        have HX : Hid (w.heap.size ≤ w4.heap.size + 1) := by show _ ≤ _; omega
        clear hR6 hb6
        go_wp2
        go_roundw
        case rel =>
          exact ⟨b, a % b, m, _, c3, cr, B3, R, rfl, rfl, HM.out, rfl, HP6.out, HR6.out.mono (by simp only [World.size_alloc]; exact HX.out), (fun g e1 e2 => by
            have l1 := (World.ownsRow.lt HP3.out g e1).2
            have l2 := (World.ownsRow.lt HR6.out g e2).1
            simp only [World.size_alloc] at l2
            omega), Nat.le_of_lt (Nat.mod_lt a hb0), Nat.le_trans HLE.out HAA.out, by rw [← HGG.out, Nat.gcd_comm b, ← Nat.gcd_rec, Nat.gcd_comm], HBl6.out⟩
        case measure =>
          rw [rdV_ow HP6.out, rdV_ow HR6.out, rdV_ow HO2.out, rdV_ow HO3.out]
          have := Nat.mod_lt a hb0
          have := HLE.out
          omega
    · have hb9 : b < 18446744073709551616 := two_lt (by rw [HM.out]; omega)
      have HWb := Lib.hid (win_0 hb9)
      have hm2' : m ≤ 2 := by omega
      clear hm2
      rcases Nat.eq_zero_or_pos m with h0 | h0
      · have HG : Hid (Nat.gcd a b = a) := by
          show _ = _
          obtain rfl : b = 0 := digs_nil.1 (List.eq_nil_of_length_eq_zero (by rw [HM.out]; exact h0))
          exact Nat.gcd_zero_right a
        subst h0
        go_wp2
        go_ret
        rw [← HGG.out, HG.out]
        exact ⟨A2, c2, by rw [HN.out]; rfl, by rw [HN.out]; exact HA3.out, HBl3.out⟩
      · have hb0 : 0 < b := by rw [← digs_pos, HM.out]; exact h0
        have hmz : ((m : Int) == 0) = false := by simp; omega
        go_wp2_with fail
        refine (divide_any wr A2 B3 n m c2 c3 a b HA3.out HB3.out hb0 (by omega)).mono ?_
        rintro e w4 ⟨Q, cq, R, cr, rfl, hQ, hR, hb4⟩
        have hr9 := Nat.mod_lt a hb0
        have HB4 := Lib.hid (HB3.out.via hb4)
        have HBl4 := Lib.hid (HBl3.out.trans (hb4.mono HBl3.out.size))
        have HR4 := Lib.hid hR
        have HWr : Hid (win (a % b) 0 = a % b) := win_0 (by omega)
        clear hQ hR hb4
        go_wp2_with fail
        refine (window_any w4 B3 m c3 (digs b) b 0 HB4.out (digs_val b) (by omega) (by omega)).mono ?_
        rintro e w5 ⟨rfl, d5, rfl⟩
        go_wp2_with fail
        refine (window_any _ R _ cr (digs (a % b)) (a % b) 0 (HR4.out.drewN d5) (digs_val _) (by omega) (by omega)).mono ?_
        rintro e w6 ⟨rfl, d6, rfl⟩
        rw [show (Int.toNat 0) = 0 from rfl, HWb.out, HWr.out]
        have HG : Hid (Nat.gcd b (a % b) = Nat.gcd a b) := by show _ = _; rw [Nat.gcd_comm b, ← Nat.gcd_rec, Nat.gcd_comm]
        obtain ⟨r, hr⟩ : ∃ r, a % b = r := ⟨_, rfl⟩
        rw [hr] at HG hr9 ⊢
        have HR := Lib.hid hr
        clear hr
        go_wp2
        go_loopw [10, 11] (fun x y wr => ∃ p q d : Nat, x = .int .u64 (p : Int) ∧ y = .int .u64 (q : Int) ∧ p < 18446744073709551616 ∧ q < 18446744073709551616 ∧ Nat.gcd p q = Nat.gcd a b ∧ wr = w4.drewN d) (fun _ y _ => (intOf y).toNat)
        case atStart => exact ⟨b, r, _, rfl, rfl, hb9, by omega, HG.out, rfl⟩
        case round =>
          obtain ⟨p, q, d, rfl, rfl, hp, hq, hg, rfl⟩ := hrel
          have HGp := Lib.hid hg
          clear hg
          by_cases hq0 : q = 0
          · subst hq0
            have HGq : Hid (p = Nat.gcd a b) := by show _ = _; rw [← HGp.out, Nat.gcd_zero_right]
            go_wp2_with fail
            refine (trim_any _ _ _ _ _ _ p (Lm.two _ _ _ (p % 4294967296) (p / 4294967296 % 4294967296) _ _ rfl (by omega) (by omega) (by omega) (by omega)) (val2 p hp)).mono ?_
            rintro e w7 ⟨rfl, rfl⟩
            go_wp2
            go_ret
            rw [← HGG.out, ← HGq.out]
            exact ⟨_, _, rfl, ((Lm.two _ _ _ (p % 4294967296) (p / 4294967296 % 4294967296) _ _ rfl (by omega) (by omega) (by omega) (by omega)).trim' (val2 p hp)).mono (by simp), (bdrewN HBl4.out d).alloc HBl4.out.size _⟩
          · have hq1 : 0 < q := Nat.pos_of_ne_zero hq0
            have hqi : ¬ ((q : Int) = 0) := by omega
            have hm0 : (p : Int) % (q : Int) = ((p % q : Nat) : Int) := by rw [← Int.natCast_emod]
            have hm1 : (p : Int).tmod (q : Int) = ((p % q : Nat) : Int) := by rw [Int.tmod_eq_emod_of_nonneg (by omega), ← Int.natCast_emod]
            have hl := Nat.mod_lt p hq1
            have HG2 : Hid (Nat.gcd q (p % q) = Nat.gcd a b) := by show _ = _; rw [Nat.gcd_comm q, ← Nat.gcd_rec, Nat.gcd_comm, HGp.out]
            generalize p % q = s at *
            clear hq0
            go_wp2_with fail
            go_quiet (fail)
            go_wp2
            go_roundw
            case rel => exact ⟨q, s, _, rfl, rfl, hq, by omega, HG2.out, drewN_add w4 _ _⟩
            case measure => simp [intOf]; omega

theorem divisor_any (w : World) (A B : Option Addr) (n m ca cb a b : Nat) (hA : Lm w w.heap.size A n ca (digs a)) (hB : Lm w w.heap.size B m cb (digs b)) (hn : n ≤ 4096) (hm : m ≤ 4096) :
    Calls Tryd.prog 48 #[.slice A n ca, .slice B m cb] w (RGl w (Nat.gcd a b)) := by
  rcases Nat.lt_or_ge a b with h | h
  · rw [Nat.gcd_comm]
    exact divisor_lt w B A m n cb ca b a hB hA h hm hn
  · exact divisor_ge w A B n m ca cb a b hA hB h hn hm

set_option maxRecDepth 100000 in
set_option maxHeartbeats 1000000 in
theorem gcd_any (w : World) (na nb : Bool) (A B : Option Addr) (n m ca cb a b : Nat) (hA : Lm w w.heap.size A n ca (digs a)) (hB : Lm w w.heap.size B m cb (digs b)) (hv : chkB na (digs a) nb (digs b) = 0) (hn : n ≤ 4096) (hm : m ≤ 4096) :
    Calls Tryd.prog 21 #[.agg #[.bool na, .slice A n ca], .agg #[.bool nb, .slice B m cb]] w (RW w (mkN false (Nat.gcd a b)) (mkL (Nat.gcd a b)) (mkE (Nat.gcd a b))) := by
  have HA := Lib.hid hA
  have HB := Lib.hid hB
  have HV := Lib.hid hv
  clear hv
  go_enter Tryd.func21, Tryd.ntmps21
  go_wp2_with fail
  refine (both_any _ _ _ _ _ _ _ _ _ _ _ 0 (((HA.out.box _).box _).box _) (((HB.out.box _).box _).box _) HV.out).mono ?_
  rintro e w1 ⟨rfl, hb1⟩
  have ⟨hx0, hx1, hy0, hy1, hz0, hz1, hf0, hf1, hsz⟩ := box3 hb1
  have HA1 := Lib.hid ((((HA.out.box _).box _).box _).via hb1)
  have HB1 := Lib.hid ((((HB.out.box _).box _).box _).via hb1)
  have HBl1 := Lib.hid (bbox (bbox (bbox hb1)))
  clear hb1
  go_wp2_with fail
  refine (divisor_any w1 A B n m ca cb a b HA1.out HB1.out hn hm).mono ?_
  rintro e w2 ⟨A2, c2, rfl, hL2, hb2⟩
  have hz2 := keep2 hb2 hsz ⟨hz0, hz1⟩
  have hf2 := keepF hb2 hsz ⟨hf0, hf1⟩
  have hs2 := Nat.lt_of_lt_of_le hsz hb2.size
  have HBl2 := Lib.hid (HBl1.out.trans (hb2.mono HBl1.out.size))
  clear hb2
  go_wp2_with fail
  refine (made_any _ _ _ _ _ (Nat.gcd a b) hL2).mono ?_
  rintro e w3 ⟨A3, n3, c3, rfl, hL3, hb3⟩
  have hz3 := keep2 hb3 hs2 hz2
  have hf3 := keepF hb3 hs2 hf2
  have hs3 := Nat.lt_of_lt_of_le hs2 hb3.size
  have HBl3 := Lib.hid (HBl2.out.trans (hb3.mono HBl2.out.size))
  have HL3 := Lib.hid hL3
  clear hb3 hL3 hL2 hz2 hf2 hx0 hx1 hy0 hy1 hz0 hz1 hf0 hf1
  obtain ⟨z0, z1⟩ := hz3
  obtain ⟨f0, f1⟩ := hf3
  go_wp2
  exact post_ws Tryd.results21 rfl rfl z0 z1 ⟨A3, n3, c3, rfl, HL3.out.set2 z0 z1 _ _, below_set2 HBl3.out (by omega) _ _⟩
theorem gcd_small (w : World) (na nb : Bool) (A B : Option Addr) (n m ca cb a b : Nat) (hA : Lm w w.heap.size A n ca (digs a)) (hB : Lm w w.heap.size B m cb (digs b)) (hv : chkB na (digs a) nb (digs b) = 0) (hn : n ≤ 2) (hm : m ≤ 2) :
    Calls Tryd.prog 21 #[.agg #[.bool na, .slice A n ca], .agg #[.bool nb, .slice B m cb]] w (RW w (mkN false (Nat.gcd a b)) (mkL (Nat.gcd a b)) (mkE (Nat.gcd a b))) :=
  gcd_any w na nb A B n m ca cb a b hA hB hv (by omega) (by omega)
end Go.Proofs.YtkcdijhfiahibaaDoor

/- Square roots by Newton's rule, in numbers. -/
namespace Go.Proofs.YtkcdijhfiahibaaDoor
theorem sq_le {a b : Nat} : 2 * a * b ≤ a * a + b * b := by
  rcases Nat.le_total a b with h | h
  · obtain ⟨d, rfl⟩ := Nat.le.dest h
    have : (a + d) * (a + d) = a * a + 2 * a * d + d * d := by grind
    have : 2 * a * (a + d) = 2 * (a * a) + 2 * a * d := by grind
    have := Nat.zero_le (d * d)
    omega
  · obtain ⟨d, rfl⟩ := Nat.le.dest h
    have : (b + d) * (b + d) = b * b + 2 * b * d + d * d := by grind
    have : 2 * (b + d) * b = 2 * (b * b) + 2 * b * d := by grind
    have := Nat.zero_le (d * d)
    omega
theorem le_of_sq {d t : Nat} (h : t * t ≤ d * d) : t ≤ d := by
  rcases Nat.lt_or_ge d t with h1 | h1
  · have := Nat.mul_self_lt_mul_self h1
    omega
  · exact h1
/-- One step of Newton's rule: the next number is less than a unit away. -/
theorem newton_core {N Y T p q : Nat} (hY : 0 < p) (h2 : 2 * p = Y) (hTT : T * T ≤ 2 * Y) (hTY : T ≤ Y) (h3 : (Y - T) * (Y - T) < N) (h4 : N < (Y + T) * (Y + T)) (hq : 2 * Y * q ≤ N) (hq' : N < 2 * Y * (q + 1)) :
    (p + q - 1) * (p + q - 1) < N ∧ N < (p + q + 1) * (p + q + 1) := by
  subst h2
  constructor
  · obtain ⟨u, hu⟩ : ∃ u, p + q = u + 1 := ⟨p + q - 1, by omega⟩
    rw [hu, Nat.add_sub_cancel]
    refine Nat.lt_of_not_le fun hN => ?_
    have e1 : 2 * (2 * p) * (p + q) = 2 * p * (2 * p) + 2 * (2 * p) * q := by grind
    rw [hu] at e1
    have e2 : 2 * (2 * p) * (u + 1) = 2 * (2 * p) * u + 2 * (2 * p) := by grind
    have hm : 2 * (2 * p) * u + 2 * (2 * p) ≤ 2 * p * (2 * p) + N := by omega
    clear e1 e2
    rcases Nat.le_total u (2 * p) with h | h
    · obtain ⟨d, hd⟩ := Nat.le.dest h
      have e3 : d * d + 2 * (2 * p) * u = 2 * p * (2 * p) + u * u := by rw [← hd]; grind
      have hT : T ≤ d := le_of_sq (by omega)
      have h5 : u ≤ 2 * p - T := by omega
      have := Nat.mul_le_mul h5 h5
      omega
    · obtain ⟨d, hd⟩ := Nat.le.dest h
      have e3 : d * d + 2 * (2 * p) * u = 2 * p * (2 * p) + u * u := by rw [← hd]; grind
      have hT : T ≤ d := le_of_sq (by omega)
      have e4 : (2 * p + T) * (2 * p + T) = 2 * p * (2 * p) + 2 * (2 * p) * T + T * T := by grind
      have e5 : 2 * (2 * p) * u = 2 * (2 * p * (2 * p)) + 2 * (2 * p) * d := by rw [← hd]; grind
      have h6 : 2 * (2 * p) * T ≤ 2 * (2 * p) * d := Nat.mul_le_mul_left _ hT
      omega
  · refine Nat.lt_of_not_le fun hN => ?_
    have h5 := @sq_le (2 * p) (p + q + 1)
    have e1 : 2 * (2 * p) * (p + q + 1) = 2 * p * (2 * p) + 2 * (2 * p) * (q + 1) := by grind
    omega
/-- r is the root of v, rounded down. -/
def IsRt (v r : Nat) : Prop := r * r ≤ v ∧ v < (r + 1) * (r + 1)
theorem IsRt.uniq {v r s : Nat} (h : IsRt v r) (k : IsRt v s) : r = s := by
  have h1 : r < s + 1 := Nat.lt_of_not_le fun h' => by have := Nat.mul_le_mul h' h'; have := h.1; have := k.2; omega
  have h2 : s < r + 1 := Nat.lt_of_not_le fun h' => by have := Nat.mul_le_mul h' h'; have := k.1; have := h.2; omega
  omega
/-- a is nearer than a unit to the root of the number v without its lowest 2 * (c - e) digits. -/
def RtInv (v c e a : Nat) : Prop := 2 ^ e ≤ a ∧ (a - 1) * (a - 1) < v / 4 ^ (c - e) ∧ v / 4 ^ (c - e) < (a + 1) * (a + 1)
theorem rt_start {v c : Nat} (h1 : 4 ^ c ≤ v) (h2 : v < 4 ^ (c + 1)) : RtInv v c 0 1 := by
  refine ⟨by simp, ?_, ?_⟩
  · simp only [Nat.sub_self, Nat.mul_zero, Nat.sub_zero]
    exact (Nat.le_div_iff_mul_le (Nat.pow_pos (by omega))).2 (by omega)
  · rw [Nat.sub_zero]
    exact (Nat.div_lt_iff_lt_mul (Nat.pow_pos (by omega))).2 (by rw [Nat.pow_succ] at h2; omega)
theorem rt_end {v c a : Nat} (h : RtInv v c c a) : (a - 1) * (a - 1) < v ∧ v < (a + 1) * (a + 1) := by
  have := h.2
  simpa using this
theorem rt_root {v a : Nat} (h0 : 1 ≤ a) (h : (a - 1) * (a - 1) < v ∧ v < (a + 1) * (a + 1)) : IsRt v (if v < a * a then a - 1 else a) := by
  split
  · exact ⟨by omega, by rw [Nat.sub_add_cancel h0]; assumption⟩
  · exact ⟨by omega, h.2⟩
theorem rt_mid {N a k M q : Nat} (hk : 2 ^ k ≤ a) (hlo : (a - 1) * (a - 1) < M) (hhi : M < (a + 1) * (a + 1)) (hM : N / (2 ^ (k + 1) * 2 ^ (k + 1)) = M) (hq : N / (2 * (2 ^ (k + 1) * a)) = q) :
    (2 ^ k * a + q - 1) * (2 ^ k * a + q - 1) < N ∧ N < (2 ^ k * a + q + 1) * (2 ^ k * a + q + 1) := by
  have ha0 : 0 < a := Nat.lt_of_lt_of_le (Nat.pow_pos (by omega)) hk
  have hTp : 0 < 2 ^ (k + 1) * 2 ^ (k + 1) := Nat.mul_pos (Nat.pow_pos (by omega)) (Nat.pow_pos (by omega))
  have hT2 : 2 ^ (k + 1) = 2 * 2 ^ k := by rw [Nat.pow_succ]; omega
  have n1 := Nat.div_mul_le_self N (2 ^ (k + 1) * 2 ^ (k + 1))
  have n2 := Nat.lt_mul_div_succ N hTp
  have hT0 : 0 < 2 ^ (k + 1) := Nat.pow_pos (by omega)
  have hTT : 2 ^ (k + 1) * 2 ^ (k + 1) ≤ 2 * (2 ^ (k + 1) * a) := by
    have := Nat.mul_le_mul_left (2 ^ (k + 1)) hk
    rw [hT2] at this ⊢
    have e : 2 * 2 ^ k * (2 * 2 ^ k) = 2 * (2 * 2 ^ k * 2 ^ k) := by grind
    omega
  have hpY : 2 * (2 ^ k * a) = 2 ^ (k + 1) * a := by rw [hT2]; grind
  have hP : 0 < 2 ^ k * a := Nat.mul_pos (Nat.pow_pos (by omega)) ha0
  rw [hM] at n1 n2
  clear hM hT2
  generalize hT : 2 ^ (k + 1) = T at *
  clear hT
  have hY : 0 < T * a := Nat.mul_pos hT0 ha0
  have q1 := Nat.mul_div_le N (2 * (T * a))
  have q2 := Nat.lt_mul_div_succ N (show 0 < 2 * (T * a) by omega)
  rw [hq] at q1 q2
  refine @newton_core N (T * a) T (2 ^ k * a) q hP hpY hTT (Nat.le_mul_of_pos_right _ ha0) ?_ ?_ q1 q2
  · have e : (T * a - T) * (T * a - T) = (a - 1) * (a - 1) * (T * T) := by
      rw [show T * a - T = T * (a - 1) from by rw [Nat.mul_sub, Nat.mul_one]]; grind
    rw [e]
    have h5 := Nat.mul_lt_mul_of_pos_right hlo hTp
    omega
  · have e : (T * a + T) * (T * a + T) = (a + 1) * (a + 1) * (T * T) := by grind
    rw [e]
    have h5 := Nat.mul_le_mul_right (T * T) (Nat.succ_le_of_lt hhi)
    rw [Nat.mul_comm (T * T)] at n2
    exact Nat.lt_of_lt_of_le n2 h5
theorem rt_step {v c d e a : Nat} (hc : d ≤ c) (h0 : e < d) (hd : d ≤ 2 * e + 1) (h1 : 4 ^ c ≤ v) (h : RtInv v c e a) :
    RtInv v c d (a * 2 ^ (d - e - 1) + v / 2 ^ (2 * c - e - d + 1) / a) := by
  obtain ⟨ha, hlo, hhi⟩ := h
  obtain ⟨k, rfl⟩ : ∃ k, d = e + k + 1 := ⟨d - e - 1, by omega⟩
  have hk : 2 ^ k ≤ a := Nat.le_trans (Nat.pow_le_pow_right (by omega) (by omega)) ha
  rw [show e + k + 1 - e - 1 = k from by omega]
  have hM : v / 4 ^ (c - (e + k + 1)) / (2 ^ (k + 1) * 2 ^ (k + 1)) = v / 4 ^ (c - e) := by
    rw [Nat.div_div_eq_div_mul]
    congr 1
    rw [show (4 : Nat) = 2 ^ 2 from rfl, ← Nat.pow_mul, ← Nat.pow_mul, ← Nat.pow_add, ← Nat.pow_add]
    congr 1
    omega
  have hq : v / 4 ^ (c - (e + k + 1)) / (2 * (2 ^ (k + 1) * a)) = v / 2 ^ (2 * c - e - (e + k + 1) + 1) / a := by
    rw [Nat.div_div_eq_div_mul, Nat.div_div_eq_div_mul]
    congr 1
    rw [show (4 : Nat) = 2 ^ 2 from rfl, ← Nat.pow_mul, show 2 * (2 ^ (k + 1) * a) = 2 ^ (k + 2) * a from by rw [Nat.pow_succ 2 (k + 1)]; grind, ← Nat.mul_assoc, ← Nat.pow_add]
    congr 2
    omega
  have core := rt_mid hk hlo hhi hM hq
  rw [Nat.mul_comm a]
  refine ⟨?_, core⟩
  have h4 : 4 ^ (e + k + 1) ≤ v / 4 ^ (c - (e + k + 1)) := by
    refine (Nat.le_div_iff_mul_le (Nat.pow_pos (by omega))).2 ?_
    rw [← Nat.pow_add, show e + k + 1 + (c - (e + k + 1)) = c from by omega]
    exact h1
  have h5 : 2 ^ (e + k + 1) * 2 ^ (e + k + 1) < (2 ^ k * a + v / 2 ^ (2 * c - e - (e + k + 1) + 1) / a + 1) * (2 ^ k * a + v / 2 ^ (2 * c - e - (e + k + 1) + 1) / a + 1) := by
    rw [show (4 : Nat) = 2 * 2 from rfl, Nat.mul_pow] at h4
    exact Nat.lt_of_le_of_lt h4 core.2
  refine Nat.le_of_lt_succ (Nat.lt_of_not_le fun h6 => ?_)
  have := Nat.mul_le_mul h6 h6
  exact Nat.lt_irrefl _ (Nat.lt_of_lt_of_le h5 this)
end Go.Proofs.YtkcdijhfiahibaaDoor

/-
  The contract of bits.Len where the number is less than 65536.
-/
namespace Go.Proofs.YtkcdijhfiahibaaDoor
open Go.RowKit
set_option maxRecDepth 100000 in
set_option maxHeartbeats 400000 in
theorem len64_c (w : World) (x : Int) (h0 : 256 ≤ x) (h1 : x < 65536) :
    Calls Tryd.prog 70 #[.int .u64 x] w fun e w' => e = .returned (.int .i64 (Lib.bitLen x.toNat)) ∧ w = w' := by
  have hT : ∀ w, (Instr.index 9 (.string Lib.len8tab) (.int .u8 (x / 256))).run Tryd.prog w = .ok (.int .u8 (Lib.len8 (x / 256))) w := fun w => Lib.run_index_len8tab w 9 .u8 (x / 256) Tryd.underlying9 (by omega) (by omega)
  have hE : Hid (Lib.len8 (x / 256) = Lib.bitLen (x / 256).toNat) := Lib.len8_of (x / 256) (by omega) (by omega)
  have hL := Lib.hid (Lib.bitLen_le8' (x / 256) (by omega) (by omega))
  have hs := Lib.hid (Lib.bitLen_shift8 x.toNat (by omega) (by omega))
  have he : Hid ((x / 256).toNat = x.toNat / 256) := by show _ = _; omega
  go_enter Tryd.func70, Tryd.ntmps70
  go_wp2
  go_ret
  refine ⟨ret_int ?_, rfl⟩
  rw [hE.out]
  have l := hL.out
  have s := hs.out
  rw [he.out] at l ⊢
  unfold wrap64
  omega
set_option maxRecDepth 100000 in
set_option maxHeartbeats 400000 in
theorem len64_d (w : World) (x : Int) (h0 : 0 ≤ x) (h1 : x < 256) :
    Calls Tryd.prog 70 #[.int .u64 x] w fun e w' => e = .returned (.int .i64 (Lib.bitLen x.toNat)) ∧ w = w' := by
  have hT : ∀ w, (Instr.index 9 (.string Lib.len8tab) (.int .u8 (x))).run Tryd.prog w = .ok (.int .u8 (Lib.len8 (x))) w := fun w => Lib.run_index_len8tab w 9 .u8 (x) Tryd.underlying9 (by omega) (by omega)
  have hE : Hid (Lib.len8 (x) = Lib.bitLen (x).toNat) := Lib.len8_of (x) (by omega) (by omega)
  have hL := Lib.hid (Lib.bitLen_le8' (x) (by omega) (by omega))
  go_enter Tryd.func70, Tryd.ntmps70
  go_wp2
  go_ret
  refine ⟨ret_int ?_, rfl⟩
  rw [hE.out]
  have l := hL.out
  unfold wrap64
  omega
theorem len64_any (w : World) (x : Int) (h0 : 0 ≤ x) (h1 : x < 65536) :
    Calls Tryd.prog 70 #[.int .u64 x] w fun e w' => e = .returned (.int .i64 (Lib.bitLen x.toNat)) ∧ w = w' := by
  by_cases c : 256 ≤ x
  · exact len64_c w x c (by omega)
  exact len64_d w x h0 (by omega)
set_option maxRecDepth 100000 in
set_option maxHeartbeats 400000 in
theorem len_any (w : World) (x : Int) (h0 : 0 ≤ x) (h1 : x < 65536) :
    Calls Tryd.prog 42 #[.int .u64 x] w fun e w' => e = .returned (.int .i64 (Lib.bitLen x.toNat)) ∧ w = w' := by
  go_enter Tryd.func42, Tryd.ntmps42
  go_wp2_with (go_at_call 70; refine (len64_any _ _ (by omega) (by omega)).mono ?_; rintro e w' ⟨rfl, rfl⟩)
  go_ret
  exact ⟨rfl, rfl⟩
end Go.Proofs.YtkcdijhfiahibaaDoor

/- wide.root: the square root, rounded down. -/
namespace Go.Proofs.YtkcdijhfiahibaaDoor
open Go.RowKit

theorem rt_le {v c e x : Nat} (h : RtInv v c e x) : x ≤ v := by
  have h1 := h.2.1
  have h2 : v / 4 ^ (c - e) ≤ v := Nat.div_le_self _ _
  refine Nat.le_of_not_lt fun h3 => ?_
  have h4 := Nat.mul_le_mul (show v ≤ x - 1 by omega) (show v ≤ x - 1 by omega)
  rcases Nat.eq_zero_or_pos v with h5 | h5
  · subst h5; omega
  · have h6 := Nat.mul_le_mul_left v h5
    omega
theorem rt_pos {v c e x : Nat} (h : RtInv v c e x) : 1 ≤ x := Nat.le_trans (Nat.pow_pos (by omega)) h.1
/-- A call returns the root of v. -/
def RR (w : World) (v : Nat) (e : Ending) (w' : World) : Prop := ∃ r A c, IsRt v r ∧ e = .returned (.slice A (digs r).length c) ∧ Lm w' w'.heap.size A (digs r).length c (digs r) ∧ Below w.heap.size w w'

set_option maxRecDepth 100000 in
set_option maxHeartbeats 2000000 in
theorem root_any (w : World) (A : Option Addr) (n c v : Nat) (hA : Lm w w.heap.size A n c (digs v)) (hv : 0 < v) (hn : n ≤ 4096) :
    Calls Tryd.prog 41 #[.slice A n c] w (RR w v) := by
  have hl := hA.len
  obtain ⟨hL0, hL1, hL2⟩ := lenS_pos hv
  have hL9 : lenS (digs v) ≤ 32 * n := by
    refine lenS_le.2 ?_
    have := digs_len.1 (Nat.le_of_eq hl)
    rwa [Nat.pow_mul]
  obtain ⟨h, hh⟩ : ∃ h, (lenS (digs v) - 1) / 2 = h := ⟨_, rfl⟩
  have h4lo : 4 ^ h ≤ v := by
    rw [show (4 : Nat) = 2 ^ 2 from rfl, ← Nat.pow_mul]
    exact Nat.le_trans (Nat.pow_le_pow_right (by omega) (by omega)) hL1
  have h4hi : v < 4 ^ (h + 1) := by
    rw [show (4 : Nat) = 2 ^ 2 from rfl, ← Nat.pow_mul]
    exact Nat.lt_of_lt_of_le hL2 (Nat.pow_le_pow_right (by omega) (by omega))
  have hh1 : 2 * h + 1 ≤ lenS (digs v) := by omega
  have hh2 : lenS (digs v) ≤ 2 * h + 2 := by omega
  have hh9 : h < 65536 := by omega
  have HLO := Lib.hid h4lo
  have HHI := Lib.hid h4hi
  have hbl : Lib.bitLen h ≤ 16 := Lib.bitLen_le h 16 (by omega) (by omega)
  have HA := Lib.hid hA
  have HN := Lib.hid hl
  have hcA := hA.cap
  have hxA := hA.max
  obtain ⟨L, hLe⟩ : ∃ L, lenS (digs v) = L := ⟨_, rfl⟩
  have HLe := Lib.hid hLe
  rw [hLe] at hL0 hL9 hh1 hh2
  clear hA hl hL1 hL2 hh h4lo h4hi hLe
  go_enter Tryd.func41, Tryd.ntmps41
  go_wp2_with fail
  refine (length_any _ _ _ _ _ HA.out (by omega)).mono ?_
  rintro e w1 ⟨rfl, rfl⟩
  rw [HLe.out]
  go_wp2_with fail
  rw [show ((L : Int) - 1) / 2 = (h : Int) from by omega]
  refine (len_any _ _ (by omega) (by omega)).mono ?_
  rintro e w1 ⟨rfl, rfl⟩
  rw [show ((h : Int)).toNat = h from by omega]
  have HB2 : Hid (h < 2 ^ Lib.bitLen h) := by
    show _ < _
    rcases Nat.eq_zero_or_pos h with h0 | h0
    · subst h0; exact Nat.pow_pos (by omega)
    · exact (bitLen_bounds (by omega) (by omega)).2.2
  have HB1 : Hid (∀ k, k < Lib.bitLen h → 2 ^ k ≤ h) := by
    show ∀ k, _ → _
    intro k hk
    rcases Nat.eq_zero_or_pos h with h0 | h0
    · subst h0; rw [show Lib.bitLen 0 = 0 from rfl] at hk; omega
    · exact Nat.le_trans (Nat.pow_le_pow_right (by omega) (by omega)) (bitLen_bounds (by omega) (by omega)).2.1
  generalize Lib.bitLen h = bl at *
  go_wp2
  go_loopw [4, 5, 6] (fun a d i wr => ∃ (k x : Nat) (A' : Option Addr) (c' : Nat), k ≤ bl ∧ i = .int .i64 k ∧ d = .int .i64 (h / 2 ^ k : Nat) ∧ a = .slice A' (digs x).length c' ∧ Lm wr wr.heap.size A' (digs x).length c' (digs x) ∧ RtInv v h (h / 2 ^ k) x ∧ Below w.heap.size w wr)
    (fun _ _ i _ => (intOf i).toNat)
  case atStart =>
    refine ⟨bl, 1, some ⟨w.heap.size, 0, none⟩, 1, Nat.le_refl _, rfl, ?_, rfl, Lm.one w 1 1 rfl (by omega), ?_, (Below.refl _ _).alloc (Nat.le_refl _) _⟩
    · rw [Nat.div_eq_of_lt HB2.out]; rfl
    · rw [Nat.div_eq_of_lt HB2.out]; exact rt_start HLO.out HHI.out
  case round =>
    obtain ⟨k, x, A1, c1, hk, rfl, rfl, rfl, hX, hI, hb⟩ := hrel
    have HX := Lib.hid hX
    have HI := Lib.hid hI
    have HBl := Lib.hid hb
    have hxc := hX.cap
    have hxm := hX.max
    have hxp := rt_pos hI
    have hxl : (digs x).length ≤ n := by rw [← HN.out]; exact digs_mono (rt_le hI)
    have HA1 := Lib.hid ((HA.out.below hb).mono hb.size)
    clear hX hI hb
    rcases k with _ | k
    · have HF := Lib.hid (rt_root (rt_pos HI.out) (rt_end (by simpa using HI.out)))
      have HXv : Hid (val (digs x) * val (digs x) = x * x) := by show _ = _; rw [digs_val]
      go_wp2_with fail
      refine (product_any wr A1 A1 _ _ c1 c1 (digs x) (digs x) (x * x) HX.out HX.out (by omega) (by omega) HXv.out).mono ?_
      rintro e w1 ⟨A2, c2, rfl, hL2, hb2⟩
      have HX2 := Lib.hid (HX.out.via hb2)
      have HA2 := Lib.hid (HA1.out.via hb2)
      have HBl2 := Lib.hid (HBl.out.trans (hb2.mono HBl.out.size))
      have HL2 := Lib.hid hL2
      clear hL2 hb2
      go_wp2_with fail
      refine (compare_any _ _ _ _ _ _ (digs (x * x)) (digs v) _ HL2.out HA2.out).mono ?_
      rintro e w2 ⟨he, hb3⟩
      rw [cmpL_norm (digs_good _) (digs_good _) (digs_norm _) (digs_norm _), digs_val, digs_val] at he
      have HX3 := Lib.hid (HX2.out.via hb3)
      have HBl3 := Lib.hid (HBl2.out.trans (hb3.mono HBl2.out.size))
      clear hb3
      by_cases hlt : v < x * x
      · rw [cmpN_gt hlt] at he
        subst he
        have HF2 : Hid (IsRt v (x - 1)) := by have := HF.out; rwa [if_pos hlt] at this
        have hx1 : 1 ≤ (digs x).length := digs_pos.2 hxp
        clear hlt
        go_wp2_with fail
        refine (difference_any _ _ _ _ _ _ _ (digs x) [1] (x - 1) (HX3.out.box _) (Lm.one w2 1 1 rfl (by omega)) hx1 (by omega) (by rw [digs_val, val_one]; exact hxp) (by rw [digs_val, val_one])).mono ?_
        rintro e w3 ⟨A3, c3, rfl, hL3, hb4⟩
        have HBl4 := Lib.hid (HBl3.out.trans (bbox hb4 |>.mono HBl3.out.size))
        have HL3 := Lib.hid hL3
        clear hL3 hb4
        go_wp2
        go_ret
        exact ⟨_, _, _, HF2.out, rfl, HL3.out, HBl4.out⟩
      · have HF2 : Hid (IsRt v x) := by have := HF.out; rwa [if_neg hlt] at this
        obtain ⟨z, hz, HC⟩ : ∃ z : Int, z ≤ 0 ∧ Hid (cmpN (x * x) v = z) := ⟨_, by unfold cmpN; split; omega; split <;> omega, rfl⟩
        rw [HC.out] at he
        subst he
        clear hlt
        go_wp2
        go_ret
        exact ⟨_, _, _, HF2.out, rfl, HX3.out, HBl3.out⟩
    · obtain ⟨d, hd⟩ : ∃ d, h / 2 ^ k = d := ⟨_, rfl⟩
      obtain ⟨ee, he⟩ : ∃ ee, h / 2 ^ (k + 1) = ee := ⟨_, rfl⟩
      have hde : d / 2 = ee := by rw [← hd, ← he, Nat.pow_succ, Nat.div_div_eq_div_mul]
      have hdh : d ≤ h := by rw [← hd]; exact Nat.div_le_self _ _
      have hd1 : 1 ≤ d := by rw [← hd]; exact (Nat.le_div_iff_mul_le (Nat.pow_pos (by omega))).2 (by rw [Nat.one_mul]; exact HB1.out k (by omega))
      have hed : ee < d := by omega
      have hd2 : d ≤ 2 * ee + 1 := by omega
      have hee : 1 ≤ ee ∨ ee = 0 ∧ d = 1 := by omega
      have hk9 : k < 16 := by omega
      rw [he] at HI ⊢
      have HS := Lib.hid (rt_step hdh hed hd2 HLO.out HI.out)
      have HD := Lib.hid hd
      have hdq : (h : Int) / 2 ^ k = (d : Int) := by rw [cast_shr, hd]
      clear hd he
      go_wp2_with fail
      rw [show (2 * (h : Int) - (ee : Int) - (d : Int) + 1) = ((2 * h - ee - d + 1 : Nat) : Int) from by omega]
      refine (right_any wr A n c (2 * h - ee - d + 1) v _ HA1.out (by omega) (by omega) rfl).mono ?_
      rintro e w1 ⟨A2, c2, rfl, hL2, hb2⟩
      have HX2 := Lib.hid (HX.out.via hb2)
      have HBl2 := Lib.hid (HBl.out.trans (hb2.mono HBl.out.size))
      have HL2 := Lib.hid hL2
      clear hL2 hb2
      go_wp2_with fail
      refine (divide_any w1 A2 A1 _ _ c2 c1 _ x HL2.out HX2.out (by omega) (Nat.le_trans (digs_mono (Nat.div_le_self _ _)) (by rw [HN.out]; omega))).mono ?_
      rintro e w2 ⟨Q, cq, R, cr, rfl, hQ, hR, hb3⟩
      have HX3 := Lib.hid (HX2.out.via hb3)
      have HBl3 := Lib.hid (HBl2.out.trans (hb3.mono HBl2.out.size))
      have HQ := Lib.hid hQ
      have hqc := hQ.cap
      have hqm := hQ.max
      clear hQ hR hb3
      go_wp2_with fail
      rw [show ((d : Int) - (ee : Int) - 1) = ((d - ee - 1 : Nat) : Int) from by omega]
      refine (left_any w2 A1 _ c1 (d - ee - 1) (digs x) (x * 2 ^ (d - ee - 1)) HX3.out (by omega) (by omega) (by rw [digs_val])).mono ?_
      rintro e w3 ⟨A3, c3, rfl, hL3, hb4⟩
      have HQ4 := Lib.hid (HQ.out.via hb4)
      have HBl4 := Lib.hid (HBl3.out.trans (hb4.mono HBl3.out.size))
      have HL4 := Lib.hid hL3
      clear hL3 hb4
      have hyl : (digs (x * 2 ^ (d - ee - 1))).length ≤ n := by rw [← HN.out]; exact digs_mono (Nat.le_trans (Nat.le_add_right _ _) (rt_le HS.out))
      have hql : (digs (v / 2 ^ (2 * h - ee - d + 1) / x)).length ≤ n := by rw [← HN.out]; exact digs_mono (Nat.le_trans (Nat.div_le_self _ _) (Nat.div_le_self _ _))
      go_wp2_with fail
      refine (sum_any w3 A3 Q _ _ c3 cq _ _ (x * 2 ^ (d - ee - 1) + v / 2 ^ (2 * h - ee - d + 1) / x) HL4.out HQ4.out (by omega) (by omega) (by rw [digs_val, digs_val])).mono ?_
      rintro e w4 ⟨A4, c4, rfl, hL5, hb5⟩
      have HBl5 := Lib.hid (HBl4.out.trans (hb5.mono HBl4.out.size))
      have HL5 := Lib.hid hL5
      clear hL5 hb5
      go_wp2
      go_roundw
      case rel => exact ⟨k, _, A4, c4, by omega, by first | rfl | go_num, by rw [HD.out], rfl, HL5.out, by rw [HD.out]; exact HS.out, HBl5.out⟩
      case measure => simp [intOf]
end Go.Proofs.YtkcdijhfiahibaaDoor

/- wide.Sqrt. -/
namespace Go.Proofs.YtkcdijhfiahibaaDoor
open Go.RowKit

set_option maxRecDepth 100000 in
set_option maxHeartbeats 400000 in
theorem sqrt_bad (w : World) (neg : Bool) (A : Option Addr) (n c : Nat) (xs : List Nat) (h : Lm w w.heap.size A n c xs) (hc : chk neg xs = 8) :
    Calls Tryd.prog 15 #[.agg #[.bool neg, .slice A n c]] w (RW w false [] 8) := by
  have HH := Lib.hid h
  have HC := Lib.hid hc
  clear hc
  go_enter Tryd.func15, Tryd.ntmps15
  go_wp2_with (go_at_call 28; refine (check_bad _ _ _ _ _ _ ((HH.out.box _).box _) HC.out).mono ?_; rintro e w1 ⟨rfl, hb1⟩; have ⟨hx0, hx1, hy0, hy1, hf0, hf1, hsz⟩ := box2 hb1)
  exact post_ws Tryd.results15 rfl rfl hy0 hy1 ⟨none, 0, 0, rfl, Lm.nil _ _, below_set2 (bbox (bbox hb1)) (by omega) _ _⟩
set_option maxRecDepth 100000 in
set_option maxHeartbeats 400000 in
theorem sqrt_neg (w : World) (A : Option Addr) (n c : Nat) (xs : List Nat) (h : Lm w w.heap.size A n c xs) (hc : chk true xs = 0) :
    Calls Tryd.prog 15 #[.agg #[.bool true, .slice A n c]] w (RW w false [] 2) := by
  have HH := Lib.hid h
  have HC := Lib.hid hc
  clear hc
  go_enter Tryd.func15, Tryd.ntmps15
  go_wp2_with (go_at_call 28; refine (check_ok _ _ _ _ _ _ ((HH.out.box _).box _) HC.out).mono ?_; rintro e w1 ⟨rfl, hb1⟩; have ⟨hx0, hx1, hy0, hy1, hf0, hf1, hsz⟩ := box2 hb1)
  exact post_ws Tryd.results15 rfl rfl hy0 hy1 ⟨none, 0, 0, rfl, Lm.nil _ _, below_set2 (bbox (bbox hb1)) (by omega) _ _⟩
set_option maxRecDepth 100000 in
set_option maxHeartbeats 400000 in
theorem sqrt_zero (w : World) (A : Option Addr) (c : Nat) (h : Lm w w.heap.size A 0 c []) :
    Calls Tryd.prog 15 #[.agg #[.bool false, .slice A 0 c]] w (RW w false [] 0) := by
  have HH := Lib.hid h
  have HC : Hid (chk false [] = 0) := by show _ = _; decide
  go_enter Tryd.func15, Tryd.ntmps15
  go_wp2_with (go_at_call 28; refine (check_ok _ _ _ _ _ _ ((HH.out.box _).box _) HC.out).mono ?_; rintro e w1 ⟨rfl, hb1⟩; have ⟨hx0, hx1, hy0, hy1, hf0, hf1, hsz⟩ := box2 hb1)
  exact post_ws Tryd.results15 rfl rfl hy0 hy1 ⟨none, 0, 0, rfl, Lm.nil _ _, below_set2 (bbox (bbox hb1)) (by omega) _ _⟩

/-- A call returns the root of v as a number. -/
def RQ (w : World) (v : Nat) (e : Ending) (w' : World) : Prop := ∃ r, IsRt v r ∧ RW w false (digs r) 0 e w'
theorem rt_zero : IsRt 0 0 := ⟨Nat.le_refl _, by decide⟩
theorem IsRt.le {v r : Nat} (h : IsRt v r) : r ≤ v := by
  rcases Nat.eq_zero_or_pos r with h0 | h0
  · omega
  · exact Nat.le_trans (Nat.le_mul_of_pos_left r h0) h.1

set_option maxRecDepth 100000 in
set_option maxHeartbeats 1000000 in
theorem sqrt_pos (w : World) (A : Option Addr) (n c v : Nat) (h : Lm w w.heap.size A n c (digs v)) (hc : chk false (digs v) = 0) (hv : 0 < v) :
    Calls Tryd.prog 15 #[.agg #[.bool false, .slice A n c]] w (RQ w v) := by
  have hl := (chk_ok.1 hc).1
  have HL4 := Lib.hid hl
  have hln := h.len
  rw [hln] at hl
  have hn0 : 0 < n := by rw [← hln, digs_pos]; exact hv
  have HH := Lib.hid h
  have HC := Lib.hid hc
  have hcc := h.cap
  have hxx := h.max
  have hz : ((n : Int) == 0) = false := by simp; omega
  clear hc h hln
  go_enter Tryd.func15, Tryd.ntmps15
  go_wp2_with fail
  refine (check_ok _ _ _ _ _ _ ((HH.out.box _).box _) HC.out).mono ?_
  rintro e w1 ⟨rfl, hb1⟩
  have ⟨hx0, hx1, hy0, hy1, hf0, hf1, hsz⟩ := box2 hb1
  have HL := Lib.hid (((HH.out.box _).box _).via hb1)
  have HB1 := Lib.hid hb1
  clear hb1
  go_wp2_with fail
  refine (root_any w1 A n c v HL.out hv hl).mono ?_
  rintro e w2 ⟨r, A2, c2, hr, rfl, hL2, hb2⟩
  have hky2 := keep2 hb2 hsz ⟨hy0, hy1⟩
  have hkf2 := keepF hb2 hsz ⟨hf0, hf1⟩
  have hs2 := Nat.lt_of_lt_of_le hsz hb2.size
  have HR := Lib.hid hr
  clear hr
  go_wp2_with fail
  refine (made_any _ _ _ _ _ r hL2).mono ?_
  rintro e w3 ⟨A3, n3, c3, rfl, hL3, hb3⟩
  have hky3 := keep2 hb3 hs2 hky2
  have hkf3 := keepF hb3 hs2 hkf2
  have hs3 := Nat.lt_of_lt_of_le hs2 hb3.size
  have HB3 := Lib.hid ((bbox (bbox HB1.out)).trans ((hb2.trans (hb3.mono hb2.size)).mono (by have := HB1.out.size; simp only [World.size_alloc] at this; omega)))
  have HL3 := Lib.hid hL3
  have hlr : (digs r).length ≤ 4096 := Nat.le_trans (digs_mono HR.out.le) HL4.out
  have E1 : Hid (mkN false r = false) := by show _ = _; unfold mkN; simp
  have E2 : Hid (mkL r = digs r) := by show _ = _; unfold mkL; rw [if_pos hlr]
  have E3 : Hid (mkE r = 0) := by show _ = _; unfold mkE; rw [if_pos hlr]
  clear hb2 hb3 hL2 hL3 hky2 hkf2 hx0 hx1 hy0 hy1 hf0 hf1
  obtain ⟨k0, k1⟩ := hky3
  obtain ⟨f0, f1⟩ := hkf3
  rw [E1.out, E3.out]
  rw [E2.out] at HL3
  go_wp2
  exact post_ws Tryd.results15 rfl rfl k0 k1 ⟨r, HR.out, A3, n3, c3, rfl, HL3.out.set2 k0 k1 _ _, below_set2 HB3.out (by omega) _ _⟩

theorem sqrt_ok (w : World) (A : Option Addr) (n c v : Nat) (h : Lm w w.heap.size A n c (digs v)) (hc : chk false (digs v) = 0) :
    Calls Tryd.prog 15 #[.agg #[.bool false, .slice A n c]] w (RQ w v) := by
  rcases Nat.eq_zero_or_pos v with h0 | h0
  · subst h0
    obtain rfl : n = 0 := h.len.symm
    exact (sqrt_zero w A c h).mono fun _ _ hr => ⟨0, rt_zero, hr⟩
  · exact sqrt_pos w A n c v h hc h0
end Go.Proofs.YtkcdijhfiahibaaDoor

/- Decimal texts of numbers, in groups of nine digits. -/
namespace Go.Proofs.YtkcdijhfiahibaaDoor

/-- A number's lowest k decimal digits. -/
def padk : Nat → Nat → List UInt8
  | 0, _ => []
  | k + 1, x => padk k (x / 10) ++ [UInt8.ofNat (48 + x % 10)]
theorem padk_len (k x : Nat) : (padk k x).length = k := by
  induction k generalizing x with
  | zero => rfl
  | succ k ih => simp [padk, ih]
theorem dec_small {u : Nat} (h : u < 10) : Lib.decDigits u = [UInt8.ofNat (48 + u)] := Lib.decDigits_one h
theorem dec_big {u : Nat} (h : 10 ≤ u) : Lib.decDigits u = Lib.decDigits (u / 10) ++ [UInt8.ofNat (48 + u % 10)] := by
  rw [Lib.decDigits, dif_neg (by omega)]
theorem dec_pad (k : Nat) : ∀ (q x : Nat), 0 < q → x < 10 ^ k → Lib.decDigits (q * 10 ^ k + x) = Lib.decDigits q ++ padk k x := by
  induction k with
  | zero => intro q x hq hx; rw [Nat.pow_zero] at hx; obtain rfl : x = 0 := by omega
            simp [padk]
  | succ k ih =>
    intro q x hq hx
    have hp : 0 < 10 ^ k := Nat.pow_pos (by omega)
    rw [Nat.pow_succ] at hx ⊢
    have h1 : 10 ≤ q * (10 ^ k * 10) + x := by
      have := Nat.mul_le_mul hq (show 1 * 10 ≤ 10 ^ k * 10 by omega)
      omega
    have e1 : q * (10 ^ k * 10) = 10 * (q * 10 ^ k) := by rw [← Nat.mul_assoc, Nat.mul_comm]
    rw [dec_big h1, padk, ← List.append_assoc, ← ih q (x / 10) hq (by omega)]
    rw [e1]
    congr 2
    · congr 1; omega
    · congr 2; omega
/-- The groups of nine digits of a number, the lowest one first. -/
def gB (v : Nat) : List Nat := if h : v = 0 then [] else v % 1000000000 :: gB (v / 1000000000)
termination_by v
decreasing_by omega
theorem gB_zero : gB 0 = [] := by rw [gB]; rfl
theorem gB_pos {v : Nat} (h : 0 < v) : gB v = v % 1000000000 :: gB (v / 1000000000) := by rw [gB, dif_neg (by omega)]
theorem gB_lt : ∀ (v : Nat), ∀ x ∈ gB v, x < 1000000000 := by
  intro v
  induction v using Nat.strongRecOn with
  | _ v ih =>
    rcases Nat.eq_zero_or_pos v with h | h
    · subst h; rw [gB_zero]; intro x hx; cases hx
    · rw [gB_pos h]
      intro x hx
      rcases List.mem_cons.1 hx with rfl | hx
      · omega
      · exact ih _ (by omega) x hx
theorem gB_good (v : Nat) : Good (gB v) := fun x hx => by have := gB_lt v x hx; omega
theorem gB_drop : ∀ (v k : Nat), k ≤ (gB v).length → (gB v).drop k = gB (v / 1000000000 ^ k) := by
  intro v k
  induction k generalizing v with
  | zero => intro _; simp
  | succ k ih =>
    intro hk
    rcases Nat.eq_zero_or_pos v with h | h
    · subst h; rw [gB_zero] at hk; simp at hk
    · rw [gB_pos h] at hk ⊢
      rw [List.drop_succ_cons, ih _ (by simpa using hk), Nat.div_div_eq_div_mul, Nat.pow_succ, Nat.mul_comm]
theorem gB_get {v k : Nat} (hk : k < (gB v).length) : (gB v)[k]?.getD 0 = v / 1000000000 ^ k % 1000000000 ∧ 0 < v / 1000000000 ^ k := by
  have h1 := gB_drop v k (by omega)
  have h2 := List.drop_eq_getElem_cons hk
  have h3 : 0 < v / 1000000000 ^ k := by
    refine Nat.pos_of_ne_zero fun e => ?_
    rw [e, gB_zero, h2] at h1
    cases h1
  rw [gB_pos h3, h2] at h1
  injection h1 with h4 _
  exact ⟨by rw [List.getElem?_eq_getElem hk]; exact h4, h3⟩
theorem gB_len_pos {v : Nat} (h : 0 < v) : 0 < (gB v).length := by rw [gB_pos h]; simp
theorem gB_top {v : Nat} (h : 0 < v) : v / 1000000000 ^ ((gB v).length) = 0 ∧ v / 1000000000 ^ ((gB v).length - 1) < 1000000000 := by
  have h1 := gB_drop v _ (Nat.le_refl _)
  rw [List.drop_length] at h1
  have h2 : v / 1000000000 ^ ((gB v).length) = 0 := by
    refine Nat.eq_zero_of_not_pos fun h3 => ?_
    rw [gB_pos h3] at h1
    cases h1
  refine ⟨h2, ?_⟩
  have h4 := gB_len_pos h
  rw [show (gB v).length = ((gB v).length - 1) + 1 from by omega, Nat.pow_succ, ← Nat.div_div_eq_div_mul] at h2
  omega
/-- The text grows by a group. -/
theorem dec_step {v k : Nat} (hk : 0 < v / 1000000000 ^ (k + 1)) : Lib.decDigits (v / 1000000000 ^ k) = Lib.decDigits (v / 1000000000 ^ (k + 1)) ++ padk 9 (v / 1000000000 ^ k % 1000000000) := by
  rw [Nat.pow_succ, ← Nat.div_div_eq_div_mul] at hk ⊢
  generalize v / 1000000000 ^ k = u at *
  have h := dec_pad 9 (u / 1000000000) (u % 1000000000) hk (by omega)
  rw [← h]
  congr 1
  omega
/-- The text of a number: a sign and its digits. -/
def txt (neg : Bool) (v : Nat) : List UInt8 := (if neg = true then [45] else []) ++ Lib.decDigits v
theorem padk_pre {x j : Nat} (hj : j < 9) : padk (j + 1) (x / 10 ^ (8 - j)) = padk j (x / 10 ^ (9 - j)) ++ [UInt8.ofNat (48 + x / 10 ^ (8 - j) % 10)] := by
  rw [padk, Nat.div_div_eq_div_mul, ← Nat.pow_succ, show (8 - j).succ = 9 - j from by omega]
theorem gB_len_le {v n : Nat} (h : v < 4294967296 ^ n) : (gB v).length ≤ 2 * n + 0 := by
  refine Nat.le_of_not_lt fun hk => ?_
  have h1 := (gB_get (k := 2 * n) (by omega)).2
  have h2 : (4294967296 : Nat) ^ n ≤ 1000000000 ^ (2 * n) := by
    rw [Nat.pow_mul]
    exact Nat.pow_le_pow_left (by decide) n
  rw [Nat.div_eq_of_lt (by omega)] at h1
  omega
/-- The text that rounds over the indices ks have made. -/
def txP (gs ks : List Nat) : List UInt8 := ks.foldl (fun t k => t ++ (if k < gs.length - 1 then padk 9 (gs[k]?.getD 0) else Lib.decDigits (gs[k]?.getD 0))) []
theorem txP_snoc (gs ks : List Nat) (k : Nat) : txP gs (ks ++ [k]) = txP gs ks ++ (if k < gs.length - 1 then padk 9 (gs[k]?.getD 0) else Lib.decDigits (gs[k]?.getD 0)) := by
  unfold txP; rw [List.foldl_append]; rfl
theorem dec_len (k : Nat) : ∀ (u : Nat), u < 10 ^ (k + 1) → (Lib.decDigits u).length ≤ k + 1 := by
  induction k with
  | zero => intro u h; rw [dec_small (by simpa using h)]; simp
  | succ k ih =>
    intro u h
    rcases Nat.lt_or_ge u 10 with h1 | h1
    · rw [dec_small h1]; simp
    · rw [dec_big h1, List.length_append]
      have := ih (u / 10) (by rw [Nat.pow_succ] at h; omega)
      simp only [List.length_cons, List.length_nil]
      omega
theorem txP_len {gs : List Nat} (hg : Good gs) (ks : List Nat) : (txP gs ks).length ≤ 10 * ks.length := by
  have H : ∀ (ks : List Nat) (n : Nat), ks.length = n → (txP gs ks).length ≤ 10 * n := by
    intro ks n
    induction n generalizing ks with
    | zero => intro h; rw [List.eq_nil_of_length_eq_zero h]; exact Nat.le_refl _
    | succ n ih =>
      intro h
      have hne : ks ≠ [] := fun e => by rw [e] at h; cases h
      rw [← List.dropLast_concat_getLast hne, txP_snoc, List.length_append]
      have h1 := ih ks.dropLast (by rw [List.length_dropLast]; omega)
      split
      · rw [padk_len]; omega
      · have := dec_len 9 (gs[ks.getLast hne]?.getD 0) (by have := hg.get (ks.getLast hne); omega)
        omega
  exact H ks _ rfl
end Go.Proofs.YtkcdijhfiahibaaDoor

/- Bytes of the call's own, grown by append; wide.appendPadded. -/
namespace Go.Proofs.YtkcdijhfiahibaaDoor
open Go.RowKit

/-- A slice of bytes of the call's own making. -/
def Bw (w : World) (B : Nat) (v : Value) (ts : List UInt8) : Prop := w.ownsRow B 5 1 v ts.length (Lib.byteCells ts)
theorem u8_info : (Tryd.prog.info? 5).map (fun i => (i.zero, i.size, i.bytes)) = some (some (.int .u8 0), 1, 1) := by kernel_rfl
theorem slice_u8 : Tryd.prog.underlying 72 = some (.slice 5) := Tryd.underlying72
theorem Bw.eq {w : World} {B : Nat} {v : Value} {ts us : List UInt8} (h : Bw w B v ts) (e : ts = us) : Bw w B v us := e ▸ h
theorem wpList_append_u8 (w : World) {ops : Array Oper} {rest : List Oper} {o : Oper} {a : Act} {Q : Exit → Act → World → Prop} (hgd : o.guard = none) (s x : Operand)
    (ho : o.op = .call { callee := .builtin .append, args := #[s, x], argTypes := #[72, 72] })
    (B : Nat) (v : Value) (ts : List UInt8) (hs : a.eval s = v) (hown : Bw w B v ts) (E : Int) (y : UInt8) (c : Nat) (hE : E = (y.toNat : Int)) (hlen : ts.length < 4000000000) (hB : B ≤ w.heap.size)
    (hx : a.eval x = .slice (some ⟨w.heap.size, 0, none⟩) 1 c)
    (h : ∀ v' w', Bw w' B v' (ts ++ [y]) → Below B w w' → Lib.OthersKept 5 none w w' → wpList Tryd.prog ops Q rest (a.put o.dst v') w') :
    wpList Tryd.prog ops Q (o :: rest) a (w.alloc (.cells #[.int .u8 E] 5)) := by
  subst hE
  obtain ⟨i0, hi0, hz0, hz1, hz2⟩ := info_parts u8_info
  refine wpList_append_own (w.alloc (.cells #[.int .u8 (y.toNat : Int)] 5)) hgd s x 72 ho B 5 i0 (.int .u8 0) 1 1 slice_u8 hi0 hz0 hz1 hz2 rfl (by decide) v ts.length _ hs (World.ownsRow.alloc hown _) ⟨w.heap.size, 0, none⟩ 1 c [.int .u8 (y.toNat : Int)] hx rfl (cell_one_new w _ _) (by simp [Value.oneCell']) (by simp only [maxLen]; omega) (by omega) (by simp; omega) ?_
  intro v' w' ho' hg _
  refine h v' w' ?_ (((Below.refl B w).alloc hB _).grown hg (by simp; omega) (fun b e => (World.ownsRow.lt hown b e).1)) (((Lib.OthersKept.refl _ _ _).alloc _).grown hg (Lib.ownsRow_kind (World.ownsRow.alloc hown _)))
  have e : Lib.byteCells (ts ++ [y]) = Lib.byteCells ts ++ [.int .u8 (y.toNat : Int)] := by unfold Lib.byteCells; rw [List.map_append]; rfl
  unfold Bw
  rw [e, List.length_append]
  exact ho'

set_option maxRecDepth 100000 in
set_option maxHeartbeats 1000000 in
theorem pad_any (w : World) (B : Nat) (v : Value) (ts : List UInt8) (x : Nat) (hown : Bw w B v ts) (hB : B ≤ w.heap.size) (hx : x < 4294967296) (hlen : ts.length ≤ 1000000000) :
    Calls Tryd.prog 55 #[v, .int .u32 (x : Int)] w fun e w' => ∃ v', e = .returned v' ∧ Bw w' B v' (ts ++ padk 9 x) ∧ Below B w w' ∧ Lib.OthersKept 5 none w w' := by
  have HO := Lib.hid hown
  clear hown
  go_enter Tryd.func55, Tryd.ntmps55
  go_wp2
  go_loopw [0, 5] (fun u d wr => ∃ j : Nat, j ≤ 9 ∧ d = .int .u32 (100000000 / 10 ^ j : Nat) ∧ Bw wr B u (ts ++ padk j (x / 10 ^ (9 - j))) ∧ Below B w wr ∧ Lib.OthersKept 5 none w wr) (fun _ d _ => (intOf d).toNat)
  case atStart => exact ⟨0, by omega, rfl, by rw [show padk 0 (x / 10 ^ (9 - 0)) = [] from rfl, List.append_nil]; exact HO.out, Below.refl _ _, Lib.OthersKept.refl _ _ _⟩
  case round =>
    obtain ⟨j, hj, rfl, hu, hb, hk⟩ := hrel
    have HU := Lib.hid hu
    have HBl := Lib.hid hb
    have HK := Lib.hid hk
    have hs := hb.size
    clear hu hb hk
    by_cases h9 : j = 9
    · subst h9
      go_wp2
      go_ret
      exact ⟨_, rfl, by have e := HU.out; rw [show x / 10 ^ (9 - 9) = x from by simp] at e; exact e, HBl.out, HK.out⟩
    · have hpl := padk_len j (x / 10 ^ (9 - j))
      have HP := Lib.hid (padk_pre (x := x) (j := j) (by omega))
      obtain ⟨U, hU⟩ : ∃ U, 100000000 / 10 ^ j = U := ⟨_, rfl⟩
      have hUe : U = 10 ^ (8 - j) := by
        rw [← hU, show (100000000 : Nat) = 10 ^ 8 from rfl, Nat.pow_div (by omega) (by omega)]
      have hU1 : 1 ≤ U := by rw [hUe]; exact Nat.pow_pos (by omega)
      have hU9 : U ≤ 100000000 := by rw [← hU]; exact Nat.div_le_self _ _
      have HUe : Hid (x / U = x / 10 ^ (8 - j)) := by show _ = _; rw [hUe]
      have HUn : Hid (100000000 / 10 ^ (j + 1) = U / 10) := by show _ = _; rw [Nat.pow_succ, ← Nat.div_div_eq_div_mul, hU]
      rw [hU]
      clear hU hUe
      have hUi : ¬ ((U : Int) = 0) := by omega
      have hq0 : (x : Int) / (U : Int) = ((x / U : Nat) : Int) := by rw [← Int.natCast_ediv]
      have hq1 : (x : Int).tdiv (U : Int) = ((x / U : Nat) : Int) := by rw [Int.tdiv_eq_ediv_of_nonneg (by omega), ← Int.natCast_ediv]
      have hql := Nat.div_le_self x U
      obtain ⟨D, hD⟩ : ∃ D, x / U = D := ⟨_, rfl⟩
      rw [hD] at hq0 hq1 hql HUe
      clear hD
      go_wp2_with (at_builtin; refine wpList_append_u8 _ rfl _ _ rfl B _ (ts ++ padk j (x / 10 ^ (9 - j))) rfl HU.out _ (UInt8.ofNat (48 + x / 10 ^ (8 - j) % 10)) 1 ?_ (by rw [List.length_append, hpl]; omega) (by omega) rfl ?_; rotate_left; intro u' w1 hu1 hb1 hk1)
      · go_roundw
        case rel => exact ⟨j + 1, by omega, by rw [HUn.out]; go_num, hu1.eq (by rw [show 9 - (j + 1) = 8 - j from by omega, HP.out, List.append_assoc]), HBl.out.trans hb1, HK.out.trans hk1⟩
        case measure => simp [intOf]; omega
      · rw [← HUe.out, UInt8.toNat_ofNat']
        omega
end Go.Proofs.YtkcdijhfiahibaaDoor

/- wide.groups: the groups of nine digits. -/
namespace Go.Proofs.YtkcdijhfiahibaaDoor
open Go.RowKit

theorem Ob.take {w : World} {g : Nat} {cs : List Nat} (h : Ob w g cs) (m : Nat) : Ob w g (cs.take m) := by
  obtain ⟨cur, h1, h2, h3⟩ := h
  refine ⟨cur, h1, Nat.le_trans (by rw [List.length_take]; omega) h2, fun i hi => ?_⟩
  rw [List.length_take] at hi
  rw [h3 i (by omega), List.getElem?_take_of_lt (by omega)]
theorem Ob.eq {w : World} {g : Nat} {cs ds : List Nat} (h : Ob w g cs) (e : cs = ds) : Ob w g ds := e ▸ h
theorem take_digs {cs : List Nat} (g : Good cs) {v : Nat} (hv : val cs = v) : cs.take (digs v).length = digs v := by
  have h1 := tr_digs g rfl
  have h2 := tr_len g rfl
  rw [h2] at h1
  rw [← hv]
  exact h1
theorem Ow.kept {w w' : World} {B g : Nat} {v : Value} {ts : List Nat} (h : Ow w B v ts) (hg : w.grownBy w' (some g)) (hl : g < B) : Ow w' B v ts :=
  World.ownsRow.kept h hg (.inr fun e => by have := (World.ownsRow.lt h g e).1; omega)
theorem Ow.ne {w : World} {B g : Nat} {v : Value} {ts : List Nat} (h : Ow w B v ts) (hl : g < B) : some g ≠ v.ownBlock := fun e => by
  have := (World.ownsRow.lt h g e.symm).1
  omega

set_option maxRecDepth 100000 in
set_option maxHeartbeats 1000000 in
theorem groups_any (w : World) (A : Option Addr) (n c v : Nat) (hA : Lm w w.heap.size A n c (digs v)) (hv : 0 < v) (hn : n ≤ 4096) :
    Calls Tryd.prog 53 #[.slice A n c] w fun e w' => ∃ A' c', e = .returned (.slice A' (gB v).length c') ∧ Lm w' w'.heap.size A' (gB v).length c' (gB v) ∧ Below w.heap.size w w' := by
  have hn0 : 0 < n := by rw [← hA.len, digs_pos]; exact hv
  have hgl : (gB v).length ≤ 2 * n := gB_len_le (digs_len.1 (Nat.le_of_eq hA.len))
  have HA := Lib.hid hA
  have HN := Lib.hid hA.len
  have hcA := hA.cap
  have hxA := hA.max
  clear hA
  go_enter Tryd.func53, Tryd.ntmps53
  go_wp2_with fail
  refine (clone_own _ _ _ _ (digs v) HA.out hn0 (by omega)).mono ?_
  rintro e w1 ⟨g, c1, rfl, hc1, hx1, hg1, hO1, hb1⟩
  have HO1 := Lib.hid hO1
  have HB1 := Lib.hid hb1
  have hs1 := hb1.size
  have hgs := hO1.lt
  clear hO1 hb1
  go_wp2
  go_loopg [3, 4] (gB v).length (fun k r u wr => ∃ (q m : Nat) (ts : List Nat), (gB q).length = k ∧ r = .slice (some ⟨g, 0, none⟩) m c1 ∧ (digs q).length = m ∧ m ≤ n ∧ Ob wr g (digs q) ∧ gB v = ts ++ gB q ∧ Ow wr w1.heap.size u ts ∧ Below w.heap.size w wr ∧ w1.heap.size ≤ wr.heap.size)
  case atStart => exact ⟨v, n, [], rfl, rfl, HN.out, Nat.le_refl _, HO1.out, rfl, Ow.nil _ _, HB1.out, Nat.le_refl _⟩
  case round =>
    obtain ⟨q, m, ts, hk, rfl, hl, hm, hO, hg, hU, hb, hsz⟩ := hrel
    have HK := Lib.hid hk
    have HL := Lib.hid hl
    have HO := Lib.hid hO
    have HG := Lib.hid hg
    have HU := Lib.hid hU
    have HBl := Lib.hid hb
    have hsw := hb.size
    clear hk hl hO hg hU hb
    rcases Nat.eq_zero_or_pos q with h0 | h0
    · have hm0 : m = 0 := by rw [← HL.out, h0]; rfl
      have HE : Hid (ts = gB v) := by show _ = _; rw [HG.out, h0, gB_zero, List.append_nil]
      subst hm0
      go_wp2
      go_ret
      obtain ⟨A', c', e1, hL1⟩ := (HU.out.eq HE.out).lm (gB_good v)
      refine ⟨A', c', ?_, hL1, HBl.out⟩
      rw [← e1]
      rfl
    · have hm0 : 0 < m := by rw [← HL.out, digs_pos]; exact h0
      have HQ := Lib.hid (dvL_quot (show 0 < 1000000000 by omega) (digs q))
      have HGd := Lib.hid (dvL_good (show 0 < 1000000000 by omega) (digs_good q))
      have HDl := Lib.hid (dvL_len 1000000000 (digs q))
      have hrl := dvL_lt (show 0 < 1000000000 by omega) (digs q)
      have HE : Hid (gB v = ts ++ [(dvL 1000000000 (digs q)).2] ++ gB (q / 1000000000)) := by show _ = _; rw [HG.out, gB_pos h0, HQ.out.2, digs_val]; simp
      have hkl : Hid ((gB (q / 1000000000)).length + 1 = gk) := by show _ = _; rw [← HK.out, gB_pos h0]; rfl
      have htl : ts.length ≤ 8192 := by
        have e := congrArg List.length HG.out
        rw [List.length_append] at e
        omega
      have hqm : (digs (q / 1000000000)).length ≤ m := by rw [← HL.out]; exact digs_mono (Nat.div_le_self _ _)
      go_wp2_with fail
      refine (divideLimb_any wr g m c1 1000000000 (digs q) HO.out (digs_good q) HL.out (by omega) (by omega) (by omega) (by omega)).mono ?_
      rintro e w2 ⟨rfl, hO2, hg2⟩
      have HO2 := Lib.hid hO2
      have HU2 := Lib.hid (HU.out.kept hg2 (by omega))
      have HB2 := Lib.hid (HBl.out.grown hg2 HBl.out.size (fun k e => by injection e with e; subst e; exact hg1))
      have hs2 := hg2.size
      clear hO2 hg2
      go_wp2_with (at_builtin; refine wpList_append_u32 _ rfl _ _ rfl w1.heap.size _ _ rfl HU2.out _ ((dvL 1000000000 (digs q)).2) 1 rfl (by omega) (by omega) rfl ?_; intro u' w3 hU3 hg3)
      have HU3 := Lib.hid hU3
      have HO3 := Lib.hid (HO2.out.grown ((World.grownBy_alloc w2 _ _).trans hg3) (HU2.out.ne (by omega)))
      have HB3 := Lib.hid ((HB2.out.alloc (by omega) _).grown hg3 (by simp; omega) (fun b e => Nat.le_trans hs1 (World.ownsRow.lt HU2.out b e).1))
      have hs3 := hg3.size
      simp only [World.size_alloc] at hs3
      have hd1 := dvL_len 1000000000 (digs q)
      have HV : Hid (val (dvL 1000000000 (digs q)).1 = q / 1000000000) := by show _ = _; rw [HQ.out.1, digs_val]
      have HL3 : Hid (Lm w3 w3.heap.size (some ⟨g, 0, none⟩) m c1 (dvL 1000000000 (digs q)).1) := by
        have e := HO3.out.lm HGd.out (off := 0) (n := m) (c := c1) (by rw [HDl.out, HL.out]; omega) (by omega) (by omega)
        rwa [List.drop_zero, List.take_of_length_le (by rw [HDl.out, HL.out]; exact Nat.le_refl _)] at e
      refine (trim_any _ _ _ _ _ _ (q / 1000000000) HL3.out HV.out).mono ?_
      rintro e w4 ⟨rfl, rfl⟩
      go_wp2
      go_roundg (gB (q / 1000000000)).length
      case measure => have := hkl.out; omega
      case rel =>
        exact ⟨q / 1000000000, _, _, rfl, rfl, rfl, by omega, (HO3.out.take _).eq (take_digs HGd.out HV.out), HE.out, HU3.out, HB3.out, by omega⟩
end Go.Proofs.YtkcdijhfiahibaaDoor

/- The library's contract of internal/strconv.AppendUint, laid at this translation in plain words by the kit's command. -/
namespace Go.Proofs.YtkcdijhfiahibaaDoor
open Go.Shelf
def apuLays_ren : Go.Shelf.Ren := ⟨fun | 288 => 81 | 283 => 91 | 284 => 92 | 285 => 93 | 286 => 94 | 129 => 70 | 317 => 98 | 318 => 99 | 319 => 100 | 320 => 101 | 337 => 71 | 338 => 102 | n => n, fun | 37 => 72 | 53 => 63 | 3 => 3 | 4 => 4 | 9 => 9 | 171 => 107 | 0 => 0 | 173 => 109 | 212 => 117 | 51 => 53 | 5 => 5 | 20 => 20 | 213 => 118 | 46 => 64 | 232 => 102 | 233 => 119 | n => n, fun | 17 => 1 | 18 => 0 | 19 => 2 | n => n⟩
theorem apuLays : Go.Proofs.LaysM.n288 Tryd.prog apuLays_ren := {
  mixed := by kernel_rfl
  f129 := Tryd.func70.trans (congrArg some (by kernel_rfl))
  f283 := Tryd.func91.trans (congrArg some (by kernel_rfl))
  f284 := Tryd.func92.trans (congrArg some (by kernel_rfl))
  f285 := Tryd.func93.trans (congrArg some (by kernel_rfl))
  f286 := Tryd.func94.trans (congrArg some (by kernel_rfl))
  f288 := Tryd.func81.trans (congrArg some (by kernel_rfl))
  f317 := Tryd.func98.trans (congrArg some (by kernel_rfl))
  f318 := Tryd.func99.trans (congrArg some (by kernel_rfl))
  f319 := Tryd.func100.trans (congrArg some (by kernel_rfl))
  f320 := Tryd.func101.trans (congrArg some (by kernel_rfl))
  f337 := Tryd.func71.trans (congrArg some (by kernel_rfl))
  f338 := Tryd.func102.trans (congrArg some (by kernel_rfl))
  t0 := Tryd.underlying0
  a0 := Tryd.isAgg0
  z0 := Tryd.sizeOf0
  v0 := Tryd.zeroValue0
  t3 := Tryd.underlying3
  a3 := Tryd.isAgg3
  z3 := Tryd.sizeOf3
  v3 := Tryd.zeroValue3
  t4 := Tryd.underlying4
  a4 := Tryd.isAgg4
  z4 := Tryd.sizeOf4
  v4 := Tryd.zeroValue4
  t5 := Tryd.underlying5
  a5 := Tryd.isAgg5
  z5 := Tryd.sizeOf5
  v5 := Tryd.zeroValue5
  t9 := Tryd.underlying9
  a9 := Tryd.isAgg9
  z9 := Tryd.sizeOf9
  v9 := Tryd.zeroValue9
  t20 := Tryd.underlying20
  a20 := Tryd.isAgg20
  z20 := Tryd.sizeOf20
  v20 := Tryd.zeroValue20
  t37 := Tryd.underlying72
  a37 := Tryd.isAgg72
  z37 := Tryd.sizeOf72
  v37 := Tryd.zeroValue72
  t46 := Tryd.underlying64
  a46 := Tryd.isAgg64
  z46 := Tryd.sizeOf64
  v46 := Tryd.zeroValue64
  t51 := Tryd.underlying53
  a51 := Tryd.isAgg53
  z51 := Tryd.sizeOf53
  v51 := Tryd.zeroValue53
  t53 := Tryd.underlying63
  a53 := Tryd.isAgg63
  z53 := Tryd.sizeOf63
  v53 := Tryd.zeroValue63
  t171 := Tryd.underlying107
  a171 := Tryd.isAgg107
  z171 := Tryd.sizeOf107
  v171 := Tryd.zeroValue107
  t173 := Tryd.underlying109
  a173 := Tryd.isAgg109
  z173 := Tryd.sizeOf109
  v173 := Tryd.zeroValue109
  t212 := Tryd.underlying117
  a212 := Tryd.isAgg117
  z212 := Tryd.sizeOf117
  v212 := Tryd.zeroValue117
  t213 := Tryd.underlying118
  a213 := Tryd.isAgg118
  z213 := Tryd.sizeOf118
  t232 := Tryd.underlying102
  a232 := Tryd.isAgg102
  z232 := Tryd.sizeOf102
  v232 := Tryd.zeroValue102
  t233 := Tryd.underlying119
  a233 := Tryd.isAgg119
  z233 := Tryd.sizeOf119
  v233 := Tryd.zeroValue119
  g17 := by kernel_rfl
  g18 := by kernel_rfl
  g19 := by kernel_rfl
  i0 := by kernel_rfl
  i3 := by kernel_rfl
  i4 := by kernel_rfl
  i5 := by kernel_rfl
  i9 := by kernel_rfl
  i20 := by kernel_rfl
  i37 := by kernel_rfl
  i46 := by kernel_rfl
  i51 := by kernel_rfl
  i53 := by kernel_rfl
  i171 := by kernel_rfl
  i173 := by kernel_rfl
  i212 := by kernel_rfl
  i232 := by kernel_rfl
  i233 := by kernel_rfl
  m17 := by kernel_rfl
  m18 := by kernel_rfl
  m19 := by kernel_rfl }
open Go.RowKit Go.Sort Go.Lib in
theorem apu_10_small (B n u : Nat) (hu : u < 100) (sv : Value) (xs : List Value) (w : World) (hown : w.ownsRow B 5 1 sv n xs) (hBw : B ≤ w.heap.size) (hlim : n + 20 ≤ 140737488355328) :
    Calls Tryd.prog 81 #[sv, .int .u64 u, .int .i64 10] w fun e w' => ∃ v', e = .returned v' ∧ w'.ownsRow B 5 1 v' (n + (Lib.decDigits u).length) (xs ++ Lib.byteCells (Lib.decDigits u)) ∧ Below B w w' ∧ Lib.OthersKept 5 none w w' := Any.internal_strconv_AppendUint_10_small apuLays B n u hu sv xs w hown hBw hlim
open Go.RowKit Go.Sort Go.Lib in
theorem apu_10_big (B n u : Nat) (hu : 100 ≤ u) (hu64 : u < 18446744073709551616) (sv : Value) (xs : List Value) (w : World) (hown : w.ownsRow B 5 1 sv n xs) (hBw : B ≤ w.heap.size) (hlim : n + 20 ≤ 140737488355328) (htab : Lib.TabIs Tryd.prog w "internal/strconv.uint64pow10" .u64 Lib.pow10Tab) :
    Calls Tryd.prog 81 #[sv, .int .u64 u, .int .i64 10] w fun e w' => ∃ v', e = .returned v' ∧ w'.ownsRow B 5 1 v' (n + (Lib.decDigits u).length) (xs ++ Lib.byteCells (Lib.decDigits u)) ∧ Below B w w' ∧ Lib.OthersKept 5 none w w' := Any.internal_strconv_AppendUint_10_big apuLays B n u hu hu64 sv xs w hown hBw hlim htab
end Go.Proofs.YtkcdijhfiahibaaDoor

/- wide.Text: the text of a number. -/
namespace Go.Proofs.YtkcdijhfiahibaaDoor
open Go.RowKit Go.Shelf

/-- The table of powers of ten lies in its variable. -/
def TabU (w : World) : Prop := Lib.TabIs Tryd.prog w "internal/strconv.uint64pow10" .u64 Lib.pow10Tab
theorem TabU.via {w w' : World} (h : TabU w) (hb : Below w.heap.size w w') : TabU w' := (Lib.tabBelow_of_tabIs h) w' hb
theorem TabU.box {w : World} (h : TabU w) (o : Obj) : TabU (w.alloc o) := h.via ((Below.refl _ _).alloc (Nat.le_refl _) o)

set_option maxRecDepth 100000 in
set_option maxHeartbeats 1000000 in
theorem apu_any (w : World) (B : Nat) (v : Value) (ts : List UInt8) (u : Nat) (hown : Bw w B v ts) (hB : B ≤ w.heap.size) (hu : u < 18446744073709551616) (hlen : ts.length ≤ 1000000000) (hT : 100 ≤ u → TabU w) :
    Calls Tryd.prog 56 #[v, .int .u64 (u : Int), .int .i64 10] w fun e w' => ∃ v', e = .returned v' ∧ Bw w' B v' (ts ++ Lib.decDigits u) ∧ Below B w w' ∧ Lib.OthersKept 5 none w w' := by
  have HO := Lib.hid hown
  have HT := Lib.hid hT
  clear hown hT
  have fin : ∀ (v' : Value) (w' : World), w'.ownsRow B 5 1 v' (ts.length + (Lib.decDigits u).length) (Lib.byteCells ts ++ Lib.byteCells (Lib.decDigits u)) → Bw w' B v' (ts ++ Lib.decDigits u) := by
    intro v' w' h
    unfold Bw
    rw [List.length_append, show Lib.byteCells (ts ++ Lib.decDigits u) = Lib.byteCells ts ++ Lib.byteCells (Lib.decDigits u) from by unfold Lib.byteCells; rw [List.map_append]]
    exact h
  have FIN := Lib.hid fin
  clear fin
  by_cases h : u < 100
  · go_enter Tryd.func56, Tryd.ntmps56
    go_wp2_with fail
    refine (apu_10_small B ts.length u h v _ w HO.out hB (by omega)).mono ?_
    rintro e w1 ⟨v', rfl, h1, h2, h3⟩
    go_wp2
    go_ret
    exact ⟨v', rfl, FIN.out _ _ h1, h2, h3⟩
  · go_enter Tryd.func56, Tryd.ntmps56
    go_wp2_with fail
    refine (apu_10_big B ts.length u (by omega) hu v _ w HO.out hB (by omega) (HT.out (by omega))).mono ?_
    rintro e w1 ⟨v', rfl, h1, h2, h3⟩
    go_wp2
    go_ret
    exact ⟨v', rfl, FIN.out _ _ h1, h2, h3⟩

set_option maxRecDepth 100000 in
set_option maxHeartbeats 400000 in
theorem text_bad (w : World) (neg : Bool) (A : Option Addr) (n c : Nat) (xs : List Nat) (h : Lm w w.heap.size A n c xs) (hc : chk neg xs = 8) :
    Calls Tryd.prog 26 #[.agg #[.bool neg, .slice A n c]] w fun e w' => e = .returned (.tuple #[.string ⟨#[]⟩, .int .i64 8]) ∧ Below w.heap.size w w' := by
  have HH := Lib.hid h
  have HC := Lib.hid hc
  clear hc
  go_enter Tryd.func26, Tryd.ntmps26
  go_wp2_with fail
  refine (check_bad _ _ _ _ _ _ (HH.out.box _) HC.out).mono ?_
  rintro e w1 ⟨rfl, hb1⟩
  go_wp2
  go_ret2
  exact ⟨rfl, bbox hb1⟩
set_option maxRecDepth 100000 in
set_option maxHeartbeats 400000 in
theorem text_zero (w : World) (A : Option Addr) (c : Nat) (h : Lm w w.heap.size A 0 c []) :
    Calls Tryd.prog 26 #[.agg #[.bool false, .slice A 0 c]] w fun e w' => e = .returned (.tuple #[.string ⟨#[48]⟩, .int .i64 0]) ∧ Below w.heap.size w w' := by
  have HH := Lib.hid h
  have HC : Hid (chk false [] = 0) := by show _ = _; decide
  go_enter Tryd.func26, Tryd.ntmps26
  go_wp2_with fail
  refine (check_ok _ _ _ _ _ _ (HH.out.box _) HC.out).mono ?_
  rintro e w1 ⟨rfl, hb1⟩
  have ⟨hc1, hf1⟩ := bcell hb1
  have hs1 := hb1.size
  simp only [World.size_alloc] at hc1 hf1 hs1
  go_wp2
  go_ret2
  exact ⟨rfl, bbox hb1⟩
end Go.Proofs.YtkcdijhfiahibaaDoor

/- wide.Text: the text of a number other than 0. -/
namespace Go.Proofs.YtkcdijhfiahibaaDoor
open Go.RowKit Go.Shelf
attribute [local go_sem] Oper.semAt_some

theorem Bw.slice {w : World} {B : Nat} {v : Value} {ts : List UInt8} (h : Bw w B v ts) (hne : 0 < ts.length) : ∃ g cap, v = .slice (some ⟨g, 0, none⟩) ts.length cap ∧ ∀ j (hj : j < ts.length), w.cell? (Addr.add ⟨g, 0, none⟩ j) = some (.int .u8 (ts[j].toNat : Int)) := by
  rcases h.2 with ⟨_, hn⟩ | ⟨g, cap, cur, rfl, _⟩
  · omega
  · refine ⟨g, cap, rfl, fun j hj => ?_⟩
    have hc := World.ownsRow.cells h (g := g) rfl j (.int .u8 (ts[j].toNat : Int)) (by unfold Lib.byteCells; rw [List.getElem?_map, List.getElem?_eq_getElem hj]; rfl)
    exact hc
theorem dec_ne (u : Nat) : 0 < (Lib.decDigits u).length := by rw [Lib.decDigits_length]; exact Lib.nDigits_pos u
theorem keepsO {e : TypeId} {w w' : World} (h : Lib.OthersKept e none w w') (hs : w.heap.size ≤ w'.heap.size) : KeepsOthers w w' :=
  ⟨hs, fun k o hk ho => h k o hk (by simp) (fun c fz e1 => by subst e1; cases ho)⟩
theorem boxed_others {e t : TypeId} {w w' : World} {B : Nat} {v : Value} (h : Boxed w B t v) (hk : Lib.OthersKept e none w w') (hne : t ≠ e) : Boxed w' B t v :=
  hk B _ h (by simp) (fun c fz e1 => by injection e1 with _ e2 _; exact hne e2)
theorem txP_end {v N : Nat} (hN : (gB v).length = N) : ∀ (d : Nat), d < N → txP (gB v) (dsc N (N - 1 - d)) = Lib.decDigits (v / 1000000000 ^ (N - 1 - d)) := by
  intro d
  induction d with
  | zero =>
    intro hd
    rw [dsc_succ (by omega), show N - 1 - 0 + 1 = N from by omega, dsc_self, txP_snoc, if_neg (by omega)]
    have h1 := (gB_get (v := v) (k := N - 1) (by omega)).1
    have hv : 0 < v := Nat.pos_of_ne_zero fun e => by subst e; rw [gB_zero] at hN; simp at hN; omega
    have h2 := (gB_top hv).2
    rw [hN] at h2
    rw [show N - 1 - 0 = N - 1 from rfl, h1, Nat.mod_eq_of_lt h2]
    rfl
  | succ d ih =>
    intro hd
    have h1 := gB_get (v := v) (k := N - 1 - (d + 1)) (by omega)
    have h2 := (gB_get (v := v) (k := N - 1 - d) (by omega)).2
    have e : N - 1 - (d + 1) + 1 = N - 1 - d := by omega
    rw [dsc_succ (by omega), e, txP_snoc, ih (by omega), if_pos (by omega), h1.1]
    have h3 := dec_step (v := v) (k := N - 1 - (d + 1)) (by rw [e]; exact h2)
    rw [e] at h3
    exact h3.symm

/-- make([]byte, 0, n). -/
theorem made_u8 (n : Nat) : madeCells (Value.int .u8 0).cells (n * 1) = (Lib.byteCells (List.replicate n 0)).toArray := by
  apply Array.ext
  · simp [size_madeCells, Lib.byteCells]
  · intro i h1 h2
    simp [madeCells, Lib.byteCells, Value.cells, Nat.mod_one]
theorem run_make0_u8 (c : Int) (n : Nat) (hc : c = (n : Int)) (hn : n ≤ 4000000000) (w : World) :
    (Instr.makeSlice 72 (.int .i64 0) (.int .i64 c)).run Tryd.prog w = .ok (.slice (some ⟨w.heap.size, 0, none⟩) 0 n) (w.alloc (.cells (Lib.byteCells (List.replicate n 0)).toArray 5)) := by
  subst hc
  obtain ⟨i0, hi0, hz0, hz1, hz2⟩ := info_parts u8_info
  have h := run_make (P := Tryd.prog) w 72 5 i0 _ slice_u8 hi0 hz0 .i64 .i64 (0 : Int) (n : Int) (by omega) (by omega) (by rw [hz2]; omega) (by omega)
  rw [hz1, Int.toNat_natCast, made_u8] at h
  exact h

set_option maxRecDepth 100000 in
set_option maxHeartbeats 2000000 in
theorem text_pos (w : World) (neg : Bool) (A : Option Addr) (n c v : Nat) (h : Lm w w.heap.size A n c (digs v)) (hc : chk neg (digs v) = 0) (hv : 0 < v) (hT : TabU w) :
    Calls Tryd.prog 26 #[.agg #[.bool neg, .slice A n c]] w fun e w' => e = .returned (.tuple #[.string ⟨(txt neg v).toArray⟩, .int .i64 0]) ∧ Below w.heap.size w w' := by
  have hl := (chk_ok.1 hc).1
  rw [h.len] at hl
  have hn0 : 0 < n := by rw [← h.len, digs_pos]; exact hv
  have hnz : ((n : Int) == 0) = false := by simp; omega
  have hgl : (gB v).length ≤ 2 * n := gB_len_le (digs_len.1 (Nat.le_of_eq h.len))
  have hg1 := gB_len_pos hv
  have HH := Lib.hid h
  have HC := Lib.hid hc
  have HT := Lib.hid hT
  have hcA := h.cap
  have hxA := h.max
  clear hc h hT
  refine (callsIn_wide (n := 8)).1 ?_
  refine callsIn_of_wp_marks Tryd.func26 rfl trivial ?_ rfl
  simp only [Tryd.ntmps26, List.size_toArray, List.length_cons, List.length_nil, Nat.reduceAdd, Nat.reduceSub, Array.replicate_succ, Array.replicate_zero, List.push_toArray, List.append_toArray, List.nil_append, List.cons_append]
  gi_wp2_with fail
  refine ⟨trivial, (callsIn_wide.2 (check_ok _ _ _ _ _ _ (HH.out.box _) HC.out)).mono ?_⟩
  rintro e w1 ⟨rfl, hb1⟩
  have ⟨hx0, hx1, hf0, hf1, hsz⟩ := box1 hb1
  have HL1 := Lib.hid ((HH.out.box _).via hb1)
  have HB1 := Lib.hid (bbox hb1)
  have HT1 := Lib.hid ((HT.out.box _).via hb1)
  clear hb1
  gi_wp2_with fail
  refine ⟨trivial, (callsIn_wide.2 (groups_any w1 A n c v HL1.out hv hl)).mono ?_⟩
  rintro e w2 ⟨G, cg, rfl, hG, hb2⟩
  have ⟨ax0, ax1⟩ := keep2 hb2 (by omega) ⟨hx0, hx1⟩
  have HB2 := Lib.hid (HB1.out.trans (hb2.mono HB1.out.size))
  have HT2 := Lib.hid (HT1.out.via hb2)
  have HG := Lib.hid hG
  have hcG := hG.cap
  have hxG := hG.max
  have hs2 := HB2.out.size
  have hs1 := hb2.size
  have hs0 : w.heap.size < w2.heap.size := by omega
  clear hb2 hG
  obtain ⟨N, hN⟩ : ∃ N, (gB v).length = N := ⟨_, rfl⟩
  have HN := Lib.hid hN
  rw [hN] at hgl hg1 hcG HG ⊢
  have hmk := fun w => run_make0_u8 (1 + (N : Int) * 9) (1 + N * 9) (by omega) (by omega) w
  clear hN
  have hq : ∀ o1 o2 o3, (((w2.alloc o1).alloc o2).alloc o3).cell? ⟨w.heap.size, 0, none⟩ = some (.bool neg) := fun o1 o2 o3 =>
    ((World.cell?_alloc_lt _ o3 _ (by simp; omega)).trans (World.cell?_alloc_lt _ o2 _ (by simp; omega))).trans ((World.cell?_alloc_lt _ o1 _ hs0).trans ax0)
  cases neg
  · gi_wp2_with fail
    obtain ⟨X, hX⟩ : ∃ X, (((w2.alloc (Obj.cells #[Value.slice G N cg] 22)).alloc (Obj.cells (Lib.byteCells (List.replicate (1 + N * 9) 0)).toArray 5)).alloc (Obj.cells #[Value.slice (some ⟨w2.heap.size + 1, 0, none⟩) 0 (1 + N * 9)] 72)) = X := ⟨_, rfl⟩
    have hbG : Hid (Boxed X w2.heap.size 22 (.slice G N cg)) := by show Boxed _ _ _ _; rw [← hX]; exact ((Boxed.new w2 _ _).alloc _).alloc _
    have hbT : Hid (Boxed X (w2.heap.size + 1 + 1) 72 (.slice (some ⟨w2.heap.size + 1, 0, none⟩) 0 (1 + N * 9))) := by
      show Boxed _ _ _ _
      have e := Boxed.new ((w2.alloc (Obj.cells #[Value.slice G N cg] 22)).alloc (Obj.cells (Lib.byteCells (List.replicate (1 + N * 9) 0)).toArray 5)) 72 (.slice (some ⟨w2.heap.size + 1, 0, none⟩) 0 (1 + N * 9))
      simp only [World.size_alloc] at e
      rw [← hX]
      exact e
    have hrow : Hid (X.ownsRow w2.heap.size 5 1 (.slice (some ⟨w2.heap.size + 1, 0, none⟩) 0 (1 + N * 9)) ([] ++ txP (gB v) (ixs ([] : List (Idx N)))).length (Lib.byteCells ([] ++ txP (gB v) (ixs ([] : List (Idx N)))))) := by
      show World.ownsRow _ _ _ _ _ _ _
      rw [← hX]
      have e : (((w2.alloc (Obj.cells #[Value.slice G N cg] 22)).alloc (Obj.cells (Lib.byteCells (List.replicate (1 + N * 9) 0)).toArray 5))).ownsRow w2.heap.size 5 1 (.slice (some ⟨(w2.alloc (Obj.cells #[Value.slice G N cg] 22)).heap.size, 0, none⟩) 0 (1 + N * 9)) 0 [] := World.ownsRow_made _ _ _ (by simp) (by simp only [maxLen]; omega) (by simp [Lib.byteCells])
      simp only [World.size_alloc] at e
      exact e.alloc _
    have hBX : Hid (Below w2.heap.size w2 X) := by
      show Below _ _ _
      rw [← hX]
      exact (((Below.refl _ w2).alloc (Nat.le_refl _) _).alloc (by simp) _).alloc (by simp; omega) _
    rw [hX]
    clear hX hq hmk
    refine ⟨trivial, (back_in Fence.wide 7 trivial rfl _ _ _ _).mono ?_⟩
    rintro e w' ⟨rfl, rfl⟩
    gi_wp2
    have bI := Boxed.new X 22 (.slice G N cg)
    have hXs := hBX.out.size
    have hXlt := Boxed.lt hbT.out
    refine wpIn_rangeFunc_ownG rfl (by omega) (gf := 80) (lb := #[.pointer (some ⟨X.heap.size, 0, none⟩)]) rfl trivial (enters_of Tryd.func80 (by kernel_rfl) rfl)
      (back_stops Fence.wide 7 trivial rfl (by omega) X.heap.size w2.heap.size G N cg (gB v) _ (by simp) (by simp; omega) bI.cell ((HG.out.below hBX.out).below ((Below.refl _ X).alloc hXs _))) kpB_t (kpB_b (by simp; omega) (by simp)) (Below.refl _ _) (fun _ => rfl)
      (fun pre W => (((∃ u, Boxed W (w2.heap.size + 1 + 1) 72 u ∧ W.ownsRow w2.heap.size 5 1 u ([] ++ txP (gB v) (ixs pre)).length (Lib.byteCells ([] ++ txP (gB v) (ixs pre))) ∧ True) ∧ Boxed W w2.heap.size 22 (.slice G N cg)) ∧ Boxed W X.heap.size 22 (.slice G N cg)) ∧ Below w2.heap.size w2 W)
      (fun _ _ _ => False)
      (OwnFrom.and (OwnFrom.and (OwnFrom.and (Own.from (holdsRow_own w2.heap.size (w2.heap.size + 1 + 1) 72 5 1 (fun pre : List (Idx N) => ([] ++ txP (gB v) (ixs pre)).length) (fun pre => Lib.byteCells ([] ++ txP (gB v) (ixs pre))) (fun _ _ => True)) _) (Own.from (boxed_own w2.heap.size 22 (fun _ => .slice G N cg)) _)) (Own.from (boxed_own X.heap.size 22 (fun _ => .slice G N cg)) _)) (ownFrom_below (Nat.le_refl _) (by simp; omega)))
      (fun _ _ _ _ _ hs _ _ => hs)
      ⟨⟨⟨⟨_, hbT.out.alloc _, hrow.out.alloc _, trivial⟩, hbG.out.alloc _⟩, bI⟩, hBX.out.alloc hXs _⟩
      (fun x => { tmps := #[.agg #[.bool false, .slice A n c], .pointer (some ⟨w.heap.size, 0, none⟩), .string ⟨#[]⟩, .int .i64 0, .int .i64 0, .pointer (some ⟨w2.heap.size, 0, none⟩), .pointer (some ⟨w2.heap.size + 1 + 1, 0, none⟩), .int .i64 (x.1 : Int), .int .u32 ((gB v)[x.1]?.getD 0 : Nat), .agg #[.bool false, .slice A n c], .int .i64 0, .int .i64 0, .bool false, undef, .pointer (some ⟨w.heap.size, 1, none⟩), .slice A n c, .int .i64 n, .bool false, .pointer (some ⟨w.heap.size, 1, none⟩), .slice A n c, .slice G N cg, .slice G N cg, .int .i64 N, .int .i64 ((N : Int) * 9), .int .i64 (1 + (N : Int) * 9), .slice (some ⟨w2.heap.size + 1, 0, none⟩) 0 (1 + N * 9), .pointer (some ⟨w.heap.size, 0, none⟩), .bool false, undef, undef, undef, .slice G N cg, .func (.func 80) #[] #[.pointer (some ⟨X.heap.size, 0, none⟩)], .int .i64 (x.1 : Int), .int .u32 ((gB v)[x.1]?.getD 0 : Nat), undef, undef, undef, undef, undef, undef, undef, undef, undef, undef, undef, undef, undef, undef], defers := [] }) ?assign ?body ?done ?stop
    case assign =>
      intro l x W K hK
      gi_wp2
      exact hK
    case body =>
      rintro l pre ⟨k, hk⟩ W ⟨⟨⟨⟨u, hu, hr, _⟩, hbg⟩, hbi⟩, hBl⟩ hlen
      have hgx := (gB_good v).get k
      have HSn := Lib.hid (txP_snoc (gB v) (ixs pre) k)
      have hl1 := txP_len (gB_good v) (ixs pre)
      rw [ixs_len] at hl1
      have hWs := hBl.size
      have HTW := Lib.hid (HT2.out.via hBl)
      have HBl := Lib.hid hBl
      have HU := Lib.hid hu
      have HR := Lib.hid hr
      have HBG := Lib.hid hbg
      have HBI := Lib.hid hbi
      have huc := hu.cell
      have hgc := hbg.cell
      generalize (gB v)[k]?.getD 0 = x at *
      generalize htx : [] ++ txP (gB v) (ixs pre) = T at *
      have hTl : T.length ≤ 1000000 := by rw [← htx, List.length_append]; simp; omega
      have HTX := Lib.hid htx
      clear hu hr hbg hbi hBl htx hl1 hlen
      dsimp only
      by_cases hkn : k < N - 1
      · have HST : Hid (txP (gB v) (ixs (pre ++ [⟨k, hk⟩])) = txP (gB v) (ixs pre) ++ padk 9 x) := by show _ = _; rw [ixs_snoc, HSn.out, if_pos (by rw [HN.out]; exact hkn)]
        gi_wp2_with fail
        refine ⟨trivial, (CallsIn.inRound l (callsIn_wide.2 (pad_any W w2.heap.size u T x HR.out hWs hgx (by omega)))).mono ?_⟩
        rintro e w3 ⟨v', rfl, hr3, hb3, hk3⟩
        have h3 := boxed_others HU.out hk3 (by decide)
        have hg3 := boxed_others HBG.out hk3 (by decide)
        have hi3 := boxed_others HBI.out hk3 (by decide)
        have hY0 : 0 < (T ++ padk 9 x).length := by rw [List.length_append]; first | (have := dec_ne x; omega) | (rw [padk_len]; omega)
        obtain ⟨Y, hY⟩ : ∃ Y, T ++ padk 9 x = Y := ⟨_, rfl⟩
        rw [hY] at hr3 hY0
        obtain ⟨g', cap', hv', _⟩ := hr3.slice hY0
        have HY := Lib.hid hY
        clear hY hY0
        subst hv'
        have hc3 := h3.cell
        have hf3 := h3.frozen
        have HR3 := Lib.hid hr3
        have HI3 := Lib.hid hi3
        have HG3 := Lib.hid hg3
        have HB3 := Lib.hid hb3
        have HK3 := Lib.hid hk3
        have HU3 := Lib.hid h3
        clear hr3 hi3 hg3 hb3 hk3 h3
        gi_wp2
        have hbf := HB3.out.setCell (p := ⟨w2.heap.size + 1 + 1, 0, none⟩) (by simp; omega) (.slice (some ⟨g', 0, none⟩) Y.length cap')
        refine ⟨((keepsO HK3.out HB3.out.size).trans (KeepsOthers.setCell _ _ _)).from _, ⟨hbf, (HI3.out.other (B' := w2.heap.size + 1 + 1) (by omega) _).cell.trans HBI.out.cell.symm⟩, ⟨⟨⟨_, HU3.out.set _, ?_, trivial⟩, HG3.out.other (by omega) _⟩, HI3.out.other (by omega) _⟩, HBl.out.trans hbf⟩
        rw [HST.out, ← List.append_assoc, HTX.out, HY.out]
        exact World.ownsRow.kept HR3.out (grownBy_setCell' _ _ _) (.inr (HU3.out.not_row (by decide) HR3.out).symm)
      · have hki : decide ((k : Int) < (N : Int) - 1) = false := by simp; omega
        have HST : Hid (txP (gB v) (ixs (pre ++ [⟨k, hk⟩])) = txP (gB v) (ixs pre) ++ Lib.decDigits x) := by show _ = _; rw [ixs_snoc, HSn.out, if_neg (by rw [HN.out]; exact hkn)]
        gi_wp2_with fail
        refine ⟨trivial, (CallsIn.inRound l (callsIn_wide.2 (apu_any W w2.heap.size u T x HR.out hWs (by omega) (by omega) (fun _ => HTW.out)))).mono ?_⟩
        rintro e w3 ⟨v', rfl, hr3, hb3, hk3⟩
        have h3 := boxed_others HU.out hk3 (by decide)
        have hg3 := boxed_others HBG.out hk3 (by decide)
        have hi3 := boxed_others HBI.out hk3 (by decide)
        have hY0 : 0 < (T ++ Lib.decDigits x).length := by rw [List.length_append]; first | (have := dec_ne x; omega) | (rw [padk_len]; omega)
        obtain ⟨Y, hY⟩ : ∃ Y, T ++ Lib.decDigits x = Y := ⟨_, rfl⟩
        rw [hY] at hr3 hY0
        obtain ⟨g', cap', hv', _⟩ := hr3.slice hY0
        have HY := Lib.hid hY
        clear hY hY0
        subst hv'
        have hc3 := h3.cell
        have hf3 := h3.frozen
        have HR3 := Lib.hid hr3
        have HI3 := Lib.hid hi3
        have HG3 := Lib.hid hg3
        have HB3 := Lib.hid hb3
        have HK3 := Lib.hid hk3
        have HU3 := Lib.hid h3
        clear hr3 hi3 hg3 hb3 hk3 h3
        gi_wp2
        have hbf := HB3.out.setCell (p := ⟨w2.heap.size + 1 + 1, 0, none⟩) (by simp; omega) (.slice (some ⟨g', 0, none⟩) Y.length cap')
        refine ⟨((keepsO HK3.out HB3.out.size).trans (KeepsOthers.setCell _ _ _)).from _, ⟨hbf, (HI3.out.other (B' := w2.heap.size + 1 + 1) (by omega) _).cell.trans HBI.out.cell.symm⟩, ⟨⟨⟨_, HU3.out.set _, ?_, trivial⟩, HG3.out.other (by omega) _⟩, HI3.out.other (by omega) _⟩, HBl.out.trans hbf⟩
        rw [HST.out, ← List.append_assoc, HTX.out, HY.out]
        exact World.ownsRow.kept HR3.out (grownBy_setCell' _ _ _) (.inr (HU3.out.not_row (by decide) HR3.out).symm)
    case done =>
      rintro D zs W hD hzs ⟨⟨⟨⟨u, hu, hr, _⟩, hbg⟩, hbi⟩, hBl⟩ hK
      have huc := hu.cell
      have HT9 : Hid ([] ++ txP (gB v) (ixs zs) = txt false v) := by
        show _ = _
        have h1 : ixs zs = dsc N (N - 1 - (N - 1)) := by rw [Nat.sub_self]; exact hzs
        rw [h1, txP_end HN.out (N - 1) (by omega), Nat.sub_self, Nat.pow_zero, Nat.div_one]
        rfl
      rw [HT9.out] at hr
      have hBw : Bw W w2.heap.size u (txt false v) := hr
      obtain ⟨g', cap', hv', hcs⟩ := hBw.slice (by unfold txt; rw [List.length_append]; have := dec_ne v; omega)
      have hcv := run_convert_bytes_back (P := Tryd.prog) W 72 9 5 ⟨g', 0, none⟩ cap' (txt false v) slice_u8 (Tryd.underlying5) (Tryd.underlying9) hcs
      subst hv'
      have HB9 := Lib.hid (HB2.out.trans ((hBl.trans (belowK_b (w := w2) (Nat.le_refl _) W D (.deferred (some [])) (.deferred none) (by simp at hD; omega) hK rfl rfl)).mono hs2))
      clear hbg hbi hBl hzs hr hBw hcs
      gi_wp2
      refine ⟨by simp, .inl ⟨_, _, rfl, run_takeDeferred hK, ?_⟩⟩
      exact ⟨.tuple #[.string ⟨(txt false v).toArray⟩, .int .i64 0], by simp [results, Tryd.f26, go_sem], rfl, HB9.out⟩
    case stop =>
      rintro D c pre W _ _ h _
      exact h.elim
  · obtain ⟨i0, hi0, hz0, hz1, hz2⟩ := info_parts u8_info
    have hbG0 : Hid (Boxed (((w2.alloc (Obj.cells #[Value.slice G N cg] 22)).alloc (Obj.cells (Lib.byteCells (List.replicate (1 + N * 9) 0)).toArray 5)).alloc (Obj.cells #[Value.slice (some ⟨w2.heap.size + 1, 0, none⟩) 0 (1 + N * 9)] 72)) w2.heap.size 22 (.slice G N cg)) := ((Boxed.new w2 _ _).alloc _).alloc _
    have hbT0 : Hid (Boxed (((w2.alloc (Obj.cells #[Value.slice G N cg] 22)).alloc (Obj.cells (Lib.byteCells (List.replicate (1 + N * 9) 0)).toArray 5)).alloc (Obj.cells #[Value.slice (some ⟨w2.heap.size + 1, 0, none⟩) 0 (1 + N * 9)] 72)) (w2.heap.size + 1 + 1) 72 (.slice (some ⟨w2.heap.size + 1, 0, none⟩) 0 (1 + N * 9))) := by
      show Boxed _ _ _ _
      have e := Boxed.new ((w2.alloc (Obj.cells #[Value.slice G N cg] 22)).alloc (Obj.cells (Lib.byteCells (List.replicate (1 + N * 9) 0)).toArray 5)) 72 (.slice (some ⟨w2.heap.size + 1, 0, none⟩) 0 (1 + N * 9))
      simp only [World.size_alloc] at e
      exact e
    have hrow0 : Hid ((((w2.alloc (Obj.cells #[Value.slice G N cg] 22)).alloc (Obj.cells (Lib.byteCells (List.replicate (1 + N * 9) 0)).toArray 5)).alloc (Obj.cells #[Value.slice (some ⟨w2.heap.size + 1, 0, none⟩) 0 (1 + N * 9)] 72)).ownsRow w2.heap.size 5 1 (.slice (some ⟨w2.heap.size + 1, 0, none⟩) 0 (1 + N * 9)) 0 []) := by
      show World.ownsRow _ _ _ _ _ _ _
      have e : (((w2.alloc (Obj.cells #[Value.slice G N cg] 22)).alloc (Obj.cells (Lib.byteCells (List.replicate (1 + N * 9) 0)).toArray 5))).ownsRow w2.heap.size 5 1 (.slice (some ⟨(w2.alloc (Obj.cells #[Value.slice G N cg] 22)).heap.size, 0, none⟩) 0 (1 + N * 9)) 0 [] := World.ownsRow_made _ _ _ (by simp) (by simp only [maxLen]; omega) (by simp [Lib.byteCells])
      simp only [World.size_alloc] at e
      exact e.alloc _
    have hBX0 : Hid (Below w2.heap.size w2 (((w2.alloc (Obj.cells #[Value.slice G N cg] 22)).alloc (Obj.cells (Lib.byteCells (List.replicate (1 + N * 9) 0)).toArray 5)).alloc (Obj.cells #[Value.slice (some ⟨w2.heap.size + 1, 0, none⟩) 0 (1 + N * 9)] 72))) := (((Below.refl _ w2).alloc (Nat.le_refl _) _).alloc (by simp) _).alloc (by simp; omega) _
    have hnew : Hid (∀ (j : Nat) (u : Value), [Value.int .u8 45][j]? = some u → ((((w2.alloc (Obj.cells #[Value.slice G N cg] 22)).alloc (Obj.cells (Lib.byteCells (List.replicate (1 + N * 9) 0)).toArray 5)).alloc (Obj.cells #[Value.slice (some ⟨w2.heap.size + 1, 0, none⟩) 0 (1 + N * 9)] 72)).alloc (Obj.cells #[Value.int .u8 45] 5)).cell? (Addr.add ⟨w2.heap.size + 1 + 1 + 1, 0, none⟩ j) = some u) := by
      have e := cell_one_new (((w2.alloc (Obj.cells #[Value.slice G N cg] 22)).alloc (Obj.cells (Lib.byteCells (List.replicate (1 + N * 9) 0)).toArray 5)).alloc (Obj.cells #[Value.slice (some ⟨w2.heap.size + 1, 0, none⟩) 0 (1 + N * 9)] 72)) (.int .u8 45) 5
      simp only [World.size_alloc] at e
      exact e
    gi_wp2_with (gi_at_builtin; refine wpListIn_append_own _ rfl _ _ 72 rfl w2.heap.size 5 i0 (.int .u8 0) 1 1 slice_u8 hi0 hz0 hz1 hz2 rfl (by decide) _ _ _ rfl (hrow0.out.alloc _) ⟨w2.heap.size + 1 + 1 + 1, 0, none⟩ 1 1 [.int .u8 45] rfl rfl hnew.out (by simp [Value.oneCell']) (by simp only [maxLen]; omega) (by omega) (by simp; omega) ?_; intro v' w5 hown' hgrow _; obtain ⟨g', cap', rfl⟩ := ownsRow_succ hown'; obtain ⟨hv1, hv2, hr2, hk2, hb2⟩ := hbT0.out.appended (by decide) hrow0.out (by simp; omega) (by omega) hown' hgrow; have hc1' := hv1.cell; have hf1' := hv1.frozen; have hbG5 := Lib.hid ((hbG0.out.alloc _).kept hgrow (hbG0.out.not_row (by decide) hrow0.out)); have hgc5 := hbG5.out.cell)
    have hbG6 := Lib.hid (hbG5.out.other (B' := w2.heap.size + 1 + 1) (by omega) (.slice (some ⟨g', 0, none⟩) 1 cap'))
    have hHV := Lib.hid hv2
    have hHR := Lib.hid hr2
    have hHB := Lib.hid (hBX0.out.trans hb2)
    clear hv1 hv2 hr2 hk2 hb2 hown' hgrow hc1' hf1' hgc5
    obtain ⟨X, hX⟩ : ∃ X, w5.setCell ⟨w2.heap.size + 1 + 1, 0, none⟩ (.slice (some ⟨g', 0, none⟩) 1 cap') = X := ⟨_, rfl⟩
    have hbG : Hid (Boxed X w2.heap.size 22 (.slice G N cg)) := by show Boxed _ _ _ _; rw [← hX]; exact hbG6.out
    have hbT : Hid (Boxed X (w2.heap.size + 1 + 1) 72 (.slice (some ⟨g', 0, none⟩) 1 cap')) := by show Boxed _ _ _ _; rw [← hX]; exact hHV.out
    have hrow : Hid (X.ownsRow w2.heap.size 5 1 (.slice (some ⟨g', 0, none⟩) 1 cap') ([45] ++ txP (gB v) (ixs ([] : List (Idx N)))).length (Lib.byteCells ([45] ++ txP (gB v) (ixs ([] : List (Idx N)))))) := by show World.ownsRow _ _ _ _ _ _ _; rw [← hX]; exact hHR.out
    have hBX : Hid (Below w2.heap.size w2 X) := by show Below _ _ _; rw [← hX]; exact hHB.out
    rw [hX]
    clear hX hq hmk
    refine ⟨trivial, (back_in Fence.wide 7 trivial rfl _ _ _ _).mono ?_⟩
    rintro e w' ⟨rfl, rfl⟩
    gi_wp2
    have bI := Boxed.new X 22 (.slice G N cg)
    have hXs := hBX.out.size
    have hXlt := Boxed.lt hbT.out
    refine wpIn_rangeFunc_ownG rfl (by omega) (gf := 80) (lb := #[.pointer (some ⟨X.heap.size, 0, none⟩)]) rfl trivial (enters_of Tryd.func80 (by kernel_rfl) rfl)
      (back_stops Fence.wide 7 trivial rfl (by omega) X.heap.size w2.heap.size G N cg (gB v) _ (by simp) (by simp; omega) bI.cell ((HG.out.below hBX.out).below ((Below.refl _ X).alloc hXs _))) kpB_t (kpB_b (by simp; omega) (by simp)) (Below.refl _ _) (fun _ => rfl)
      (fun pre W => (((∃ u, Boxed W (w2.heap.size + 1 + 1) 72 u ∧ W.ownsRow w2.heap.size 5 1 u ([45] ++ txP (gB v) (ixs pre)).length (Lib.byteCells ([45] ++ txP (gB v) (ixs pre))) ∧ True) ∧ Boxed W w2.heap.size 22 (.slice G N cg)) ∧ Boxed W X.heap.size 22 (.slice G N cg)) ∧ Below w2.heap.size w2 W)
      (fun _ _ _ => False)
      (OwnFrom.and (OwnFrom.and (OwnFrom.and (Own.from (holdsRow_own w2.heap.size (w2.heap.size + 1 + 1) 72 5 1 (fun pre : List (Idx N) => ([45] ++ txP (gB v) (ixs pre)).length) (fun pre => Lib.byteCells ([45] ++ txP (gB v) (ixs pre))) (fun _ _ => True)) _) (Own.from (boxed_own w2.heap.size 22 (fun _ => .slice G N cg)) _)) (Own.from (boxed_own X.heap.size 22 (fun _ => .slice G N cg)) _)) (ownFrom_below (Nat.le_refl _) (by simp; omega)))
      (fun _ _ _ _ _ hs _ _ => hs)
      ⟨⟨⟨⟨_, hbT.out.alloc _, hrow.out.alloc _, trivial⟩, hbG.out.alloc _⟩, bI⟩, hBX.out.alloc hXs _⟩
      (fun x => { tmps := #[.agg #[.bool true, .slice A n c], .pointer (some ⟨w.heap.size, 0, none⟩), .string ⟨#[]⟩, .int .i64 0, .int .i64 0, .pointer (some ⟨w2.heap.size, 0, none⟩), .pointer (some ⟨w2.heap.size + 1 + 1, 0, none⟩), .int .i64 (x.1 : Int), .int .u32 ((gB v)[x.1]?.getD 0 : Nat), .agg #[.bool true, .slice A n c], .int .i64 0, .int .i64 0, .bool false, undef, .pointer (some ⟨w.heap.size, 1, none⟩), .slice A n c, .int .i64 n, .bool false, .pointer (some ⟨w.heap.size, 1, none⟩), .slice A n c, .slice G N cg, .slice G N cg, .int .i64 N, .int .i64 ((N : Int) * 9), .int .i64 (1 + (N : Int) * 9), .slice (some ⟨w2.heap.size + 1, 0, none⟩) 0 (1 + N * 9), .pointer (some ⟨w.heap.size, 0, none⟩), .bool true, .slice (some ⟨w2.heap.size + 1, 0, none⟩) 0 (1 + N * 9), .slice (some ⟨w2.heap.size + 1 + 1 + 1, 0, none⟩) 1 1, .slice (some ⟨g', 0, none⟩) 1 cap', .slice G N cg, .func (.func 80) #[] #[.pointer (some ⟨X.heap.size, 0, none⟩)], .int .i64 (x.1 : Int), .int .u32 ((gB v)[x.1]?.getD 0 : Nat), undef, undef, undef, undef, undef, undef, undef, undef, undef, undef, undef, undef, undef, undef], defers := [] }) ?assign ?body ?done ?stop
    case assign =>
      intro l x W K hK
      gi_wp2
      exact hK
    case body =>
      rintro l pre ⟨k, hk⟩ W ⟨⟨⟨⟨u, hu, hr, _⟩, hbg⟩, hbi⟩, hBl⟩ hlen
      have hgx := (gB_good v).get k
      have HSn := Lib.hid (txP_snoc (gB v) (ixs pre) k)
      have hl1 := txP_len (gB_good v) (ixs pre)
      rw [ixs_len] at hl1
      have hWs := hBl.size
      have HTW := Lib.hid (HT2.out.via hBl)
      have HBl := Lib.hid hBl
      have HU := Lib.hid hu
      have HR := Lib.hid hr
      have HBG := Lib.hid hbg
      have HBI := Lib.hid hbi
      have huc := hu.cell
      have hgc := hbg.cell
      generalize (gB v)[k]?.getD 0 = x at *
      generalize htx : [45] ++ txP (gB v) (ixs pre) = T at *
      have hTl : T.length ≤ 1000000 := by rw [← htx, List.length_append]; simp; omega
      have HTX := Lib.hid htx
      clear hu hr hbg hbi hBl htx hl1 hlen
      dsimp only
      by_cases hkn : k < N - 1
      · have HST : Hid (txP (gB v) (ixs (pre ++ [⟨k, hk⟩])) = txP (gB v) (ixs pre) ++ padk 9 x) := by show _ = _; rw [ixs_snoc, HSn.out, if_pos (by rw [HN.out]; exact hkn)]
        gi_wp2_with fail
        refine ⟨trivial, (CallsIn.inRound l (callsIn_wide.2 (pad_any W w2.heap.size u T x HR.out hWs hgx (by omega)))).mono ?_⟩
        rintro e w3 ⟨v', rfl, hr3, hb3, hk3⟩
        have h3 := boxed_others HU.out hk3 (by decide)
        have hg3 := boxed_others HBG.out hk3 (by decide)
        have hi3 := boxed_others HBI.out hk3 (by decide)
        have hY0 : 0 < (T ++ padk 9 x).length := by rw [List.length_append]; first | (have := dec_ne x; omega) | (rw [padk_len]; omega)
        obtain ⟨Y, hY⟩ : ∃ Y, T ++ padk 9 x = Y := ⟨_, rfl⟩
        rw [hY] at hr3 hY0
        obtain ⟨g', cap', hv', _⟩ := hr3.slice hY0
        have HY := Lib.hid hY
        clear hY hY0
        subst hv'
        have hc3 := h3.cell
        have hf3 := h3.frozen
        have HR3 := Lib.hid hr3
        have HI3 := Lib.hid hi3
        have HG3 := Lib.hid hg3
        have HB3 := Lib.hid hb3
        have HK3 := Lib.hid hk3
        have HU3 := Lib.hid h3
        clear hr3 hi3 hg3 hb3 hk3 h3
        gi_wp2
        have hbf := HB3.out.setCell (p := ⟨w2.heap.size + 1 + 1, 0, none⟩) (by simp; omega) (.slice (some ⟨g', 0, none⟩) Y.length cap')
        refine ⟨((keepsO HK3.out HB3.out.size).trans (KeepsOthers.setCell _ _ _)).from _, ⟨hbf, (HI3.out.other (B' := w2.heap.size + 1 + 1) (by omega) _).cell.trans HBI.out.cell.symm⟩, ⟨⟨⟨_, HU3.out.set _, ?_, trivial⟩, HG3.out.other (by omega) _⟩, HI3.out.other (by omega) _⟩, HBl.out.trans hbf⟩
        rw [HST.out, ← List.append_assoc, HTX.out, HY.out]
        exact World.ownsRow.kept HR3.out (grownBy_setCell' _ _ _) (.inr (HU3.out.not_row (by decide) HR3.out).symm)
      · have hki : decide ((k : Int) < (N : Int) - 1) = false := by simp; omega
        have HST : Hid (txP (gB v) (ixs (pre ++ [⟨k, hk⟩])) = txP (gB v) (ixs pre) ++ Lib.decDigits x) := by show _ = _; rw [ixs_snoc, HSn.out, if_neg (by rw [HN.out]; exact hkn)]
        gi_wp2_with fail
        refine ⟨trivial, (CallsIn.inRound l (callsIn_wide.2 (apu_any W w2.heap.size u T x HR.out hWs (by omega) (by omega) (fun _ => HTW.out)))).mono ?_⟩
        rintro e w3 ⟨v', rfl, hr3, hb3, hk3⟩
        have h3 := boxed_others HU.out hk3 (by decide)
        have hg3 := boxed_others HBG.out hk3 (by decide)
        have hi3 := boxed_others HBI.out hk3 (by decide)
        have hY0 : 0 < (T ++ Lib.decDigits x).length := by rw [List.length_append]; first | (have := dec_ne x; omega) | (rw [padk_len]; omega)
        obtain ⟨Y, hY⟩ : ∃ Y, T ++ Lib.decDigits x = Y := ⟨_, rfl⟩
        rw [hY] at hr3 hY0
        obtain ⟨g', cap', hv', _⟩ := hr3.slice hY0
        have HY := Lib.hid hY
        clear hY hY0
        subst hv'
        have hc3 := h3.cell
        have hf3 := h3.frozen
        have HR3 := Lib.hid hr3
        have HI3 := Lib.hid hi3
        have HG3 := Lib.hid hg3
        have HB3 := Lib.hid hb3
        have HK3 := Lib.hid hk3
        have HU3 := Lib.hid h3
        clear hr3 hi3 hg3 hb3 hk3 h3
        gi_wp2
        have hbf := HB3.out.setCell (p := ⟨w2.heap.size + 1 + 1, 0, none⟩) (by simp; omega) (.slice (some ⟨g', 0, none⟩) Y.length cap')
        refine ⟨((keepsO HK3.out HB3.out.size).trans (KeepsOthers.setCell _ _ _)).from _, ⟨hbf, (HI3.out.other (B' := w2.heap.size + 1 + 1) (by omega) _).cell.trans HBI.out.cell.symm⟩, ⟨⟨⟨_, HU3.out.set _, ?_, trivial⟩, HG3.out.other (by omega) _⟩, HI3.out.other (by omega) _⟩, HBl.out.trans hbf⟩
        rw [HST.out, ← List.append_assoc, HTX.out, HY.out]
        exact World.ownsRow.kept HR3.out (grownBy_setCell' _ _ _) (.inr (HU3.out.not_row (by decide) HR3.out).symm)
    case done =>
      rintro D zs W hD hzs ⟨⟨⟨⟨u, hu, hr, _⟩, hbg⟩, hbi⟩, hBl⟩ hK
      have huc := hu.cell
      have HT9 : Hid ([45] ++ txP (gB v) (ixs zs) = txt true v) := by
        show _ = _
        have h1 : ixs zs = dsc N (N - 1 - (N - 1)) := by rw [Nat.sub_self]; exact hzs
        rw [h1, txP_end HN.out (N - 1) (by omega), Nat.sub_self, Nat.pow_zero, Nat.div_one]
        rfl
      rw [HT9.out] at hr
      have hBw : Bw W w2.heap.size u (txt true v) := hr
      obtain ⟨g', cap', hv', hcs⟩ := hBw.slice (by unfold txt; rw [List.length_append]; have := dec_ne v; omega)
      have hcv := run_convert_bytes_back (P := Tryd.prog) W 72 9 5 ⟨g', 0, none⟩ cap' (txt true v) slice_u8 (Tryd.underlying5) (Tryd.underlying9) hcs
      subst hv'
      have HB9 := Lib.hid (HB2.out.trans ((hBl.trans (belowK_b (w := w2) (Nat.le_refl _) W D (.deferred (some [])) (.deferred none) (by simp at hD; omega) hK rfl rfl)).mono hs2))
      clear hbg hbi hBl hzs hr hBw hcs
      gi_wp2
      refine ⟨by simp, .inl ⟨_, _, rfl, run_takeDeferred hK, ?_⟩⟩
      exact ⟨.tuple #[.string ⟨(txt true v).toArray⟩, .int .i64 0], by simp [results, Tryd.f26, go_sem], rfl, HB9.out⟩
    case stop =>
      rintro D c pre W _ _ h _
      exact h.elim
end Go.Proofs.YtkcdijhfiahibaaDoor

/- wide.Text at every number. -/
namespace Go.Proofs.YtkcdijhfiahibaaDoor
open Go.RowKit
theorem text_ok (w : World) (neg : Bool) (A : Option Addr) (n c v : Nat) (h : Lm w w.heap.size A n c (digs v)) (hc : chk neg (digs v) = 0) (hT : TabU w) :
    Calls Tryd.prog 26 #[.agg #[.bool neg, .slice A n c]] w fun e w' => e = .returned (.tuple #[.string ⟨(txt neg v).toArray⟩, .int .i64 0]) ∧ Below w.heap.size w w' := by
  rcases Nat.eq_zero_or_pos v with h0 | h0
  · subst h0
    obtain rfl : n = 0 := h.len.symm
    obtain rfl : neg = false := by
      cases neg
      · rfl
      · exact absurd rfl ((chk_ok.1 hc).2.2 rfl)
    have e : txt false 0 = [48] := by unfold txt; rw [dec_small (by omega)]; rfl
    rw [e]
    exact text_zero w A c h
  · exact text_pos w neg A n c v h hc h0 hT
end Go.Proofs.YtkcdijhfiahibaaDoor

