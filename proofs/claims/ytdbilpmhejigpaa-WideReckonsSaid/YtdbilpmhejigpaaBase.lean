/-
  Words for memory: a slice value that reads as a list of limbs (uint32), kept by whatever leaves the blocks below a bound alone.
-/
import Derived.Test.YtdbilpmhejigpaaProg
import Derived.Test.YtdbilpmhejigpaaMath
import Derived.Handy
import Derived.Lib.Hide
import Derived.WalkSpells
import Derived.WalkLawsBesides
import Derived.Laws.AppendOwnNone
namespace Go.Proofs.Ytdbilpmhejigpaa
open Go.RowKit

/-- A slice value '.slice A n c' reads as the limbs xs and lies below block B. -/
structure Lm (w : World) (B : Nat) (A : Option Addr) (n c : Nat) (xs : List Nat) : Prop where
  len : xs.length = n
  good : Good xs
  cap : n ≤ c
  max : c ≤ 9223372036854775807
  nil_ : A = none → c = 0
  at_ : 0 < n → ∃ b off, A = some ⟨b, off, none⟩ ∧ b < B ∧ ∀ j, j < n → w.cell? ⟨b, off + j, none⟩ = some (.int .u32 (xs[j]?.getD 0 : Nat))

section
variable {w w' : World} {B B' n c : Nat} {A : Option Addr} {xs : List Nat}
theorem Lm.nil (w : World) (B : Nat) : Lm w B none 0 0 [] := ⟨rfl, Good.nil, Nat.zero_le _, by omega, fun _ => rfl, fun h => absurd h (by omega)⟩
theorem Lm.keep (h : Lm w B A n c xs) (hk : ∀ b o, b < B → w'.cell? ⟨b, o, none⟩ = w.cell? ⟨b, o, none⟩) : Lm w' B A n c xs :=
  ⟨h.len, h.good, h.cap, h.max, h.nil_, fun hn => by
    obtain ⟨b, off, e, hb, hc⟩ := h.at_ hn
    exact ⟨b, off, e, hb, fun j hj => (hk b (off + j) hb).trans (hc j hj)⟩⟩
theorem Lm.mono (h : Lm w B A n c xs) (hB : B ≤ B') : Lm w B' A n c xs :=
  ⟨h.len, h.good, h.cap, h.max, h.nil_, fun hn => by
    obtain ⟨b, off, e, hb, hc⟩ := h.at_ hn
    exact ⟨b, off, e, by omega, hc⟩⟩
theorem Lm.below (h : Lm w B A n c xs) (hb : Below B w w') : Lm w' B A n c xs := h.keep fun b o hp => hb.cell (p := ⟨b, o, none⟩) hp
/-- Behind a call that keeps all that was there. -/
theorem Lm.on (h : Lm w B A n c xs) (hB : B ≤ w.heap.size) (hb : Below w.heap.size w w') : Lm w' w'.heap.size A n c xs :=
  (h.below (hb.mono hB)).mono (Nat.le_trans hB hb.size)
theorem Lm.drewN (h : Lm w w.heap.size A n c xs) (k : Nat) : Lm (w.drewN k) (w.drewN k).heap.size A n c xs := ⟨h.len, h.good, h.cap, h.max, h.nil_, h.at_⟩
theorem Lm.box (h : Lm w w.heap.size A n c xs) (o : Obj) : Lm (w.alloc o) (w.alloc o).heap.size A n c xs := (h.below ((Below.refl _ _).alloc (Nat.le_refl _) o)).mono (by simp)
theorem Lm.via (h : Lm w w.heap.size A n c xs) (hb : Below w.heap.size w w') : Lm w' w'.heap.size A n c xs := h.on (Nat.le_refl _) hb
theorem bbox {o : Obj} (hb : Below (w.alloc o).heap.size (w.alloc o) w') : Below w.heap.size w w' := ((Below.refl _ _).alloc (Nat.le_refl _) o).trans (hb.mono (by simp))
theorem Lm.drew (h : Lm w w.heap.size A n c xs) : Lm w.drew w.drew.heap.size A n c xs := ⟨h.len, h.good, h.cap, h.max, h.nil_, h.at_⟩
theorem Lm.take (h : Lm w B A n c xs) {m : Nat} (hm : m ≤ n) : Lm w B A m c (xs.take m) :=
  ⟨by rw [List.length_take, h.len]; omega, h.good.take m, Nat.le_trans hm h.cap, h.max, h.nil_, fun hn => by
    obtain ⟨b, off, e, hb, hc⟩ := h.at_ (by omega)
    refine ⟨b, off, e, hb, fun j hj => ?_⟩
    rw [hc j (by omega), List.getElem?_take_of_lt hj]⟩
theorem Lm.trim (h : Lm w B A n c xs) : Lm w B A (digs (val xs)).length c (digs (val xs)) := by
  have h1 := h.take (tr_le xs n)
  rw [tr_digs h.good h.len] at h1
  rwa [tr_len h.good h.len] at h1
theorem Lm.trim' (h : Lm w B A n c xs) {v : Nat} (hv : val xs = v) : Lm w B A (digs v).length c (digs v) := by subst hv; exact h.trim
/-- A new block of two limbs reads so. -/
theorem Lm.two (w : World) (k : Nat) (t : TypeId) (x y : Nat) (X Y : Int) (hk : w.heap.size = k) (hX : X = (x : Int)) (hY : Y = (y : Int)) (hx : x < 4294967296) (hy : y < 4294967296) :
    Lm (w.alloc (.cells #[.int .u32 X, .int .u32 Y] t)) (k + 1) (some ⟨k, 0, none⟩) 2 2 [x, y] := by
  subst hX hY hk
  exact ⟨rfl, (Good.nil.cons hy).cons hx, Nat.le_refl _, by omega, fun h => (by cases h), fun _ => ⟨_, 0, rfl, by omega, fun j hj => by
    match j, hj with
    | 0, _ => go_simp
    | 1, _ => go_simp⟩⟩
/-- The limb at k, where there is one. -/
theorem Lm.cell (h : Lm w B A n c xs) {k : Nat} (hk : k < n) : ∃ b off, A = some ⟨b, off, none⟩ ∧ b < B ∧ w.cell? ⟨b, off + k, none⟩ = some (.int .u32 (xs[k]?.getD 0 : Nat)) := by
  obtain ⟨b, off, e, hb, hc⟩ := h.at_ (by omega)
  exact ⟨b, off, e, hb, hc k hk⟩
end

/-- In a region that draws: a callee that leaves the world alone. -/
theorem quiet_eq {P : Program} {f : FuncId} {args : Array Value} {w : World} {n : Nat} {v : Value}
    (h : Calls P f args (w.drewN n) fun e w' => e = .returned v ∧ w.drewN n = w') : Calls P f args (w.drewN n) fun e w'' => e = .returned v ∧ ∃ m, w'' = w.drewN m :=
  h.mono fun _ _ ⟨he, hm⟩ => ⟨he, n, hm.symm⟩
theorem bdrewN {B : Nat} {a w : World} (h : Below B a w) (k : Nat) : Below B a (w.drewN k) := ⟨h.os, h.tape, h.output, h.size, h.block⟩
theorem val2 (v : Nat) (h : v < 18446744073709551616) : val [v % 4294967296, v / 4294967296 % 4294967296] = v := by
  simp only [val_cons, val_nil]
  omega
/-! ### Rows of the call's own -/
def u32c (x : Nat) : Value := .int .u32 (x : Int)
theorem getD_map (ts : List Nat) (j : Nat) (h : j < ts.length) : (ts.map u32c)[j]? = some (.int .u32 (ts[j]?.getD 0 : Nat)) := by
  rw [List.getElem?_map, List.getElem?_eq_getElem h]; rfl
theorem add_lit (b off j : Nat) : (⟨b, off, none⟩ : Addr).add j = ⟨b, off + j, none⟩ := by unfold Addr.add; split <;> simp_all
/-- A row of the call's own reads as its limbs. -/
theorem Lm.own {w : World} {base : Nat} {e : TypeId} {v : Value} {n : Nat} {ts : List Nat} (h : w.ownsRow base e 1 v n (ts.map u32c)) (g : Good ts) : ∃ A c, v = .slice A n c ∧ Lm w w.heap.size A n c ts := by
  have hl : ts.length = n := by have := h.1; simpa using this
  rcases h.2 with ⟨rfl, rfl⟩ | ⟨gb, cap, cur, rfl, hb, hg, hn, hm, hs, ht⟩
  · obtain rfl : ts = [] := List.eq_nil_of_length_eq_zero hl
    exact ⟨none, 0, rfl, Lm.nil _ _⟩
  · refine ⟨_, _, rfl, hl, g, hn, by simp only [maxLen] at hm; omega, fun h => (by cases h), fun _ => ⟨gb, 0, rfl, (Array.getElem?_eq_some_iff.1 hg).1, fun j hj => ?_⟩⟩
    have hc := h.cells (g := gb) rfl j _ (getD_map ts j (by omega))
    rwa [add_lit] at hc
theorem Lm.cells {w : World} {B n c : Nat} {ad : Addr} {xs : List Nat} (h : Lm w B (some ad) n c xs) : ∀ j u, (xs.map u32c)[j]? = some u → w.cell? (ad.add j) = some u := by
  intro j u hu
  have hj : j < xs.length := by
    rcases Nat.lt_or_ge j xs.length with hj | hj
    · exact hj
    · rw [List.getElem?_eq_none (by simpa using hj)] at hu; cases hu
  rw [getD_map xs j hj] at hu
  obtain ⟨b, off, e, _, hc⟩ := h.at_ (by rw [← h.len]; omega)
  injection e with e
  subst e
  rw [add_lit, hc j (by rw [← h.len]; exact hj), ← hu]
theorem u32c_one (xs : List Nat) : ∀ u ∈ xs.map u32c, u.oneCell' = true := by
  intro u hu
  obtain ⟨x, _, rfl⟩ := List.mem_map.1 hu
  rfl

/-- 'append(out, xs...)' where out is the call's own, and xs reads as limbs: nil, empty or not. -/
theorem wpList_append_lm {P : Program} (w : World) {ops : Array Oper} {rest : List Oper} {o : Oper} {a : Act} {Q : Exit → Act → World → Prop} (hgd : o.guard = none) (s x : Operand) (t : TypeId)
    (ho : o.op = .call { callee := .builtin .append, args := #[s, x], argTypes := #[t, t] })
    (base : Nat) (e : TypeId) (i : TypeInfo) (ht : P.underlying t = some (.slice e)) (hi : P.info? e = some i) (hz : i.zero = some (.int .u32 0))
    (hsize : i.size = 1) (hby : i.bytes = 4)
    (v : Value) (n : Nat) (ts : List Value) (hs : a.eval s = v) (hown : w.ownsRow base e 1 v n ts)
    (B : Nat) (A : Option Addr) (m c : Nat) (xs : List Nat) (hx : a.eval x = .slice A m c) (hr : Lm w B A m c xs)
    (h63 : n + m ≤ maxLen) (hbytes : (n + m) * 4 ≤ 140737488355328) (hbase : base ≤ w.heap.size)
    (h : ∀ v' w', w'.ownsRow base e 1 v' (n + m) (ts ++ xs.map u32c) → w.grownBy w' v.ownBlock → wpList P ops Q rest (a.put o.dst v') w') : wpList P ops Q (o :: rest) a w := by
  rcases A with _ | ad
  · have hm : m = 0 := by
      rcases Nat.eq_zero_or_pos m with h0 | h0
      · exact h0
      · obtain ⟨b, off, e, _⟩ := hr.at_ h0
        cases e
    subst hm
    obtain rfl := hr.nil_ rfl
    obtain rfl : xs = [] := List.eq_nil_of_length_eq_zero hr.len
    refine wpList_append_own_none hgd s x t ho base e i 1 ht hi v n ts hs hown hx ?_
    exact h v w (by simpa using hown) (World.grownBy.refl w _)
  · exact wpList_append_own w hgd s x t ho base e i _ 1 4 ht hi hz hsize hby rfl (by omega) v n ts hs hown ad m c (xs.map u32c) hx (by simp [hr.len]) hr.cells (u32c_one xs) h63 hbytes hbase fun v' w' h1 h2 _ => h v' w' h1 h2

theorem bcell {W w1 : World} (hb : Below W.heap.size W w1) : (∀ b o, b < W.heap.size → w1.cell? ⟨b, o, none⟩ = W.cell? ⟨b, o, none⟩) ∧ (∀ b o, b < W.heap.size → w1.frozen? ⟨b, o, none⟩ = W.frozen? ⟨b, o, none⟩) :=
  ⟨fun b o h => hb.cell (p := ⟨b, o, none⟩) h, fun b o h => hb.frozen (p := ⟨b, o, none⟩) h⟩
/-- Two boxes of two cells, behind a call that keeps what was there. -/
theorem box2 {w w1 : World} {t t' : TypeId} {x0 x1 y0 y1 : Value} (hb : Below ((w.alloc (.cells #[x0, x1] t)).alloc (.cells #[y0, y1] t')).heap.size ((w.alloc (.cells #[x0, x1] t)).alloc (.cells #[y0, y1] t')) w1) :
    w1.cell? ⟨w.heap.size, 0, none⟩ = some x0 ∧ w1.cell? ⟨w.heap.size, 1, none⟩ = some x1 ∧ w1.cell? ⟨w.heap.size + 1, 0, none⟩ = some y0 ∧ w1.cell? ⟨w.heap.size + 1, 1, none⟩ = some y1 ∧
    w1.frozen? ⟨w.heap.size + 1, 0, none⟩ = false ∧ w1.frozen? ⟨w.heap.size + 1, 1, none⟩ = false ∧ w.heap.size + 1 < w1.heap.size := by
  obtain ⟨hc, hf⟩ := bcell hb
  have hs := hb.size
  simp only [World.size_alloc] at hs hc hf
  refine ⟨?_, ?_, ?_, ?_, ?_, ?_, by omega⟩
  · rw [hc _ _ (by omega)]; go_simp
  · rw [hc _ _ (by omega)]; go_simp
  · rw [hc _ _ (by omega)]; go_simp
  · rw [hc _ _ (by omega)]; go_simp
  · rw [hf _ _ (by omega)]; go_simp
  · rw [hf _ _ (by omega)]; go_simp
theorem box3 {w w1 : World} {t t' t'' : TypeId} {x0 x1 y0 y1 z0 z1 : Value}
    (hb : Below (((w.alloc (.cells #[x0, x1] t)).alloc (.cells #[y0, y1] t')).alloc (.cells #[z0, z1] t'')).heap.size (((w.alloc (.cells #[x0, x1] t)).alloc (.cells #[y0, y1] t')).alloc (.cells #[z0, z1] t'')) w1) :
    w1.cell? ⟨w.heap.size, 0, none⟩ = some x0 ∧ w1.cell? ⟨w.heap.size, 1, none⟩ = some x1 ∧ w1.cell? ⟨w.heap.size + 1, 0, none⟩ = some y0 ∧ w1.cell? ⟨w.heap.size + 1, 1, none⟩ = some y1 ∧
    w1.cell? ⟨w.heap.size + 1 + 1, 0, none⟩ = some z0 ∧ w1.cell? ⟨w.heap.size + 1 + 1, 1, none⟩ = some z1 ∧ w1.frozen? ⟨w.heap.size + 1 + 1, 0, none⟩ = false ∧ w1.frozen? ⟨w.heap.size + 1 + 1, 1, none⟩ = false ∧ w.heap.size + 1 + 1 < w1.heap.size := by
  obtain ⟨hc, hf⟩ := bcell hb
  have hs := hb.size
  simp only [World.size_alloc] at hs hc hf
  refine ⟨?_, ?_, ?_, ?_, ?_, ?_, ?_, ?_, by omega⟩
  · rw [hc _ _ (by omega)]; go_simp
  · rw [hc _ _ (by omega)]; go_simp
  · rw [hc _ _ (by omega)]; go_simp
  · rw [hc _ _ (by omega)]; go_simp
  · rw [hc _ _ (by omega)]; go_simp
  · rw [hc _ _ (by omega)]; go_simp
  · rw [hf _ _ (by omega)]; go_simp
  · rw [hf _ _ (by omega)]; go_simp
theorem box1 {w w1 : World} {t : TypeId} {y0 y1 : Value} (hb : Below (w.alloc (.cells #[y0, y1] t)).heap.size (w.alloc (.cells #[y0, y1] t)) w1) :
    w1.cell? ⟨w.heap.size, 0, none⟩ = some y0 ∧ w1.cell? ⟨w.heap.size, 1, none⟩ = some y1 ∧ w1.frozen? ⟨w.heap.size, 0, none⟩ = false ∧ w1.frozen? ⟨w.heap.size, 1, none⟩ = false ∧ w.heap.size < w1.heap.size := by
  obtain ⟨hc, hf⟩ := bcell hb
  have hs := hb.size
  simp only [World.size_alloc] at hs hc hf
  refine ⟨?_, ?_, ?_, ?_, by omega⟩
  · rw [hc _ _ (by omega)]; go_simp
  · rw [hc _ _ (by omega)]; go_simp
  · rw [hf _ _ (by omega)]; go_simp
  · rw [hf _ _ (by omega)]; go_simp
theorem ret_bool {a b : Bool} (h : a = b) : Ending.returned (.bool a) = .returned (.bool b) := by rw [h]
theorem ret_slice {A : Option Addr} {m m' c : Nat} (h : m = m') : Ending.returned (.slice A m c) = .returned (.slice A m' c) := by rw [h]
theorem ret2_int {k l : IntKind} {a b a' b' : Int} (h : a = b) (h' : a' = b') : Ending.returned (.tuple #[.int k a, .int l a']) = .returned (.tuple #[.int k b, .int l b']) := by rw [h, h']
theorem ret_int {k : IntKind} {a b : Int} (h : a = b) : Ending.returned (.int k a) = .returned (.int k b) := by rw [h]

/-- The results of a function that returns a number, laid in two cells of a block, and one value more. -/
theorem res_w {fn : Func} {r s : Nat} (hr : fn.results = #[.cell r 24, .tmp s]) {tmps : Array Value} {w : World} {g : Nat} {x y : Value} (ht : tmps.getD r undef = .pointer (some ⟨g, 0, none⟩))
    (h0 : w.cell? ⟨g, 0, none⟩ = some x) (h1 : w.cell? ⟨g, 1, none⟩ = some y) : (results fn tmps).run Try.prog w = .ok (.tuple #[.agg #[x, y], tmps.getD s undef]) w := by
  rw [Array.getD_eq_getD_getElem?] at ht
  simp [results, hr, go_sem, ht, h0, h1]
theorem post_w {fn : Func} {r s : Nat} (hr : fn.results = #[.cell r 24, .tmp s]) {R : Ending → World → Prop} {a : Act} {w : World} {g : Nat} {x y : Value} (ht : a.tmps.getD r undef = .pointer (some ⟨g, 0, none⟩))
    (hd : a.defers = []) (h0 : w.cell? ⟨g, 0, none⟩ = some x) (h1 : w.cell? ⟨g, 1, none⟩ = some y) (h : R (.returned (.tuple #[.agg #[x, y], a.tmps.getD s undef])) w) : bodyPost Try.prog fn R .ret a w :=
  bodyPost_ret (res_w hr ht h0 h1) hd h
theorem set2 {w : World} {g : Nat} {u0 u1 : Value} (x y : Value) (h0 : w.cell? ⟨g, 0, none⟩ = some u0) (h1 : w.cell? ⟨g, 1, none⟩ = some u1) :
    ((w.setCell ⟨g, 0, none⟩ x).setCell ⟨g, 1, none⟩ y).cell? ⟨g, 0, none⟩ = some x ∧ ((w.setCell ⟨g, 0, none⟩ x).setCell ⟨g, 1, none⟩ y).cell? ⟨g, 1, none⟩ = some y := by
  constructor
  · rw [World.cell?_setCell_other _ _ _ _ (by simp)]
    exact World.cell?_setCell_same _ _ _ h0
  · refine World.cell?_setCell_same (u := u1) _ _ _ ?_
    rw [World.cell?_setCell_other _ _ _ _ (by simp)]
    exact h1
/-- .. where the number was just stored. -/
theorem post_ws {fn : Func} {r s : Nat} (hr : fn.results = #[.cell r 24, .tmp s]) {R : Ending → World → Prop} {a : Act} {w : World} {g : Nat} {x y u0 u1 : Value} (ht : a.tmps.getD r undef = .pointer (some ⟨g, 0, none⟩))
    (hd : a.defers = []) (h0 : w.cell? ⟨g, 0, none⟩ = some u0) (h1 : w.cell? ⟨g, 1, none⟩ = some u1)
    (h : R (.returned (.tuple #[.agg #[x, y], a.tmps.getD s undef])) ((w.setCell ⟨g, 0, none⟩ x).setCell ⟨g, 1, none⟩ y)) : bodyPost Try.prog fn R .ret a ((w.setCell ⟨g, 0, none⟩ x).setCell ⟨g, 1, none⟩ y) :=
  post_w hr ht hd (set2 x y h0 h1).1 (set2 x y h0 h1).2 h
theorem keep2 {w0 w2 : World} {g : Nat} {x y : Value} (hb : Below w0.heap.size w0 w2) (hg : g < w0.heap.size) (h : w0.cell? ⟨g, 0, none⟩ = some x ∧ w0.cell? ⟨g, 1, none⟩ = some y) :
    w2.cell? ⟨g, 0, none⟩ = some x ∧ w2.cell? ⟨g, 1, none⟩ = some y := ⟨(hb.cell (p := ⟨g, 0, none⟩) hg).trans h.1, (hb.cell (p := ⟨g, 1, none⟩) hg).trans h.2⟩
theorem keepF {w0 w2 : World} {g : Nat} (hb : Below w0.heap.size w0 w2) (hg : g < w0.heap.size) (h : w0.frozen? ⟨g, 0, none⟩ = false ∧ w0.frozen? ⟨g, 1, none⟩ = false) :
    w2.frozen? ⟨g, 0, none⟩ = false ∧ w2.frozen? ⟨g, 1, none⟩ = false := ⟨(hb.frozen (p := ⟨g, 0, none⟩) hg).trans h.1, (hb.frozen (p := ⟨g, 1, none⟩) hg).trans h.2⟩
theorem res_w1 {fn : Func} {r : Nat} (hr : fn.results = #[.cell r 24]) {tmps : Array Value} {w : World} {g : Nat} {x y : Value} (ht : tmps.getD r undef = .pointer (some ⟨g, 0, none⟩))
    (h0 : w.cell? ⟨g, 0, none⟩ = some x) (h1 : w.cell? ⟨g, 1, none⟩ = some y) : (results fn tmps).run Try.prog w = .ok (.agg #[x, y]) w := by
  rw [Array.getD_eq_getD_getElem?] at ht
  simp [results, hr, go_sem, ht, h0, h1]
theorem post_w1 {fn : Func} {r : Nat} (hr : fn.results = #[.cell r 24]) {R : Ending → World → Prop} {a : Act} {w : World} {g : Nat} {x y : Value} (ht : a.tmps.getD r undef = .pointer (some ⟨g, 0, none⟩))
    (hd : a.defers = []) (h0 : w.cell? ⟨g, 0, none⟩ = some x) (h1 : w.cell? ⟨g, 1, none⟩ = some y) (h : R (.returned (.agg #[x, y])) w) : bodyPost Try.prog fn R .ret a w :=
  bodyPost_ret (res_w1 hr ht h0 h1) hd h
theorem alloc2 {w : World} {g : Nat} {x y : Value} (o : Obj) (hg : g < w.heap.size) (h0 : w.cell? ⟨g, 0, none⟩ = some x) (h1 : w.cell? ⟨g, 1, none⟩ = some y) :
    (w.alloc o).cell? ⟨g, 0, none⟩ = some x ∧ (w.alloc o).cell? ⟨g, 1, none⟩ = some y := ⟨(World.cell?_alloc_lt w o _ hg).trans h0, (World.cell?_alloc_lt w o _ hg).trans h1⟩
/-- A store of a number into its own two cells touches no limb. -/
theorem Lm.set2 {w : World} {n c : Nat} {A : Option Addr} {xs : List Nat} (h : Lm w w.heap.size A n c xs) {g n0 c0 : Nat} {p : Bool} {A0 : Option Addr}
    (h0 : w.cell? ⟨g, 0, none⟩ = some (.bool p)) (h1 : w.cell? ⟨g, 1, none⟩ = some (.slice A0 n0 c0)) (x y : Value) :
    Lm ((w.setCell ⟨g, 0, none⟩ x).setCell ⟨g, 1, none⟩ y) ((w.setCell ⟨g, 0, none⟩ x).setCell ⟨g, 1, none⟩ y).heap.size A n c xs := by
  have hs : ((w.setCell ⟨g, 0, none⟩ x).setCell ⟨g, 1, none⟩ y).heap.size = w.heap.size := by simp [World.size_setCell]
  rw [hs]
  refine ⟨h.len, h.good, h.cap, h.max, h.nil_, fun hn => ?_⟩
  obtain ⟨b, off, e, hb, hc⟩ := h.at_ hn
  refine ⟨b, off, e, hb, fun j hj => ?_⟩
  have hcj := hc j hj
  rw [World.cell?_setCell_other, World.cell?_setCell_other]
  · exact hcj
  · intro e2
    rw [← e2, h0] at hcj
    cases hcj
  · intro e2
    rw [← e2, h1] at hcj
    cases hcj
theorem far2 {w : World} {g h : Nat} {u0 u1 : Value} (x y : Value) (hne : g ≠ h) (p : w.cell? ⟨g, 0, none⟩ = some u0 ∧ w.cell? ⟨g, 1, none⟩ = some u1) :
    ((w.setCell ⟨h, 0, none⟩ x).setCell ⟨h, 1, none⟩ y).cell? ⟨g, 0, none⟩ = some u0 ∧ ((w.setCell ⟨h, 0, none⟩ x).setCell ⟨h, 1, none⟩ y).cell? ⟨g, 1, none⟩ = some u1 := by
  constructor
  · rw [World.cell?_setCell_other _ _ _ _ (fun e => hne (congrArg Addr.block e).symm), World.cell?_setCell_other _ _ _ _ (fun e => hne (congrArg Addr.block e).symm)]
    exact p.1
  · rw [World.cell?_setCell_other _ _ _ _ (fun e => hne (congrArg Addr.block e).symm), World.cell?_setCell_other _ _ _ _ (fun e => hne (congrArg Addr.block e).symm)]
    exact p.2
/-- Stores into a block beyond what was there. -/
theorem below_set2 {B : Nat} {w w1 : World} (h : Below B w w1) {g : Nat} (hg : B ≤ g) (x y : Value) : Below B w ((w1.setCell ⟨g, 0, none⟩ x).setCell ⟨g, 1, none⟩ y) :=
  (h.setCell (p := ⟨g, 0, none⟩) hg x).setCell (p := ⟨g, 1, none⟩) hg y
/-- The error of a number: whether it is valid. -/
def chk (neg : Bool) (xs : List Nat) : Int := if 4096 < xs.length then 8 else if xs = [] ∧ neg = true then 8 else if xs.getLast? = some 0 then 8 else 0
theorem chk_ok {neg : Bool} {xs : List Nat} : chk neg xs = 0 ↔ xs.length ≤ 4096 ∧ Norm xs ∧ (neg = true → xs ≠ []) := by
  unfold chk Norm
  constructor
  · intro h
    split at h
    · omega
    · split at h
      · omega
      · next h2 =>
        split at h
        · omega
        · next h3 => exact ⟨by omega, h3, fun hn e => h2 ⟨e, hn⟩⟩
  · rintro ⟨h1, h2, h3⟩
    rw [if_neg (by omega), if_neg (fun h => h3 h.2 h.1), if_neg h2]
theorem chk_cases (neg : Bool) (xs : List Nat) : chk neg xs = 0 ∨ chk neg xs = 8 := by
  unfold chk
  split
  · exact .inr rfl
  · split
    · exact .inr rfl
    · split
      · exact .inr rfl
      · exact .inl rfl
theorem chk_len {neg : Bool} {xs : List Nat} (hc : chk neg xs = 0) (g : Good xs) (k : Nat) : xs.length ≤ k ↔ val xs < 4294967296 ^ k := by
  have hn := (chk_ok.1 hc).2.1
  exact ⟨fun h => Nat.lt_of_lt_of_le (val_lt g) (pow_mono_ h), fun h => len_le_of_lt hn h⟩
theorem chk_digs {neg : Bool} {xs : List Nat} (hc : chk neg xs = 0) (g : Good xs) : xs = digs (val xs) := eq_digs g (chk_ok.1 hc).2.1 rfl
theorem last_get {xs : List Nat} (h : 0 < xs.length) : xs.getLast? = some 0 ↔ xs[xs.length - 1]?.getD 0 = 0 := by
  rw [List.getLast?_eq_getElem?, List.getElem?_eq_getElem (by omega)]
  simp

/-- The number with a sign and an absolute value, where it has a valid form: its sign, its limbs, the error. -/
def mkN (neg : Bool) (v : Nat) : Bool := decide ((digs v).length ≤ 4096) && (neg && decide (v ≠ 0))
def mkL (v : Nat) : List Nat := if (digs v).length ≤ 4096 then digs v else []
def mkE (v : Nat) : Int := if (digs v).length ≤ 4096 then 0 else 16
/-- A call returns a number that reads so, and an error; what was there is kept. -/
def RW (w : World) (neg : Bool) (xs : List Nat) (err : Int) (e : Ending) (w' : World) : Prop :=
  ∃ A n c, e = .returned (.tuple #[.agg #[.bool neg, .slice A n c], .int .i64 err]) ∧ Lm w' w'.heap.size A n c xs ∧ Below w.heap.size w w'

end Go.Proofs.Ytdbilpmhejigpaa
