/- Lemmas, part 9. -/
import Derived.Lib.Atoi
import Derived.Deep.DeepCutAuto
import Derived.Laws.BitsLemmas
import Derived.Shelf.Strconv.Atoi
import Derived.Shelf.Strings.Trim
import Derived.Test.YtkendkbicafdgaaGreatDoorProg
import Derived.Lib.AtoiErrMem
import Derived.Test.YtkendkbicafdgaaGreatDoorFBack8
/- Texts of numerals: what a reader of fractions makes of them (mathematics). -/
namespace Go.Proofs.YtkendkbicafdgaaGreatDoor
open Go.RowKit

/-- Whether a mark comes next, and what is left. -/
def sk (c : UInt8) : List UInt8 → Bool × List UInt8
  | [] => (false, [])
  | a :: t => if a = c then (true, t) else (false, a :: t)
theorem sk_cons (c a : UInt8) (t : List UInt8) : sk c (a :: t) = if a = c then (true, t) else (false, a :: t) := rfl
theorem sk_pfx (c : UInt8) (l : List UInt8) : Lib.hasPrefix l [c] = (sk c l).1 ∧ Lib.trimPrefix l [c] = (sk c l).2 := by
  cases l with
  | nil => exact ⟨rfl, rfl⟩
  | cons a t =>
    by_cases h : a = c
    · subst h
      have h2 : sk a (a :: t) = (true, t) := by rw [sk_cons, if_pos rfl]
      have h1 : Lib.hasPrefix (a :: t) [a] = true := by unfold Lib.hasPrefix; simp [List.isPrefixOf]
      rw [h2]
      refine ⟨h1, ?_⟩
      unfold Lib.trimPrefix
      rw [h1]
      rfl
    · have h0 : (c == a) = false := by simpa using fun e => h e.symm
      have h1 : Lib.hasPrefix (a :: t) [c] = false := by
        unfold Lib.hasPrefix
        simp [List.isPrefixOf, h0]
      have h2 : sk c (a :: t) = (false, a :: t) := by rw [sk_cons, if_neg h]
      rw [h1, h2]
      exact ⟨rfl, by unfold Lib.trimPrefix; rw [h1]; rfl⟩
theorem sk_len (c : UInt8) (l : List UInt8) : (sk c l).2.length ≤ l.length := by
  unfold sk
  split
  · exact Nat.le_refl _
  · split
    · exact Nat.le_succ _
    · exact Nat.le_refl _
theorem sk_no {c : UInt8} {l : List UInt8} (h : (sk c l).1 = false) : (sk c l).2 = l := by
  cases l with
  | nil => rfl
  | cons a t =>
    rw [sk_cons] at h ⊢
    by_cases e : a = c
    · rw [if_pos e] at h
      cases h
    · rw [if_neg e]

/-- The digits that come next, and what is behind them. -/
def dg (l : List UInt8) : List UInt8 := l.takeWhile isDig
def dr (l : List UInt8) : List UInt8 := l.dropWhile isDig
theorem dg_cut : ∀ (l : List UInt8) (i : Nat), (l.take i).all isDig = true → (∀ h : i < l.length, isDig (l[i]'h) = false) → dg l = l.take i ∧ dr l = l.drop i
  | [], i, _, _ => by
    unfold dg dr
    simp
  | a :: t, 0, _, h => by
    have h1 : isDig a = false := h (Nat.zero_lt_succ _)
    unfold dg dr
    rw [List.takeWhile_cons, List.dropWhile_cons, h1]
    exact ⟨rfl, rfl⟩
  | a :: t, i + 1, ha, h => by
    rw [List.take_succ_cons, List.all_cons, Bool.and_eq_true] at ha
    have h2 := dg_cut t i ha.2 fun hi => h (Nat.succ_lt_succ hi)
    unfold dg dr at h2 ⊢
    rw [List.takeWhile_cons, List.dropWhile_cons, ha.1]
    exact ⟨by rw [if_pos rfl, h2.1]; rfl, by rw [if_pos rfl, h2.2]; rfl⟩
theorem dg_all (l : List UInt8) : (dg l).all isDig = true := by
  rw [List.all_eq_true]
  intro x hx
  induction l with
  | nil => cases hx
  | cons a t ih =>
    unfold dg at hx ih
    rw [List.takeWhile_cons] at hx
    cases ha : isDig a with
    | false =>
      rw [ha] at hx
      cases hx
    | true =>
      rw [ha, if_pos rfl] at hx
      rcases List.mem_cons.1 hx with e | e
      · rw [e]; exact ha
      · exact ih e
theorem dgr_len (l : List UInt8) : (dg l).length + (dr l).length = l.length := by
  unfold dg dr
  rw [← List.length_append, List.takeWhile_append_dropWhile]
theorem decV_zeros : ∀ l : List UInt8, decV (l.dropWhile (· == 48)) = decV l
  | [] => rfl
  | a :: t => by
    rw [List.dropWhile_cons]
    by_cases h : a = 48
    · subst h
      rw [if_pos (by simp), decV_zeros t]
      rfl
    · rw [if_neg (by simpa using h)]
theorem zeros_ok {l : List UInt8} (h : l.all isDig = true) (hne : l.dropWhile (· == 48) ≠ []) : txtOk (l.dropWhile (· == 48)) = true := by
  have h1 : (l.dropWhile (· == 48)).all isDig = true := by
    rw [List.all_eq_true] at h ⊢
    exact fun c hc => h c (List.dropWhile_sublist _ |>.subset hc)
  have h2 : (l.dropWhile (· == 48))[0]?.getD 0 ≠ 48 := by
    clear h1 h
    induction l with
    | nil => exact absurd rfl hne
    | cons a t ih =>
      rw [List.dropWhile_cons] at hne ⊢
      by_cases ha : a = 48
      · rw [if_pos (by simpa using ha)] at hne ⊢
        exact ih hne
      · rw [if_neg (by simpa using ha)]
        exact ha
  unfold txtOk
  rw [h1, decide_eq_true hne, decide_eq_true h2]
  simp
theorem zeros_pz {l : List UInt8} (h : l.all isDig = true) (hne : l.dropWhile (· == 48) ≠ []) : pOk (l.dropWhile (· == 48)) = true ∧ pZ (l.dropWhile (· == 48)) = (decV l : Int) := by
  have h1 := zeros_ok h hne
  have h2 := minus_dig (txtOk_all h1)
  unfold pOk pZ
  rw [h2]
  refine ⟨?_, ?_⟩
  · rw [show ((false, l.dropWhile (· == 48)) : Bool × List UInt8).2 = l.dropWhile (· == 48) from rfl, h1]
    rfl
  · rw [← decV_zeros l]
    rfl
theorem zeros_nil {l : List UInt8} (h : l.dropWhile (· == 48) = []) : decV l = 0 := by
  rw [← decV_zeros, h]
  rfl

/-- A fraction times a power of ten, whose exponent is read. -/
def scl (p q : Int) (l : List UInt8) : Option (Int × Int × List UInt8) :=
  if dg (sk 45 l).2 = [] ∨ 3 < (dg (sk 45 l).2).length then none
  else if (sk 45 l).1 = true then some (p, q * 10 ^ decV (dg (sk 45 l).2), dr (sk 45 l).2) else some (p * 10 ^ decV (dg (sk 45 l).2), q, dr (sk 45 l).2)
def tl (p q : Int) (l : List UInt8) : Option (Int × Int × List UInt8) := if (sk 101 l).1 = true then scl p q (sk 101 l).2 else some (p, q, (sk 101 l).2)
/-- A numeral without a sign: its two numbers and what is left. -/
def uns (l : List UInt8) : Option (Int × Int × List UInt8) :=
  if dg l = [] then none
  else if (sk 47 (dr l)).1 = true then (if dg (sk 47 (dr l)).2 = [] then none else some ((decV (dg l) : Int), (decV (dg (sk 47 (dr l)).2) : Int), dr (sk 47 (dr l)).2))
  else if (sk 46 (dr l)).1 = true then (if dg (sk 46 (dr l)).2 = [] then none else tl (decV (dg l ++ dg (sk 46 (dr l)).2) : Int) (10 ^ (dg (sk 46 (dr l)).2).length) (dr (sk 46 (dr l)).2))
  else tl (decV (dg l ++ []) : Int) (10 ^ ([] : List UInt8).length) (sk 46 (dr l)).2
/-- A numeral: its two numbers. -/
def nml (l : List UInt8) : Option (Int × Int) :=
  if 200 < l.length then none
  else match uns (sk 45 l).2 with
    | some (p, q, []) => some (if (sk 45 l).1 = true then -p else p, q)
    | _ => none
theorem sz_dec {l : List UInt8} (h : l.all isDig = true) (hl : l.length ≤ 200) : Sz 200 (decV l : Int) := by
  have h1 := decV_lt h
  show decV l < _
  exact Nat.lt_of_lt_of_le h1 (Nat.le_trans (Nat.pow_le_pow_right (by omega) hl) (Nat.pow_le_pow_left (by omega) 200))
theorem dec3 {l : List UInt8} (h : l.all isDig = true) (hl : l.length ≤ 3) : decV l ≤ 999 := by
  have h1 := decV_lt h
  have h2 : 10 ^ l.length ≤ 10 ^ 3 := Nat.pow_le_pow_right (by omega) hl
  omega
theorem decFrom_dec : ∀ (l : List UInt8) (acc : Nat), l.all isDig = true → Lib.decFrom acc l = some (l.foldl (fun a c => a * 10 + (c.toNat - 48)) acc)
  | [], _, _ => rfl
  | b :: r, acc, h => by
    rw [List.all_cons, Bool.and_eq_true] at h
    have h1 : 48 ≤ b.toNat ∧ b.toNat ≤ 57 := by
      have := h.1
      unfold isDig at this
      simpa using this
    have h2 : Lib.digitVal b = some (b.toNat - 48) := by unfold Lib.digitVal; rw [if_pos h1]
    unfold Lib.decFrom
    rw [h2]
    exact decFrom_dec r _ h.2
theorem atoi_dec {l : List UInt8} (h : l.all isDig = true) (hne : l ≠ []) : Lib.atoi l = some (decV l : Int) := by
  cases l with
  | nil => exact absurd rfl hne
  | cons b r =>
    have h1 : 48 ≤ b.toNat ∧ b.toNat ≤ 57 := by
      have h2 := h
      rw [List.all_cons, Bool.and_eq_true] at h2
      have := h2.1
      unfold isDig at this
      simpa using this
    have e1 : (b == 45) = false := by
      cases hb : b == 45
      · rfl
      · have e : b = 45 := by simpa using hb
        subst e
        exact absurd h1.1 (by decide)
    have e2 : (b == 43) = false := by
      cases hb : b == 43
      · rfl
      · have e : b = 43 := by simpa using hb
        subst e
        exact absurd h1.1 (by decide)
    unfold Lib.atoi
    simp only [e1, e2]
    unfold Lib.decNat
    have e3 := decFrom_dec (b :: r) 0 h
    simp only [List.isEmpty_cons]
    rw [if_neg (by simp), if_neg (by simp), if_neg (by simp), e3]
    rfl
end Go.Proofs.YtkendkbicafdgaaGreatDoor

/- Package frac: attempt and change where the result is a string. -/
namespace Go.Proofs.YtkendkbicafdgaaGreatDoor
open Go.RowKit

theorem catchs_panicking (p : Addr) (x0 x : Int) (older : List PanicEntry) (w : World) (hc : w.cell? p = some (.int .i64 x0)) (hz : w.frozen? p = false) :
    CallsD Tryz.prog 94 #[.pointer (some p)] (.panicking ({ v := .iface 30 (.int .i64 x), recovered := false } :: older)) w fun e u' w' =>
      e = .returned (.tuple #[]) ∧ u' = .panicking ({ v := .iface 30 (.int .i64 x), recovered := true } :: older) ∧ w' = w.setCell p (.int .i64 x) := by
  have hta : ∀ w : World, (Instr.typeAssert (.iface 30 (.int .i64 x)) 20 30 false).run Tryz.prog w = .ok (.int .i64 x) w := fun _ => by kernel_rfl
  refine callsD_of_wpS Tryz.func94 rfl fun c₀ cs hu => ?_
  apply wpS_seq
  apply wpS_region
  simp [wpOpsS, go_sem, recoverD, hu, Tryz.ntmps94, Exit.thenS]
  apply wpS_seq
  apply wpS_region
  simp [wpOpsS, go_sem, Exit.thenS]
  refine wpS_cond (t := true) (by simp [Act.eval, Array.replicate]) ?_
  simp only [if_true]
  apply wpS_region
  simp [wpOpsS, go_sem, hta, hc, hz, bodyPostS, results, Tryz.results94]

theorem catchs_idle (p : Addr) (w : World) :
    CallsD Tryz.prog 94 #[.pointer (some p)] .returning w fun e u' w' => e = .returned (.tuple #[]) ∧ u' = .returning ∧ w' = w := by
  refine callsD_of_wpS Tryz.func94 rfl fun c₀ cs hu => ?_
  apply wpS_seq
  apply wpS_region
  simp [wpOpsS, go_sem, recoverD, hu, Tryz.ntmps94, Exit.thenS]
  apply wpS_seq
  apply wpS_region
  simp [wpOpsS, go_sem, Exit.thenS]
  refine wpS_cond (t := false) (by simp [Act.eval, Array.replicate]) ?_
  simp only [Bool.false_eq_true, if_false]
  refine wpS_of_wp (wp_skip ?_)
  cases c₀
  simp_all [bodyPostS, results, Tryz.results94]

/-- A call returns a string and an error's number. -/
def RSE (w : World) (s : ByteArray) (err : Int) (e : Ending) (w' : World) : Prop := e = .returned (.tuple #[.string s, .int .i64 err]) ∧ Below w.heap.size w w'
/-- A call returns a string. -/
def RSs (w : World) (s : ByteArray) (e : Ending) (w' : World) : Prop := e = .returned (.string s) ∧ Below w.heap.size w w'

set_option maxRecDepth 100000 in
set_option maxHeartbeats 1000000 in
theorem attempts_ok (w : World) (f : FuncId) (first cap : Array Value) (x : ByteArray) (hcf : ∀ W, (callFunc f (first ++ cap)).run Tryz.prog W = .ok (.enter f (first ++ cap)) W)
    (H : Calls Tryz.prog f (first ++ cap) (Wai w) (RSs (Wai w) x)) :
    Calls Tryz.prog 55 #[.func (.func f) first cap] w (RSE w x 0) := by
  have hmf : ∀ (fn : Fn) (first cap : Array Value) (w : World), (Instr.makeFunc fn first cap).run Tryz.prog w = .ok (.func fn first cap) w := fun _ _ _ _ => rfl
  have HH := Lib.hid H
  clear H
  go_enter_defers Tryz.func55, Tryz.ntmps55
  go_wp2_with fail
  refine HH.out.mono ?_
  rintro e w1 ⟨rfl, hb⟩
  have hc : w1.cell? ⟨w.heap.size, 0, none⟩ = some (.int .i64 0) := (hb.cell (p := ⟨w.heap.size, 0, none⟩) (by rw [wai_size]; simp)).trans (wai_c w).1
  have hf : w1.frozen? ⟨w.heap.size, 0, none⟩ = false := (hb.frozen (p := ⟨w.heap.size, 0, none⟩) (by rw [wai_size]; simp)).trans (wai_c w).2
  have HB := Lib.hid ((wai_below w).trans (hb.mono (wai_below w).size))
  clear hb
  go_wp2
  refine leaves_cons (f := 94) (args := #[.pointer (some ⟨w.heap.size, 0, none⟩)]) (by simp) (by simp [go_sem]) ?_
  refine (catchs_idle _ _).mono ?_
  rintro e u' w'' ⟨rfl, rfl, rfl⟩
  exact ⟨_, res_ie Tryz.results55 rfl rfl (World.cell?_setCell_same _ _ _ hc), rfl, HB.out.setCell (p := ⟨w.heap.size, 0, none⟩) (Nat.le_refl _) _⟩

set_option maxRecDepth 100000 in
set_option maxHeartbeats 1000000 in
theorem attempts_no (w : World) (f : FuncId) (first cap : Array Value) (x : Int) (hcf : ∀ W, (callFunc f (first ++ cap)).run Tryz.prog W = .ok (.enter f (first ++ cap)) W)
    (H : Calls Tryz.prog f (first ++ cap) (Wai w) (fun e w' => e = Pan x ∧ Below (Wai w).heap.size (Wai w) w')) :
    Calls Tryz.prog 55 #[.func (.func f) first cap] w (RSE w ⟨#[]⟩ x) := by
  have hmf : ∀ (fn : Fn) (first cap : Array Value) (w : World), (Instr.makeFunc fn first cap).run Tryz.prog w = .ok (.func fn first cap) w := fun _ _ _ _ => rfl
  have HH := Lib.hid H
  clear H
  go_enter_defers Tryz.func55, Tryz.ntmps55
  go_wp2_with fail
  refine HH.out.mono ?_
  rintro e w1 ⟨rfl, hb⟩
  unfold Pan
  have hc : w1.cell? ⟨w.heap.size, 0, none⟩ = some (.int .i64 0) := (hb.cell (p := ⟨w.heap.size, 0, none⟩) (by rw [wai_size]; simp)).trans (wai_c w).1
  have hf : w1.frozen? ⟨w.heap.size, 0, none⟩ = false := (hb.frozen (p := ⟨w.heap.size, 0, none⟩) (by rw [wai_size]; simp)).trans (wai_c w).2
  have HB := Lib.hid ((wai_below w).trans (hb.mono (wai_below w).size))
  clear hb
  refine leaves_cons (f := 94) (args := #[.pointer (some ⟨w.heap.size, 0, none⟩)]) (by simp) (by simp [go_sem]) ?_
  refine (catchs_panicking _ 0 x _ _ hc hf).mono ?_
  rintro e u' w'' ⟨rfl, rfl, rfl⟩
  exact ⟨_, res_ie Tryz.results55 rfl rfl (World.cell?_setCell_same _ _ _ hc), rfl, HB.out.setCell (p := ⟨w.heap.size, 0, none⟩) (Nat.le_refl _) _⟩

set_option maxRecDepth 100000 in
set_option maxHeartbeats 2000000 in
theorem changes_ok (w : World) (g0 ga : Nat) (f : FuncId) (na da : Bool) (A B : Option Addr) (n m ca cb : Nat) (xs ys : List Nat) (hf : Fb w g0 f) (qa : Qd w ga (.bool na) (.slice A n ca) (.bool da) (.slice B m cb)) (hA : Lm w w.heap.size A n ca xs) (hB : Lm w w.heap.size B m cb ys) (hv : fchk na xs da ys = 0) (t : ByteArray)
    (hcf : ∀ (u : Value) (W : World), (callFunc f #[u]).run Tryz.prog W = .ok (.enter f #[u]) W)
    (H : ∀ W, Lm W W.heap.size A n ca xs → Lm W W.heap.size B m cb ys → Calls Tryz.prog f #[fv na A n ca da B m cb] W (RSs W t)) :
    Calls Tryz.prog 56 #[.pointer (some ⟨g0, 0, none⟩), .pointer (some ⟨ga, 0, none⟩)] w (RSs w t) := by
  have HF := Lib.hid hf
  have QA := Lib.hid qa
  have LA := Lib.hid hA
  have LB := Lib.hid hB
  have HV := Lib.hid hv
  have HH := Lib.hid H
  clear hA hB hv hf qa H
  go_enter Tryz.func56, Tryz.ntmps56
  have hg0 : g0 < w.heap.size := HF.out.lt
  have hga : ga < w.heap.size := QA.out.lt
  have HKS : Hid (∀ X : World, Below w.heap.size w X → X.cell? ⟨g0, 0, none⟩ = some (.func (.func f) #[] #[]) ∧ X.cell? ⟨ga, 0, none⟩ = some (.bool na) ∧ X.cell? ⟨ga, 1, none⟩ = some (.slice A n ca) ∧ X.cell? ⟨ga, 2, none⟩ = some (.bool da) ∧ X.cell? ⟨ga, 3, none⟩ = some (.slice B m cb)) := fun X h => ⟨(h.cell (p := ⟨g0, 0, none⟩) hg0).trans HF.out.c0, (QA.out.via h).c0, (QA.out.via h).c1, (QA.out.via h).c2, (QA.out.via h).c3⟩
  go_upto_region 1 with (fail)
  go_region_held3 (fun w' => w'.cell? ⟨g0, 0, none⟩ = some (.func (.func f) #[] #[]) ∧ w'.cell? ⟨ga, 0, none⟩ = some (.bool na) ∧ w'.cell? ⟨ga, 1, none⟩ = some (.slice A n ca) ∧ w'.cell? ⟨ga, 2, none⟩ = some (.bool da) ∧ w'.cell? ⟨ga, 3, none⟩ = some (.slice B m cb))
    (first | (refine HKS.out _ ?_; (repeat' (first | exact Be | exact Bc | exact (Below.refl _ _).drew | exact Below.refl _ _ | refine Below.setCell ?_ ?_ _)); all_goals (first | omega | (simp; done) | (simp; omega))))
    (first
     | (go_at_call 57; refine (known_ok _ na da A B n m ca cb xs ys (by first | exact LA.out.drew | exact LA.out) (by first | exact LB.out.drew | exact LB.out) HV.out).mono ?_; rintro e wc ⟨rfl, hbc⟩; have Bc : Below w.heap.size w wc := (by first | exact (Below.refl _ _).drew.trans hbc | exact hbc))
     | (refine (HH.out _ (LA.out.via Bc) (LB.out.via Bc)).mono ?_; rintro e we ⟨rfl, hbe⟩; have Be : Below w.heap.size w we := btr Bc hbe)
     | fail)
  all_goals
    go_wp2
    go_ret
    exact ⟨rfl, Be⟩

set_option maxRecDepth 100000 in
set_option maxHeartbeats 2000000 in
theorem changes_g (w : World) (f : FuncId) (na da : Bool) (A B : Option Addr) (n m ca cb : Nat) (xs ys : List Nat) (hA : Lm w w.heap.size A n ca xs) (hB : Lm w w.heap.size B m cb ys) (t : ByteArray) (err : Int)
    (H : ∀ W g0 ga, Fb W g0 f → Qd W ga (.bool na) (.slice A n ca) (.bool da) (.slice B m cb) → Lm W W.heap.size A n ca xs → Lm W W.heap.size B m cb ys → Calls Tryz.prog 55 #[.func (.func 56) #[] #[.pointer (some ⟨g0, 0, none⟩), .pointer (some ⟨ga, 0, none⟩)]] W (RSE W t err)) :
    Calls Tryz.prog 28 #[fv na A n ca da B m cb, .func (.func f) #[] #[]] w (RSE w t err) := by
  have hmf : ∀ (fn : Fn) (first cap : Array Value) (w : World), (Instr.makeFunc fn first cap).run Tryz.prog w = .ok (.func fn first cap) w := fun _ _ _ _ => rfl
  have HH := Lib.hid H
  have HA := Lib.hid hA
  have HB := Lib.hid hB
  clear H hA hB
  go_enter Tryz.func28, Tryz.ntmps28
  have QA := Lib.hid ((Qd.new w _ rfl (.bool na) (.slice A n ca) (.bool da) (.slice B m cb) 26).alloc (.cells #[.func (.func f) #[] #[]] 57))
  have QF : Hid (Fb ((w.alloc (.cells #[.bool na, .slice A n ca, .bool da, .slice B m cb] 26)).alloc (.cells #[.func (.func f) #[] #[]] 57)) (w.heap.size + 1) f) := ⟨by go_simp, by simp⟩
  have BW : Hid (Below w.heap.size w ((w.alloc (.cells #[.bool na, .slice A n ca, .bool da, .slice B m cb] 26)).alloc (.cells #[.func (.func f) #[] #[]] 57))) := below_alloc (below_alloc (Below.refl _ _) _) _
  have LA : Hid (Lm ((w.alloc (.cells #[.bool na, .slice A n ca, .bool da, .slice B m cb] 26)).alloc (.cells #[.func (.func f) #[] #[]] 57)) ((w.alloc (.cells #[.bool na, .slice A n ca, .bool da, .slice B m cb] 26)).alloc (.cells #[.func (.func f) #[] #[]] 57)).heap.size A n ca xs) := ((HA.out.box _).box _)
  have LB : Hid (Lm ((w.alloc (.cells #[.bool na, .slice A n ca, .bool da, .slice B m cb] 26)).alloc (.cells #[.func (.func f) #[] #[]] 57)) ((w.alloc (.cells #[.bool na, .slice A n ca, .bool da, .slice B m cb] 26)).alloc (.cells #[.func (.func f) #[] #[]] 57)).heap.size B m cb ys) := ((HB.out.box _).box _)
  clear HA HB
  go_wp2_with fail
  refine (HH.out _ (w.heap.size + 1) w.heap.size QF.out QA.out LA.out LB.out).mono ?_
  rintro e w1 ⟨rfl, hb⟩
  have BB := Lib.hid (btr BW.out hb)
  clear hb
  go_wp2
  go_returns
  exact ⟨rfl, BB.out⟩
end Go.Proofs.YtkendkbicafdgaaGreatDoor

/-
  The contract of bits.Len where the number is less than 65536.
-/
namespace Go.Proofs.YtkendkbicafdgaaGreatDoor
open Go.RowKit
set_option maxRecDepth 100000 in
set_option maxHeartbeats 400000 in
theorem len64_c (w : World) (x : Int) (h0 : 256 ≤ x) (h1 : x < 65536) :
    Calls Tryz.prog 157 #[.int .u64 x] w fun e w' => e = .returned (.int .i64 (Lib.bitLen x.toNat)) ∧ w = w' := by
  have hT : ∀ w, (Instr.index 9 (.string Lib.len8tab) (.int .u8 (x / 256))).run Tryz.prog w = .ok (.int .u8 (Lib.len8 (x / 256))) w := fun w => Lib.run_index_len8tab w 9 .u8 (x / 256) Tryz.underlying9 (by omega) (by omega)
  have hE : Hid (Lib.len8 (x / 256) = Lib.bitLen (x / 256).toNat) := Lib.len8_of (x / 256) (by omega) (by omega)
  have hL := Lib.hid (Lib.bitLen_le8' (x / 256) (by omega) (by omega))
  have hs := Lib.hid (Lib.bitLen_shift8 x.toNat (by omega) (by omega))
  have he : Hid ((x / 256).toNat = x.toNat / 256) := by show _ = _; omega
  go_enter Tryz.func157, Tryz.ntmps157
  go_wp2
  go_ret
  refine ⟨ret_int ?_, rfl⟩
  rw [hE.out]
  have l := hL.out
  have s := hs.out
  rw [he.out] at l ⊢
  unfold wrap64
  omega
set_option maxRecDepth 100000 in
set_option maxHeartbeats 400000 in
theorem len64_d (w : World) (x : Int) (h0 : 0 ≤ x) (h1 : x < 256) :
    Calls Tryz.prog 157 #[.int .u64 x] w fun e w' => e = .returned (.int .i64 (Lib.bitLen x.toNat)) ∧ w = w' := by
  have hT : ∀ w, (Instr.index 9 (.string Lib.len8tab) (.int .u8 (x))).run Tryz.prog w = .ok (.int .u8 (Lib.len8 (x))) w := fun w => Lib.run_index_len8tab w 9 .u8 (x) Tryz.underlying9 (by omega) (by omega)
  have hE : Hid (Lib.len8 (x) = Lib.bitLen (x).toNat) := Lib.len8_of (x) (by omega) (by omega)
  have hL := Lib.hid (Lib.bitLen_le8' (x) (by omega) (by omega))
  go_enter Tryz.func157, Tryz.ntmps157
  go_wp2
  go_ret
  refine ⟨ret_int ?_, rfl⟩
  rw [hE.out]
  have l := hL.out
  unfold wrap64
  omega
theorem len64_any (w : World) (x : Int) (h0 : 0 ≤ x) (h1 : x < 65536) :
    Calls Tryz.prog 157 #[.int .u64 x] w fun e w' => e = .returned (.int .i64 (Lib.bitLen x.toNat)) ∧ w = w' := by
  by_cases c : 256 ≤ x
  · exact len64_c w x c (by omega)
  exact len64_d w x h0 (by omega)
set_option maxRecDepth 100000 in
set_option maxHeartbeats 400000 in
theorem len_any (w : World) (x : Int) (h0 : 0 ≤ x) (h1 : x < 65536) :
    Calls Tryz.prog 132 #[.int .u64 x] w fun e w' => e = .returned (.int .i64 (Lib.bitLen x.toNat)) ∧ w = w' := by
  go_enter Tryz.func132, Tryz.ntmps132
  go_wp2_with (go_at_call 157; refine (len64_any _ _ (by omega) (by omega)).mono ?_; rintro e w' ⟨rfl, rfl⟩)
  go_ret
  exact ⟨rfl, rfl⟩
end Go.Proofs.YtkendkbicafdgaaGreatDoor

/- Square roots by Newton's rule, in numbers. -/
namespace Go.Proofs.YtkendkbicafdgaaGreatDoor
theorem sq_le {a b : Nat} : 2 * a * b ≤ a * a + b * b := by
  rcases Nat.le_total a b with h | h
  · obtain ⟨d, rfl⟩ := Nat.le.dest h
    have : (a + d) * (a + d) = a * a + 2 * a * d + d * d := by grind
    have : 2 * a * (a + d) = 2 * (a * a) + 2 * a * d := by grind
    have := Nat.zero_le (d * d)
    omega
  · obtain ⟨d, rfl⟩ := Nat.le.dest h
    have : (b + d) * (b + d) = b * b + 2 * b * d + d * d := by grind
    have : 2 * (b + d) * b = 2 * (b * b) + 2 * b * d := by grind
    have := Nat.zero_le (d * d)
    omega
theorem le_of_sq {d t : Nat} (h : t * t ≤ d * d) : t ≤ d := by
  rcases Nat.lt_or_ge d t with h1 | h1
  · have := Nat.mul_self_lt_mul_self h1
    omega
  · exact h1
/-- One step of Newton's rule: the next number is less than a unit away. -/
theorem newton_core {N Y T p q : Nat} (hY : 0 < p) (h2 : 2 * p = Y) (hTT : T * T ≤ 2 * Y) (hTY : T ≤ Y) (h3 : (Y - T) * (Y - T) < N) (h4 : N < (Y + T) * (Y + T)) (hq : 2 * Y * q ≤ N) (hq' : N < 2 * Y * (q + 1)) :
    (p + q - 1) * (p + q - 1) < N ∧ N < (p + q + 1) * (p + q + 1) := by
  subst h2
  constructor
  · obtain ⟨u, hu⟩ : ∃ u, p + q = u + 1 := ⟨p + q - 1, by omega⟩
    rw [hu, Nat.add_sub_cancel]
    refine Nat.lt_of_not_le fun hN => ?_
    have e1 : 2 * (2 * p) * (p + q) = 2 * p * (2 * p) + 2 * (2 * p) * q := by grind
    rw [hu] at e1
    have e2 : 2 * (2 * p) * (u + 1) = 2 * (2 * p) * u + 2 * (2 * p) := by grind
    have hm : 2 * (2 * p) * u + 2 * (2 * p) ≤ 2 * p * (2 * p) + N := by omega
    clear e1 e2
    rcases Nat.le_total u (2 * p) with h | h
    · obtain ⟨d, hd⟩ := Nat.le.dest h
      have e3 : d * d + 2 * (2 * p) * u = 2 * p * (2 * p) + u * u := by rw [← hd]; grind
      have hT : T ≤ d := le_of_sq (by omega)
      have h5 : u ≤ 2 * p - T := by omega
      have := Nat.mul_le_mul h5 h5
      omega
    · obtain ⟨d, hd⟩ := Nat.le.dest h
      have e3 : d * d + 2 * (2 * p) * u = 2 * p * (2 * p) + u * u := by rw [← hd]; grind
      have hT : T ≤ d := le_of_sq (by omega)
      have e4 : (2 * p + T) * (2 * p + T) = 2 * p * (2 * p) + 2 * (2 * p) * T + T * T := by grind
      have e5 : 2 * (2 * p) * u = 2 * (2 * p * (2 * p)) + 2 * (2 * p) * d := by rw [← hd]; grind
      have h6 : 2 * (2 * p) * T ≤ 2 * (2 * p) * d := Nat.mul_le_mul_left _ hT
      omega
  · refine Nat.lt_of_not_le fun hN => ?_
    have h5 := @sq_le (2 * p) (p + q + 1)
    have e1 : 2 * (2 * p) * (p + q + 1) = 2 * p * (2 * p) + 2 * (2 * p) * (q + 1) := by grind
    omega
/-- r is the root of v, rounded down. -/
def IsRt (v r : Nat) : Prop := r * r ≤ v ∧ v < (r + 1) * (r + 1)
theorem IsRt.uniq {v r s : Nat} (h : IsRt v r) (k : IsRt v s) : r = s := by
  have h1 : r < s + 1 := Nat.lt_of_not_le fun h' => by have := Nat.mul_le_mul h' h'; have := h.1; have := k.2; omega
  have h2 : s < r + 1 := Nat.lt_of_not_le fun h' => by have := Nat.mul_le_mul h' h'; have := k.1; have := h.2; omega
  omega
/-- a is nearer than a unit to the root of the number v without its lowest 2 * (c - e) digits. -/
def RtInv (v c e a : Nat) : Prop := 2 ^ e ≤ a ∧ (a - 1) * (a - 1) < v / 4 ^ (c - e) ∧ v / 4 ^ (c - e) < (a + 1) * (a + 1)
theorem rt_start {v c : Nat} (h1 : 4 ^ c ≤ v) (h2 : v < 4 ^ (c + 1)) : RtInv v c 0 1 := by
  refine ⟨by simp, ?_, ?_⟩
  · simp only [Nat.sub_self, Nat.mul_zero, Nat.sub_zero]
    exact (Nat.le_div_iff_mul_le (Nat.pow_pos (by omega))).2 (by omega)
  · rw [Nat.sub_zero]
    exact (Nat.div_lt_iff_lt_mul (Nat.pow_pos (by omega))).2 (by rw [Nat.pow_succ] at h2; omega)
theorem rt_end {v c a : Nat} (h : RtInv v c c a) : (a - 1) * (a - 1) < v ∧ v < (a + 1) * (a + 1) := by
  have := h.2
  simpa using this
theorem rt_root {v a : Nat} (h0 : 1 ≤ a) (h : (a - 1) * (a - 1) < v ∧ v < (a + 1) * (a + 1)) : IsRt v (if v < a * a then a - 1 else a) := by
  split
  · exact ⟨by omega, by rw [Nat.sub_add_cancel h0]; assumption⟩
  · exact ⟨by omega, h.2⟩
theorem rt_mid {N a k M q : Nat} (hk : 2 ^ k ≤ a) (hlo : (a - 1) * (a - 1) < M) (hhi : M < (a + 1) * (a + 1)) (hM : N / (2 ^ (k + 1) * 2 ^ (k + 1)) = M) (hq : N / (2 * (2 ^ (k + 1) * a)) = q) :
    (2 ^ k * a + q - 1) * (2 ^ k * a + q - 1) < N ∧ N < (2 ^ k * a + q + 1) * (2 ^ k * a + q + 1) := by
  have ha0 : 0 < a := Nat.lt_of_lt_of_le (Nat.pow_pos (by omega)) hk
  have hTp : 0 < 2 ^ (k + 1) * 2 ^ (k + 1) := Nat.mul_pos (Nat.pow_pos (by omega)) (Nat.pow_pos (by omega))
  have hT2 : 2 ^ (k + 1) = 2 * 2 ^ k := by rw [Nat.pow_succ]; omega
  have n1 := Nat.div_mul_le_self N (2 ^ (k + 1) * 2 ^ (k + 1))
  have n2 := Nat.lt_mul_div_succ N hTp
  have hT0 : 0 < 2 ^ (k + 1) := Nat.pow_pos (by omega)
  have hTT : 2 ^ (k + 1) * 2 ^ (k + 1) ≤ 2 * (2 ^ (k + 1) * a) := by
    have := Nat.mul_le_mul_left (2 ^ (k + 1)) hk
    rw [hT2] at this ⊢
    have e : 2 * 2 ^ k * (2 * 2 ^ k) = 2 * (2 * 2 ^ k * 2 ^ k) := by grind
    omega
  have hpY : 2 * (2 ^ k * a) = 2 ^ (k + 1) * a := by rw [hT2]; grind
  have hP : 0 < 2 ^ k * a := Nat.mul_pos (Nat.pow_pos (by omega)) ha0
  rw [hM] at n1 n2
  clear hM hT2
  generalize hT : 2 ^ (k + 1) = T at *
  clear hT
  have hY : 0 < T * a := Nat.mul_pos hT0 ha0
  have q1 := Nat.mul_div_le N (2 * (T * a))
  have q2 := Nat.lt_mul_div_succ N (show 0 < 2 * (T * a) by omega)
  rw [hq] at q1 q2
  refine @newton_core N (T * a) T (2 ^ k * a) q hP hpY hTT (Nat.le_mul_of_pos_right _ ha0) ?_ ?_ q1 q2
  · have e : (T * a - T) * (T * a - T) = (a - 1) * (a - 1) * (T * T) := by
      rw [show T * a - T = T * (a - 1) from by rw [Nat.mul_sub, Nat.mul_one]]; grind
    rw [e]
    have h5 := Nat.mul_lt_mul_of_pos_right hlo hTp
    omega
  · have e : (T * a + T) * (T * a + T) = (a + 1) * (a + 1) * (T * T) := by grind
    rw [e]
    have h5 := Nat.mul_le_mul_right (T * T) (Nat.succ_le_of_lt hhi)
    rw [Nat.mul_comm (T * T)] at n2
    exact Nat.lt_of_lt_of_le n2 h5
theorem rt_step {v c d e a : Nat} (hc : d ≤ c) (h0 : e < d) (hd : d ≤ 2 * e + 1) (h1 : 4 ^ c ≤ v) (h : RtInv v c e a) :
    RtInv v c d (a * 2 ^ (d - e - 1) + v / 2 ^ (2 * c - e - d + 1) / a) := by
  obtain ⟨ha, hlo, hhi⟩ := h
  obtain ⟨k, rfl⟩ : ∃ k, d = e + k + 1 := ⟨d - e - 1, by omega⟩
  have hk : 2 ^ k ≤ a := Nat.le_trans (Nat.pow_le_pow_right (by omega) (by omega)) ha
  rw [show e + k + 1 - e - 1 = k from by omega]
  have hM : v / 4 ^ (c - (e + k + 1)) / (2 ^ (k + 1) * 2 ^ (k + 1)) = v / 4 ^ (c - e) := by
    rw [Nat.div_div_eq_div_mul]
    congr 1
    rw [show (4 : Nat) = 2 ^ 2 from rfl, ← Nat.pow_mul, ← Nat.pow_mul, ← Nat.pow_add, ← Nat.pow_add]
    congr 1
    omega
  have hq : v / 4 ^ (c - (e + k + 1)) / (2 * (2 ^ (k + 1) * a)) = v / 2 ^ (2 * c - e - (e + k + 1) + 1) / a := by
    rw [Nat.div_div_eq_div_mul, Nat.div_div_eq_div_mul]
    congr 1
    rw [show (4 : Nat) = 2 ^ 2 from rfl, ← Nat.pow_mul, show 2 * (2 ^ (k + 1) * a) = 2 ^ (k + 2) * a from by rw [Nat.pow_succ 2 (k + 1)]; grind, ← Nat.mul_assoc, ← Nat.pow_add]
    congr 2
    omega
  have core := rt_mid hk hlo hhi hM hq
  rw [Nat.mul_comm a]
  refine ⟨?_, core⟩
  have h4 : 4 ^ (e + k + 1) ≤ v / 4 ^ (c - (e + k + 1)) := by
    refine (Nat.le_div_iff_mul_le (Nat.pow_pos (by omega))).2 ?_
    rw [← Nat.pow_add, show e + k + 1 + (c - (e + k + 1)) = c from by omega]
    exact h1
  have h5 : 2 ^ (e + k + 1) * 2 ^ (e + k + 1) < (2 ^ k * a + v / 2 ^ (2 * c - e - (e + k + 1) + 1) / a + 1) * (2 ^ k * a + v / 2 ^ (2 * c - e - (e + k + 1) + 1) / a + 1) := by
    rw [show (4 : Nat) = 2 * 2 from rfl, Nat.mul_pow] at h4
    exact Nat.lt_of_le_of_lt h4 core.2
  refine Nat.le_of_lt_succ (Nat.lt_of_not_le fun h6 => ?_)
  have := Nat.mul_le_mul h6 h6
  exact Nat.lt_irrefl _ (Nat.lt_of_lt_of_le h5 this)
end Go.Proofs.YtkendkbicafdgaaGreatDoor

/- wide.root: the square root, rounded down. -/
namespace Go.Proofs.YtkendkbicafdgaaGreatDoor
open Go.RowKit

theorem rt_le {v c e x : Nat} (h : RtInv v c e x) : x ≤ v := by
  have h1 := h.2.1
  have h2 : v / 4 ^ (c - e) ≤ v := Nat.div_le_self _ _
  refine Nat.le_of_not_lt fun h3 => ?_
  have h4 := Nat.mul_le_mul (show v ≤ x - 1 by omega) (show v ≤ x - 1 by omega)
  rcases Nat.eq_zero_or_pos v with h5 | h5
  · subst h5; omega
  · have h6 := Nat.mul_le_mul_left v h5
    omega
theorem rt_pos {v c e x : Nat} (h : RtInv v c e x) : 1 ≤ x := Nat.le_trans (Nat.pow_pos (by omega)) h.1
/-- A call returns the root of v. -/
def RR (w : World) (v : Nat) (e : Ending) (w' : World) : Prop := ∃ r A c, IsRt v r ∧ e = .returned (.slice A (digs r).length c) ∧ Lm w' w'.heap.size A (digs r).length c (digs r) ∧ Below w.heap.size w w'

end Go.Proofs.YtkendkbicafdgaaGreatDoor

/- wide.Pow. -/
namespace Go.Proofs.YtkendkbicafdgaaGreatDoor
open Go.RowKit

theorem mul_rz (w : World) (A B : Option Addr) (n m ca cb : Nat) (x y : Int) {na nb : Bool} (hA : Lm w w.heap.size A n ca (digs x.natAbs)) (hB : Lm w w.heap.size B m cb (digs y.natAbs)) (hx : (digs x.natAbs).length ≤ 4096) (hy : (digs y.natAbs).length ≤ 4096) (ha : decide (x < 0) = na) (hb : decide (y < 0) = nb) :
    Calls Tryz.prog 110 #[.agg #[.bool na, .slice A n ca], .agg #[.bool nb, .slice B m cb]] w (RZ w (x * y)) := by
  subst ha hb
  have h := mul_ok w _ _ A B n m ca cb _ _ hA hB (chkB_z (digs_len.1 hx) (Nat.le_refl _) (digs_len.1 hy) (Nat.le_refl _))
  have e1 := rz_of w (decide (x < 0) != decide (y < 0)) (x.natAbs * y.natAbs) (z := x * y) (by rw [← toI_mul, toI_self, toI_self])
  rw [e1] at h
  exact h
/-- A number of at most 4096 limbs, or one that is too large. -/
theorem rz_cases {w : World} {z : Int} {e : Ending} {w' : World} (h : RZ w z e w') : ((digs z.natAbs).length ≤ 4096 ∧ RN w z e w') ∨ (4096 < (digs z.natAbs).length ∧ RW w false [] 16 e w') := by
  rcases Nat.lt_or_ge 4096 (digs z.natAbs).length with h1 | h1
  · right
    refine ⟨h1, ?_⟩
    unfold RZ mkN mkL mkE at h
    rw [decide_eq_false (by omega), if_neg (by omega), if_neg (by omega)] at h
    exact h
  · obtain ⟨k, hk⟩ : ∃ k, k = 4096 := ⟨_, rfl⟩
    exact .inl ⟨h1, rz_rn (k := k) (digs_len.1 (by omega)) (by omega) h⟩
theorem rz_big {w : World} {z : Int} (h1 : 4096 < (digs z.natAbs).length) : RZ w z = RW w false [] 16 := by
  unfold RZ mkN mkL mkE
  rw [decide_eq_false (by omega), if_neg (by omega), if_neg (by omega)]
  rfl
theorem rz_fit {w : World} {z : Int} (h1 : (digs z.natAbs).length ≤ 4096) : RZ w z = RW w (decide (z < 0)) (digs z.natAbs) 0 := by
  obtain ⟨k, hk⟩ : ∃ k, k = 4096 := ⟨_, rfl⟩
  have h2 := mkN_z (z := z) (k := k) (digs_len.1 (by omega)) (by omega)
  unfold RZ
  rw [h2.1, h2.2.1, h2.2.2]
theorem natAbs_pow_ (x : Int) (k : Nat) : (x ^ k).natAbs = x.natAbs ^ k := by
  induction k with
  | zero => simp
  | succ k ih => rw [Int.pow_succ, Nat.pow_succ, Int.natAbs_mul, ih]
/-- A power on the way is no longer than the last one. -/
theorem pow_way {x : Int} {a b : Nat} (h : a ≤ b) (hb : 4096 < (digs (x ^ a).natAbs).length) : 4096 < (digs (x ^ b).natAbs).length := by
  rw [natAbs_pow_] at hb ⊢
  rcases Nat.eq_zero_or_pos x.natAbs with h0 | h0
  · rw [h0] at hb
    have : (digs (0 ^ a)).length ≤ 1 := by
      refine digs_len.2 ?_
      rcases Nat.eq_zero_or_pos a with h1 | h1
      · subst h1; decide
      · rw [Nat.zero_pow h1]; decide
    omega
  · exact Nat.lt_of_lt_of_le hb (digs_mono (Nat.pow_le_pow_right h0 h))
theorem and_one (d : Nat) (h : d < 65536) : bits .and .i64 (d : Int) 1 = ((d % 2 : Nat) : Int) := by
  have e16 : (2 : Int) ^ 16 = 65536 := by decide
  have e1 : (2 : Int) ^ 1 = 2 := by decide
  have h1 := bits_mask .i64 16 (by decide) (fun n h0 h1 => by rw [e16] at h1; rw [IntKind.wrap_i64]; omega) 1 (by omega) (d : Int) (by omega) (by rw [e16]; omega)
  rw [e1] at h1
  have e2 : (2 : Int) - 1 = 1 := by decide
  rw [e2] at h1
  rw [h1]
  omega
theorem Pr.set1 {w : World} {g : Nat} {x y : Value} (p : Pr w g x y) (x' y' : Value) : Pr ((w.setCell ⟨g, 0, none⟩ x').setCell ⟨g, 1, none⟩ y') g x' y' := p.set x' y'

set_option maxRecDepth 100000 in
set_option maxHeartbeats 1000000 in
theorem pow_bad (w : World) (neg : Bool) (A : Option Addr) (n c : Nat) (xs : List Nat) (k : Int) (h : Lm w w.heap.size A n c xs) (hc : chk neg xs = 8) :
    Calls Tryz.prog 111 #[.agg #[.bool neg, .slice A n c], .int .i64 k] w (RW w false [] 8) := by
  have HH := Lib.hid h
  have HC := Lib.hid hc
  clear hc
  go_enter Tryz.func111, Tryz.ntmps111
  go_wp2_with fail
  refine (check_bad _ _ _ _ _ _ ((HH.out.box _).box _) HC.out).mono ?_
  rintro e w1 ⟨rfl, hb1⟩
  have ⟨hx0, hx1, hy0, hy1, hf0, hf1, hsz⟩ := box2 hb1
  go_wp2
  exact post_ws Tryz.results111 rfl rfl hy0 hy1 ⟨none, 0, 0, rfl, Lm.nil _ _, below_set2 (bbox (bbox hb1)) (by omega) _ _⟩

set_option maxRecDepth 100000 in
set_option maxHeartbeats 1000000 in
theorem pow_arg (w : World) (neg : Bool) (A : Option Addr) (n c : Nat) (xs : List Nat) (k : Int) (h : Lm w w.heap.size A n c xs) (hc : chk neg xs = 0) (hk : k < 0 ∨ 1000 < k) :
    Calls Tryz.prog 111 #[.agg #[.bool neg, .slice A n c], .int .i64 k] w (RW w false [] 2) := by
  have HH := Lib.hid h
  have HC := Lib.hid hc
  clear hc
  go_enter Tryz.func111, Tryz.ntmps111
  go_wp2_with fail
  refine (check_ok _ _ _ _ _ _ ((HH.out.box _).box _) HC.out).mono ?_
  rintro e w1 ⟨rfl, hb1⟩
  have ⟨hx0, hx1, hy0, hy1, hf0, hf1, hsz⟩ := box2 hb1
  rcases hk with hk | hk
  · go_wp2
    exact post_ws Tryz.results111 rfl rfl hy0 hy1 ⟨none, 0, 0, rfl, Lm.nil _ _, below_set2 (bbox (bbox hb1)) (by omega) _ _⟩
  · have hk2 : decide (k < 0) = false := by simp; omega
    go_wp2
    exact post_ws Tryz.results111 rfl rfl hy0 hy1 ⟨none, 0, 0, rfl, Lm.nil _ _, below_set2 (bbox (bbox hb1)) (by omega) _ _⟩

set_option maxRecDepth 100000 in
set_option maxHeartbeats 2000000 in
theorem pow_ok (w : World) (A : Option Addr) (n c k : Nat) (x : Int) {na : Bool} (h : Lm w w.heap.size A n c (digs x.natAbs)) (hx : (digs x.natAbs).length ≤ 4096) (hk : k ≤ 1000) (ha : decide (x < 0) = na) :
    Calls Tryz.prog 111 #[.agg #[.bool na, .slice A n c], .int .i64 (k : Int)] w (RZ w (x ^ k)) := by
  have HH := Lib.hid h
  have HX := Lib.hid hx
  have HN := Lib.hid ha
  have HC : Hid (chk na (digs x.natAbs) = 0) := by show _ = _; rw [← ha]; exact chk_z (digs_len.1 hx) (Nat.le_refl _)
  have hkd : decide ((k : Int) < 0) = false := decide_eq_false (by omega)
  have hkd2 : decide ((1000 : Int) < (k : Int)) = false := decide_eq_false (by omega)
  have hb10 : Lib.bitLen k ≤ 10 := Lib.bitLen_le k 10 (by omega) (by omega)
  have HB2 : Hid (k < 2 ^ Lib.bitLen k) := by
    show _ < _
    rcases Nat.eq_zero_or_pos k with h0 | h0
    · subst h0; exact Nat.pow_pos (by omega)
    · exact (bitLen_bounds (by omega) (by omega)).2.2
  clear h hx ha
  go_enter Tryz.func111, Tryz.ntmps111
  go_wp2_with fail
  refine (check_ok _ _ _ _ _ _ ((HH.out.box _).box _) HC.out).mono ?_
  rintro e w1 ⟨rfl, hb1⟩
  have P0 := Lib.hid (((Pr.new w _ rfl (.bool na) (.slice A n c) 24).alloc (.cells #[.bool false, .slice none 0 0] 24)).via hb1)
  have P1 := Lib.hid ((Pr.new (w.alloc (.cells #[.bool na, .slice A n c] 24)) (w.heap.size + 1) (by simp) (.bool false) (.slice none 0 0) 24).via hb1)
  have L1 := Lib.hid (((HH.out.box _).box _).via hb1)
  have B1 := Lib.hid (bbox (bbox hb1))
  clear hb1
  go_wp2_with fail
  refine (from_any _ 1 (by omega) (by omega)).mono ?_
  rintro e w2 ⟨A2, n2, c2, rfl, hL2, hb2⟩
  have P0' := Lib.hid (P0.out.via hb2)
  have P1' := Lib.hid (P1.out.via hb2)
  have L1' := Lib.hid (L1.out.via hb2)
  have B2 := Lib.hid (B1.out.trans (hb2.mono B1.out.size))
  have L2 := Lib.hid hL2
  clear hL2 hb2 P0 P1 L1 B1
  go_wp2_with fail
  refine (len_any _ _ (by omega) (by omega)).mono ?_
  rintro e w3 ⟨rfl, rfl⟩
  rw [show ((k : Int)).toNat = k from rfl]
  have P2 := Lib.hid (Pr.new w2 _ rfl (.bool false) (.slice A2 n2 c2) 24)
  have P0 := Lib.hid (P0'.out.alloc (.cells #[.bool false, .slice A2 n2 c2] 24))
  have P1 := Lib.hid (P1'.out.alloc (.cells #[.bool false, .slice A2 n2 c2] 24))
  have L1 := Lib.hid (L1'.out.box (.cells #[.bool false, .slice A2 n2 c2] 24))
  have L3 := Lib.hid (L2.out.box (.cells #[.bool false, .slice A2 n2 c2] 24))
  have B3 := Lib.hid (B2.out.alloc B2.out.size (.cells #[.bool false, .slice A2 n2 c2] 24))
  have hg7 : w.heap.size + 1 < w2.heap.size := P1'.out.lt
  clear P0' P1' L1' L2 B2
  generalize w2.alloc (.cells #[.bool false, .slice A2 n2 c2] 24) = W3 at *
  generalize w2.heap.size = g at *
  generalize Lib.bitLen k = bl at *
  go_wp2
  go_loopw [8, 9] (fun ev iv wr => ∃ (j : Nat) (er : Int) (ny : Bool) (A' : Option Addr) (n' c' : Nat), j ≤ bl ∧ iv = .int .i64 (j : Int) ∧ ev = .int .i64 er ∧ Pr wr g (.bool ny) (.slice A' n' c') ∧
      ((er = 0 ∧ Lm wr wr.heap.size A' n' c' (digs (x ^ (k / 2 ^ j)).natAbs) ∧ ny = decide (x ^ (k / 2 ^ j) < 0) ∧ (digs (x ^ (k / 2 ^ j)).natAbs).length ≤ 4096) ∨ (er = 16 ∧ ny = false ∧ Lm wr wr.heap.size A' n' c' [] ∧ 4096 < (digs (x ^ k).natAbs).length)) ∧
      Pr wr w.heap.size (.bool na) (.slice A n c) ∧ Pr wr (w.heap.size + 1) (.bool false) (.slice none 0 0) ∧ Lm wr wr.heap.size A n c (digs x.natAbs) ∧ Below w.heap.size w wr) (fun _ iv _ => (intOf iv).toNat)
  case atStart =>
    have e0 : k / 2 ^ bl = 0 := Nat.div_eq_of_lt HB2.out
    refine ⟨bl, 0, false, A2, n2, c2, Nat.le_refl _, rfl, rfl, P2.out, .inl ⟨rfl, ?_, ?_, ?_⟩, P0.out, P1.out, L1.out, B3.out⟩
    · rw [e0, Int.pow_zero]; exact L3.out
    · rw [e0, Int.pow_zero]; rfl
    · rw [e0, Int.pow_zero]; decide
  case round =>
    obtain ⟨j, er, ny, A', n', c', hj, rfl, rfl, hP, hS, hP0, hP1, hL, hB⟩ := hrel
    have HP := Lib.hid hP
    have HP0 := Lib.hid hP0
    have HP1 := Lib.hid hP1
    have HL := Lib.hid hL
    have HB := Lib.hid hB
    clear P0 P1 P2 L1 L3 B3 hP hP0 hP1 hL hB
    have ⟨p0, p1, _, _, _⟩ := HP.out
    have ⟨w0, w1, _, _, _⟩ := HP0.out
    have ⟨r0, r1, _, _, _⟩ := HP1.out
    rcases hS with ⟨rfl, hY, rfl, hyl⟩ | ⟨rfl, rfl, hY0, hbig⟩
    · have HY := Lib.hid hY
      clear hY
      rcases j with _ | j
      · rw [Nat.pow_zero, Nat.div_one] at HY hyl HP p0
        have HFit := Lib.hid (rz_fit (w := w) hyl)
        obtain ⟨ny, hny⟩ : ∃ b, decide (x ^ k < 0) = b := ⟨_, rfl⟩
        rw [hny] at HP HFit p0
        go_wp2
        exact post_ws Tryz.results111 rfl rfl r0 r1 (by rw [HFit.out]; exact ⟨A', n', c', rfl, HY.out.setP HP1.out _ _, below_set2 HB.out (by omega) _ _⟩)
      · obtain ⟨y, hy⟩ : ∃ y, x ^ (k / 2 ^ (j + 1)) = y := ⟨_, rfl⟩
        rw [hy] at HY HP hyl p0
        obtain ⟨ny, hny⟩ : ∃ b, decide (y < 0) = b := ⟨_, rfl⟩
        have HNy := Lib.hid hny
        have HYe := Lib.hid hy
        rw [hny] at HP p0
        clear hy hny
        go_wp2_with fail
        refine (mul_rz _ _ _ _ _ _ _ y y HY.out HY.out hyl hyl HNy.out HNy.out).mono ?_
        intro e w4 hr
        rcases rz_cases hr with ⟨hfit, hr2⟩ | ⟨hfit, hr2⟩
        · obtain ⟨A4, n4, c4, rfl, hL4, hb4⟩ := hr2
          have HQ := Lib.hid (HP.out.via hb4)
          have HQ0 := Lib.hid (HP0.out.via hb4)
          have HQ1 := Lib.hid (HP1.out.via hb4)
          have HM := Lib.hid (HL.out.via hb4)
          have HL4 := Lib.hid hL4
          have HB4 := Lib.hid (HB.out.trans (hb4.mono HB.out.size))
          have hj2 : k / 2 ^ j = 2 * (k / 2 ^ (j + 1)) + k / 2 ^ j % 2 := by rw [Nat.pow_succ, ← Nat.div_div_eq_div_mul]; omega
          have HYY : Hid (y * y = x ^ (2 * (k / 2 ^ (j + 1)))) := by show _ = _; rw [← HYe.out, ← Int.pow_add]; congr 1; omega
          have HJ2 := Lib.hid hj2
          clear hj2 hr hL4 hb4 p0 p1 w0 w1 r0 r1
          have ⟨p0, p1, f0, f1, _⟩ := HQ.out
          have ⟨w0, w1, _, _, _⟩ := HQ0.out
          have ⟨r0, r1, _, _, _⟩ := HQ1.out
          obtain ⟨d, hd⟩ : ∃ d, k / 2 ^ j = d := ⟨_, rfl⟩
          have hdq : (k : Int) / 2 ^ j = (d : Int) := by rw [cast_shr, hd]
          have hdk : d ≤ k := by rw [← hd]; exact Nat.div_le_self _ _
          have hj9 : j < 16 := by omega
          have HDd := Lib.hid hd
          clear hd
          have hand := and_one d (by omega)
          rcases Nat.mod_two_eq_zero_or_one d with hd2 | hd2
          · rw [hd2] at hand
            have hE : k / 2 ^ j = 2 * (k / 2 ^ (j + 1)) := by have := HJ2.out; have := HDd.out; omega
            have HE : Hid (y * y = x ^ (k / 2 ^ j)) := by show _ = _; rw [HYY.out, hE]
            have hand1 : ¬ bits .and .i64 (d : Int) 1 = 1 := by rw [hand]; decide
            clear hE hand
            have hfit' := hfit
            rw [HE.out] at hfit'
            have HF := Lib.hid hfit'
            clear hfit hfit'
            go_wp2
            go_roundw
            case rel =>
              refine ⟨j, 0, decide (y * y < 0), A4, n4, c4, by omega, rfl, rfl, HQ.out.set _ _, .inl ⟨rfl, ?_, by rw [HE.out], HF.out⟩, HQ0.out.far (by omega) _ _, HQ1.out.far (by omega) _ _, HM.out.setP HQ.out _ _, below_set2 HB4.out (by omega) _ _⟩
              rw [← HE.out]
              exact HL4.out.setP HQ.out _ _
            case measure => simp [intOf]
          · rw [hd2] at hand
            have hE : k / 2 ^ j = 2 * (k / 2 ^ (j + 1)) + 1 := by have := HJ2.out; have := HDd.out; omega
            have HE : Hid (y * y * x = x ^ (k / 2 ^ j)) := by show _ = _; rw [HYY.out, hE, Int.pow_succ]
            have hand1 : bits .and .i64 (d : Int) 1 = 1 := by rw [hand]; rfl
            clear hE hand
            obtain ⟨nyy, hnyy⟩ : ∃ b, decide (y * y < 0) = b := ⟨_, rfl⟩
            have HNyy := Lib.hid hnyy
            rw [hnyy]
            clear hnyy
            have HQ5 := Lib.hid (HQ.out.set (.bool nyy) (.slice A4 n4 c4))
            have HQ50 := Lib.hid (HQ0.out.far (h := g) (by omega) (.bool nyy) (.slice A4 n4 c4))
            have HQ51 := Lib.hid (HQ1.out.far (h := g) (by omega) (.bool nyy) (.slice A4 n4 c4))
            have HM5 := Lib.hid (HM.out.setP HQ.out (.bool nyy) (.slice A4 n4 c4))
            have HL5 := Lib.hid (HL4.out.setP HQ.out (.bool nyy) (.slice A4 n4 c4))
            have HB5 := Lib.hid (below_set2 HB4.out (g := g) (by omega) (.bool nyy) (.slice A4 n4 c4))
            have HFq := Lib.hid hfit
            clear hfit
            go_wp2_with fail
            refine (mul_rz _ _ _ _ _ _ _ (y * y) x HL5.out HM5.out HFq.out HX.out HNyy.out HN.out).mono ?_
            intro e w6 hr
            rcases rz_cases hr with ⟨hfit, hr2⟩ | ⟨hfit, hr2⟩
            · obtain ⟨A6, n6, c6, rfl, hL6, hb6⟩ := hr2
              have HQ6 := Lib.hid (HQ5.out.via hb6)
              have HQ60 := Lib.hid (HQ50.out.via hb6)
              have HQ61 := Lib.hid (HQ51.out.via hb6)
              have HM6 := Lib.hid (HM5.out.via hb6)
              have HL6 := Lib.hid hL6
              have HB6 := Lib.hid (HB5.out.trans (hb6.mono HB5.out.size))
              have HF := Lib.hid hfit
              clear hr hL6 hb6 hfit p0 p1 f0 f1 w0 w1 r0 r1
              have ⟨p0, p1, f0, f1, _⟩ := HQ6.out
              go_wp2
              go_roundw
              case rel =>
                refine ⟨j, 0, decide (y * y * x < 0), A6, n6, c6, by omega, rfl, rfl, HQ6.out.set _ _, .inl ⟨rfl, ?_, by rw [HE.out], by rw [← HE.out]; exact HF.out⟩, HQ60.out.far (by omega) _ _, HQ61.out.far (by omega) _ _, HM6.out.setP HQ6.out _ _, below_set2 HB6.out (by omega) _ _⟩
                rw [← HE.out]
                exact HL6.out.setP HQ6.out _ _
              case measure => simp [intOf]
            · obtain ⟨A6, n6, c6, rfl, hL6, hb6⟩ := hr2
              have HQ6 := Lib.hid (HQ5.out.via hb6)
              have HQ60 := Lib.hid (HQ50.out.via hb6)
              have HQ61 := Lib.hid (HQ51.out.via hb6)
              have HM6 := Lib.hid (HM5.out.via hb6)
              have HB6 := Lib.hid (HB5.out.trans (hb6.mono HB5.out.size))
              have HF : Hid (4096 < (digs (x ^ k).natAbs).length) := by
                show _ < _
                rw [HE.out] at hfit
                exact pow_way (Nat.div_le_self _ _) hfit
              have HL6 := Lib.hid hL6
              clear hr hL6 hb6 hfit p0 p1 f0 f1 w0 w1 r0 r1
              have ⟨p0, p1, f0, f1, _⟩ := HQ6.out
              go_wp2
              go_roundw
              case rel =>
                exact ⟨j, 16, false, A6, n6, c6, by omega, rfl, rfl, HQ6.out.set _ _, .inr ⟨rfl, rfl, HL6.out.setP HQ6.out _ _, HF.out⟩, HQ60.out.far (by omega) _ _, HQ61.out.far (by omega) _ _, HM6.out.setP HQ6.out _ _, below_set2 HB6.out (by omega) _ _⟩
              case measure => simp [intOf]
        · obtain ⟨A4, n4, c4, rfl, hL4, hb4⟩ := hr2
          have HQ := Lib.hid (HP.out.via hb4)
          have HQ0 := Lib.hid (HP0.out.via hb4)
          have HQ1 := Lib.hid (HP1.out.via hb4)
          have HM := Lib.hid (HL.out.via hb4)
          have HL4 := Lib.hid hL4
          have HB4 := Lib.hid (HB.out.trans (hb4.mono HB.out.size))
          have HF : Hid (4096 < (digs (x ^ k).natAbs).length) := by
            show _ < _
            have hYY : y * y = x ^ (2 * (k / 2 ^ (j + 1))) := by rw [← HYe.out, ← Int.pow_add]; congr 1; omega
            rw [hYY] at hfit
            refine pow_way ?_ hfit
            have h1 : 2 * (k / 2 ^ (j + 1)) = 2 * (k / 2 ^ j / 2) := by rw [Nat.pow_succ, ← Nat.div_div_eq_div_mul]
            have h2 : k / 2 ^ j ≤ k := Nat.div_le_self _ _
            omega
          clear hr hL4 hb4 hfit p0 p1 w0 w1 r0 r1
          have ⟨p0, p1, f0, f1, _⟩ := HQ.out
          obtain ⟨d, hd⟩ : ∃ d, k / 2 ^ j = d := ⟨_, rfl⟩
          have hdq : (k : Int) / 2 ^ j = (d : Int) := by rw [cast_shr, hd]
          have hdk : d ≤ k := by rw [← hd]; exact Nat.div_le_self _ _
          have hj9 : j < 16 := by omega
          clear hd
          have hand := and_one d (by omega)
          rcases Nat.mod_two_eq_zero_or_one d with hd2 | hd2
          · rw [hd2] at hand
            have hand1 : ¬ bits .and .i64 (d : Int) 1 = 1 := by rw [hand]; decide
            clear hand
            go_wp2
            go_roundw
            case rel =>
              exact ⟨j, 16, false, A4, n4, c4, by omega, rfl, rfl, HQ.out.set _ _, .inr ⟨rfl, rfl, HL4.out.setP HQ.out _ _, HF.out⟩, HQ0.out.far (by omega) _ _, HQ1.out.far (by omega) _ _, HM.out.setP HQ.out _ _, below_set2 HB4.out (by omega) _ _⟩
            case measure => simp [intOf]
          · rw [hd2] at hand
            have hand1 : bits .and .i64 (d : Int) 1 = 1 := by rw [hand]; rfl
            clear hand
            go_wp2
            go_roundw
            case rel =>
              exact ⟨j, 16, false, A4, n4, c4, by omega, rfl, rfl, HQ.out.set _ _, .inr ⟨rfl, rfl, HL4.out.setP HQ.out _ _, HF.out⟩, HQ0.out.far (by omega) _ _, HQ1.out.far (by omega) _ _, HM.out.setP HQ.out _ _, below_set2 HB4.out (by omega) _ _⟩
            case measure => simp [intOf]
    · have HFit := Lib.hid (rz_big (w := w) hbig)
      have HY0 := Lib.hid hY0
      clear hY0
      go_wp2
      all_goals exact post_ws Tryz.results111 rfl rfl r0 r1 (by rw [HFit.out]; exact ⟨A', n', c', rfl, HY0.out.setP HP1.out _ _, below_set2 HB.out (by omega) _ _⟩)
end Go.Proofs.YtkendkbicafdgaaGreatDoor

/- Package frac: power, must of a string. -/
namespace Go.Proofs.YtkendkbicafdgaaGreatDoor
open Go.RowKit

theorem sz_ten (k : Nat) (hk : k ≤ 999) : Sz 126 ((10 : Int) ^ k) := by
  obtain ⟨e, he⟩ : ∃ e, e = 32 * 126 := ⟨_, rfl⟩
  have h4 : 4 * k < e := by omega
  have h3 : (4294967296 : Nat) ^ 126 = 2 ^ e := by rw [he, show (4294967296 : Nat) = 2 ^ 32 from rfl, ← Nat.pow_mul]
  clear he
  show ((10 : Int) ^ k).natAbs < 4294967296 ^ 126
  rw [Int.natAbs_pow, h3]
  show 10 ^ k < 2 ^ e
  have h1 : 10 ^ k ≤ 16 ^ k := Nat.pow_le_pow_left (by decide) k
  rw [show (16 : Nat) = 2 ^ 4 from rfl, ← Nat.pow_mul] at h1
  exact Nat.lt_of_le_of_lt h1 (Nat.pow_lt_pow_right (by decide) h4)
set_option maxRecDepth 100000 in
set_option maxHeartbeats 2000000 in
theorem power_n (w : World) (k : Nat) (hk : k ≤ 999) :
    Calls Tryz.prog 71 #[.int .i64 (k : Int)] w (RVz w ((10 : Int) ^ k)) := by
  go_enter Tryz.func71, Tryz.ntmps71
  have QR := Lib.hid (Pr.new w _ rfl (.bool false) (.slice none 0 0) 24)
  have BW : Hid (Below w.heap.size w (w.alloc (.cells #[.bool false, .slice none 0 0] 24))) := below_alloc (Below.refl _ _) _
  go_wp2_with fail
  refine (from_any _ 10 (by omega) (by omega)).mono ?_
  rintro e w1 ⟨A1, n1, c1, rfl, hL1, hb⟩
  have L1 := Lib.hid hL1
  replace QR := Lib.hid (QR.out.via hb)
  replace BW := Lib.hid (btr BW.out hb)
  clear hb hL1
  go_wp2_with fail
  refine (pow_ok _ A1 n1 c1 k 10 L1.out (by decide) (by omega) rfl).mono ?_
  intro e w2 hr
  obtain ⟨A2, n2, c2, rfl, hL2, hb⟩ := rz_rn (sz_ten k hk) (by omega) hr
  have L2 := Lib.hid hL2
  replace QR := Lib.hid (QR.out.via hb)
  replace BW := Lib.hid (btr BW.out hb)
  obtain ⟨np, hnp⟩ : ∃ b, decide ((10 : Int) ^ k < 0) = b := ⟨_, rfl⟩
  rw [hnp]
  have HNp := Lib.hid hnp
  clear hb hL2 hr hnp L1
  go_wp2_with fail
  refine (must_ok _ _ _ _ _).mono ?_
  rintro e w3 ⟨rfl, hb⟩
  replace L2 := Lib.hid (L2.out.via hb)
  replace QR := Lib.hid (QR.out.via hb)
  replace BW := Lib.hid (btr BW.out hb)
  clear hb
  have ⟨q0, q1, f0, f1, ql⟩ := QR.out
  go_wp2
  have KS := QR.out.set (.bool np) (.slice A2 n2 c2)
  exact post_w1 Tryz.results71 rfl rfl KS.c0 KS.c1 ⟨A2, n2, c2, by rw [HNp.out], L2.out.setP QR.out _ _, below_set2 BW.out (Nat.le_refl _) _ _⟩

set_option maxHeartbeats 400000 in
theorem musts_ok (w : World) (s : ByteArray) :
    Calls Tryz.prog 58 #[.string s, .int .i64 0] w fun e w' => e = .returned (.string s) ∧ w = w' := by
  go_enter Tryz.func58, Tryz.ntmps58
  go_wp2_with fail
  refine (pass_ok _).mono ?_
  rintro e w1 ⟨rfl, rfl⟩
  go_wp2
  go_ret
  exact ⟨rfl, rfl⟩
end Go.Proofs.YtkendkbicafdgaaGreatDoor

/- Package frac: change with a closure that holds one variable. -/
namespace Go.Proofs.YtkendkbicafdgaaGreatDoor
open Go.RowKit

/-- A variable that holds a closure with one captured value. -/
structure Fbp (w : World) (g : Nat) (f : FuncId) (p : Value) : Prop where
  c0 : w.cell? ⟨g, 0, none⟩ = some (.func (.func f) #[] #[p])
  lt : g < w.heap.size
theorem Fbp.via {w w' : World} {g : Nat} {f : FuncId} {p : Value} (h : Fbp w g f p) (hb : Below w.heap.size w w') : Fbp w' g f p := ⟨(hb.cell (p := ⟨g, 0, none⟩) h.lt).trans h.c0, Nat.lt_of_lt_of_le h.lt hb.size⟩

set_option maxRecDepth 100000 in
set_option maxHeartbeats 2000000 in
theorem changesp_ok (w : World) (g0 ga : Nat) (f : FuncId) (p : Value) (na da : Bool) (A B : Option Addr) (n m ca cb : Nat) (xs ys : List Nat) (hf : Fbp w g0 f p) (qa : Qd w ga (.bool na) (.slice A n ca) (.bool da) (.slice B m cb)) (hA : Lm w w.heap.size A n ca xs) (hB : Lm w w.heap.size B m cb ys) (hv : fchk na xs da ys = 0) (t : ByteArray)
    (hcf : ∀ (u : Value) (W : World), (callFunc f #[u, p]).run Tryz.prog W = .ok (.enter f #[u, p]) W)
    (H : ∀ W, Below w.heap.size w W → Lm W W.heap.size A n ca xs → Lm W W.heap.size B m cb ys → Calls Tryz.prog f #[fv na A n ca da B m cb, p] W (RSs W t)) :
    Calls Tryz.prog 56 #[.pointer (some ⟨g0, 0, none⟩), .pointer (some ⟨ga, 0, none⟩)] w (RSs w t) := by
  have HF := Lib.hid hf
  have QA := Lib.hid qa
  have LA := Lib.hid hA
  have LB := Lib.hid hB
  have HV := Lib.hid hv
  have HH := Lib.hid H
  clear hA hB hv hf qa H
  go_enter Tryz.func56, Tryz.ntmps56
  have hg0 : g0 < w.heap.size := HF.out.lt
  have hga : ga < w.heap.size := QA.out.lt
  have HKS : Hid (∀ X : World, Below w.heap.size w X → X.cell? ⟨g0, 0, none⟩ = some (.func (.func f) #[] #[p]) ∧ X.cell? ⟨ga, 0, none⟩ = some (.bool na) ∧ X.cell? ⟨ga, 1, none⟩ = some (.slice A n ca) ∧ X.cell? ⟨ga, 2, none⟩ = some (.bool da) ∧ X.cell? ⟨ga, 3, none⟩ = some (.slice B m cb)) := fun X h => ⟨(h.cell (p := ⟨g0, 0, none⟩) hg0).trans HF.out.c0, (QA.out.via h).c0, (QA.out.via h).c1, (QA.out.via h).c2, (QA.out.via h).c3⟩
  go_upto_region 1 with (fail)
  go_region_held3 (fun w' => w'.cell? ⟨g0, 0, none⟩ = some (.func (.func f) #[] #[p]) ∧ w'.cell? ⟨ga, 0, none⟩ = some (.bool na) ∧ w'.cell? ⟨ga, 1, none⟩ = some (.slice A n ca) ∧ w'.cell? ⟨ga, 2, none⟩ = some (.bool da) ∧ w'.cell? ⟨ga, 3, none⟩ = some (.slice B m cb))
    (first | (refine HKS.out _ ?_; (repeat' (first | exact Be | exact Bc | exact (Below.refl _ _).drew | exact Below.refl _ _ | refine Below.setCell ?_ ?_ _)); all_goals (first | omega | (simp; done) | (simp; omega))))
    (first
     | (go_at_call 57; refine (known_ok _ na da A B n m ca cb xs ys (by first | exact LA.out.drew | exact LA.out) (by first | exact LB.out.drew | exact LB.out) HV.out).mono ?_; rintro e wc ⟨rfl, hbc⟩; have Bc : Below w.heap.size w wc := (by first | exact (Below.refl _ _).drew.trans hbc | exact hbc))
     | (refine (HH.out _ Bc (LA.out.via Bc) (LB.out.via Bc)).mono ?_; rintro e we ⟨rfl, hbe⟩; have Be : Below w.heap.size w we := btr Bc hbe)
     | fail)
  all_goals
    go_wp2
    go_ret
    exact ⟨rfl, Be⟩

set_option maxRecDepth 100000 in
set_option maxHeartbeats 2000000 in
theorem changesp_g (w : World) (f : FuncId) (p : Value) (na da : Bool) (A B : Option Addr) (n m ca cb : Nat) (xs ys : List Nat) (hA : Lm w w.heap.size A n ca xs) (hB : Lm w w.heap.size B m cb ys) (t : ByteArray) (err : Int)
    (H : ∀ W g0 ga, Below w.heap.size w W → Fbp W g0 f p → Qd W ga (.bool na) (.slice A n ca) (.bool da) (.slice B m cb) → Lm W W.heap.size A n ca xs → Lm W W.heap.size B m cb ys → Calls Tryz.prog 55 #[.func (.func 56) #[] #[.pointer (some ⟨g0, 0, none⟩), .pointer (some ⟨ga, 0, none⟩)]] W (RSE W t err)) :
    Calls Tryz.prog 28 #[fv na A n ca da B m cb, .func (.func f) #[] #[p]] w (RSE w t err) := by
  have hmf : ∀ (fn : Fn) (first cap : Array Value) (w : World), (Instr.makeFunc fn first cap).run Tryz.prog w = .ok (.func fn first cap) w := fun _ _ _ _ => rfl
  have HH := Lib.hid H
  have HA := Lib.hid hA
  have HB := Lib.hid hB
  clear H hA hB
  go_enter Tryz.func28, Tryz.ntmps28
  have QA := Lib.hid ((Qd.new w _ rfl (.bool na) (.slice A n ca) (.bool da) (.slice B m cb) 26).alloc (.cells #[.func (.func f) #[] #[p]] 57))
  have QF : Hid (Fbp ((w.alloc (.cells #[.bool na, .slice A n ca, .bool da, .slice B m cb] 26)).alloc (.cells #[.func (.func f) #[] #[p]] 57)) (w.heap.size + 1) f p) := ⟨by go_simp, by simp⟩
  have BW : Hid (Below w.heap.size w ((w.alloc (.cells #[.bool na, .slice A n ca, .bool da, .slice B m cb] 26)).alloc (.cells #[.func (.func f) #[] #[p]] 57))) := below_alloc (below_alloc (Below.refl _ _) _) _
  have LA : Hid (Lm ((w.alloc (.cells #[.bool na, .slice A n ca, .bool da, .slice B m cb] 26)).alloc (.cells #[.func (.func f) #[] #[p]] 57)) ((w.alloc (.cells #[.bool na, .slice A n ca, .bool da, .slice B m cb] 26)).alloc (.cells #[.func (.func f) #[] #[p]] 57)).heap.size A n ca xs) := ((HA.out.box _).box _)
  have LB : Hid (Lm ((w.alloc (.cells #[.bool na, .slice A n ca, .bool da, .slice B m cb] 26)).alloc (.cells #[.func (.func f) #[] #[p]] 57)) ((w.alloc (.cells #[.bool na, .slice A n ca, .bool da, .slice B m cb] 26)).alloc (.cells #[.func (.func f) #[] #[p]] 57)).heap.size B m cb ys) := ((HB.out.box _).box _)
  clear HA HB
  go_wp2_with fail
  refine (HH.out _ (w.heap.size + 1) w.heap.size BW.out QF.out QA.out LA.out LB.out).mono ?_
  rintro e w1 ⟨rfl, hb⟩
  have BB := Lib.hid (btr BW.out hb)
  clear hb
  go_wp2
  go_returns
  exact ⟨rfl, BB.out⟩
end Go.Proofs.YtkendkbicafdgaaGreatDoor

/- Package frac: pointed. -/
namespace Go.Proofs.YtkendkbicafdgaaGreatDoor
open Go.RowKit

/-- Digits with zeros in front, so that there are more than k of them. -/
def pad0 (s : List UInt8) (k : Nat) : List UInt8 := List.replicate (k + 1 - s.length) 48 ++ s
/-- Digits with a point in front of the last k ones. -/
def ptd (s : List UInt8) (k : Nat) : List UInt8 := if k = 0 then s else (pad0 s k).take ((pad0 s k).length - k) ++ 46 :: (pad0 s k).drop ((pad0 s k).length - k)
theorem point_eq (T : List UInt8) (a : Nat) : ((⟨T.toArray⟩ : ByteArray).extract 0 a ++ ⟨#[46]⟩ ++ (⟨T.toArray⟩ : ByteArray).extract a T.length) = ⟨(T.take a ++ 46 :: T.drop a).toArray⟩ := by
  apply ByteArray.ext
  simp [ByteArray.data_append, ByteArray.data_extract]
  exact List.take_of_length_le (by simp)
set_option maxRecDepth 100000 in
set_option maxHeartbeats 1000000 in
theorem pointed_any (w : World) (s : List UInt8) (k : Nat) (hk : k ≤ 50) (hs : s.length ≤ 1000000) :
    Calls Tryz.prog 73 #[.string ⟨s.toArray⟩, .int .i64 (k : Int)] w fun e w' => e = .returned (.string ⟨(ptd s k).toArray⟩) ∧ Below w.heap.size w w' := by
  have hsz : (⟨s.toArray⟩ : ByteArray).size = s.length := by simp [ByteArray.size]
  by_cases h0 : k = 0
  · subst h0
    go_enter Tryz.func73, Tryz.ntmps73
    go_wp2
    go_ret
    exact ⟨by unfold ptd; rw [if_pos rfl]; rfl, Below.refl _ _⟩
  · have k1 : decide ((k : Int) = 0) = false := decide_eq_false (by omega)
    have k2 : ((k : Int) == 0) = false := by simp [h0]
    go_enter Tryz.func73, Tryz.ntmps73
    go_wp2
    go_loop [0, 14] (fun t i => ∃ j : Nat, j ≤ k + 1 - s.length ∧ i = .int .i64 j ∧ t = .string ⟨(List.replicate j 48 ++ s).toArray⟩) (fun _ i => k + 1 - s.length - (intOf i).toNat)
    case atStart => exact ⟨0, Nat.zero_le _, rfl, rfl⟩
    case round =>
      obtain ⟨j, hj, rfl, rfl⟩ := hrel
      by_cases hlt : j < k + 1 - s.length
      · have hl : (j : Int) < (k : Int) + 1 - (s.length : Int) := by omega
        go_wp2
        refine ⟨⟨j + 1, by omega, by go_num, ?_⟩, by simp [intOf]; omega⟩
        rw [List.replicate_succ]
        rfl
      · have hl : decide ((j : Int) < (k : Int) + 1 - (s.length : Int)) = false := decide_eq_false (by omega)
        have HT : Hid (List.replicate j 48 ++ s = pad0 s k) := by
          show _ = _
          unfold pad0
          rw [show j = k + 1 - s.length by omega]
        have hT : (List.replicate j 48 ++ s).length = (pad0 s k).length := by rw [HT.out]
        have hP : k < (pad0 s k).length := by unfold pad0; rw [List.length_append, List.length_replicate]; omega
        have hP2 : (pad0 s k).length ≤ 2000000 := by unfold pad0; rw [List.length_append, List.length_replicate]; omega
        have HR : Hid (ptd s k = (pad0 s k).take ((pad0 s k).length - k) ++ 46 :: (pad0 s k).drop ((pad0 s k).length - k)) := by
          show _ = _
          unfold ptd
          rw [if_neg h0]
        rw [HT.out]
        clear HT hT
        generalize pad0 s k = T at *
        have hsT : (⟨T.toArray⟩ : ByteArray).size = T.length := by simp [ByteArray.size]
        go_wp2
        go_region
        all_goals
          go_wp2
          go_ret
          exact ⟨by rw [HR.out, ← point_eq]; rfl, (Below.refl _ _).drew⟩
end Go.Proofs.YtkendkbicafdgaaGreatDoor

/- Package frac: the reader of numerals: skip, digits. -/
namespace Go.Proofs.YtkendkbicafdgaaGreatDoor
open Go.RowKit

theorem cut_sk (c : UInt8) (l : List UInt8) (w : World) :
    Calls Tryz.prog 72 #[.string ⟨l.toArray⟩, .string ⟨#[c]⟩] w fun e w' => e = .returned (.tuple #[.string ⟨(sk c l).2.toArray⟩, .bool (sk c l).1]) ∧ w' = w := by
  refine (cut_any ⟨l.toArray⟩ ⟨#[c]⟩ w).mono ?_
  rintro e w' ⟨rfl, rfl⟩
  refine ⟨?_, rfl⟩
  have h := sk_pfx c l
  show Ending.returned (.tuple #[.string ⟨(Lib.trimPrefix l [c]).toArray⟩, .bool (Lib.hasPrefix l [c])]) = _
  rw [h.1, h.2]
theorem ext_take (T : List UInt8) (a : Nat) : (⟨T.toArray⟩ : ByteArray).extract 0 a = ⟨(T.take a).toArray⟩ := by
  apply ByteArray.ext
  simp [ByteArray.data_extract]
theorem ext_drop (T : List UInt8) (a : Nat) : (⟨T.toArray⟩ : ByteArray).extract a T.length = ⟨(T.drop a).toArray⟩ := by
  apply ByteArray.ext
  simp [ByteArray.data_extract]
  exact List.take_of_length_le (by simp)

set_option maxRecDepth 100000 in
set_option maxHeartbeats 1000000 in
theorem skip_any (w : World) (g : Nat) (c : UInt8) (l : List UInt8) (hs : Sb w g l) :
    Calls Tryz.prog 62 #[.pointer (some ⟨g, 0, none⟩), .string ⟨#[c]⟩] w fun e w' => e = .returned (.bool (sk c l).1) ∧ Sb w' g (sk c l).2 ∧ Bex w.heap.size g w w' := by
  have HS := Lib.hid hs
  have c0 := hs.c0
  have f0 := hs.f0
  clear hs
  go_enter Tryz.func62, Tryz.ntmps62
  go_wp2_with fail
  refine (cut_sk c l _).mono ?_
  rintro e w1 ⟨rfl, rfl⟩
  go_wp2
  go_ret
  exact ⟨rfl, HS.out.set _, (Bex.of (Below.refl _ _)).set 0 _⟩

/-- What the reader's digits are: without any there is no numeral. -/
def RDg (w : World) (g : Nat) (l : List UInt8) (e : Ending) (w' : World) : Prop := if dg l = [] then e = Pan 12 ∧ Bex w.heap.size g w w' else e = .returned (.string ⟨(dg l).toArray⟩) ∧ Sb w' g (dr l) ∧ Bex w.heap.size g w w'
set_option maxRecDepth 100000 in
set_option maxHeartbeats 1000000 in
theorem digits_any (w : World) (g : Nat) (l : List UInt8) (hs : Sb w g l) (hl : l.length ≤ 1000000) :
    Calls Tryz.prog 102 #[.pointer (some ⟨g, 0, none⟩)] w (RDg w g l) := by
  have HS := Lib.hid hs
  have c0 := hs.c0
  have f0 := hs.f0
  have hz := str_size l
  clear hs
  go_enter Tryz.func102, Tryz.ntmps102
  go_upto_block 0 with (fail)
  go_cut [3] (fun s3 wx => s3 = .int .i64 ((dg l).length : Int) ∧ wx = w)
  case first =>
    go_wp2
    go_loop [3, 12] (fun a b => ∃ i : Nat, i ≤ l.length ∧ a = .int .i64 i ∧ b = .int .i64 i ∧ (l.take i).all isDig = true) (fun _ b => l.length - (intOf b).toNat)
    case atStart => exact ⟨0, Nat.zero_le _, rfl, rfl, rfl⟩
    case round =>
      obtain ⟨i, hi, rfl, rfl, hall⟩ := hrel
      have HAll := Lib.hid hall
      clear hall
      by_cases hp : i < l.length
      · have hps2 : i < (⟨l.toArray⟩ : ByteArray).size := by rw [hz]; exact hp
        have hge := str_get l i hp hps2
        by_cases hd : isDig (l[i]'hp) = true
        · have HT : Hid ((l.take (i + 1)).all isDig = true) := by
            show _ = _
            rw [take_snoc_ l i hp, List.all_append, HAll.out, Bool.true_and]
            simp [hd]
          have hd2 : 48 ≤ (l[i]'hp).toNat ∧ (l[i]'hp).toNat ≤ 57 := by unfold isDig at hd; simpa using hd
          obtain ⟨hd3, hd4⟩ := hd2
          generalize (l[i]'hp) = x at *
          go_wp2
          exact ⟨⟨i + 1, by omega, by go_num, by go_num, HT.out⟩, by simp [intOf]; omega⟩
        · have HC : Hid ((dg l).length = i) := by
            show _ = _
            have h1 := (dg_cut l i HAll.out fun _ => by simpa using hd).1
            rw [h1, List.length_take]
            omega
          have hd2 : (l[i]'hp).toNat < 48 ∨ 57 < (l[i]'hp).toNat := by
            unfold isDig at hd
            simp at hd
            omega
          generalize (l[i]'hp) = x at *
          rcases hd2 with hd3 | hd3
          · go_wp2
            go_meet
            exact ⟨by rw [HC.out], rfl⟩
          · have hd4 : decide ((x.toNat : Int) < 48) = false := decide_eq_false (by omega)
            have hd5 : ¬ (x.toNat : Int) < 48 := by omega
            have hd6 : (57 : Int) < (x.toNat : Int) := by omega
            go_wp2
            go_meet
            exact ⟨by rw [HC.out], rfl⟩
      · have HC : Hid ((dg l).length = i) := by
          show _ = _
          have h1 := (dg_cut l i HAll.out fun h => absurd h hp).1
          rw [h1, List.length_take]
          omega
        have hd4 : decide ((i : Int) < (l.length : Int)) = false := decide_eq_false (by omega)
        go_wp2
        go_meet
        exact ⟨by rw [HC.out], rfl⟩
  case rest =>
    obtain ⟨rfl, rfl⟩ := hcut
    generalize wc = w at *
    have hle := dgr_len l
    by_cases hd : dg l = []
    · rw [hd]
      go_wp2
      refine ⟨rfl, ?_⟩
      unfold RDg
      rw [if_pos hd]
      exact ⟨rfl, Bex.of (Below.refl _ _)⟩
    · have HD := Lib.hid hd
      have h0 : 0 < (dg l).length := List.length_pos_iff.2 hd
      have h1 : ((dg l).length : Int) ≠ 0 := by omega
      have h2 : decide (((dg l).length : Int) = 0) = false := decide_eq_false (by omega)
      have e1 : (⟨l.toArray⟩ : ByteArray).extract 0 (dg l).length = ⟨(dg l).toArray⟩ := by
        rw [ext_take]
        have h3 : dg l ++ dr l = l := List.takeWhile_append_dropWhile
        have h4 : l.take (dg l).length = dg l := (congrArg (List.take (dg l).length) h3.symm).trans List.take_left
        rw [h4]
      have e2 : (⟨l.toArray⟩ : ByteArray).extract (dg l).length l.length = ⟨(dr l).toArray⟩ := by
        rw [ext_drop]
        have h3 : dg l ++ dr l = l := List.takeWhile_append_dropWhile
        have h4 : l.drop (dg l).length = dr l := (congrArg (List.drop (dg l).length) h3.symm).trans List.drop_left
        rw [h4]
      have HE1 := Lib.hid e1
      have HE2 := Lib.hid e2
      clear e1 e2
      generalize hk : (dg l).length = k at *
      go_wp2
      go_ret
      unfold RDg
      rw [if_neg HD.out]
      exact ⟨by rw [← HE1.out]; rfl, by rw [HE2.out]; exact HS.out.set _, (Bex.of (Below.refl _ _)).set 0 _⟩
end Go.Proofs.YtkendkbicafdgaaGreatDoor

/- The library's contracts of strings.TrimLeft and strconv.Atoi, laid at this translation in plain words by the kit's command. -/
namespace Go.Proofs.YtkendkbicafdgaaGreatDoor
open Go.Shelf
def sh2_lays161_ren : Go.Shelf.Ren := ⟨fun | 161 => 124 | 231 => 142 | 227 => 143 | 233 => 144 | 235 => 145 | 228 => 165 | 197 => 166 | 151 => 167 | 260 => 182 | 152 => 183 | 137 => 188 | 119 => 189 | 224 => 190 | 225 => 191 | 217 => 195 | 266 => 197 | n => n, fun | 9 => 9 | 4 => 4 | 3 => 3 | 5 => 5 | 117 => 166 | 116 => 165 | 0 => 0 | 124 => 169 | 105 => 187 | 21 => 21 | 119 => 209 | 46 => 69 | 139 => 212 | 138 => 211 | n => n, fun | 3 => 5 | 4 => 6 | n => n⟩
theorem sh2_lays161 : Go.Proofs.Lays.n161 Tryz.prog sh2_lays161_ren := {
  mixed := by kernel_rfl
  f119 := Tryz.func189.trans (congrArg some (by kernel_rfl))
  f137 := Tryz.func188.trans (congrArg some (by kernel_rfl))
  f151 := Tryz.func167.trans (congrArg some (by kernel_rfl))
  f152 := Tryz.func183.trans (congrArg some (by kernel_rfl))
  f161 := Tryz.func124.trans (congrArg some (by kernel_rfl))
  f197 := Tryz.func166.trans (congrArg some (by kernel_rfl))
  f217 := Tryz.func195.trans (congrArg some (by kernel_rfl))
  f224 := Tryz.func190.trans (congrArg some (by kernel_rfl))
  f225 := Tryz.func191.trans (congrArg some (by kernel_rfl))
  f227 := Tryz.func143.trans (congrArg some (by kernel_rfl))
  f228 := Tryz.func165.trans (congrArg some (by kernel_rfl))
  f231 := Tryz.func142.trans (congrArg some (by kernel_rfl))
  f233 := Tryz.func144.trans (congrArg some (by kernel_rfl))
  f235 := Tryz.func145.trans (congrArg some (by kernel_rfl))
  f260 := Tryz.func182.trans (congrArg some (by kernel_rfl))
  f266 := Tryz.func197.trans (congrArg some (by kernel_rfl))
  t0 := Tryz.underlying0
  a0 := Tryz.isAgg0
  z0 := Tryz.sizeOf0
  v0 := Tryz.zeroValue0
  t3 := Tryz.underlying3
  a3 := Tryz.isAgg3
  z3 := Tryz.sizeOf3
  v3 := Tryz.zeroValue3
  t4 := Tryz.underlying4
  a4 := Tryz.isAgg4
  z4 := Tryz.sizeOf4
  v4 := Tryz.zeroValue4
  t5 := Tryz.underlying5
  a5 := Tryz.isAgg5
  z5 := Tryz.sizeOf5
  v5 := Tryz.zeroValue5
  t9 := Tryz.underlying9
  a9 := Tryz.isAgg9
  z9 := Tryz.sizeOf9
  v9 := Tryz.zeroValue9
  t21 := Tryz.underlying21
  a21 := Tryz.isAgg21
  z21 := Tryz.sizeOf21
  v21 := Tryz.zeroValue21
  t46 := Tryz.underlying69
  a46 := Tryz.isAgg69
  z46 := Tryz.sizeOf69
  v46 := Tryz.zeroValue69
  t105 := Tryz.underlying187
  a105 := Tryz.isAgg187
  z105 := Tryz.sizeOf187
  v105 := Tryz.zeroValue187
  t116 := Tryz.underlying165
  a116 := Tryz.isAgg165
  z116 := Tryz.sizeOf165
  t117 := Tryz.underlying166
  a117 := Tryz.isAgg166
  z117 := Tryz.sizeOf166
  v117 := Tryz.zeroValue166
  t119 := Tryz.underlying209
  a119 := Tryz.isAgg209
  z119 := Tryz.sizeOf209
  t124 := Tryz.underlying169
  a124 := Tryz.isAgg169
  z124 := Tryz.sizeOf169
  v124 := Tryz.zeroValue169
  t138 := Tryz.underlying211
  a138 := Tryz.isAgg211
  z138 := Tryz.sizeOf211
  v138 := Tryz.zeroValue211
  t139 := Tryz.underlying212
  a139 := Tryz.isAgg212
  z139 := Tryz.sizeOf212
  v139 := Tryz.zeroValue212
  g3 := by kernel_rfl
  g4 := by kernel_rfl }
open Go.RowKit in
theorem sh2_strings_TrimLeft_one (s : ByteArray) (c : UInt8) (hc : c.toNat < 128) (w : World) :
    Calls Tryz.prog 124 #[.string s, .string ⟨#[c]⟩] w fun e w' => e = .returned (.string ⟨(Lib.trimLeftB s.data.toList c).toArray⟩) ∧ w' = w := Any.strings_TrimLeft_one sh2_lays161 s c hc w
def sh2_lays172_ren : Go.Shelf.Ren := ⟨fun | 172 => 126 | 244 => 148 | 245 => 149 | 247 => 169 | 279 => 170 | 280 => 171 | 281 => 172 | 282 => 173 | 287 => 184 | 316 => 185 | 171 => 187 | 205 => 186 | 321 => 192 | 322 => 193 | 243 => 194 | 246 => 196 | 283 => 138 | 284 => 139 | 285 => 140 | 286 => 141 | 129 => 157 | 317 => 161 | 318 => 162 | 319 => 163 | 320 => 164 | 337 => 180 | 338 => 181 | n => n, fun | 9 => 9 | 3 => 3 | 75 => 145 | 76 => 146 | 4 => 4 | 5 => 5 | 167 => 191 | 37 => 123 | 0 => 0 | 85 => 192 | 2 => 2 | 168 => 194 | 53 => 66 | 175 => 201 | 46 => 69 | 210 => 205 | 127 => 217 | 145 => 220 | 143 => 218 | 21 => 21 | 171 => 158 | 173 => 161 | 212 => 184 | 51 => 68 | 20 => 20 | 213 => 185 | 232 => 207 | 233 => 208 | 80 => 58 | n => n, fun | 15 => 1 | 16 => 2 | 17 => 0 | 18 => 3 | 19 => 4 | n => n⟩
theorem sh2_lays172 : Go.Proofs.Lays.n172 Tryz.prog sh2_lays172_ren := {
  mixed := by kernel_rfl
  f129 := Tryz.func157.trans (congrArg some (by kernel_rfl))
  f171 := Tryz.func187.trans (congrArg some (by kernel_rfl))
  f172 := Tryz.func126.trans (congrArg some (by kernel_rfl))
  f205 := Tryz.func186.trans (congrArg some (by kernel_rfl))
  f243 := Tryz.func194.trans (congrArg some (by kernel_rfl))
  f244 := Tryz.func148.trans (congrArg some (by kernel_rfl))
  f245 := Tryz.func149.trans (congrArg some (by kernel_rfl))
  f246 := Tryz.func196.trans (congrArg some (by kernel_rfl))
  f247 := Tryz.func169.trans (congrArg some (by kernel_rfl))
  f279 := Tryz.func170.trans (congrArg some (by kernel_rfl))
  f280 := Tryz.func171.trans (congrArg some (by kernel_rfl))
  f281 := Tryz.func172.trans (congrArg some (by kernel_rfl))
  f282 := Tryz.func173.trans (congrArg some (by kernel_rfl))
  f283 := Tryz.func138.trans (congrArg some (by kernel_rfl))
  f284 := Tryz.func139.trans (congrArg some (by kernel_rfl))
  f285 := Tryz.func140.trans (congrArg some (by kernel_rfl))
  f286 := Tryz.func141.trans (congrArg some (by kernel_rfl))
  f287 := Tryz.func184.trans (congrArg some (by kernel_rfl))
  f316 := Tryz.func185.trans (congrArg some (by kernel_rfl))
  f317 := Tryz.func161.trans (congrArg some (by kernel_rfl))
  f318 := Tryz.func162.trans (congrArg some (by kernel_rfl))
  f319 := Tryz.func163.trans (congrArg some (by kernel_rfl))
  f320 := Tryz.func164.trans (congrArg some (by kernel_rfl))
  f321 := Tryz.func192.trans (congrArg some (by kernel_rfl))
  f322 := Tryz.func193.trans (congrArg some (by kernel_rfl))
  f337 := Tryz.func180.trans (congrArg some (by kernel_rfl))
  f338 := Tryz.func181.trans (congrArg some (by kernel_rfl))
  t0 := Tryz.underlying0
  a0 := Tryz.isAgg0
  z0 := Tryz.sizeOf0
  v0 := Tryz.zeroValue0
  t2 := Tryz.underlying2
  a2 := Tryz.isAgg2
  z2 := Tryz.sizeOf2
  v2 := Tryz.zeroValue2
  t3 := Tryz.underlying3
  a3 := Tryz.isAgg3
  z3 := Tryz.sizeOf3
  v3 := Tryz.zeroValue3
  t4 := Tryz.underlying4
  a4 := Tryz.isAgg4
  z4 := Tryz.sizeOf4
  v4 := Tryz.zeroValue4
  t5 := Tryz.underlying5
  a5 := Tryz.isAgg5
  z5 := Tryz.sizeOf5
  v5 := Tryz.zeroValue5
  t9 := Tryz.underlying9
  a9 := Tryz.isAgg9
  z9 := Tryz.sizeOf9
  v9 := Tryz.zeroValue9
  t20 := Tryz.underlying20
  a20 := Tryz.isAgg20
  z20 := Tryz.sizeOf20
  v20 := Tryz.zeroValue20
  t21 := Tryz.underlying21
  a21 := Tryz.isAgg21
  z21 := Tryz.sizeOf21
  v21 := Tryz.zeroValue21
  t37 := Tryz.underlying123
  a37 := Tryz.isAgg123
  z37 := Tryz.sizeOf123
  v37 := Tryz.zeroValue123
  t46 := Tryz.underlying69
  a46 := Tryz.isAgg69
  z46 := Tryz.sizeOf69
  v46 := Tryz.zeroValue69
  t51 := Tryz.underlying68
  a51 := Tryz.isAgg68
  z51 := Tryz.sizeOf68
  v51 := Tryz.zeroValue68
  t53 := Tryz.underlying66
  a53 := Tryz.isAgg66
  z53 := Tryz.sizeOf66
  v53 := Tryz.zeroValue66
  t75 := Tryz.underlying145
  a75 := Tryz.isAgg145
  z75 := Tryz.sizeOf145
  v75 := Tryz.zeroValue145
  t76 := Tryz.underlying146
  a76 := Tryz.isAgg146
  z76 := Tryz.sizeOf146
  v76 := Tryz.zeroValue146
  t85 := Tryz.underlying192
  a85 := Tryz.isAgg192
  z85 := Tryz.sizeOf192
  v85 := Tryz.zeroValue192
  t127 := Tryz.underlying217
  a127 := Tryz.isAgg217
  z127 := Tryz.sizeOf217
  v127 := Tryz.zeroValue217
  t143 := Tryz.underlying218
  a143 := Tryz.isAgg218
  z143 := Tryz.sizeOf218
  v143 := Tryz.zeroValue218
  t145 := Tryz.underlying220
  a145 := Tryz.isAgg220
  z145 := Tryz.sizeOf220
  v145 := Tryz.zeroValue220
  t167 := Tryz.underlying191
  a167 := Tryz.isAgg191
  z167 := Tryz.sizeOf191
  v167 := Tryz.zeroValue191
  t168 := Tryz.underlying194
  a168 := Tryz.isAgg194
  z168 := Tryz.sizeOf194
  v168 := Tryz.zeroValue194
  t171 := Tryz.underlying158
  a171 := Tryz.isAgg158
  z171 := Tryz.sizeOf158
  v171 := Tryz.zeroValue158
  t173 := Tryz.underlying161
  a173 := Tryz.isAgg161
  z173 := Tryz.sizeOf161
  v173 := Tryz.zeroValue161
  t175 := Tryz.underlying201
  a175 := Tryz.isAgg201
  z175 := Tryz.sizeOf201
  v175 := Tryz.zeroValue201
  t210 := Tryz.underlying205
  a210 := Tryz.isAgg205
  z210 := Tryz.sizeOf205
  v210 := Tryz.zeroValue205
  t212 := Tryz.underlying184
  a212 := Tryz.isAgg184
  z212 := Tryz.sizeOf184
  v212 := Tryz.zeroValue184
  t213 := Tryz.underlying185
  a213 := Tryz.isAgg185
  z213 := Tryz.sizeOf185
  t232 := Tryz.underlying207
  a232 := Tryz.isAgg207
  z232 := Tryz.sizeOf207
  v232 := Tryz.zeroValue207
  t233 := Tryz.underlying208
  a233 := Tryz.isAgg208
  z233 := Tryz.sizeOf208
  v233 := Tryz.zeroValue208
  g15 := by kernel_rfl
  g16 := by kernel_rfl
  g17 := by kernel_rfl
  g18 := by kernel_rfl
  g19 := by kernel_rfl }
open Go.RowKit in
theorem sh2_strconv_Atoi (s : ByteArray) (n : Int) (hl : s.size ≤ 18) (h : Lib.atoi s.data.toList = some n) (w : World) :
    Calls Tryz.prog 126 #[.string s] w fun e w' => e = .returned (.tuple #[.int .i64 n, .nilIface]) ∧ ∃ t, w' = Lib.bytesWorld w 5 t := Any.strconv_Atoi sh2_lays172 s n hl h w
end Go.Proofs.YtkendkbicafdgaaGreatDoor

/- Package frac: the reader of numerals: number. -/
namespace Go.Proofs.YtkendkbicafdgaaGreatDoor
open Go.RowKit

theorem trim_zeros (l : List UInt8) (w : World) : Calls Tryz.prog 124 #[.string ⟨l.toArray⟩, .string ⟨#[48]⟩] w fun e w' => e = .returned (.string ⟨(l.dropWhile (· == 48)).toArray⟩) ∧ w' = w := sh2_strings_TrimLeft_one ⟨l.toArray⟩ 48 (by decide) w
theorem atoi_any (w : World) (l : List UInt8) (n : Int) (hl : l.length ≤ 18) (h : Lib.atoi l = some n) : Calls Tryz.prog 126 #[.string ⟨l.toArray⟩] w fun e w' => e = .returned (.tuple #[.int .i64 n, .nilIface]) ∧ Below w.heap.size w w' := by
  refine (sh2_strconv_Atoi ⟨l.toArray⟩ n (by rw [str_size]; exact hl) h w).mono ?_
  rintro e w' ⟨rfl, t, rfl⟩
  exact ⟨rfl, Lib.bytesWorld_below w _ t⟩
set_option maxRecDepth 100000 in
set_option maxHeartbeats 1000000 in
theorem number_any (w : World) (l : List UInt8) (h : l.all isDig = true) (hl : l.length ≤ 400) :
    Calls Tryz.prog 103 #[.string ⟨l.toArray⟩] w (RVz w (decV l : Int)) := by
  have QR := Lib.hid (Pr.new w _ rfl (.bool false) (.slice none 0 0) 24)
  have BW : Hid (Below w.heap.size w (w.alloc (.cells #[.bool false, .slice none 0 0] 24))) := below_alloc (Below.refl _ _) _
  have hlen : (l.dropWhile (· == 48)).length ≤ 400 := Nat.le_trans (List.dropWhile_sublist _ |>.length_le) hl
  have HL := Lib.hid h
  clear h
  go_enter Tryz.func103, Tryz.ntmps103
  go_wp2_with fail
  refine (trim_zeros l _).mono ?_
  rintro e w1 ⟨rfl, rfl⟩
  by_cases h0 : l.dropWhile (· == 48) = []
  · have HV := Lib.hid (zeros_nil h0)
    rw [h0]
    go_wp2
    exact post_w1 Tryz.results103 rfl rfl QR.out.c0 QR.out.c1 ⟨none, 0, 0, by rw [HV.out]; rfl, by rw [HV.out]; exact Lm.nil _ _, BW.out⟩
  · have HZ := Lib.hid (zeros_pz HL.out h0)
    have HV := Lib.hid h0
    have e0 : (l.dropWhile (· == 48)).isEmpty = false := by simpa using h0
    clear h0
    generalize l.dropWhile (· == 48) = T at *
    go_wp2_with fail
    refine (parse_n _ T HZ.out.1 (by omega)).mono ?_
    rw [HZ.out.2]
    rintro e w2 ⟨A2, n2, c2, rfl, hL2, hb⟩
    have L2 := Lib.hid hL2
    replace QR := Lib.hid (QR.out.via hb)
    replace BW := Lib.hid (btr BW.out hb)
    obtain ⟨np, hnp⟩ : ∃ b, decide ((decV l : Int) < 0) = b := ⟨_, rfl⟩
    rw [hnp]
    have HNp := Lib.hid hnp
    clear hb hL2 hnp
    go_wp2_with fail
    refine (must_ok _ _ _ _ _).mono ?_
    rintro e w3 ⟨rfl, hb⟩
    replace L2 := Lib.hid (L2.out.via hb)
    replace QR := Lib.hid (QR.out.via hb)
    replace BW := Lib.hid (btr BW.out hb)
    clear hb
    have ⟨q0, q1, f0, f1, ql⟩ := QR.out
    go_wp2
    have KS := QR.out.set (.bool np) (.slice A2 n2 c2)
    exact post_w1 Tryz.results103 rfl rfl KS.c0 KS.c1 ⟨A2, n2, c2, by rw [HNp.out], L2.out.setP QR.out _ _, below_set2 BW.out (Nat.le_refl _) _ _⟩
end Go.Proofs.YtkendkbicafdgaaGreatDoor

/- Package frac: the reader of numerals: scaled. -/
namespace Go.Proofs.YtkendkbicafdgaaGreatDoor
open Go.RowKit

/-- A ratio is read, or there is no numeral. -/
def RUn (w : World) (g : Nat) (o : Option (Int × Int × List UInt8)) (e : Ending) (w' : World) : Prop := match o with
  | none => e = Pan 12 ∧ Bex w.heap.size g w w'
  | some (p, q, r) => ∃ A n c B m c', e = .returned (fv (decide (p < 0)) A n c (decide (q < 0)) B m c') ∧ Lm w' w'.heap.size A n c (digs p.natAbs) ∧ Lm w' w'.heap.size B m c' (digs q.natAbs) ∧ Sb w' g r ∧ Bex w.heap.size g w w'

set_option maxRecDepth 100000 in
set_option maxHeartbeats 4000000 in
theorem scaled_any (w : World) (g : Nat) (l : List UInt8) (A B : Option Addr) (n m ca cb : Nat) (p q : Int) (hs : Sb w g l) (hl : l.length ≤ 300) (hA : Lm w w.heap.size A n ca (digs p.natAbs)) (hB : Lm w w.heap.size B m cb (digs q.natAbs)) (hp : Sz 300 p) (hq : Sz 300 q) {na nb : Bool} (ha : decide (p < 0) = na) (hb : decide (q < 0) = nb) :
    Calls Tryz.prog 104 #[.pointer (some ⟨g, 0, none⟩), fv na A n ca nb B m cb] w (RUn w g (scl p q l)) := by
  have hg := hs.lt
  have hz := str_size (dg (sk 45 l).2)
  have HP := Lib.hid hp
  have HQ := Lib.hid hq
  have HNa := Lib.hid ha
  have HNb := Lib.hid hb
  have hlk := sk_len 45 l
  obtain ⟨o, ho⟩ : ∃ o, scl p q l = o := ⟨_, rfl⟩
  rw [ho]
  have HO := Lib.hid ho
  have LA := Lib.hid ((hA.box (.cells #[.bool na, .slice A n ca, .bool nb, .slice B m cb] 59)).box (.cells #[.bool false, .slice none 0 0, .bool false, .slice none 0 0] 59))
  have LB := Lib.hid ((hB.box (.cells #[.bool na, .slice A n ca, .bool nb, .slice B m cb] 59)).box (.cells #[.bool false, .slice none 0 0, .bool false, .slice none 0 0] 59))
  have QF := Lib.hid ((Qd.new w w.heap.size rfl (.bool na) (.slice A n ca) (.bool nb) (.slice B m cb) 59).alloc (.cells #[.bool false, .slice none 0 0, .bool false, .slice none 0 0] 59))
  have QR := Lib.hid (Qd.new (w.alloc (.cells #[.bool na, .slice A n ca, .bool nb, .slice B m cb] 59)) (w.heap.size + 1) (by simp) (.bool false) (.slice none 0 0) (.bool false) (.slice none 0 0) 59)
  have BW : Below w.heap.size w ((w.alloc (.cells #[.bool na, .slice A n ca, .bool nb, .slice B m cb] 59)).alloc (.cells #[.bool false, .slice none 0 0, .bool false, .slice none 0 0] 59)) := below_alloc (below_alloc (Below.refl _ _) _) _
  have SB := Lib.hid (hs.via BW)
  have BX : Hid (Bex w.heap.size g w _) := Bex.of BW
  clear BW hs hA hB hp hq ha hb ho
  go_enter Tryz.func104, Tryz.ntmps104
  go_wp2_with fail
  generalize (w.alloc (.cells #[.bool na, .slice A n ca, .bool nb, .slice B m cb] 59)).alloc (.cells #[.bool false, .slice none 0 0, .bool false, .slice none 0 0] 59) = W0 at *
  go_wp2_with fail
  refine (skip_any _ _ 45 l SB.out).mono ?_
  rintro e w1 ⟨rfl, hs, hb⟩
  replace LA := Lib.hid (LA.out.bex SB.out hb)
  replace LB := Lib.hid (LB.out.bex SB.out hb)
  replace QF := Lib.hid (QF.out.bex hb (by omega))
  replace QR := Lib.hid (QR.out.bex hb (by omega))
  replace SB := Lib.hid hs
  replace BX := Lib.hid (BX.out.next hb)
  clear hs hb
  go_wp2_with fail
  refine (digits_any _ _ (sk 45 l).2 SB.out (by omega)).mono ?_
  intro e w2 hr
  unfold RDg at hr
  by_cases hd2 : dg (sk 45 l).2 = []
  · rw [if_pos hd2] at hr
    obtain ⟨rfl, hb⟩ := hr
    replace BX := Lib.hid (BX.out.next hb)
    unfold Pan
    have e : o = none := by rw [← HO.out]; unfold scl; rw [if_pos (.inl hd2)]
    rw [e]
    exact ⟨rfl, rfl, BX.out⟩
  · rw [if_neg hd2] at hr
    obtain ⟨rfl, hs, hb⟩ := hr
    replace LA := Lib.hid (LA.out.bex SB.out hb)
    replace LB := Lib.hid (LB.out.bex SB.out hb)
    replace QF := Lib.hid (QF.out.bex hb (by omega))
    replace QR := Lib.hid (QR.out.bex hb (by omega))
    replace SB := Lib.hid hs
    replace BX := Lib.hid (BX.out.next hb)
    clear hs hb
    have HD2 := Lib.hid (dg_all (sk 45 l).2)
    have hx2 := dgr_len (sk 45 l).2
    by_cases h3 : 3 < (dg (sk 45 l).2).length
    · have h3i : (3 : Int) < ((dg (sk 45 l).2).length : Int) := by omega
      go_wp2_with fail
      have e : o = none := by rw [← HO.out]; unfold scl; rw [if_pos (.inr h3)]
      rw [e]
      go_wp2
      exact ⟨rfl, rfl, BX.out⟩
    · have h3i : decide ((3 : Int) < ((dg (sk 45 l).2).length : Int)) = false := decide_eq_false (by omega)
      have HK : Hid (decV (dg (sk 45 l).2) ≤ 999) := dec3 HD2.out (by omega)
      have HA := Lib.hid (atoi_dec HD2.out hd2)
      have hd18 : (dg (sk 45 l).2).length ≤ 18 := by omega
      have HC := Lib.hid (show ¬ (dg (sk 45 l).2 = [] ∨ 3 < (dg (sk 45 l).2).length) from fun h => h.elim hd2 h3)
      go_wp2_with fail
      refine (atoi_any _ _ _ hd18 HA.out).mono ?_
      rintro e w3 ⟨rfl, hb⟩
      replace LA := Lib.hid (LA.out.via hb)
      replace LB := Lib.hid (LB.out.via hb)
      replace QF := Lib.hid (QF.out.via hb)
      replace QR := Lib.hid (QR.out.via hb)
      replace SB := Lib.hid (SB.out.via hb)
      replace BX := Lib.hid (BX.out.nextB hb)
      clear hb
      cases hsg : (sk 45 l).1 with
      | true =>
        have HS : Hid (o = some (p, q * 10 ^ decV (dg (sk 45 l).2), dr (sk 45 l).2)) := by
          show _ = _
          rw [← HO.out]; unfold scl; rw [if_neg HC.out, if_pos hsg]
        clear HO
        generalize decV (dg (sk 45 l).2) = k at *
        go_wp2_with fail
        have ⟨f0, f1, f2, f3, f4, f5, f6, f7, f8⟩ := QF.out
        have ⟨ff0, ff1, ff2, ff3, ff4, ff5, ff6, ff7, ff8⟩ := QF.out.drewN 1
        (try go_wp2_with fail)
        go_cut [] from 23 to 28 (fun wx => ∃ A5 n5 c5, Qd wx w.heap.size (.bool na) (.slice A n ca) (.bool (decide (q * 10 ^ k < 0))) (.slice A5 n5 c5) ∧ Lm wx wx.heap.size A5 n5 c5 (digs (q * 10 ^ k).natAbs) ∧ Lm wx wx.heap.size A n ca (digs p.natAbs) ∧ Sb wx g (dr (sk 45 l).2) ∧ Qd wx (w.heap.size + 1) (.bool false) (.slice none 0 0) (.bool false) (.slice none 0 0) ∧ Bex w.heap.size g w wx)
        case first =>
          go_region_with (first
           | (have _t := F0; go_at_call 70; refine (prod_n _ B A0 m n0 cb c0 400 _ _ (LB.out.via F0) L0 (HQ.out.mono (by omega)) ((sz_ten _ HK.out).mono (by omega)) (by omega) HNb.out rfl).mono ?_; rintro e v1 ⟨A5, n5, c5, rfl, L5, h1⟩; have F1 : Below w3.heap.size w3 v1 := btr F0 h1; have ⟨e0, e1, e2, e3, e4, e5, e6, e7, e8⟩ := QF.out.via F1)
           | (go_at_call 71; refine (power_n _ _ HK.out).mono ?_; rintro e v0 ⟨A0, n0, c0, rfl, L0, h0⟩; have F0 : Below w3.heap.size w3 v0 := (by first | exact (Below.refl _ _).drew.trans h0 | exact h0); have ⟨d0, d1, d2, d3, d4, d5, d6, d7, d8⟩ := QF.out.via F0)
           | fail)
          all_goals
            go_wp2_with fail
            go_meet
            exact ⟨A5, n5, c5, (QF.out.via F1).hi _ _, L5.hi (QF.out.via F1) _ _, (LA.out.via F1).hi (QF.out.via F1) _ _, ((SB.out.via F1).farS (by omega) _ _).farS (by omega) _ _, ((QR.out.via F1).far1 (by omega) _ _).far1 (by omega) _ _, ((BX.out.nextB F1).setN (by omega) _ _).setN (by omega) _ _⟩
        case rest =>
          obtain ⟨A5, n5, c5, q5, l5, k5, s5, rq, b5⟩ := hcut
          clear QF QR LA LB SB BX
          generalize wc = W7 at *
          obtain ⟨np, hnp⟩ : ∃ b, decide (q * 10 ^ k < 0) = b := ⟨_, rfl⟩
          rw [hnp] at q5
          have HNp := Lib.hid hnp
          clear hnp
          have ⟨f0, f1, f2, f3, f4, f5, f6, f7, f8⟩ := q5
          have ⟨r0, r1, r2, r3, r4, r5, r6, r7, r8⟩ := rq
          go_wp2
          exact post_r1 Tryz.results104 rfl rfl (rq.set (.bool na) (.slice A n ca) (.bool np) (.slice A5 n5 c5)) (by rw [HS.out]; exact ⟨A, n, ca, A5, n5, c5, by rw [HNa.out, HNp.out], k5.put4 rq _ _ _ _, l5.put4 rq _ _ _ _, s5.put4 (by omega) _ _ _ _, b5.put4 (by omega) _ _ _ _⟩)
      | false =>
        have HS : Hid (o = some (p * 10 ^ decV (dg (sk 45 l).2), q, dr (sk 45 l).2)) := by
          show _ = _
          rw [← HO.out]; unfold scl; rw [if_neg HC.out, if_neg (by rw [hsg]; simp)]
        clear HO
        generalize decV (dg (sk 45 l).2) = k at *
        go_wp2_with fail
        have ⟨f0, f1, f2, f3, f4, f5, f6, f7, f8⟩ := QF.out
        have ⟨ff0, ff1, ff2, ff3, ff4, ff5, ff6, ff7, ff8⟩ := QF.out.drewN 1
        (try go_wp2_with fail)
        go_cut [] from 29 to 34 (fun wx => ∃ A5 n5 c5, Qd wx w.heap.size (.bool (decide (p * 10 ^ k < 0))) (.slice A5 n5 c5) (.bool nb) (.slice B m cb) ∧ Lm wx wx.heap.size A5 n5 c5 (digs (p * 10 ^ k).natAbs) ∧ Lm wx wx.heap.size B m cb (digs q.natAbs) ∧ Sb wx g (dr (sk 45 l).2) ∧ Qd wx (w.heap.size + 1) (.bool false) (.slice none 0 0) (.bool false) (.slice none 0 0) ∧ Bex w.heap.size g w wx)
        case first =>
          go_region_with (first
           | (have _t := F0; go_at_call 70; refine (prod_n _ A A0 n n0 ca c0 400 _ _ (LA.out.via F0) L0 (HP.out.mono (by omega)) ((sz_ten _ HK.out).mono (by omega)) (by omega) HNa.out rfl).mono ?_; rintro e v1 ⟨A5, n5, c5, rfl, L5, h1⟩; have F1 : Below w3.heap.size w3 v1 := btr F0 h1; have ⟨e0, e1, e2, e3, e4, e5, e6, e7, e8⟩ := QF.out.via F1)
           | (go_at_call 71; refine (power_n _ _ HK.out).mono ?_; rintro e v0 ⟨A0, n0, c0, rfl, L0, h0⟩; have F0 : Below w3.heap.size w3 v0 := (by first | exact (Below.refl _ _).drew.trans h0 | exact h0); have ⟨d0, d1, d2, d3, d4, d5, d6, d7, d8⟩ := QF.out.via F0)
           | fail)
          all_goals
            go_wp2_with fail
            go_meet
            exact ⟨A5, n5, c5, (QF.out.via F1).lo _ _, L5.lo (QF.out.via F1) _ _, (LB.out.via F1).lo (QF.out.via F1) _ _, ((SB.out.via F1).farS (by omega) _ _).farS (by omega) _ _, ((QR.out.via F1).far1 (by omega) _ _).far1 (by omega) _ _, ((BX.out.nextB F1).setN (by omega) _ _).setN (by omega) _ _⟩
        case rest =>
          obtain ⟨A5, n5, c5, q5, l5, k5, s5, rq, b5⟩ := hcut
          clear QF QR LA LB SB BX
          generalize wc = W7 at *
          obtain ⟨np, hnp⟩ : ∃ b, decide (p * 10 ^ k < 0) = b := ⟨_, rfl⟩
          rw [hnp] at q5
          have HNp := Lib.hid hnp
          clear hnp
          have ⟨f0, f1, f2, f3, f4, f5, f6, f7, f8⟩ := q5
          have ⟨r0, r1, r2, r3, r4, r5, r6, r7, r8⟩ := rq
          go_wp2
          exact post_r1 Tryz.results104 rfl rfl (rq.set (.bool np) (.slice A5 n5 c5) (.bool nb) (.slice B m cb)) (by rw [HS.out]; exact ⟨A5, n5, c5, B, m, cb, by rw [HNb.out, HNp.out], l5.put4 rq _ _ _ _, k5.put4 rq _ _ _ _, s5.put4 (by omega) _ _ _ _, b5.put4 (by omega) _ _ _ _⟩)
end Go.Proofs.YtkendkbicafdgaaGreatDoor

/- Package frac: the reader of numerals: unsigned. -/
namespace Go.Proofs.YtkendkbicafdgaaGreatDoor
open Go.RowKit

theorem str_nil (a : List UInt8) : (⟨a.toArray⟩ : ByteArray) ++ ⟨#[]⟩ = ⟨a.toArray⟩ := by
  apply ByteArray.ext
  simp [ByteArray.data_append]
theorem str_app (a b : List UInt8) : (⟨a.toArray⟩ : ByteArray) ++ ⟨b.toArray⟩ = ⟨(a ++ b).toArray⟩ := by
  apply ByteArray.ext
  simp [ByteArray.data_append]
set_option maxRecDepth 100000 in
set_option maxHeartbeats 4000000 in
theorem unsigned_any (w : World) (g : Nat) (l : List UInt8) (hs : Sb w g l) (hl : l.length ≤ 200) :
    Calls Tryz.prog 63 #[.pointer (some ⟨g, 0, none⟩)] w (RUn w g (uns l)) := by
  have hg := hs.lt
  have hlk := sk_len 47 (dr l)
  have hlm := sk_len 46 (dr l)
  obtain ⟨o, ho⟩ : ∃ o, uns l = o := ⟨_, rfl⟩
  rw [ho]
  have HO := Lib.hid ho
  have QR := Lib.hid (Qd.new w w.heap.size rfl (.bool false) (.slice none 0 0) (.bool false) (.slice none 0 0) 59)
  have BW : Below w.heap.size w (w.alloc (.cells #[.bool false, .slice none 0 0, .bool false, .slice none 0 0] 59)) := below_alloc (Below.refl _ _) _
  have SB := Lib.hid (hs.via BW)
  have BX : Hid (Bex w.heap.size g w _) := Bex.of BW
  clear BW hs ho
  go_enter Tryz.func63, Tryz.ntmps63
  go_wp2_with fail
  generalize w.alloc (.cells #[.bool false, .slice none 0 0, .bool false, .slice none 0 0] 59) = W0 at *
  go_wp2_with fail
  refine (digits_any _ _ l SB.out (by omega)).mono ?_
  intro e w1 hr
  unfold RDg at hr
  by_cases hd1 : dg l = []
  · rw [if_pos hd1] at hr
    obtain ⟨rfl, hb⟩ := hr
    replace BX := Lib.hid (BX.out.next hb)
    unfold Pan
    have e : o = none := by rw [← HO.out]; unfold uns; rw [if_pos hd1]
    rw [e]
    exact ⟨rfl, rfl, BX.out⟩
  · rw [if_neg hd1] at hr
    obtain ⟨rfl, hs, hb⟩ := hr
    replace QR := Lib.hid (QR.out.bex hb (by omega))
    replace SB := Lib.hid hs
    replace BX := Lib.hid (BX.out.next hb)
    clear hs hb
    have HD1 := Lib.hid (dg_all l)
    have hx1 := dgr_len l
    go_wp2_with fail
    refine (skip_any _ _ 47 (dr l) SB.out).mono ?_
    rintro e w2 ⟨rfl, hs, hb⟩
    replace QR := Lib.hid (QR.out.bex hb (by omega))
    replace SB := Lib.hid hs
    replace BX := Lib.hid (BX.out.next hb)
    clear hs hb
    cases hsg : (sk 47 (dr l)).1 with
    | true =>
      have HU : Hid (uns l = if dg (sk 47 (dr l)).2 = [] then none else some ((decV (dg l) : Int), (decV (dg (sk 47 (dr l)).2) : Int), dr (sk 47 (dr l)).2)) := by
        show _ = _
        unfold uns
        rw [if_neg hd1, if_pos hsg]
      go_wp2_with fail
      refine (number_any _ (dg l) HD1.out (by omega)).mono ?_
      rintro e w3 ⟨A1, n1, c1, rfl, hL, hb⟩
      replace QR := Lib.hid (QR.out.via hb)
      replace SB := Lib.hid (SB.out.via hb)
      replace BX := Lib.hid (BX.out.nextB hb)
      have L1 := Lib.hid hL
      clear hb hL
      go_wp2_with fail
      refine (digits_any _ _ (sk 47 (dr l)).2 SB.out (by omega)).mono ?_
      intro e w4 hr
      unfold RDg at hr
      by_cases hd4 : dg (sk 47 (dr l)).2 = []
      · rw [if_pos hd4] at hr
        obtain ⟨rfl, hb⟩ := hr
        replace BX := Lib.hid (BX.out.next hb)
        unfold Pan
        have e : o = none := by rw [← HO.out, HU.out, if_pos hd4]
        rw [e]
        exact ⟨rfl, rfl, BX.out⟩
      · rw [if_neg hd4] at hr
        obtain ⟨rfl, hs, hb⟩ := hr
        replace QR := Lib.hid (QR.out.bex hb (by omega))
        replace L1 := Lib.hid (L1.out.bex SB.out hb)
        replace SB := Lib.hid hs
        replace BX := Lib.hid (BX.out.next hb)
        clear hs hb
        have HD4 := Lib.hid (dg_all (sk 47 (dr l)).2)
        have hx4 := dgr_len (sk 47 (dr l)).2
        go_wp2_with fail
        refine (number_any _ (dg (sk 47 (dr l)).2) HD4.out (by omega)).mono ?_
        rintro e w5 ⟨A2, n2, c2, rfl, hL, hb⟩
        replace QR := Lib.hid (QR.out.via hb)
        replace L1 := Lib.hid (L1.out.via hb)
        replace SB := Lib.hid (SB.out.via hb)
        replace BX := Lib.hid (BX.out.nextB hb)
        have L2 := Lib.hid hL
        clear hb hL
        have HS : Hid (o = some ((decV (dg l) : Int), (decV (dg (sk 47 (dr l)).2) : Int), dr (sk 47 (dr l)).2)) := by
          show _ = _
          rw [← HO.out, HU.out, if_neg hd4]
        clear HO HU
        obtain ⟨np, hnp⟩ : ∃ b, decide ((decV (dg l) : Int) < 0) = b := ⟨_, rfl⟩
        obtain ⟨nq, hnq⟩ : ∃ b, decide ((decV (dg (sk 47 (dr l)).2) : Int) < 0) = b := ⟨_, rfl⟩
        rw [hnp, hnq]
        have HNp := Lib.hid hnp
        have HNq := Lib.hid hnq
        clear hnp hnq
        have ⟨r0, r1, r2, r3, r4, r5, r6, r7, r8⟩ := QR.out
        go_wp2
        exact post_r1 Tryz.results63 rfl rfl (QR.out.set (.bool np) (.slice A1 n1 c1) (.bool nq) (.slice A2 n2 c2)) (by rw [HS.out]; exact ⟨A1, n1, c1, A2, n2, c2, by rw [HNp.out, HNq.out], L1.out.put4 QR.out _ _ _ _, L2.out.put4 QR.out _ _ _ _, SB.out.put4 (by omega) _ _ _ _, BX.out.put4 (Nat.le_refl _) _ _ _ _⟩)
    | false =>
      have hsk : (sk 47 (dr l)).2 = dr l := sk_no hsg
      rw [hsk] at SB
      have HM := Lib.hid hsg
      clear hsg
      go_wp2_with fail
      refine (skip_any _ _ 46 (dr l) SB.out).mono ?_
      rintro e w3 ⟨rfl, hs, hb⟩
      replace QR := Lib.hid (QR.out.bex hb (by omega))
      replace SB := Lib.hid hs
      replace BX := Lib.hid (BX.out.next hb)
      clear hs hb
      cases hsg : (sk 46 (dr l)).1 with
      | true =>
        have HU : Hid (uns l = if dg (sk 46 (dr l)).2 = [] then none else tl (decV (dg l ++ dg (sk 46 (dr l)).2) : Int) (10 ^ (dg (sk 46 (dr l)).2).length) (dr (sk 46 (dr l)).2)) := by
          show _ = _
          unfold uns
          rw [if_neg hd1, if_neg (by rw [HM.out]; simp), if_pos hsg]
        go_wp2_with fail
        refine (digits_any _ _ (sk 46 (dr l)).2 SB.out (by omega)).mono ?_
        intro e w4 hr
        unfold RDg at hr
        by_cases hd4 : dg (sk 46 (dr l)).2 = []
        · rw [if_pos hd4] at hr
          obtain ⟨rfl, hb⟩ := hr
          replace BX := Lib.hid (BX.out.next hb)
          unfold Pan
          have e : o = none := by rw [← HO.out, HU.out, if_pos hd4]
          rw [e]
          exact ⟨rfl, rfl, BX.out⟩
        · rw [if_neg hd4] at hr
          obtain ⟨rfl, hs, hb⟩ := hr
          replace QR := Lib.hid (QR.out.bex hb (by omega))
          replace SB := Lib.hid hs
          replace BX := Lib.hid (BX.out.next hb)
          clear hs hb
          have HD4 := Lib.hid (dg_all (sk 46 (dr l)).2)
          have hx4 := dgr_len (sk 46 (dr l)).2
          replace HO : Hid (tl (decV (dg l ++ dg (sk 46 (dr l)).2) : Int) (10 ^ (dg (sk 46 (dr l)).2).length) (dr (sk 46 (dr l)).2) = o) := by
            show _ = _
            rw [← HO.out, HU.out, if_neg hd4]
          clear HU
          have HDT : Hid ((dg l ++ dg (sk 46 (dr l)).2).all isDig = true) := by
            show _ = _
            rw [List.all_append, HD1.out, HD4.out]
            rfl
          generalize dg (sk 46 (dr l)).2 = T at *
          generalize dr (sk 46 (dr l)).2 = U at *
          generalize dg l = D at *
          go_wp2_with fail
          try rw [str_app]
          refine (number_any _ (D ++ T) HDT.out (by rw [List.length_append]; omega)).mono ?_
          rintro e w5 ⟨A1, n1, c1, rfl, hL, hb⟩
          replace QR := Lib.hid (QR.out.via hb)
          replace SB := Lib.hid (SB.out.via hb)
          replace BX := Lib.hid (BX.out.nextB hb)
          have L1 := Lib.hid hL
          clear hb hL
          go_wp2_with fail
          refine (power_n _ T.length (by omega)).mono ?_
          rintro e w6 ⟨A2, n2, c2, rfl, hL, hb⟩
          replace QR := Lib.hid (QR.out.via hb)
          replace L1 := Lib.hid (L1.out.via hb)
          replace SB := Lib.hid (SB.out.via hb)
          replace BX := Lib.hid (BX.out.nextB hb)
          have L2 := Lib.hid hL
          clear hb hL
          have HSp : Hid (Sz 300 (decV (D ++ T) : Int)) := (sz_dec HDT.out (by rw [List.length_append]; omega)).mono (by omega)
          have HSq : Hid (Sz 300 ((10 : Int) ^ T.length)) := (sz_ten _ (by omega)).mono (by omega)
          obtain ⟨p, hp⟩ : ∃ p, (decV (D ++ T) : Int) = p := ⟨_, rfl⟩
          obtain ⟨q, hq⟩ : ∃ q, ((10 : Int) ^ T.length) = q := ⟨_, rfl⟩
          rw [hp] at HO HSp L1
          rw [hq] at HO HSq L2
          rw [hp, hq]
          clear hp hq
          obtain ⟨np, hnp⟩ : ∃ b, decide (p < 0) = b := ⟨_, rfl⟩
          obtain ⟨nq, hnq⟩ : ∃ b, decide (q < 0) = b := ⟨_, rfl⟩
          rw [hnp, hnq]
          have HNp := Lib.hid hnp
          have HNq := Lib.hid hnq
          clear hnp hnq
          obtain ⟨R, hR⟩ : ∃ R, U = R := ⟨_, rfl⟩
          rw [hR] at HO SB
          have hRl : R.length ≤ 200 := by rw [← hR]; omega
          clear hR
          go_upto_region 8 with (fail)
          have hrF := QR.out.lt
          have QF := Lib.hid (Qd.new w6 _ rfl (.bool np) (.slice A1 n1 c1) (.bool nq) (.slice A2 n2 c2) 59)
          replace QR := Lib.hid (QR.out.alloc (.cells #[.bool np, .slice A1 n1 c1, .bool nq, .slice A2 n2 c2] 59))
          replace L1 := Lib.hid (L1.out.box (.cells #[.bool np, .slice A1 n1 c1, .bool nq, .slice A2 n2 c2] 59))
          replace L2 := Lib.hid (L2.out.box (.cells #[.bool np, .slice A1 n1 c1, .bool nq, .slice A2 n2 c2] 59))
          replace SB := Lib.hid (SB.out.via ((Below.refl _ _).alloc (Nat.le_refl _) (.cells #[.bool np, .slice A1 n1 c1, .bool nq, .slice A2 n2 c2] 59)))
          have hgF : w.heap.size ≤ w6.heap.size := BX.out.size
          replace BX := Lib.hid (BX.out.alloc (.cells #[.bool np, .slice A1 n1 c1, .bool nq, .slice A2 n2 c2] 59))
          generalize w6.heap.size = gF at *
          generalize w6.alloc (.cells #[.bool np, .slice A1 n1 c1, .bool nq, .slice A2 n2 c2] 59) = V0 at *
          go_wp2_with fail
          refine (skip_any _ _ 101 R SB.out).mono ?_
          rintro e w7 ⟨rfl, hs, hb⟩
          replace QR := Lib.hid (QR.out.bex hb (by omega))
          replace L1 := Lib.hid (L1.out.bex SB.out hb)
          replace L2 := Lib.hid (L2.out.bex SB.out hb)
          replace QF := Lib.hid (QF.out.bex hb (by omega))
          replace SB := Lib.hid hs
          replace BX := Lib.hid (BX.out.next hb)
          clear hs hb
          have hlr := sk_len 101 R
          cases hse : (sk 101 R).1 with
          | true =>
            have HU : Hid (tl p q R = scl p q (sk 101 R).2) := by
              show _ = _
              unfold tl
              rw [if_pos hse]
            have hO := HU.out.symm.trans HO.out
            clear HO HU
            have ⟨f0, f1, f2, f3, f4, f5, f6, f7, f8⟩ := QF.out
            go_wp2_with fail
            refine (scaled_any _ g _ A1 A2 n1 n2 c1 c2 p q SB.out (by omega) L1.out L2.out HSp.out HSq.out HNp.out HNq.out).mono ?_
            intro e v1 hr
            rw [hO] at hr
            clear hO
            cases o with
            | none =>
              obtain ⟨rfl, hb⟩ := hr
              unfold Pan
              exact ⟨rfl, rfl, BX.out.next hb⟩
            | some t =>
              obtain ⟨P, Q, r⟩ := t
              obtain ⟨A3, n3, c3, A4, n4, c4, rfl, hL3, hL4, hs, hb⟩ := hr
              clear f0 f1 f2 f3 f4 f5 f6 f7 f8
              clear L1 L2
              replace QR := Lib.hid (QR.out.bex hb (by omega))
              replace QF := Lib.hid (QF.out.bex hb (by omega))
              replace SB := Lib.hid hs
              replace BX := Lib.hid (BX.out.next hb)
              have L1 := Lib.hid hL3
              have L2 := Lib.hid hL4
              clear hs hb hL3 hL4
              obtain ⟨mp, hmp⟩ : ∃ b, decide (P < 0) = b := ⟨_, rfl⟩
              obtain ⟨mq, hmq⟩ : ∃ b, decide (Q < 0) = b := ⟨_, rfl⟩
              rw [hmp, hmq]
              have HMp := Lib.hid hmp
              have HMq := Lib.hid hmq
              clear hmp hmq
              have ⟨f0, f1, f2, f3, f4, f5, f6, f7, f8⟩ := QF.out
              go_upto_region 10 with (fail)
              clear f0 f1 f2 f3 f4 f5 f6 f7 f8
              rw [pt4_eq]
              have QF2 := Lib.hid (QF.out.set (.bool mp) (.slice A3 n3 c3) (.bool mq) (.slice A4 n4 c4))
              have QR2 := Lib.hid (QR.out.far (h := gF) (by omega) (.bool mp) (.slice A3 n3 c3) (.bool mq) (.slice A4 n4 c4))
              have M1 := Lib.hid (L1.out.put4 QF.out (.bool mp) (.slice A3 n3 c3) (.bool mq) (.slice A4 n4 c4))
              have M2 := Lib.hid (L2.out.put4 QF.out (.bool mp) (.slice A3 n3 c3) (.bool mq) (.slice A4 n4 c4))
              have S2 := Lib.hid (SB.out.put4 (h := gF) (by omega) (.bool mp) (.slice A3 n3 c3) (.bool mq) (.slice A4 n4 c4))
              have X2 := Lib.hid (BX.out.put4 (k := gF) (by omega) (.bool mp) (.slice A3 n3 c3) (.bool mq) (.slice A4 n4 c4))
              clear QF QR L1 L2 SB BX
              generalize put4 v1 gF (.bool mp) (.slice A3 n3 c3) (.bool mq) (.slice A4 n4 c4) = V2 at *
              have ⟨f0, f1, f2, f3, f4, f5, f6, f7, f8⟩ := QF2.out
              have ⟨r0, r1, r2, r3, r4, r5, r6, r7, r8⟩ := QR2.out
              go_wp2
              exact post_r1 Tryz.results63 rfl rfl (QR2.out.set (.bool mp) (.slice A3 n3 c3) (.bool mq) (.slice A4 n4 c4)) ⟨A3, n3, c3, A4, n4, c4, by rw [HMp.out, HMq.out], M1.out.put4 QR2.out _ _ _ _, M2.out.put4 QR2.out _ _ _ _, S2.out.put4 (by omega) _ _ _ _, X2.out.put4 (by omega) _ _ _ _⟩
          | false =>
            have HU : Hid (o = some (p, q, (sk 101 R).2)) := by
              show _ = _
              rw [← HO.out]
              unfold tl
              rw [if_neg (by rw [hse]; simp)]
            clear HO
            have ⟨f0, f1, f2, f3, f4, f5, f6, f7, f8⟩ := QF.out
            have ⟨r0, r1, r2, r3, r4, r5, r6, r7, r8⟩ := QR.out
            go_wp2
            exact post_r1 Tryz.results63 rfl rfl (QR.out.set (.bool np) (.slice A1 n1 c1) (.bool nq) (.slice A2 n2 c2)) (by rw [HU.out]; exact ⟨A1, n1, c1, A2, n2, c2, by rw [HNp.out, HNq.out], L1.out.put4 QR.out _ _ _ _, L2.out.put4 QR.out _ _ _ _, SB.out.put4 (by omega) _ _ _ _, BX.out.put4 (by omega) _ _ _ _⟩)
      | false =>
        have HU : uns l = tl (decV (dg l ++ []) : Int) (10 ^ ([] : List UInt8).length) (sk 46 (dr l)).2 := by
          unfold uns
          rw [if_neg hd1, if_neg (by rw [HM.out]; simp), if_neg (by rw [hsg]; simp)]
        rw [List.append_nil] at HU
        have HO2 : Hid (tl (decV (dg l) : Int) (10 ^ 0) (sk 46 (dr l)).2 = o) := HU.symm.trans HO.out
        clear HO HU
        have HO := HO2
        clear HO2
        have HDT := Lib.hid HD1.out
        generalize (sk 46 (dr l)).2 = U at *
        generalize dg l = D at *
        go_wp2_with fail
        rw [str_nil]
        refine (number_any _ D HDT.out (by omega)).mono ?_
        rintro e w4 ⟨A1, n1, c1, rfl, hL, hb⟩
        replace QR := Lib.hid (QR.out.via hb)
        replace SB := Lib.hid (SB.out.via hb)
        replace BX := Lib.hid (BX.out.nextB hb)
        have L1 := Lib.hid hL
        clear hb hL
        go_wp2_with fail
        refine ((show Calls Tryz.prog 71 #[.int .i64 0] _ (RVz _ ((10 : Int) ^ 0)) from power_n _ 0 (by omega))).mono ?_
        rintro e w5 ⟨A2, n2, c2, rfl, hL, hb⟩
        replace QR := Lib.hid (QR.out.via hb)
        replace L1 := Lib.hid (L1.out.via hb)
        replace SB := Lib.hid (SB.out.via hb)
        replace BX := Lib.hid (BX.out.nextB hb)
        have L2 := Lib.hid hL
        clear hb hL
        have HSp : Hid (Sz 300 (decV D : Int)) := (sz_dec HDT.out (by omega)).mono (by omega)
        have HSq : Hid (Sz 300 ((10 : Int) ^ 0)) := (sz_ten _ (by omega)).mono (by omega)
        obtain ⟨p, hp⟩ : ∃ p, (decV D : Int) = p := ⟨_, rfl⟩
        obtain ⟨q, hq⟩ : ∃ q, ((10 : Int) ^ 0) = q := ⟨_, rfl⟩
        rw [hp] at HO HSp L1
        rw [hq] at HO HSq L2
        rw [hp, hq]
        clear hp hq
        obtain ⟨np, hnp⟩ : ∃ b, decide (p < 0) = b := ⟨_, rfl⟩
        obtain ⟨nq, hnq⟩ : ∃ b, decide (q < 0) = b := ⟨_, rfl⟩
        rw [hnp, hnq]
        have HNp := Lib.hid hnp
        have HNq := Lib.hid hnq
        clear hnp hnq
        obtain ⟨R, hR⟩ : ∃ R, U = R := ⟨_, rfl⟩
        rw [hR] at HO SB
        have hRl : R.length ≤ 200 := by rw [← hR]; omega
        clear hR
        go_upto_region 8 with (fail)
        have hrF := QR.out.lt
        have QF := Lib.hid (Qd.new w5 _ rfl (.bool np) (.slice A1 n1 c1) (.bool nq) (.slice A2 n2 c2) 59)
        replace QR := Lib.hid (QR.out.alloc (.cells #[.bool np, .slice A1 n1 c1, .bool nq, .slice A2 n2 c2] 59))
        replace L1 := Lib.hid (L1.out.box (.cells #[.bool np, .slice A1 n1 c1, .bool nq, .slice A2 n2 c2] 59))
        replace L2 := Lib.hid (L2.out.box (.cells #[.bool np, .slice A1 n1 c1, .bool nq, .slice A2 n2 c2] 59))
        replace SB := Lib.hid (SB.out.via ((Below.refl _ _).alloc (Nat.le_refl _) (.cells #[.bool np, .slice A1 n1 c1, .bool nq, .slice A2 n2 c2] 59)))
        have hgF : w.heap.size ≤ w5.heap.size := BX.out.size
        replace BX := Lib.hid (BX.out.alloc (.cells #[.bool np, .slice A1 n1 c1, .bool nq, .slice A2 n2 c2] 59))
        generalize w5.heap.size = gF at *
        generalize w5.alloc (.cells #[.bool np, .slice A1 n1 c1, .bool nq, .slice A2 n2 c2] 59) = V0 at *
        go_wp2_with fail
        refine (skip_any _ _ 101 R SB.out).mono ?_
        rintro e w6 ⟨rfl, hs, hb⟩
        replace QR := Lib.hid (QR.out.bex hb (by omega))
        replace L1 := Lib.hid (L1.out.bex SB.out hb)
        replace L2 := Lib.hid (L2.out.bex SB.out hb)
        replace QF := Lib.hid (QF.out.bex hb (by omega))
        replace SB := Lib.hid hs
        replace BX := Lib.hid (BX.out.next hb)
        clear hs hb
        have hlr := sk_len 101 R
        cases hse : (sk 101 R).1 with
        | true =>
          have HU : Hid (tl p q R = scl p q (sk 101 R).2) := by
            show _ = _
            unfold tl
            rw [if_pos hse]
          have hO := HU.out.symm.trans HO.out
          clear HO HU
          have ⟨f0, f1, f2, f3, f4, f5, f6, f7, f8⟩ := QF.out
          go_wp2_with fail
          refine (scaled_any _ g _ A1 A2 n1 n2 c1 c2 p q SB.out (by omega) L1.out L2.out HSp.out HSq.out HNp.out HNq.out).mono ?_
          intro e v1 hr
          rw [hO] at hr
          clear hO
          cases o with
          | none =>
            obtain ⟨rfl, hb⟩ := hr
            unfold Pan
            exact ⟨rfl, rfl, BX.out.next hb⟩
          | some t =>
            obtain ⟨P, Q, r⟩ := t
            obtain ⟨A3, n3, c3, A4, n4, c4, rfl, hL3, hL4, hs, hb⟩ := hr
            clear f0 f1 f2 f3 f4 f5 f6 f7 f8
            clear L1 L2
            replace QR := Lib.hid (QR.out.bex hb (by omega))
            replace QF := Lib.hid (QF.out.bex hb (by omega))
            replace SB := Lib.hid hs
            replace BX := Lib.hid (BX.out.next hb)
            have L1 := Lib.hid hL3
            have L2 := Lib.hid hL4
            clear hs hb hL3 hL4
            obtain ⟨mp, hmp⟩ : ∃ b, decide (P < 0) = b := ⟨_, rfl⟩
            obtain ⟨mq, hmq⟩ : ∃ b, decide (Q < 0) = b := ⟨_, rfl⟩
            rw [hmp, hmq]
            have HMp := Lib.hid hmp
            have HMq := Lib.hid hmq
            clear hmp hmq
            have ⟨f0, f1, f2, f3, f4, f5, f6, f7, f8⟩ := QF.out
            go_upto_region 10 with (fail)
            clear f0 f1 f2 f3 f4 f5 f6 f7 f8
            rw [pt4_eq]
            have QF2 := Lib.hid (QF.out.set (.bool mp) (.slice A3 n3 c3) (.bool mq) (.slice A4 n4 c4))
            have QR2 := Lib.hid (QR.out.far (h := gF) (by omega) (.bool mp) (.slice A3 n3 c3) (.bool mq) (.slice A4 n4 c4))
            have M1 := Lib.hid (L1.out.put4 QF.out (.bool mp) (.slice A3 n3 c3) (.bool mq) (.slice A4 n4 c4))
            have M2 := Lib.hid (L2.out.put4 QF.out (.bool mp) (.slice A3 n3 c3) (.bool mq) (.slice A4 n4 c4))
            have S2 := Lib.hid (SB.out.put4 (h := gF) (by omega) (.bool mp) (.slice A3 n3 c3) (.bool mq) (.slice A4 n4 c4))
            have X2 := Lib.hid (BX.out.put4 (k := gF) (by omega) (.bool mp) (.slice A3 n3 c3) (.bool mq) (.slice A4 n4 c4))
            clear QF QR L1 L2 SB BX
            generalize put4 v1 gF (.bool mp) (.slice A3 n3 c3) (.bool mq) (.slice A4 n4 c4) = V2 at *
            have ⟨f0, f1, f2, f3, f4, f5, f6, f7, f8⟩ := QF2.out
            have ⟨r0, r1, r2, r3, r4, r5, r6, r7, r8⟩ := QR2.out
            go_wp2
            exact post_r1 Tryz.results63 rfl rfl (QR2.out.set (.bool mp) (.slice A3 n3 c3) (.bool mq) (.slice A4 n4 c4)) ⟨A3, n3, c3, A4, n4, c4, by rw [HMp.out, HMq.out], M1.out.put4 QR2.out _ _ _ _, M2.out.put4 QR2.out _ _ _ _, S2.out.put4 (by omega) _ _ _ _, X2.out.put4 (by omega) _ _ _ _⟩
        | false =>
          have HU : Hid (o = some (p, q, (sk 101 R).2)) := by
            show _ = _
            rw [← HO.out]
            unfold tl
            rw [if_neg (by rw [hse]; simp)]
          clear HO
          have ⟨f0, f1, f2, f3, f4, f5, f6, f7, f8⟩ := QF.out
          have ⟨r0, r1, r2, r3, r4, r5, r6, r7, r8⟩ := QR.out
          go_wp2
          exact post_r1 Tryz.results63 rfl rfl (QR.out.set (.bool np) (.slice A1 n1 c1) (.bool nq) (.slice A2 n2 c2)) (by rw [HU.out]; exact ⟨A1, n1, c1, A2, n2, c2, by rw [HNp.out, HNq.out], L1.out.put4 QR.out _ _ _ _, L2.out.put4 QR.out _ _ _ _, SB.out.put4 (by omega) _ _ _ _, BX.out.put4 (by omega) _ _ _ _⟩)
end Go.Proofs.YtkendkbicafdgaaGreatDoor

/- Texts of numerals: how great their numbers can be. -/
namespace Go.Proofs.YtkendkbicafdgaaGreatDoor
open Go.RowKit

theorem ten_nonneg (k : Nat) : (0 : Int) ≤ 10 ^ k := Int.le_of_lt (Int.pow_pos (by omega))
theorem scl_sz {p q P Q : Int} {l r : List UInt8} (hp : 0 ≤ p) (hq : 0 ≤ q) (h1 : Sz 300 p) (h2 : Sz 300 q) (h : scl p q l = some (P, Q, r)) : 0 ≤ P ∧ 0 ≤ Q ∧ Sz 426 P ∧ Sz 426 Q := by
  unfold scl at h
  by_cases hc : dg (sk 45 l).2 = [] ∨ 3 < (dg (sk 45 l).2).length
  · rw [if_pos hc] at h
    cases h
  · rw [if_neg hc] at h
    have hk : decV (dg (sk 45 l).2) ≤ 999 := dec3 (dg_all _) (by
      rcases Nat.lt_or_ge 3 (dg (sk 45 l).2).length with hh | hh
      · exact absurd (.inr hh) hc
      · exact hh)
    generalize decV (dg (sk 45 l).2) = k at *
    by_cases hs : (sk 45 l).1 = true
    · rw [if_pos hs] at h
      injection h with h
      injection h with e1 h
      injection h with e2 e3
      subst e1 e2
      exact ⟨hp, Int.mul_nonneg hq (ten_nonneg _), h1.mono (by omega), h2.mul (sz_ten _ hk)⟩
    · rw [if_neg hs] at h
      injection h with h
      injection h with e1 h
      injection h with e2 e3
      subst e1 e2
      exact ⟨Int.mul_nonneg hp (ten_nonneg _), hq, h1.mul (sz_ten _ hk), h2.mono (by omega)⟩
theorem tl_sz {p q P Q : Int} {l r : List UInt8} (hp : 0 ≤ p) (hq : 0 ≤ q) (h1 : Sz 300 p) (h2 : Sz 300 q) (h : tl p q l = some (P, Q, r)) : 0 ≤ P ∧ 0 ≤ Q ∧ Sz 426 P ∧ Sz 426 Q := by
  unfold tl at h
  by_cases hs : (sk 101 l).1 = true
  · rw [if_pos hs] at h
    exact scl_sz hp hq h1 h2 h
  · rw [if_neg hs] at h
    injection h with h
    injection h with e1 h
    injection h with e2 e3
    subst e1 e2
    exact ⟨hp, hq, h1.mono (by omega), h2.mono (by omega)⟩
theorem nat_nonneg (n : Nat) : (0 : Int) ≤ (n : Int) := Int.natCast_nonneg n
theorem uns_sz {P Q : Int} {l r : List UInt8} (hl : l.length ≤ 200) (h : uns l = some (P, Q, r)) : 0 ≤ P ∧ 0 ≤ Q ∧ Sz 426 P ∧ Sz 426 Q := by
  have a1 := dgr_len l
  have a2 := sk_len 47 (dr l)
  have a3 := sk_len 46 (dr l)
  have a4 := dgr_len (sk 47 (dr l)).2
  have a5 := dgr_len (sk 46 (dr l)).2
  have b1 := dg_all l
  have b2 := dg_all (sk 47 (dr l)).2
  have b3 := dg_all (sk 46 (dr l)).2
  unfold uns at h
  by_cases h0 : dg l = []
  · rw [if_pos h0] at h
    cases h
  · rw [if_neg h0] at h
    by_cases h1 : (sk 47 (dr l)).1 = true
    · rw [if_pos h1] at h
      by_cases h2 : dg (sk 47 (dr l)).2 = []
      · rw [if_pos h2] at h
        cases h
      · rw [if_neg h2] at h
        injection h with h
        injection h with e1 h
        injection h with e2 e3
        subst e1 e2
        exact ⟨nat_nonneg _, nat_nonneg _, (sz_dec b1 (by omega)).mono (by omega), (sz_dec b2 (by omega)).mono (by omega)⟩
    · rw [if_neg h1] at h
      by_cases h2 : (sk 46 (dr l)).1 = true
      · rw [if_pos h2] at h
        by_cases h3 : dg (sk 46 (dr l)).2 = []
        · rw [if_pos h3] at h
          cases h
        · rw [if_neg h3] at h
          refine tl_sz (nat_nonneg _) (ten_nonneg _) ((sz_dec ?_ ?_).mono (by omega)) ((sz_ten _ (by omega)).mono (by omega)) h
          · rw [List.all_append, b1, b3]
            rfl
          · rw [List.length_append]
            omega
      · rw [if_neg h2] at h
        refine tl_sz (nat_nonneg _) (ten_nonneg _) ((sz_dec ?_ ?_).mono (by omega)) ((sz_ten _ (by simp)).mono (by omega)) h
        · rw [List.append_nil]
          exact b1
        · rw [List.append_nil]
          omega
theorem nml_sz {P Q : Int} {l : List UInt8} (h : nml l = some (P, Q)) : l.length ≤ 200 ∧ 0 ≤ Q ∧ Sz 426 P ∧ Sz 426 Q := by
  unfold nml at h
  by_cases h0 : 200 < l.length
  · rw [if_pos h0] at h
    cases h
  · rw [if_neg h0] at h
    have hl : (sk 45 l).2.length ≤ 200 := Nat.le_trans (sk_len 45 l) (by omega)
    cases hu : uns (sk 45 l).2 with
    | none =>
      rw [hu] at h
      cases h
    | some t =>
      obtain ⟨p, q, r⟩ := t
      have hs := uns_sz hl hu
      rw [hu] at h
      cases r with
      | cons a t => cases h
      | nil =>
        have e : (if (sk 45 l).1 = true then -p else p, q) = (P, Q) := Option.some.inj h
        injection e with e1 e2
        subst e1 e2
        refine ⟨by omega, hs.2.1, ?_, hs.2.2.2⟩
        split
        · exact hs.2.2.1.neg
        · exact hs.2.2.1
end Go.Proofs.YtkendkbicafdgaaGreatDoor

/- Package frac: numeral, Parse. -/
namespace Go.Proofs.YtkendkbicafdgaaGreatDoor
open Go.RowKit

/-- The numbers of a numeral, or none. -/
def RNu (w : World) (o : Option (Int × Int)) (e : Ending) (w' : World) : Prop := match o with
  | none => e = Pan 12 ∧ Below w.heap.size w w'
  | some (p, q) => RFr w p q e w'
set_option maxRecDepth 100000 in
set_option maxHeartbeats 4000000 in
theorem numeral_long (w : World) (l : List UInt8) (hl : 200 < l.length) : Calls Tryz.prog 32 #[.string ⟨l.toArray⟩] w (RNu w none) := by
  have hz := str_size l
  have hi : (200 : Int) < (l.length : Int) := by omega
  clear hl
  have BW : Hid (Below w.heap.size w (w.alloc (.cells #[.bool false, .slice none 0 0, .bool false, .slice none 0 0] 59))) := below_alloc (Below.refl _ _) _
  go_enter Tryz.func32, Tryz.ntmps32
  go_wp2
  refine ⟨rfl, ?_⟩
  unfold RNu
  exact ⟨rfl, BW.out⟩
set_option maxRecDepth 100000 in
set_option maxHeartbeats 4000000 in
theorem numeral_short (w : World) (l : List UInt8) (hl : l.length ≤ 200) : Calls Tryz.prog 32 #[.string ⟨l.toArray⟩] w (RNu w (nml l)) := by
  have hz := str_size l
  have hi : decide ((200 : Int) < (l.length : Int)) = false := decide_eq_false (by omega)
  have hlk := sk_len 45 l
  obtain ⟨o, ho⟩ : ∃ o, nml l = o := ⟨_, rfl⟩
  rw [ho]
  have HO : Hid ((match uns (sk 45 l).2 with
    | some (p, q, []) => some (if (sk 45 l).1 = true then -p else p, q)
    | _ => none) = o) := by
    show _ = _
    rw [← ho]
    unfold nml
    rw [if_neg (by omega)]
    try rfl
  clear ho
  have BW : Hid (Below w.heap.size w ((w.alloc (.cells #[.bool false, .slice none 0 0, .bool false, .slice none 0 0] 59)).alloc (.cells #[.string ⟨l.toArray⟩] 93))) := below_alloc (below_alloc (Below.refl _ _) _) _
  have QR := Lib.hid ((Qd.new w w.heap.size rfl (.bool false) (.slice none 0 0) (.bool false) (.slice none 0 0) 59).alloc (.cells #[.string ⟨l.toArray⟩] 93))
  have SB := Lib.hid (Sb.new (w.alloc (.cells #[.bool false, .slice none 0 0, .bool false, .slice none 0 0] 59)) (w.heap.size + 1) (by simp) l 93)
  have hW0 : ((w.alloc (.cells #[.bool false, .slice none 0 0, .bool false, .slice none 0 0] 59)).alloc (.cells #[.string ⟨l.toArray⟩] 93)).heap.size = w.heap.size + 1 + 1 := by simp
  go_enter Tryz.func32, Tryz.ntmps32
  go_upto_region 4 with (fail)
  generalize (w.alloc (.cells #[.bool false, .slice none 0 0, .bool false, .slice none 0 0] 59)).alloc (.cells #[.string ⟨l.toArray⟩] 93) = W0 at *
  have BX : Hid (Bex W0.heap.size (w.heap.size + 1) W0 W0) := Bex.of (Below.refl _ _)
  go_wp2_with fail
  refine (skip_any _ _ 45 l SB.out).mono ?_
  rintro e w1 ⟨rfl, hs, hb⟩
  replace QR := Lib.hid (QR.out.bex hb (by omega))
  replace SB := Lib.hid hs
  replace BX := Lib.hid (BX.out.next hb)
  clear hs hb
  go_wp2_with fail
  refine (unsigned_any _ _ _ SB.out (by omega)).mono ?_
  intro e w2 hr
  cases hu : uns (sk 45 l).2 with
  | none =>
    rw [hu] at hr HO
    obtain ⟨rfl, hb⟩ := hr
    have e : o = none := HO.out.symm
    rw [e]
    have hB : Below w.heap.size w w2 := BW.out.trans ((BX.out.next hb).below (by omega) (by omega))
    unfold Pan RNu
    exact ⟨rfl, rfl, hB⟩
  | some t =>
    obtain ⟨p, q, r⟩ := t
    have HSZ := Lib.hid (uns_sz (Nat.le_trans (sk_len 45 l) hl) hu)
    rw [hu] at hr HO
    clear hu
    obtain ⟨A1, n1, c1, A2, n2, c2, rfl, hL, hM, hs, hb⟩ := hr
    replace QR := Lib.hid (QR.out.bex hb (by omega))
    replace SB := Lib.hid hs
    replace BX := Lib.hid (BX.out.next hb)
    have L1 := Lib.hid hL
    have L2 := Lib.hid hM
    clear hs hb hL hM
    obtain ⟨np, hnp⟩ : ∃ b, decide (p < 0) = b := ⟨_, rfl⟩
    obtain ⟨nq, hnq⟩ : ∃ b, decide (q < 0) = b := ⟨_, rfl⟩
    rw [hnp, hnq]
    have HNp := Lib.hid hnp
    have HNq := Lib.hid hnq
    clear hnp hnq
    go_upto_region 6 with (fail)
    have QF := Lib.hid (Qd.new w2 _ rfl (.bool np) (.slice A1 n1 c1) (.bool nq) (.slice A2 n2 c2) 59)
    replace QR := Lib.hid (QR.out.alloc (.cells #[.bool np, .slice A1 n1 c1, .bool nq, .slice A2 n2 c2] 59))
    replace L1 := Lib.hid (L1.out.box (.cells #[.bool np, .slice A1 n1 c1, .bool nq, .slice A2 n2 c2] 59))
    replace L2 := Lib.hid (L2.out.box (.cells #[.bool np, .slice A1 n1 c1, .bool nq, .slice A2 n2 c2] 59))
    replace SB := Lib.hid (SB.out.via ((Below.refl _ _).alloc (Nat.le_refl _) (.cells #[.bool np, .slice A1 n1 c1, .bool nq, .slice A2 n2 c2] 59)))
    have hgF : W0.heap.size ≤ w2.heap.size := BX.out.size
    replace BX := Lib.hid (BX.out.alloc (.cells #[.bool np, .slice A1 n1 c1, .bool nq, .slice A2 n2 c2] 59))
    generalize w2.heap.size = gF at *
    generalize w2.alloc (.cells #[.bool np, .slice A1 n1 c1, .bool nq, .slice A2 n2 c2] 59) = V0 at *
    have c0 := SB.out.c0
    by_cases hr0 : r = []
    · have e0 : r.isEmpty = true := by simpa using hr0
      have HO1 : Hid (some (if (sk 45 l).1 = true then -p else p, q) = o) := by
        show _ = _
        rw [← HO.out, hr0]
      clear HO hr0
      cases hsg : (sk 45 l).1 with
      | true =>
        have HU : Hid (o = some (-p, q)) := by
          show _ = _
          rw [← HO1.out, if_pos hsg]
        clear HO1
        have HSP := Lib.hid HSZ.out.2.2.1
        have ⟨f0, f1, f2, f3, f4, f5, f6, f7, f8⟩ := QF.out
        go_wp2_with fail
        refine (neg_n2 _ A1 n1 c1 426 p L1.out HSP.out (by omega) HNp.out).mono ?_
        rintro e w3 ⟨A3, n3, c3, rfl, hL, hb⟩
        replace QR := Lib.hid (QR.out.via hb)
        replace L1 := Lib.hid (L1.out.via hb)
        replace L2 := Lib.hid (L2.out.via hb)
        replace QF := Lib.hid (QF.out.via hb)
        replace SB := Lib.hid (SB.out.via hb)
        replace BX := Lib.hid (BX.out.nextB hb)
        have L3 := Lib.hid hL
        clear hb hL
        clear f0 f1 f2 f3 f4 f5 f6 f7 f8
        clear L1
        obtain ⟨mp, hmp⟩ : ∃ b, decide (-p < 0) = b := ⟨_, rfl⟩
        rw [hmp]
        have HMp := Lib.hid hmp
        clear hmp
        have ⟨f0, f1, f2, f3, f4, f5, f6, f7, f8⟩ := QF.out
        go_wp2_with fail
        refine (must_ok _ _ _ _ _).mono ?_
        rintro e w4 ⟨rfl, hb⟩
        replace QR := Lib.hid (QR.out.via hb)
        replace L2 := Lib.hid (L2.out.via hb)
        replace QF := Lib.hid (QF.out.via hb)
        replace L3 := Lib.hid (L3.out.via hb)
        replace SB := Lib.hid (SB.out.via hb)
        replace BX := Lib.hid (BX.out.nextB hb)
        clear hb
        clear f0 f1 f2 f3 f4 f5 f6 f7 f8
        have ⟨f0, f1, f2, f3, f4, f5, f6, f7, f8⟩ := QF.out
        go_upto_region 10 with (fail)
        clear f0 f1 f2 f3 f4 f5 f6 f7 f8 c0
        have QF2 := Lib.hid (QF.out.lo (.bool mp) (.slice A3 n3 c3))
        have QR2 := Lib.hid ((QR.out.far1 (h := gF) (by omega) 0 (.bool mp)).far1 (h := gF) (by omega) 1 (.slice A3 n3 c3))
        have M1 := Lib.hid (L3.out.lo QF.out (.bool mp) (.slice A3 n3 c3))
        have M2 := Lib.hid (L2.out.lo QF.out (.bool mp) (.slice A3 n3 c3))
        have X2 := Lib.hid ((BX.out.setN (k := gF) (by omega) 0 (.bool mp)).setN (k := gF) (by omega) 1 (.slice A3 n3 c3))
        clear QF QR L2 L3 BX SB
        generalize (w4.setCell ⟨gF, 0, none⟩ (.bool mp)).setCell ⟨gF, 1, none⟩ (.slice A3 n3 c3) = V2 at *
        have ⟨f0, f1, f2, f3, f4, f5, f6, f7, f8⟩ := QF2.out
        have ⟨r0, r1, r2, r3, r4, r5, r6, r7, r8⟩ := QR2.out
        go_wp2
        exact post_r1 Tryz.results32 rfl rfl (QR2.out.set (.bool mp) (.slice A3 n3 c3) (.bool nq) (.slice A2 n2 c2)) (by rw [HU.out]; exact ⟨A3, n3, c3, A2, n2, c2, by rw [HMp.out, HNq.out], M1.out.put4 QR2.out _ _ _ _, M2.out.put4 QR2.out _ _ _ _, below_put4 (BW.out.trans (X2.out.below (by omega) (by omega))) (Nat.le_refl _) _ _ _ _⟩)
      | false =>
        have HU : Hid (o = some (p, q)) := by
          show _ = _
          rw [← HO1.out, if_neg (by rw [hsg]; simp)]
        clear HO1
        have ⟨f0, f1, f2, f3, f4, f5, f6, f7, f8⟩ := QF.out
        have ⟨r0, r1, r2, r3, r4, r5, r6, r7, r8⟩ := QR.out
        go_wp2
        exact post_r1 Tryz.results32 rfl rfl (QR.out.set (.bool np) (.slice A1 n1 c1) (.bool nq) (.slice A2 n2 c2)) (by rw [HU.out]; exact ⟨A1, n1, c1, A2, n2, c2, by rw [HNp.out, HNq.out], L1.out.put4 QR.out _ _ _ _, L2.out.put4 QR.out _ _ _ _, below_put4 (BW.out.trans (BX.out.below (by omega) (by omega))) (Nat.le_refl _) _ _ _ _⟩)
    · have e0 : r.isEmpty = false := by simpa using hr0
      have e : o = none := by
        rw [← HO.out]
        cases r with
        | nil => exact absurd rfl hr0
        | cons a t => rfl
      clear HO
      go_wp2
      refine ⟨rfl, ?_⟩
      try rw [e]
      unfold RNu
      exact ⟨rfl, BW.out.trans ((BX.out).below (by omega) (by omega))⟩
end Go.Proofs.YtkendkbicafdgaaGreatDoor

/- Package frac: Parse. -/
namespace Go.Proofs.YtkendkbicafdgaaGreatDoor
open Go.RowKit

/-- What Parse of a text answers. -/
def prE (l : List UInt8) : Int := match nml l with | none => 12 | some (_, q) => if q = 0 then 18 else 0
def prP (l : List UInt8) : Int := match nml l with | none => 0 | some (p, q) => if q = 0 then 0 else p / dvr p q
def prQ (l : List UInt8) : Int := match nml l with | none => 0 | some (p, q) => if q = 0 then 0 else q / dvr p q
theorem numeral_any (w : World) (l : List UInt8) (_ : l.length ≤ 9223372036854775807) : Calls Tryz.prog 32 #[.string ⟨l.toArray⟩] w (RNu w (nml l)) := by
  rcases Nat.lt_or_ge 200 l.length with h | h
  · rw [show nml l = none by unfold nml; rw [if_pos h]]
    exact numeral_long w l h
  · exact numeral_short w l h

set_option maxRecDepth 100000 in
set_option maxHeartbeats 2000000 in
theorem parse1_bad (w : World) (g0 : Nat) (l : List UInt8) (hl : l.length ≤ 9223372036854775807) (hs : Sb w g0 l) (hn : nml l = none) :
    Calls Tryz.prog 31 #[.pointer (some ⟨g0, 0, none⟩)] w (fun e w' => e = Pan 12 ∧ Below w.heap.size w w') := by
  have BW : Hid (Below w.heap.size w (w.alloc (.cells #[.bool false, .slice none 0 0, .bool false, .slice none 0 0] 26))) := below_alloc (Below.refl _ _) _
  have c0 := (hs.via BW.out).c0
  have HN := Lib.hid hn
  clear hs hn
  go_enter Tryz.func31, Tryz.ntmps31
  go_wp2_with fail
  generalize w.alloc (.cells #[.bool false, .slice none 0 0, .bool false, .slice none 0 0] 26) = W0 at *
  have hh := numeral_any W0 l hl
  rw [HN.out] at hh
  refine hh.mono ?_
  rintro e w1 ⟨rfl, hb⟩
  unfold Pan
  exact ⟨rfl, rfl, btr BW.out hb⟩
set_option maxRecDepth 100000 in
set_option maxHeartbeats 2000000 in
theorem parse1_zero (w : World) (g0 : Nat) (l : List UInt8) (hs : Sb w g0 l) (p : Int) (hn : nml l = some (p, 0)) :
    Calls Tryz.prog 31 #[.pointer (some ⟨g0, 0, none⟩)] w (fun e w' => e = Pan 18 ∧ Below w.heap.size w w') := by
  have BW : Hid (Below w.heap.size w (w.alloc (.cells #[.bool false, .slice none 0 0, .bool false, .slice none 0 0] 26))) := below_alloc (Below.refl _ _) _
  have c0 := (hs.via BW.out).c0
  have HN := Lib.hid hn
  have HZ := Lib.hid (nml_sz hn)
  have hl : l.length ≤ 9223372036854775807 := by have := HZ.out.1; omega
  clear hs hn
  go_enter Tryz.func31, Tryz.ntmps31
  go_wp2_with fail
  generalize w.alloc (.cells #[.bool false, .slice none 0 0, .bool false, .slice none 0 0] 26) = W0 at *
  have hh := numeral_any W0 l hl
  rw [HN.out] at hh
  refine hh.mono ?_
  rintro e w1 ⟨A1, n1, c1, A2, n2, c2, rfl, hL, hM, hb⟩
  have L1 := Lib.hid hL
  have L2 := Lib.hid hM
  have BB := Lib.hid (btr BW.out hb)
  obtain ⟨np, hnp⟩ : ∃ b, decide (p < 0) = b := ⟨_, rfl⟩
  obtain ⟨nq, hnq⟩ : ∃ b, decide ((0 : Int) < 0) = b := ⟨_, rfl⟩
  rw [hnp, hnq]
  have HNp := Lib.hid hnp
  have HNq := Lib.hid hnq
  clear hb hL hM hnp hnq
  go_wp2_with fail
  refine (reduced_zero _ A1 A2 n1 n2 c1 c2 426 p 0 L1.out L2.out HZ.out.2.2.1 HZ.out.2.2.2 (by omega) HNp.out HNq.out rfl).mono ?_
  rintro e w2 ⟨rfl, hb⟩
  unfold Pan
  exact ⟨rfl, rfl, btr BB.out hb⟩
set_option maxRecDepth 100000 in
set_option maxHeartbeats 2000000 in
theorem parse1_ok (w : World) (g0 : Nat) (l : List UInt8) (hs : Sb w g0 l) (p q : Int) (hn : nml l = some (p, q)) (hq : 0 < q) :
    Calls Tryz.prog 31 #[.pointer (some ⟨g0, 0, none⟩)] w (RFr w (p / dvr p q) (q / dvr p q)) := by
  have BW : Hid (Below w.heap.size w (w.alloc (.cells #[.bool false, .slice none 0 0, .bool false, .slice none 0 0] 26))) := below_alloc (Below.refl _ _) _
  have QR := Lib.hid (Qd.new w w.heap.size rfl (.bool false) (.slice none 0 0) (.bool false) (.slice none 0 0) 26)
  have c0 := (hs.via BW.out).c0
  have HN := Lib.hid hn
  have HZ := Lib.hid (nml_sz hn)
  have HQ := Lib.hid hq
  have hl : l.length ≤ 9223372036854775807 := by have := HZ.out.1; omega
  clear hs hn hq
  go_enter Tryz.func31, Tryz.ntmps31
  go_wp2_with fail
  generalize w.alloc (.cells #[.bool false, .slice none 0 0, .bool false, .slice none 0 0] 26) = W0 at *
  have hh := numeral_any W0 l hl
  rw [HN.out] at hh
  refine hh.mono ?_
  rintro e w1 ⟨A1, n1, c1, A2, n2, c2, rfl, hL, hM, hb⟩
  have L1 := Lib.hid hL
  have L2 := Lib.hid hM
  replace QR := Lib.hid (QR.out.via hb)
  have BB := Lib.hid (btr BW.out hb)
  obtain ⟨np, hnp⟩ : ∃ b, decide (p < 0) = b := ⟨_, rfl⟩
  obtain ⟨nq, hnq⟩ : ∃ b, decide (q < 0) = b := ⟨_, rfl⟩
  rw [hnp, hnq]
  have HNp := Lib.hid hnp
  have HNq := Lib.hid hnq
  clear hb hL hM hnp hnq hh
  go_wp2_with fail
  refine (reduced_pos _ A1 A2 n1 n2 c1 c2 426 p q L1.out L2.out HZ.out.2.2.1 HZ.out.2.2.2 (by omega) HNp.out HNq.out HQ.out).mono ?_
  rintro e w2 ⟨A5, n5, c5, B5, m5, d5, rfl, hL, hM, hb⟩
  replace QR := Lib.hid (QR.out.via hb)
  obtain ⟨mp, hmp⟩ : ∃ b, decide (p / dvr p q < 0) = b := ⟨_, rfl⟩
  obtain ⟨mq, hmq⟩ : ∃ b, decide (q / dvr p q < 0) = b := ⟨_, rfl⟩
  rw [hmp, hmq]
  have HMp := Lib.hid hmp
  have HMq := Lib.hid hmq
  have L5 := Lib.hid hL
  have M5 := Lib.hid hM
  replace BB := Lib.hid (btr BB.out hb)
  clear hb hL hM hmp hmq
  have ⟨r0, r1, r2, r3, rf0, rf1, rf2, rf3, rl⟩ := QR.out
  go_wp2
  exact post_f1 Tryz.results31 rfl rfl (QR.out.set (.bool mp) (.slice A5 n5 c5) (.bool mq) (.slice B5 m5 d5)) ⟨A5, n5, c5, B5, m5, d5, by rw [HMp.out, HMq.out], L5.out.put4 QR.out _ _ _ _, M5.out.put4 QR.out _ _ _ _, below_put4 BB.out (Nat.le_refl _) _ _ _ _⟩
set_option maxRecDepth 100000 in
set_option maxHeartbeats 2000000 in
theorem fparse_g (w : World) (l : List UInt8) (np nq : Bool) (l1 l2 : List Nat) (err : Int)
    (H : ∀ W g0, Sb W g0 l → Calls Tryz.prog 30 #[.func (.func 31) #[] #[.pointer (some ⟨g0, 0, none⟩)]] W (RG W np l1 nq l2 err)) :
    Calls Tryz.prog 9 #[.string ⟨l.toArray⟩] w (RG w np l1 nq l2 err) := by
  have hmf : ∀ (fn : Fn) (first cap : Array Value) (w : World), (Instr.makeFunc fn first cap).run Tryz.prog w = .ok (.func fn first cap) w := fun _ _ _ _ => rfl
  have HH := Lib.hid H
  clear H
  have BW : Hid (Below w.heap.size w ((w.alloc (.cells #[.string ⟨l.toArray⟩] 9)).alloc (.cells #[.bool false, .slice none 0 0, .bool false, .slice none 0 0] 26))) := below_alloc (below_alloc (Below.refl _ _) _) _
  have SB := Lib.hid ((Sb.new w w.heap.size rfl l 9).via ((Below.refl _ _).alloc (Nat.le_refl _) (.cells #[.bool false, .slice none 0 0, .bool false, .slice none 0 0] 26)))
  have QR := Lib.hid (Qd.new (w.alloc (.cells #[.string ⟨l.toArray⟩] 9)) (w.heap.size + 1) (by simp) (.bool false) (.slice none 0 0) (.bool false) (.slice none 0 0) 26)
  go_enter Tryz.func9, Tryz.ntmps9
  go_wp2_with fail
  generalize (w.alloc (.cells #[.string ⟨l.toArray⟩] 9)).alloc (.cells #[.bool false, .slice none 0 0, .bool false, .slice none 0 0] 26) = W0 at *
  refine (HH.out _ w.heap.size SB.out).mono ?_
  rintro e w1 ⟨A1, n1, c1, B1, m1, d1, rfl, hL, hM, hb⟩
  have Q := Lib.hid (QR.out.via hb)
  have L1 := Lib.hid hL
  have M1 := Lib.hid hM
  have BB := Lib.hid (btr BW.out hb)
  have ⟨q0, q1, q2, q3, f0, f1, f2, f3, ql⟩ := Q.out
  clear hL hM hb
  go_wp2
  exact post_f Tryz.results9 rfl rfl (Q.out.set (.bool np) (.slice A1 n1 c1) (.bool nq) (.slice B1 m1 d1)) ⟨A1, n1, c1, B1, m1, d1, rfl, L1.out.put4 Q.out _ _ _ _, M1.out.put4 Q.out _ _ _ _, below_put4 BB.out (by omega) _ _ _ _⟩
theorem fparse_any (w : World) (l : List UInt8) (hl : l.length ≤ 9223372036854775807) :
    Calls Tryz.prog 9 #[.string ⟨l.toArray⟩] w (RG w (decide (prP l < 0)) (digs (prP l).natAbs) (decide (prQ l < 0)) (digs (prQ l).natAbs) (prE l)) := by
  have hcf : ∀ (u : Value) (W : World), (callFunc 31 (#[] ++ #[u])).run Tryz.prog W = .ok (.enter 31 (#[] ++ #[u])) W := fun u W => by go_simp
  refine fparse_g w l _ _ _ _ _ fun W g0 hs => ?_
  unfold prP prQ prE
  cases hn : nml l with
  | none => exact (attempt_no W _ #[] #[_] 12 (hcf _) (parse1_bad _ g0 l hl (hs.via (wat_below W)) hn)).mono fun _ _ h => rfx_rg h
  | some t =>
    obtain ⟨p, q⟩ := t
    have hz := nml_sz hn
    by_cases hq : q = 0
    · subst hq
      exact (attempt_no W _ #[] #[_] 18 (hcf _) (parse1_zero _ g0 l (hs.via (wat_below W)) p hn)).mono fun _ _ h => rfx_rg h
    · simp only [if_neg hq]
      exact (attempt_ok W _ #[] #[_] _ _ (hcf _) (parse1_ok _ g0 l (hs.via (wat_below W)) p q hn (by omega))).mono fun _ _ h => rfe_rg h
end Go.Proofs.YtkendkbicafdgaaGreatDoor

/- Package frac: decimal, Decimal. -/
namespace Go.Proofs.YtkendkbicafdgaaGreatDoor
open Go.RowKit

theorem ediv_abs {x P : Int} (hP : 0 < P) : (x / P).natAbs ≤ x.natAbs ∧ (x / P + 1).natAbs ≤ x.natAbs + 1 := by
  have h1 := Int.emod_add_mul_ediv x P
  have h2 := Int.emod_nonneg x (show P ≠ 0 by omega)
  have h3 := Int.emod_lt_of_pos x hP
  have h4 : (x / P).natAbs ≤ x.natAbs := by
    rcases Int.lt_or_le x 0 with h | h
    · have h5 : x / P < 0 := Int.ediv_neg_of_neg_of_pos h hP
      have h6 : x ≤ x / P := by
        have h7 : P * (x / P) ≤ 1 * (x / P) := Int.mul_le_mul_of_nonpos_right (by omega) (by omega)
        have h8 : 1 * (x / P) = x / P := Int.one_mul _
        have h9 : x - P < P * (x / P) := by omega
        rcases Int.lt_or_le (x / P) x with hc | hc
        · have ha : P * (x / P) ≤ P * (x - 1) := Int.mul_le_mul_of_nonneg_left (by omega) (by omega)
          have hb : P * (x - 1) = P * x - P := by rw [Int.mul_sub, Int.mul_one]
          have hd : P * x ≤ 1 * x := Int.mul_le_mul_of_nonpos_right (by omega) (by omega)
          omega
        · exact hc
      omega
    · have h5 := Int.ediv_nonneg h (Int.le_of_lt hP)
      have h6 := Int.ediv_le_self P h
      omega
  exact ⟨h4, by omega⟩
theorem rnd_sz {k : Nat} {x P : Int} (hx : Sz k x) (hP : 0 < P) : Sz (k + 1) (rndZ x P) := by
  have h1 := ediv_abs (x := x) hP
  have h2 : (rndZ x P).natAbs ≤ x.natAbs + 1 := by
    unfold rndZ
    split
    · omega
    · split
      · omega
      · exact h1.2
  have h3 : x.natAbs < 4294967296 ^ k := hx
  show (rndZ x P).natAbs < 4294967296 ^ (k + 1)
  have h4 : 4294967296 ^ (k + 1) = 4294967296 ^ k * 4294967296 := Nat.pow_succ ..
  have h5 : 0 < 4294967296 ^ k := Nat.pow_pos (by omega)
  omega
/-- The decimal text of x / P with d digits behind the point. -/
def decT (x P : Int) (d : Nat) : List UInt8 := (if rndZ (x * 10 ^ d) P < 0 then [45] else []) ++ ptd (Lib.decDigits (rndZ (x * 10 ^ d) P).natAbs) d
theorem decd_len {k : Nat} {z : Int} (h : Sz k z) (hk : k ≤ 2000) : (Lib.decDigits z.natAbs).length ≤ 30000 := by
  have h1 := txt_short (v := z.natAbs) (n := k + 1) false (by have := h.len; omega) (by omega)
  unfold txt at h1
  rw [if_neg (by simp), List.nil_append] at h1
  omega
theorem ptd_len {s : List UInt8} {k : Nat} (hs : s.length ≤ 30000) (hk : k ≤ 50) : (ptd s k).length ≤ 40000 := by
  unfold ptd
  split
  · omega
  · unfold pad0
    simp
    omega
theorem str_minus (l : List UInt8) : (⟨#[45]⟩ : ByteArray) ++ ⟨l.toArray⟩ = ⟨(45 :: l).toArray⟩ := by
  apply ByteArray.ext
  simp [ByteArray.data_append]

set_option maxRecDepth 100000 in
set_option maxHeartbeats 4000000 in
theorem decimal_n (w : World) (A B : Option Addr) (n m ca cb k d : Nat) (x P : Int) (hA : Lm w w.heap.size A n ca (digs x.natAbs)) (hB : Lm w w.heap.size B m cb (digs P.natAbs)) (hx : Sz k x) (hP : Sz k P) (hk : k ≤ 1500) (hk1 : 1 ≤ k) (hd : d ≤ 50) (hP0 : 0 < P) (hU : TabU w) {na : Bool} (ha : decide (x < 0) = na) :
    Calls Tryz.prog 35 #[fv na A n ca false B m cb, .int .i64 (d : Int)] w (RSs w ⟨(decT x P d).toArray⟩) := by
  obtain ⟨t, ht⟩ : ∃ t, decT x P d = t := ⟨_, rfl⟩
  rw [ht]
  have HT : Hid ((if rndZ (x * 10 ^ d) P < 0 then [45] else []) ++ ptd (Lib.decDigits (rndZ (x * 10 ^ d) P).natAbs) d = t) := ht
  clear ht
  have k1 : decide ((d : Int) < 0) = false := decide_eq_false (by omega)
  have k2 : decide ((50 : Int) < (d : Int)) = false := decide_eq_false (by omega)
  have HX := Lib.hid hx
  have HP := Lib.hid hP
  have HP0 := Lib.hid hP0
  have HNa := Lib.hid ha
  have HNb : Hid (decide (P < 0) = false) := decide_eq_false (by omega)
  have BW : Hid (Below w.heap.size w (w.alloc (.cells #[.bool na, .slice A n ca, .bool false, .slice B m cb] 59))) := below_alloc (Below.refl _ _) _
  have LA := Lib.hid (hA.via BW.out)
  have LB := Lib.hid (hB.via BW.out)
  have HU := Lib.hid hU
  have QF := Lib.hid (Qd.new w w.heap.size rfl (.bool na) (.slice A n ca) (.bool false) (.slice B m cb) 59)
  clear hA hB hx hP ha hU hP0
  go_enter Tryz.func35, Tryz.ntmps35
  go_wp2_with fail
  generalize w.alloc (.cells #[.bool na, .slice A n ca, .bool false, .slice B m cb] 59) = W0 at *
  have ⟨f0, f1, f2, f3, f4, f5, f6, f7, f8⟩ := QF.out
  have ⟨ff0, ff1, ff2, ff3, ff4, ff5, ff6, ff7, ff8⟩ := QF.out.drewN 1
  (try go_wp2_with fail)
  go_cut [] from 15 to 20 (fun wx => ∃ A5 n5 c5, Qd wx w.heap.size (.bool (decide (x * 10 ^ d < 0))) (.slice A5 n5 c5) (.bool false) (.slice B m cb) ∧ Lm wx wx.heap.size A5 n5 c5 (digs (x * 10 ^ d).natAbs) ∧ Lm wx wx.heap.size B m cb (digs P.natAbs) ∧ TabU wx ∧ Below w.heap.size w wx)
  case first =>
    go_region_with (first
     | (have _t := F0; go_at_call 70; refine (prod_n _ A A0 n n0 ca c0 (k + 126) _ _ (LA.out.via F0) L0 (HX.out.mono (by omega)) ((sz_ten _ (by omega)).mono (by omega)) (by omega) HNa.out rfl).mono ?_; rintro e v1 ⟨A5, n5, c5, rfl, L5, h1⟩; have F1 : Below W0.heap.size W0 v1 := btr F0 h1; have ⟨e0, e1, e2, e3, e4, e5, e6, e7, e8⟩ := QF.out.via F1)
     | (go_at_call 71; refine (power_n _ _ (by omega)).mono ?_; rintro e v0 ⟨A0, n0, c0, rfl, L0, h0⟩; have F0 : Below W0.heap.size W0 v0 := (by first | exact (Below.refl _ _).drew.trans h0 | exact h0); have ⟨d0, d1, d2, d3, d4, d5, d6, d7, d8⟩ := QF.out.via F0)
     | fail)
    all_goals
      go_wp2_with fail
      go_meet
      exact ⟨A5, n5, c5, (QF.out.via F1).lo _ _, L5.lo (QF.out.via F1) _ _, (LB.out.via F1).lo (QF.out.via F1) _ _, HU.out.via (below_set2 (btr BW.out F1) (Nat.le_refl _) _ _), below_set2 (btr BW.out F1) (Nat.le_refl _) _ _⟩
  case rest =>
    obtain ⟨A5, n5, c5, q5, l5, k5, t5, b5⟩ := hcut
    clear QF LA LB BW
    generalize wc = W7 at *
    have HXD : Hid (Sz (k + 126) (x * 10 ^ d)) := HX.out.mul (sz_ten _ (by omega))
    obtain ⟨np, hnp⟩ : ∃ b, decide (x * 10 ^ d < 0) = b := ⟨_, rfl⟩
    rw [hnp] at q5
    have HNp := Lib.hid hnp
    clear hnp
    have QF := Lib.hid q5
    have L5 := Lib.hid l5
    have K5 := Lib.hid k5
    have TU := Lib.hid t5
    have BX := Lib.hid b5
    have ⟨g0, g1, g2, g3, g4, g5, g6, g7, g8⟩ := q5
    clear q5 l5 k5 t5 b5
    go_wp2_with fail
    clear g0 g1 g2 g3 g4 g5 g6 g7 g8
    refine (round_n _ A5 B n5 m c5 cb (k + 126) (x * 10 ^ d) P L5.out K5.out HXD.out (HP.out.mono (by omega)) (by omega) (by omega) HNp.out HP0.out).mono ?_
    have HZ := Lib.hid (rnd_sz HXD.out HP0.out)
    generalize rndZ (x * 10 ^ d) P = z at *
    rintro e w1 ⟨A6, n6, c6, rfl, hL, hb⟩
    have L6 := Lib.hid hL
    replace TU := Lib.hid (TU.out.via hb)
    replace BX := Lib.hid (btr BX.out hb)
    clear hL hb QF L5 K5
    go_wp2_with fail
    refine (text_n _ A6 n6 c6 (k + 127) z L6.out HZ.out (by omega) TU.out rfl).mono ?_
    rintro e w2 ⟨rfl, hb⟩
    replace BX := Lib.hid (btr BX.out hb)
    clear hb L6 TU
    go_wp2_with fail
    refine (musts_ok _ _).mono ?_
    rintro e w3 ⟨rfl, rfl⟩
    go_wp2_with fail
    refine (cut_minus (tx z) _).mono ?_
    have hmt : minus (tx z) = (decide (z < 0), Lib.decDigits z.natAbs) := minus_txt _ _
    rw [hmt]
    rintro e w4 ⟨rfl, rfl⟩
    have hdl := decd_len HZ.out (by omega)
    go_wp2_with fail
    refine (pointed_any _ (Lib.decDigits z.natAbs) d (by omega) (by omega)).mono ?_
    rintro e w5 ⟨rfl, hb⟩
    have hpl := ptd_len hdl hd
    replace BX := Lib.hid (btr BX.out hb)
    clear hb
    generalize ptd (Lib.decDigits z.natAbs) d = T at *
    have hz := str_size T
    by_cases hn : z < 0
    · have hi : decide (z < 0) = true := decide_eq_true hn
      rw [hi]
      have HS : Hid (t = 45 :: T) := by show _ = _; rw [← HT.out, if_pos hn]; rfl
      go_wp2
      go_ret
      exact ⟨by rw [HS.out, ← str_minus]; rfl, BX.out⟩
    · have hi : decide (z < 0) = false := decide_eq_false hn
      rw [hi]
      have HS : Hid (t = T) := by show _ = _; rw [← HT.out, if_neg hn]; rfl
      go_wp2
      go_ret
      exact ⟨by rw [HS.out]; rfl, BX.out⟩
end Go.Proofs.YtkendkbicafdgaaGreatDoor

/- Package frac: Decimal. -/
namespace Go.Proofs.YtkendkbicafdgaaGreatDoor
open Go.RowKit

set_option maxRecDepth 100000 in
set_option maxHeartbeats 2000000 in
theorem decimal1_n (w : World) (gp : Nat) (A B : Option Addr) (n m ca cb k d : Nat) (x P : Int) (hA : Lm w w.heap.size A n ca (digs x.natAbs)) (hB : Lm w w.heap.size B m cb (digs P.natAbs)) (hx : Sz k x) (hP : Sz k P) (hk : k ≤ 1500) (hk1 : 1 ≤ k) (hd : d ≤ 50) (hP0 : 0 < P) (hU : TabU w) {na : Bool} (ha : decide (x < 0) = na) (hc : w.cell? ⟨gp, 0, none⟩ = some (.int .i64 (d : Int))) (hg : gp < w.heap.size) :
    Calls Tryz.prog 34 #[fv na A n ca false B m cb, .pointer (some ⟨gp, 0, none⟩)] w (RSs w ⟨(decT x P d).toArray⟩) := by
  have BW : Hid (Below w.heap.size w (w.alloc (.cells #[.bool na, .slice A n ca, .bool false, .slice B m cb] 59))) := below_alloc (Below.refl _ _) _
  have H := Lib.hid (decimal_n _ A B n m ca cb k d x P (hA.via BW.out) (hB.via BW.out) hx hP hk hk1 hd hP0 (hU.via BW.out) ha)
  have QF := Lib.hid (Qd.new w w.heap.size rfl (.bool na) (.slice A n ca) (.bool false) (.slice B m cb) 59)
  have c0 := (BW.out.cell (p := ⟨gp, 0, none⟩) hg).trans hc
  clear hA hB hx hP hk hk1 hd hP0 hU ha hc hg
  go_enter Tryz.func34, Tryz.ntmps34
  go_wp2_with fail
  generalize w.alloc (.cells #[.bool na, .slice A n ca, .bool false, .slice B m cb] 59) = W0 at *
  have ⟨f0, f1, f2, f3, f4, f5, f6, f7, f8⟩ := QF.out
  go_wp2_with fail
  refine H.out.mono ?_
  rintro e w1 ⟨rfl, hb⟩
  have BB := Lib.hid (btr BW.out hb)
  clear hb
  go_wp2
  go_ret
  exact ⟨rfl, BB.out⟩
set_option maxRecDepth 100000 in
set_option maxHeartbeats 2000000 in
theorem fdecimal_g (w : World) (na da : Bool) (A B : Option Addr) (n m ca cb : Nat) (xs ys : List Nat) (d : Int) (hA : Lm w w.heap.size A n ca xs) (hB : Lm w w.heap.size B m cb ys) (t : ByteArray) (err : Int)
    (H : ∀ W gp, Below w.heap.size w W → W.cell? ⟨gp, 0, none⟩ = some (.int .i64 d) → gp < W.heap.size → Lm W W.heap.size A n ca xs → Lm W W.heap.size B m cb ys → Calls Tryz.prog 28 #[fv na A n ca da B m cb, .func (.func 34) #[] #[.pointer (some ⟨gp, 0, none⟩)]] W (RSE W t err)) :
    Calls Tryz.prog 11 #[fv na A n ca da B m cb, .int .i64 d] w (RSE w t err) := by
  have hmf : ∀ (fn : Fn) (first cap : Array Value) (w : World), (Instr.makeFunc fn first cap).run Tryz.prog w = .ok (.func fn first cap) w := fun _ _ _ _ => rfl
  have HH := Lib.hid H
  have QF := Lib.hid ((Qd.new w w.heap.size rfl (.bool na) (.slice A n ca) (.bool da) (.slice B m cb) 26).alloc (.cells #[.int .i64 d] 3))
  have BW : Hid (Below w.heap.size w ((w.alloc (.cells #[.bool na, .slice A n ca, .bool da, .slice B m cb] 26)).alloc (.cells #[.int .i64 d] 3))) := below_alloc (below_alloc (Below.refl _ _) _) _
  have hc : ((w.alloc (.cells #[.bool na, .slice A n ca, .bool da, .slice B m cb] 26)).alloc (.cells #[.int .i64 d] 3)).cell? ⟨w.heap.size + 1, 0, none⟩ = some (.int .i64 d) := by go_simp
  have hl : w.heap.size + 1 < ((w.alloc (.cells #[.bool na, .slice A n ca, .bool da, .slice B m cb] 26)).alloc (.cells #[.int .i64 d] 3)).heap.size := by simp
  have LA := Lib.hid (hA.via BW.out)
  have LB := Lib.hid (hB.via BW.out)
  clear H hA hB
  go_enter Tryz.func11, Tryz.ntmps11
  go_upto_region 1 with (fail)
  generalize (w.alloc (.cells #[.bool na, .slice A n ca, .bool da, .slice B m cb] 26)).alloc (.cells #[.int .i64 d] 3) = W0 at *
  have ⟨f0, f1, f2, f3, f4, f5, f6, f7, f8⟩ := QF.out
  go_wp2_with fail
  refine (HH.out _ _ BW.out hc hl LA.out LB.out).mono ?_
  rintro e w1 ⟨rfl, hb⟩
  have BB := Lib.hid (btr BW.out hb)
  clear hb
  go_wp2
  go_returns
  exact ⟨rfl, BB.out⟩
theorem fdecimal_n (w : World) (A B : Option Addr) (n m ca cb k d : Nat) (x P : Int) (hA : Lm w w.heap.size A n ca (digs x.natAbs)) (hB : Lm w w.heap.size B m cb (digs P.natAbs)) (hx : Sz k x) (hP : Sz k P) (hk : k ≤ 1500) (hk1 : 1 ≤ k) (hd : d ≤ 50) (hP0 : 0 < P) (hU : TabU w) {na : Bool} (ha : decide (x < 0) = na) (hv : fchk na (digs x.natAbs) false (digs P.natAbs) = 0) :
    Calls Tryz.prog 11 #[fv na A n ca false B m cb, .int .i64 (d : Int)] w (RSE w ⟨(decT x P d).toArray⟩ 0) := by
  have hcf2 : ∀ (u v : Value) (W : World), (callFunc 34 #[u, v]).run Tryz.prog W = .ok (.enter 34 #[u, v]) W := fun u v W => by go_simp
  have hcf3 : ∀ (u v : Value) (W : World), (callFunc 56 (#[] ++ #[u, v])).run Tryz.prog W = .ok (.enter 56 (#[] ++ #[u, v])) W := fun u v W => by go_simp
  exact fdecimal_g w na false A B n m ca cb _ _ _ hA hB _ 0 fun W gp bW hc hl h1 h2 => changesp_g W 34 (.pointer (some ⟨gp, 0, none⟩)) na false A B n m ca cb _ _ h1 h2 _ 0 fun W2 g0 ga b2 qf qa i1 i2 =>
    attempts_ok W2 56 #[] #[_, _] ⟨(decT x P d).toArray⟩ (hcf3 _ _) (changesp_ok (Wai W2) g0 ga 34 (.pointer (some ⟨gp, 0, none⟩)) na false A B n m ca cb _ _ (qf.via (wai_below W2)) (qa.via (wai_below W2)) (i1.via (wai_below W2)) (i2.via (wai_below W2)) hv ⟨(decT x P d).toArray⟩ (fun u W => hcf2 u _ W) fun W3 b3 j1 j2 =>
      have bb : Below W.heap.size W W3 := btr (btr b2 (wai_below W2)) b3
      decimal1_n W3 gp A B n m ca cb k d x P j1 j2 hx hP hk hk1 hd hP0 (((hU.via bW).via bb)) ha ((bb.cell (p := ⟨gp, 0, none⟩) hl).trans hc) (Nat.lt_of_lt_of_le hl bb.size))
end Go.Proofs.YtkendkbicafdgaaGreatDoor

