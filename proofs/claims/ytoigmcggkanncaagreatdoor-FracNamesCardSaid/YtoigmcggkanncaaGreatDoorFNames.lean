
/-
  The law FracNames returns true: each limit and error that the chapter of fractions names is kept, and its examples hold, one call after another. Conditions: the library's table of powers of ten holds what its initialiser lays (the card ties it, and the other listed variables, to the program's text); no other condition.
-/
import Derived.Test.YtoigmcggkanncaaGreatDoorTie
import Derived.Test.YtoigmcggkanncaaGreatDoorCards
import Derived.Test.YtoigmcggkanncaaGreatDoorFC10
namespace Go.Proofs.YtoigmcggkanncaaGreatDoor
open Go.RowKit
set_option maxHeartbeats 400000 in
theorem pass_no (w : World) (x : Int) (hx : x ≠ 0) : Calls Tryz.prog 118 #[.int .i64 x] w fun e w' => e = Pan x ∧ w = w' := by
  have hz : (x != 0) = true := by simpa using hx
  clear hx
  go_enter Tryz.func118, Tryz.ntmps118
  go_wp2
  exact ⟨rfl, rfl, rfl⟩
set_option maxRecDepth 100000 in
set_option maxHeartbeats 1000000 in
theorem known_no (w : World) (nn dn : Bool) (A B : Option Addr) (n m ca cb : Nat) (xs ys : List Nat) (hA : Lm w w.heap.size A n ca xs) (hB : Lm w w.heap.size B m cb ys) (hv : fchk nn xs dn ys = 8) :
    Calls Tryz.prog 79 #[fv nn A n ca dn B m cb] w fun e w' => e = Pan 8 ∧ Below w.heap.size w w' := by
  have HA := Lib.hid hA
  have HB := Lib.hid hB
  have HV := Lib.hid hv
  clear hA hB hv
  go_enter Tryz.func79, Tryz.ntmps79
  go_wp2_with fail
  refine (fcheck_any _ nn dn A B n m ca cb xs ys ((HA.out.box _).box _) ((HB.out.box _).box _)).mono ?_
  rintro e w1 ⟨rfl, hb1⟩
  rw [HV.out]
  have B1 := Lib.hid (bbox (bbox hb1))
  clear hb1
  go_wp2_with fail
  refine (pass_no _ 8 (by decide)).mono ?_
  rintro e w2 ⟨rfl, rfl⟩
  unfold Pan
  go_wp2
  exact ⟨rfl, rfl, B1.out⟩
set_option maxRecDepth 100000 in
set_option maxHeartbeats 4000000 in
theorem joinf_bad (w : World) (g0 ga gb : Nat) (f : FuncId) (na da nb db : Bool) (A B C D : Option Addr) (n m r s ca cb cc cd : Nat) (xs ys us vs : List Nat) (hf : Fb w g0 f) (qa : Qd w ga (.bool na) (.slice A n ca) (.bool da) (.slice B m cb)) (qb : Qd w gb (.bool nb) (.slice C r cc) (.bool db) (.slice D s cd))
    (hA : Lm w w.heap.size A n ca xs) (hB : Lm w w.heap.size B m cb ys) (hC : Lm w w.heap.size C r cc us) (hD : Lm w w.heap.size D s cd vs) (hbad : fchk na xs da ys = 8 ∨ fchk nb us db vs = 8) :
    Calls Tryz.prog 78 #[.pointer (some ⟨g0, 0, none⟩), .pointer (some ⟨ga, 0, none⟩), .pointer (some ⟨gb, 0, none⟩)] w (fun e w' => e = Pan 8 ∧ Below w.heap.size w w') := by
  have HF := Lib.hid hf
  have QA := Lib.hid qa
  have QB := Lib.hid qb
  have LA := Lib.hid hA
  have LB := Lib.hid hB
  have LC := Lib.hid hC
  have LD := Lib.hid hD
  have W0B : Hid (Below w.heap.size w (w.alloc (.cells #[.bool false, .slice none 0 0, .bool false, .slice none 0 0] 29))) := below_alloc (Below.refl _ _) _
  have ⟨f0, fl⟩ := hf
  have ⟨a0, a1, a2, a3, _, _, _, _, al⟩ := qa
  have ⟨b0, b1, b2, b3, _, _, _, _, bl⟩ := qb
  have HBAD : Hid (fchk na xs da ys = 0 ∨ fchk na xs da ys = 8) := by
    show _ ∨ _
    unfold fchk
    split
    · exact .inl rfl
    · exact .inr rfl
  have HBAD2 : Hid (fchk nb us db vs = 0 ∨ fchk nb us db vs = 8) := by
    show _ ∨ _
    unfold fchk
    split
    · exact .inl rfl
    · exact .inr rfl
  have HB0 := Lib.hid hbad
  clear hA hB hC hD hbad hf qa qb
  go_enter Tryz.func78, Tryz.ntmps78
  go_wp2_with fail
  have HF := Lib.hid (HF.out.via W0B.out)
  have QA := Lib.hid (QA.out.via W0B.out)
  have QB := Lib.hid (QB.out.via W0B.out)
  have LA := Lib.hid (LA.out.via W0B.out)
  have LB := Lib.hid (LB.out.via W0B.out)
  have LC := Lib.hid (LC.out.via W0B.out)
  have LD := Lib.hid (LD.out.via W0B.out)
  generalize w.alloc (.cells #[.bool false, .slice none 0 0, .bool false, .slice none 0 0] 29) = W0 at *
  clear f0 fl a0 a1 a2 a3 al b0 b1 b2 b3 bl
  refine wp_region_held_drew (S := fun w' => w'.cell? ⟨g0, 0, none⟩ = some (.func (.func f) #[] #[]) ∧ w'.cell? ⟨ga, 0, none⟩ = some (.bool na) ∧ w'.cell? ⟨ga, 1, none⟩ = some (.slice A n ca) ∧ w'.cell? ⟨ga, 2, none⟩ = some (.bool da) ∧ w'.cell? ⟨ga, 3, none⟩ = some (.slice B m cb) ∧ w'.cell? ⟨gb, 0, none⟩ = some (.bool nb) ∧ w'.cell? ⟨gb, 1, none⟩ = some (.slice C r cc) ∧ w'.cell? ⟨gb, 2, none⟩ = some (.bool db) ∧ w'.cell? ⟨gb, 3, none⟩ = some (.slice D s cd)) (by kernel_rfl) ?_ (fun hHeld => ?_)
  · exact ⟨HF.out.c0, QA.out.c0, QA.out.c1, QA.out.c2, QA.out.c3, QB.out.c0, QB.out.c1, QB.out.c2, QB.out.c3⟩
  refine wpAnyH_take (i := 0) (v := ?_) rfl (by kernel_rfl) (by kernel_rfl) (by kernel_rfl) (fun _ _ _ h => h) (Or.inl ⟨by rfl, ?_⟩) (by assumption) ?_
  rotate_left
  · (intro w hSw; (try dsimp only at hSw); go_simp; try with_reducible rfl)
  try simp only [Act.put, List.setIfInBounds_toArray]
  refine wpAnyH_take (i := 1) (v := ?_) rfl (by kernel_rfl) (by kernel_rfl) (by kernel_rfl) (fun _ _ _ h => h) (Or.inl ⟨by rfl, ?_⟩) (by assumption) ?_
  rotate_left
  · (intro w hSw; (try dsimp only at hSw); go_simp; try with_reducible rfl)
  try simp only [Act.put]
  refine wpAnyH_take (i := 3) (v := ?_) rfl (by kernel_rfl) (by kernel_rfl) (by kernel_rfl) (fun _ _ _ h => h) (Or.inl ⟨by rfl, ?_⟩) (by assumption) ?_
  rotate_left
  · (intro w hSw; (try dsimp only at hSw); go_simp; try with_reducible rfl)
  try simp only [Act.put]
  refine wpAnyH_ready (rs := [2]) (by kernel_rfl) (by simp) ?_
  refine AllReadyH.cons rfl (fun K hK => ?_) (AllReadyH.nil)
  · go_simp
    rcases HBAD.out with hk | hk
    · have Hak := Lib.hid hk
      have Hbn : Hid (fchk nb us db vs = 8) := by
        show _ = _
        rcases HB0.out with h | h
        · omega
        · exact h
      clear hk
      refine (known_ok _ na da A B n m ca cb xs ys LA.out.drew LB.out.drew Hak.out).mono ?_
      rintro e wc ⟨rfl, hbc⟩
      have Bc : Below W0.heap.size W0 wc := (Below.refl _ _).drew.trans hbc
      go_wp2_with fail
      refine hK.out _ _ ?_ (fun hHeld => ?_)
      · exact ⟨(HF.out.via Bc).c0, (QA.out.via Bc).c0, (QA.out.via Bc).c1, (QA.out.via Bc).c2, (QA.out.via Bc).c3, (QB.out.via Bc).c0, (QB.out.via Bc).c1, (QB.out.via Bc).c2, (QB.out.via Bc).c3⟩
      clear hK K
      try simp only [Act.put, List.setIfInBounds_toArray, List.set_cons_zero, List.set_cons_succ]
      refine wpAnyH_ready (rs := [4]) (by kernel_rfl) (by simp) ?_
      refine AllReadyH.cons rfl (fun K hK => ?_) (AllReadyH.nil)
      go_simp
      refine (known_no _ nb db C D r s cc cd us vs (by first | exact LC.out.via Bc | exact LC.out.drew) (by first | exact LD.out.via Bc | exact LD.out.drew) Hbn.out).mono ?_
      rintro e wp ⟨rfl, hbp⟩
      unfold Pan
      exact ⟨rfl, rfl, (btr W0B.out (btr Bc hbp))⟩
    · have Han := Lib.hid hk
      clear hk
      refine (known_no _ na da A B n m ca cb xs ys LA.out.drew LB.out.drew Han.out).mono ?_
      rintro e wp ⟨rfl, hbp⟩
      unfold Pan
      exact ⟨rfl, rfl, (btr W0B.out ((Below.refl _ _).drew.trans hbp))⟩

theorem catchs_panicking (p : Addr) (x0 x : Int) (older : List PanicEntry) (w : World) (hc : w.cell? p = some (.int .i64 x0)) (hz : w.frozen? p = false) :
    CallsD Tryz.prog 123 #[.pointer (some p)] (.panicking ({ v := .iface 26 (.int .i64 x), recovered := false } :: older)) w fun e u' w' =>
      e = .returned (.tuple #[]) ∧ u' = .panicking ({ v := .iface 26 (.int .i64 x), recovered := true } :: older) ∧ w' = w.setCell p (.int .i64 x) := by
  have hta : ∀ w : World, (Instr.typeAssert (.iface 26 (.int .i64 x)) 20 26 false).run Tryz.prog w = .ok (.int .i64 x) w := fun _ => by kernel_rfl
  refine callsD_of_wpS Tryz.func123 rfl fun c₀ cs hu => ?_
  apply wpS_seq
  apply wpS_region
  simp [wpOpsS, go_sem, recoverD, hu, Tryz.ntmps123, Exit.thenS]
  apply wpS_seq
  apply wpS_region
  simp [wpOpsS, go_sem, Exit.thenS]
  refine wpS_cond (t := true) (by simp [Act.eval, Array.replicate]) ?_
  simp only [if_true]
  apply wpS_region
  simp [wpOpsS, go_sem, hta, hc, hz, bodyPostS, results, Tryz.results123]

set_option maxRecDepth 100000 in
set_option maxHeartbeats 1000000 in
theorem attempts_no (w : World) (f : FuncId) (first cap : Array Value) (x : Int) (hcf : ∀ W, (callFunc f (first ++ cap)).run Tryz.prog W = .ok (.enter f (first ++ cap)) W)
    (H : Calls Tryz.prog f (first ++ cap) (Wai w) (fun e w' => e = Pan x ∧ Below (Wai w).heap.size (Wai w) w')) :
    Calls Tryz.prog 88 #[.func (.func f) first cap] w (RSE w ⟨#[]⟩ x) := by
  have hmf : ∀ (fn : Fn) (first cap : Array Value) (w : World), (Instr.makeFunc fn first cap).run Tryz.prog w = .ok (.func fn first cap) w := fun _ _ _ _ => rfl
  have HH := Lib.hid H
  clear H
  go_enter_defers Tryz.func88, Tryz.ntmps88
  go_wp2_with fail
  refine HH.out.mono ?_
  rintro e w1 ⟨rfl, hb⟩
  unfold Pan
  have hc : w1.cell? ⟨w.heap.size, 0, none⟩ = some (.int .i64 0) := (hb.cell (p := ⟨w.heap.size, 0, none⟩) (by rw [wai_size]; simp)).trans (wai_c w).1
  have hf : w1.frozen? ⟨w.heap.size, 0, none⟩ = false := (hb.frozen (p := ⟨w.heap.size, 0, none⟩) (by rw [wai_size]; simp)).trans (wai_c w).2
  have HB := Lib.hid ((wai_below w).trans (hb.mono (wai_below w).size))
  clear hb
  refine leaves_cons (f := 123) (args := #[.pointer (some ⟨w.heap.size, 0, none⟩)]) (by simp) (by simp [go_sem]) ?_
  refine (catchs_panicking _ 0 x _ _ hc hf).mono ?_
  rintro e u' w'' ⟨rfl, rfl, rfl⟩
  exact ⟨_, res_ie Tryz.results88 rfl rfl (World.cell?_setCell_same _ _ _ hc), rfl, HB.out.setCell (p := ⟨w.heap.size, 0, none⟩) (Nat.le_refl _) _⟩

end Go.Proofs.YtoigmcggkanncaaGreatDoor

/- Contracts for FracNames. -/
namespace Go.Proofs.YtoigmcggkanncaaGreatDoor
open Go.RowKit

set_option maxRecDepth 100000 in
set_option maxHeartbeats 4000000 in
theorem changesp_pan (w : World) (g0 ga : Nat) (f : FuncId) (p : Value) (na da : Bool) (A B : Option Addr) (n m ca cb : Nat) (xs ys : List Nat) (hf : Fbp w g0 f p) (qa : Qd w ga (.bool na) (.slice A n ca) (.bool da) (.slice B m cb)) (hA : Lm w w.heap.size A n ca xs) (hB : Lm w w.heap.size B m cb ys) (hv : fchk na xs da ys = 0) (x : Int)
    (hcf : ∀ (u : Value) (W : World), (callFunc f #[u, p]).run Tryz.prog W = .ok (.enter f #[u, p]) W)
    (H : ∀ W, Below w.heap.size w W → Lm W W.heap.size A n ca xs → Lm W W.heap.size B m cb ys → Calls Tryz.prog f #[fv na A n ca da B m cb, p] W (fun e w' => e = Pan x ∧ Below W.heap.size W w')) :
    Calls Tryz.prog 89 #[.pointer (some ⟨g0, 0, none⟩), .pointer (some ⟨ga, 0, none⟩)] w (fun e w' => e = Pan x ∧ Below w.heap.size w w') := by
  have HF := Lib.hid hf
  have QA := Lib.hid qa
  have LA := Lib.hid hA
  have LB := Lib.hid hB
  have HV := Lib.hid hv
  have HH := Lib.hid H
  clear hA hB hv hf qa H
  go_enter Tryz.func89, Tryz.ntmps89
  go_upto_region 1 with (fail)
  refine wp_region_held_drew (S := fun w' => w'.cell? ⟨g0, 0, none⟩ = some (.func (.func f) #[] #[p]) ∧ w'.cell? ⟨ga, 0, none⟩ = some (.bool na) ∧ w'.cell? ⟨ga, 1, none⟩ = some (.slice A n ca) ∧ w'.cell? ⟨ga, 2, none⟩ = some (.bool da) ∧ w'.cell? ⟨ga, 3, none⟩ = some (.slice B m cb)) (by kernel_rfl) ?_ (fun hHeld => ?_)
  · exact ⟨(HF.out.via (Below.refl _ _)).c0, (QA.out.via (Below.refl _ _)).c0, (QA.out.via (Below.refl _ _)).c1, (QA.out.via (Below.refl _ _)).c2, (QA.out.via (Below.refl _ _)).c3⟩
  refine wpAnyH_take (i := 0) (v := ?_) rfl (by kernel_rfl) (by kernel_rfl) (by kernel_rfl) (fun _ _ _ h => h) (Or.inl ⟨by rfl, ?_⟩) (by assumption) ?_
  rotate_left
  · (intro w hSw; (try dsimp only at hSw); go_simp; try with_reducible rfl)
  try simp only [Act.put, List.setIfInBounds_toArray]
  refine wpAnyH_take (i := 1) (v := ?_) rfl (by kernel_rfl) (by kernel_rfl) (by kernel_rfl) (fun _ _ _ h => h) (Or.inl ⟨by rfl, ?_⟩) (by assumption) ?_
  rotate_left
  · (intro w hSw; (try dsimp only at hSw); go_simp; try with_reducible rfl)
  try simp only [Act.put]
  refine wpAnyH_ready (rs := [2]) (by kernel_rfl) (by simp) ?_
  refine AllReadyH.cons rfl (fun K hK => ?_) (AllReadyH.nil)
  go_simp
  refine (known_ok _ na da A B n m ca cb xs ys LA.out.drew LB.out.drew HV.out).mono ?_
  rintro e wc ⟨rfl, hbc⟩
  have Bc : Below w.heap.size w wc := (Below.refl _ _).drew.trans hbc
  go_wp2_with fail
  refine hK.out _ _ ?_ (fun hHeld => ?_)
  · exact ⟨(HF.out.via Bc).c0, (QA.out.via Bc).c0, (QA.out.via Bc).c1, (QA.out.via Bc).c2, (QA.out.via Bc).c3⟩
  clear hK K
  try simp only [Act.put, List.setIfInBounds_toArray, List.set_cons_zero, List.set_cons_succ]
  refine wpAnyH_ready (rs := [3]) (by kernel_rfl) (by simp) ?_
  refine AllReadyH.cons rfl (fun K hK => ?_) (AllReadyH.nil)
  go_simp
  refine (HH.out _ Bc (LA.out.via Bc) (LB.out.via Bc)).mono ?_
  rintro e wp ⟨rfl, hbp⟩
  unfold Pan
  exact ⟨rfl, rfl, btr Bc hbp⟩
set_option maxRecDepth 100000 in
set_option maxHeartbeats 4000000 in
theorem decimal_arg (w : World) (na da : Bool) (A B : Option Addr) (n m ca cb : Nat) (d : Int) (hd : 50 < d) : Calls Tryz.prog 51 #[fv na A n ca da B m cb, .int .i64 d] w (fun e w' => e = Pan 2 ∧ Below w.heap.size w w') := by
  have k1 : decide (d < 0) = false := decide_eq_false (by omega)
  have BW : Hid (Below w.heap.size w (w.alloc (.cells #[.bool na, .slice A n ca, .bool da, .slice B m cb] 69))) := below_alloc (Below.refl _ _) _
  go_enter Tryz.func51, Tryz.ntmps51
  go_wp2
  exact ⟨rfl, rfl, BW.out⟩
set_option maxRecDepth 100000 in
set_option maxHeartbeats 4000000 in
theorem decimal1_arg (w : World) (gp : Nat) (na da : Bool) (A B : Option Addr) (n m ca cb : Nat) (d : Int) (hd : 50 < d) (hc : w.cell? ⟨gp, 0, none⟩ = some (.int .i64 d)) (hg : gp < w.heap.size) :
    Calls Tryz.prog 50 #[fv na A n ca da B m cb, .pointer (some ⟨gp, 0, none⟩)] w (fun e w' => e = Pan 2 ∧ Below w.heap.size w w') := by
  have BW : Hid (Below w.heap.size w (w.alloc (.cells #[.bool na, .slice A n ca, .bool da, .slice B m cb] 69))) := below_alloc (Below.refl _ _) _
  have QF := Lib.hid (Qd.new w w.heap.size rfl (.bool na) (.slice A n ca) (.bool da) (.slice B m cb) 69)
  have c0 := (BW.out.cell (p := ⟨gp, 0, none⟩) hg).trans hc
  clear hc hg
  go_enter Tryz.func50, Tryz.ntmps50
  go_wp2_with fail
  generalize w.alloc (.cells #[.bool na, .slice A n ca, .bool da, .slice B m cb] 69) = W0 at *
  have ⟨f0, f1, f2, f3, f4, f5, f6, f7, f8⟩ := QF.out
  go_wp2_with fail
  refine (decimal_arg _ na da A B n m ca cb d hd).mono ?_
  rintro e w1 ⟨rfl, hb⟩
  unfold Pan
  exact ⟨rfl, rfl, btr BW.out hb⟩
theorem fdecimal_arg (w : World) (na : Bool) (A B : Option Addr) (n m ca cb : Nat) (xs ys : List Nat) (d : Int) (hd : 50 < d) (hA : Lm w w.heap.size A n ca xs) (hB : Lm w w.heap.size B m cb ys) (hv : fchk na xs false ys = 0) :
    Calls Tryz.prog 13 #[fv na A n ca false B m cb, .int .i64 d] w (RSE w ⟨#[]⟩ 2) := by
  have hcf2 : ∀ (u v : Value) (W : World), (callFunc 50 #[u, v]).run Tryz.prog W = .ok (.enter 50 #[u, v]) W := fun u v W => by go_simp
  have hcf3 : ∀ (u v : Value) (W : World), (callFunc 89 (#[] ++ #[u, v])).run Tryz.prog W = .ok (.enter 89 (#[] ++ #[u, v])) W := fun u v W => by go_simp
  exact fdecimal_g w na false A B n m ca cb _ _ _ hA hB _ 2 fun W gp bW hc hl h1 h2 => changesp_g W 50 (.pointer (some ⟨gp, 0, none⟩)) na false A B n m ca cb _ _ h1 h2 _ 2 fun W2 g0 ga b2 qf qa i1 i2 =>
    attempts_no W2 89 #[] #[_, _] 2 (hcf3 _ _) (changesp_pan (Wai W2) g0 ga 50 (.pointer (some ⟨gp, 0, none⟩)) na false A B n m ca cb _ _ (qf.via (wai_below W2)) (qa.via (wai_below W2)) (i1.via (wai_below W2)) (i2.via (wai_below W2)) hv 2 (fun u W => hcf2 u _ W) fun W3 b3 j1 j2 =>
      have bb : Below W.heap.size W W3 := btr (btr b2 (wai_below W2)) b3
      decimal1_arg W3 gp na false A B n m ca cb d hd ((bb.cell (p := ⟨gp, 0, none⟩) hl).trans hc) (Nat.lt_of_lt_of_le hl bb.size))
set_option maxRecDepth 100000 in
set_option maxHeartbeats 4000000 in
theorem total_nil (w : World) : Calls Tryz.prog 53 #[.slice none 0 0] w (RFr w 0 1) := by
  have QR := Lib.hid (Qd.new w w.heap.size rfl (.bool false) (.slice none 0 0) (.bool false) (.slice none 0 0) 29)
  have BW : Hid (Below w.heap.size w (w.alloc (.cells #[.bool false, .slice none 0 0, .bool false, .slice none 0 0] 29))) := below_alloc (Below.refl _ _) _
  go_enter Tryz.func53, Tryz.ntmps53
  go_upto_region 1 with (fail)
  generalize w.alloc (.cells #[.bool false, .slice none 0 0, .bool false, .slice none 0 0] 29) = W0 at *
  go_wp2_with fail
  refine wp_loop_rounds 1 ?_
  rw [rounds_succ]
  go_wp2_with fail
  refine (from_any _ 1 (by omega) (by omega)).mono ?_
  rintro e w1 ⟨A1, n1, c1, rfl, hL1, hb⟩
  have L1 := Lib.hid (hL1.box (.cells #[.bool false, .slice none 0 0, .bool false, .slice A1 n1 c1] 29))
  have Q1 := Lib.hid (Qd.new w1 _ rfl (.bool false) (.slice none 0 0) (.bool false) (.slice A1 n1 c1) 29)
  replace QR := Lib.hid ((QR.out.via hb).alloc (.cells #[.bool false, .slice none 0 0, .bool false, .slice A1 n1 c1] 29))
  have BX := Lib.hid (below_alloc (btr BW.out hb) (.cells #[.bool false, .slice none 0 0, .bool false, .slice A1 n1 c1] 29))
  clear hL1 hb BW
  go_upto_region 9 with (fail)
  generalize w1.heap.size = g1 at *
  generalize w1.alloc (.cells #[.bool false, .slice none 0 0, .bool false, .slice A1 n1 c1] 29) = V1 at *
  have ⟨f0, f1, f2, f3, f4, f5, f6, f7, f8⟩ := Q1.out
  have ⟨r0, r1, r2, r3, r4, r5, r6, r7, r8⟩ := QR.out
  go_wp2_with fail
  refine wp_loop_rounds 1 ?_
  rw [rounds_succ]
  go_wp2
  exact post_f1 Tryz.results53 rfl rfl (QR.out.set (.bool false) (.slice none 0 0) (.bool false) (.slice A1 n1 c1)) ⟨none, 0, 0, A1, n1, c1, rfl, (Lm.nil _ _).put4 QR.out _ _ _ _, L1.out.put4 QR.out _ _ _ _, below_put4 BX.out (Nat.le_refl _) _ _ _ _⟩
set_option maxRecDepth 100000 in
set_option maxHeartbeats 4000000 in
theorem sum1_nil (w : World) (g0 : Nat) (hc : w.cell? ⟨g0, 0, none⟩ = some (.slice none 0 0)) (hg : g0 < w.heap.size) : Calls Tryz.prog 52 #[.pointer (some ⟨g0, 0, none⟩)] w (RFr w 0 1) := by
  have QR := Lib.hid (Qd.new w w.heap.size rfl (.bool false) (.slice none 0 0) (.bool false) (.slice none 0 0) 29)
  have BW : Hid (Below w.heap.size w (w.alloc (.cells #[.bool false, .slice none 0 0, .bool false, .slice none 0 0] 29))) := below_alloc (Below.refl _ _) _
  have c0 := (BW.out.cell (p := ⟨g0, 0, none⟩) hg).trans hc
  clear hc hg
  go_enter Tryz.func52, Tryz.ntmps52
  go_wp2_with fail
  generalize w.alloc (.cells #[.bool false, .slice none 0 0, .bool false, .slice none 0 0] 29) = W0 at *
  refine (total_nil _).mono ?_
  rintro e w1 ⟨A1, n1, c1, B1, m1, d1, rfl, hL, hM, hb⟩
  have L1 := Lib.hid hL
  have M1 := Lib.hid hM
  replace QR := Lib.hid (QR.out.via hb)
  have BX := Lib.hid (btr BW.out hb)
  clear hL hM hb
  have ⟨r0, r1, r2, r3, r4, r5, r6, r7, r8⟩ := QR.out
  go_wp2
  exact post_f1 Tryz.results52 rfl rfl (QR.out.set (.bool false) (.slice A1 n1 c1) (.bool false) (.slice B1 m1 d1)) ⟨A1, n1, c1, B1, m1, d1, rfl, L1.out.put4 QR.out _ _ _ _, M1.out.put4 QR.out _ _ _ _, below_put4 BX.out (Nat.le_refl _) _ _ _ _⟩
set_option maxRecDepth 100000 in
set_option maxHeartbeats 4000000 in
theorem fsum_nil (w : World) : Calls Tryz.prog 14 #[.slice none 0 0] w (RFw w 1 0 1) := by
  have hmf : ∀ (fn : Fn) (first cap : Array Value) (w : World), (Instr.makeFunc fn first cap).run Tryz.prog w = .ok (.func fn first cap) w := fun _ _ _ _ => rfl
  have hcf : ∀ (u : Value) (W : World), (callFunc 52 (#[] ++ #[u])).run Tryz.prog W = .ok (.enter 52 (#[] ++ #[u])) W := fun u W => by go_simp
  have BW : Hid (Below w.heap.size w ((w.alloc (.cells #[.slice none 0 0] 76)).alloc (.cells #[.bool false, .slice none 0 0, .bool false, .slice none 0 0] 29))) := below_alloc (below_alloc (Below.refl _ _) _) _
  have hc : ((w.alloc (.cells #[.slice none 0 0] 76)).alloc (.cells #[.bool false, .slice none 0 0, .bool false, .slice none 0 0] 29)).cell? ⟨w.heap.size, 0, none⟩ = some (.slice none 0 0) := by go_simp
  have hl : w.heap.size < ((w.alloc (.cells #[.slice none 0 0] 76)).alloc (.cells #[.bool false, .slice none 0 0, .bool false, .slice none 0 0] 29)).heap.size := by simp; omega
  have QR := Lib.hid (Qd.new (w.alloc (.cells #[.slice none 0 0] 76)) (w.heap.size + 1) (by simp) (.bool false) (.slice none 0 0) (.bool false) (.slice none 0 0) 29)
  go_enter Tryz.func14, Tryz.ntmps14
  go_wp2_with fail
  generalize (w.alloc (.cells #[.slice none 0 0] 76)).alloc (.cells #[.bool false, .slice none 0 0, .bool false, .slice none 0 0] 29) = W0 at *
  have hs := sum1_nil (Wat W0) w.heap.size (((wat_below W0).cell (p := ⟨w.heap.size, 0, none⟩) hl).trans hc) (Nat.lt_of_lt_of_le hl (wat_below W0).size)
  refine (attempt_ok W0 52 #[] #[_] 0 1 (hcf _) hs).mono ?_
  rintro e w1 ⟨A1, n1, c1, B1, m1, d1, rfl, hL, hM, hb⟩
  have L1 := Lib.hid hL
  have M1 := Lib.hid hM
  replace QR := Lib.hid (QR.out.via hb)
  have BX := Lib.hid (btr BW.out hb)
  clear hL hM hb hs hc hl
  have ⟨r0, r1, r2, r3, r4, r5, r6, r7, r8⟩ := QR.out
  go_wp2
  have fr : FrV 1 0 1 0 1 := ⟨by decide, by decide, by decide +kernel, by unfold Sz; decide, by unfold Sz; decide⟩
  exact post_f Tryz.results14 rfl rfl (QR.out.set (.bool false) (.slice A1 n1 c1) (.bool false) (.slice B1 m1 d1)) ⟨false, A1, n1, c1, B1, m1, d1, rfl, ⟨0, 1, by decide, fr, L1.out.put4 QR.out _ _ _ _, M1.out.put4 QR.out _ _ _ _⟩, below_put4 BX.out (by omega) _ _ _ _⟩
theorem fadd_badz {w : World} {k : Nat} {u v : Int} {z2 : Bool} {C D : Option Addr} {r s cc cd : Nat} (Y : Fw w k u v z2 C r cc D s cd) : Calls Tryz.prog 15 #[fv false none 0 0 false none 0 0, fv z2 C r cc false D s cd] w (RG w false [] false [] 8) := by
  have hcf3 : ∀ (u v z : Value) (W : World), (callFunc 78 (#[] ++ #[u, v, z])).run Tryz.prog W = .ok (.enter 78 (#[] ++ #[u, v, z])) W := fun u v z W => by go_simp
  obtain ⟨y, Q, e2, f2, hC, hD⟩ := Y
  exact fadd_g w false false z2 false none none C D 0 0 r s 0 0 cc cd [] [] _ _ (Lm.nil _ _) (Lm.nil _ _) hC hD _ _ _ _ _ fun W h1 h2 h3 h4 => join_g W 54 false false z2 false none none C D 0 0 r s 0 0 cc cd [] [] _ _ h1 h2 h3 h4 _ _ _ _ _ fun W g0 ga gb qf qa qb i1 i2 i3 i4 => (attempt_no W 78 #[] #[_, _, _] 8 (hcf3 _ _ _) (joinf_bad (Wat W) g0 ga gb 54 false false z2 false none none C D 0 0 r s 0 0 cc cd [] [] _ _ (qf.via (wat_below W)) (qa.via (wat_below W)) (qb.via (wat_below W)) (i1.via (wat_below W)) (i2.via (wat_below W)) (i3.via (wat_below W)) (i4.via (wat_below W)) (.inl (by decide +kernel)))).mono fun e w' hr => rfx_rg hr
theorem of_zero (w : World) (a : Int) (ha1 : -9223372036854775808 ≤ a) (ha2 : a ≤ 9223372036854775807) : Calls Tryz.prog 10 #[.int .i64 a, .int .i64 0] w (RG w false [] false [] 18) := by
  have hcf : ∀ (v : Value) (W : World), (callFunc 48 (#[v] ++ #[])).run Tryz.prog W = .ok (.enter 48 (#[v] ++ #[])) W := fun v W => by go_simp
  refine of_g w a 0 ha1 ha2 (by omega) (by omega) false false [] [] 18 (fun W A B n m ca cb h1 h2 => ?_)
  refine make_g W (decide (a < 0)) (decide ((0 : Int) < 0)) A B n m ca cb (digs a.natAbs) (digs (0 : Int).natAbs) h1 h2 _ _ _ _ _ fun W h1 h2 => (attempt_no W 48 #[_] #[] 18 (hcf _) ?_).mono fun e w' hr => rfx_rg hr
  exact reduced_zero (Wat W) A B n m ca cb 2 a 0 (h1.via (wat_below W)) (h2.via (wat_below W)) (sz2_i ha1 ha2) (sz2_i (by omega) (by omega)) (by omega) rfl rfl rfl
end Go.Proofs.YtoigmcggkanncaaGreatDoor

/- The walk of the law FracNames. -/
namespace Go.Proofs.YtoigmcggkanncaaGreatDoor
open Go.RowKit

theorem fparse_err (w : World) (l : List UInt8) (e : Int) (hl : l.length ≤ 9223372036854775807) (h1 : prP l = 0) (h2 : prQ l = 0) (h3 : prE l = e) : Calls Tryz.prog 12 #[.string ⟨l.toArray⟩] w (RG w false [] false [] e) := by
  have h := fparse_any w l hl
  rw [h1, h2, h3] at h
  exact h
theorem fparse_rfw (w : World) (l : List UInt8) (p q : Int) (hn : nml l = some (p, q)) (hq : 0 < q) : Calls Tryz.prog 12 #[.string ⟨l.toArray⟩] w (RFw w 426 p q) := by
  have hz := nml_sz hn
  have h := fparse_any w l (by omega)
  have e1 : prP l = p / dvr p q := by unfold prP; rw [hn]; exact if_neg (by omega)
  have e2 : prQ l = q / dvr p q := by unfold prQ; rw [hn]; exact if_neg (by omega)
  have e3 : prE l = 0 := by unfold prE; rw [hn]; exact if_neg (by omega)
  rw [e1, e2, e3] at h
  exact h.mono fun e w' hr => rfe_rfw (red_fr hz.2.2.1 hz.2.2.2 (by omega) (by omega)) hr
theorem fr_12 : FrV 2 (1) 2 (1) 2 := ⟨by decide, by decide, by decide +kernel, by unfold Sz; decide, by unfold Sz; decide⟩
theorem fr_m31 : FrV 2 (-31) 2 (-31) 2 := ⟨by decide, by decide, by decide +kernel, by unfold Sz; decide, by unfold Sz; decide⟩
theorem nm_dec51 {w : World} {z : Bool} {A : Option Addr} {n c : Nat} {B : Option Addr} {m cb : Nat} (X : Fw w 2 1 2 z A n c B m cb) : Calls Tryz.prog 13 #[fv z A n c false B m cb, .int .i64 51] w (RSE w ⟨#[]⟩ 2) := by
  obtain ⟨h1, h2, h3⟩ := fw_closed X fr_12 (by decide)
  exact fdecimal_arg w z A B n m c cb _ _ 51 (by decide) h2 h3 (h1 ▸ fr_12.ok)
theorem nm_dec0 {w : World} {z : Bool} {A : Option Addr} {n c : Nat} {B : Option Addr} {m cb : Nat} (X : Fw w 2 1 2 z A n c B m cb) (hU : TabU w) : Calls Tryz.prog 13 #[fv z A n c false B m cb, .int .i64 0] w (RSE w ⟨#[48]⟩ 0) := by
  obtain ⟨h1, h2, h3⟩ := fw_closed X fr_12 (by decide)
  have h := fdecimal_n w A B n m c cb 2 0 1 2 h2 h3 fr_12.sp fr_12.sq (by omega) (by omega) (by omega) (by decide) hU h1 (h1 ▸ fr_12.ok)
  rw [show decT 1 2 0 = [48] by decide +kernel] at h
  exact h
theorem nm_dec31 {w : World} {z : Bool} {A : Option Addr} {n c : Nat} {B : Option Addr} {m cb : Nat} (X : Fw w 2 (-31) 2 z A n c B m cb) (hU : TabU w) : Calls Tryz.prog 13 #[fv z A n c false B m cb, .int .i64 0] w (RSE w ⟨#[45, 49, 54]⟩ 0) := by
  obtain ⟨h1, h2, h3⟩ := fw_closed X fr_m31 (by decide)
  have h := fdecimal_n w A B n m c cb 2 0 (-31) 2 h2 h3 fr_m31.sp fr_m31.sq (by omega) (by omega) (by omega) (by decide) hU h1 (h1 ▸ fr_m31.ok)
  rw [show decT (-31) 2 0 = [45, 49, 54] by decide +kernel] at h
  exact h
theorem nm_pe1 (w : World) : Calls Tryz.prog 12 #[.string ⟨#[46, 53]⟩] w (RG w false [] false [] 12) := fparse_err w [46, 53] 12 (by decide) (by decide +kernel) (by decide +kernel) (by decide +kernel)
theorem nm_pe2 (w : World) : Calls Tryz.prog 12 #[.string ⟨#[49, 47, 48]⟩] w (RG w false [] false [] 18) := fparse_err w [49, 47, 48] 18 (by decide) (by decide +kernel) (by decide +kernel) (by decide +kernel)
theorem nm_pe3 (w : World) : Calls Tryz.prog 12 #[.string ⟨#[49, 46, 101, 53]⟩] w (RG w false [] false [] 12) := fparse_err w [49, 46, 101, 53] 12 (by decide) (by decide +kernel) (by decide +kernel) (by decide +kernel)
theorem nm_pe4 (w : World) : Calls Tryz.prog 12 #[.string ⟨#[43, 49]⟩] w (RG w false [] false [] 12) := fparse_err w [43, 49] 12 (by decide) (by decide +kernel) (by decide +kernel) (by decide +kernel)
theorem nm_pe5 (w : World) : Calls Tryz.prog 12 #[.string ⟨#[49, 101, 49, 48, 48, 48]⟩] w (RG w false [] false [] 12) := fparse_err w [49, 101, 49, 48, 48, 48] 12 (by decide) (by decide +kernel) (by decide +kernel) (by decide +kernel)
theorem nm_p7 (w : World) : Calls Tryz.prog 12 #[.string ⟨#[48, 48, 55, 46, 53, 48, 101, 45, 50]⟩] w (RFw w 426 750 10000) := fparse_rfw w [48, 48, 55, 46, 53, 48, 101, 45, 50] 750 10000 (by decide +kernel) (by decide)
theorem nm_l201 (w : World) : Calls Tryz.prog 12 #[.string ⟨(List.replicate 201 49).toArray⟩] w (RG w false [] false [] 12) := by
  have hn : nml (List.replicate 201 49) = none := by unfold nml; rw [if_pos (by rw [List.length_replicate]; decide)]
  exact fparse_err w _ 12 (by rw [List.length_replicate]; decide) (by unfold prP; rw [hn]) (by unfold prQ; rw [hn]) (by unfold prE; rw [hn])
theorem nml_200 : nml (List.replicate 200 49) = some ((decV (List.replicate 200 49) : Int), 1) := by decide +kernel
theorem nm_l200 (w : World) : Calls Tryz.prog 12 #[.string ⟨(List.replicate 200 49).toArray⟩] w (RFw w 426 (decV (List.replicate 200 49) : Int) 1) := fparse_rfw w _ _ _ nml_200 (by decide)
/-- A call returns an int. -/
def RIw (w : World) (i : Int) (e : Ending) (w' : World) : Prop := e = .returned (.int .i64 i) ∧ Below w.heap.size w w'
theorem ck1 (w : World) : Calls Tryz.prog 8 #[fv false none 0 0 false none 0 0] w (RIw w 8) := fcheck_any w false false none none 0 0 0 0 [] [] (Lm.nil _ _) (Lm.nil _ _)
theorem ck2 (w : World) (A : Option Addr) (n c : Nat) (h : Lm w w.heap.size A n c (digs 2)) : Calls Tryz.prog 8 #[fv false A n c false A n c] w (RIw w 8) := by
  have e := fcheck_any w false false A A n n c c _ _ h h
  rw [show fchk false (digs 2) false (digs 2) = 8 by decide +kernel] at e
  exact e
theorem ck3 (w : World) (A B : Option Addr) (n m c d : Nat) (h : Lm w w.heap.size A n c (digs 2)) (g : Lm w w.heap.size B m d (digs 1)) : Calls Tryz.prog 8 #[fv false A n c true B m d] w (RIw w 8) := by
  have e := fcheck_any w false true A B n m c d _ _ h g
  rw [show fchk false (digs 2) true (digs 1) = 8 by decide +kernel] at e
  exact e
theorem ck4 {w : World} {k : Nat} {u v : Int} {z : Bool} {A : Option Addr} {n c : Nat} {B : Option Addr} {m cb : Nat} (X : Fw w k u v z A n c B m cb) : Calls Tryz.prog 8 #[fv z A n c false B m cb] w (RIw w 0) := by
  obtain ⟨p, q, h1, f, h2, h3⟩ := X
  have e := fcheck_any w z false A B n m c cb _ _ h2 h3
  rw [← h1, f.ok] at e
  subst h1
  exact e
theorem rck4 {w : World} {k : Nat} {u v : Int} {z : Bool} {A : Option Addr} {n c : Nat} {B : Option Addr} {m cb : Nat} (X : Fw w k u v z A n c B m cb) : Calls Tryz.prog 18 #[fv z A n c false B m cb] w (RIw w 0) := by
  obtain ⟨p, q, h1, f, h2, h3⟩ := X
  have e := rfcheck_any w z false A B n m c cb _ _ h2 h3
  rw [← h1, f.ok] at e
  subst h1
  exact e
theorem run_make_201 (w : World) :
    (Instr.makeSlice 38 (.int .i64 201) (.int .i64 201)).run Tryz.prog w = .ok (.slice (some ⟨w.heap.size, 0, none⟩) 201 201) (w.alloc (.cells (Lib.byteCells (List.replicate 201 0)).toArray 5)) := by
  obtain ⟨i0, hi0, hz0, hz1, hz2⟩ := info_parts u8_info
  have h := run_make (P := Tryz.prog) w 38 5 i0 _ slice_u8 hi0 hz0 .i64 .i64 (201 : Int) (201 : Int) (by omega) (by omega) (by rw [hz2]; omega) (by omega)
  rw [hz1, show (201 : Int).toNat = 201 from rfl, made_u8] at h
  exact h
/-- The bytes of a block: 49 up to place i, 0 behind. -/
def By (w : World) (g i : Nat) : Prop := g < w.heap.size ∧ ∀ j, j < 201 → w.cell? ⟨g, j, none⟩ = some (.int .u8 (if j < i then 49 else 0)) ∧ w.frozen? ⟨g, j, none⟩ = false
theorem By.new (w : World) (t : TypeId) : By (w.alloc (.cells (Lib.byteCells (List.replicate 201 0)).toArray t)) w.heap.size 0 := by
  have h : (w.alloc (.cells (Lib.byteCells (List.replicate 201 0)).toArray t)).heap[w.heap.size]? = some (.cells (Lib.byteCells (List.replicate 201 0)).toArray t) := by show (w.heap.push _)[w.heap.size]? = _; simp
  refine ⟨by simp, fun j hj => ⟨?_, ?_⟩⟩
  · unfold World.cell?
    rw [h]
    have h2 : (Lib.byteCells (List.replicate 201 0))[j]? = some (.int .u8 0) := by
      unfold Lib.byteCells
      rw [List.getElem?_map, List.getElem?_replicate, if_pos hj]
      rfl
    rw [if_neg (Nat.not_lt_zero j)]
    simpa using h2
  · unfold World.frozen?
    rw [h]
    simp
theorem By.via {w w' : World} {g i : Nat} (h : By w g i) (hb : Below w.heap.size w w') : By w' g i :=
  ⟨Nat.lt_of_lt_of_le h.1 hb.size, fun j hj => ⟨(hb.cell (p := ⟨g, j, none⟩) h.1).trans (h.2 j hj).1, (hb.frozen (p := ⟨g, j, none⟩) h.1).trans (h.2 j hj).2⟩⟩
theorem By.alloc {w : World} {g i : Nat} (h : By w g i) (o : Obj) : By (w.alloc o) g i := h.via ((Below.refl _ _).alloc (Nat.le_refl _) o)
theorem By.step {w : World} {g i : Nat} (h : By w g i) (hi : i < 201) : By (w.setCell ⟨g, i, none⟩ (.int .u8 49)) g (i + 1) := by
  refine ⟨by rw [World.size_setCell]; exact h.1, fun j hj => ⟨?_, by have := (h.2 j hj).2; simpa using this⟩⟩
  by_cases e : j = i
  · subst e
    rw [if_pos (Nat.lt_succ_self _)]
    exact World.cell?_setCell_same _ _ _ (h.2 j hj).1
  · rw [World.cell?_setCell_other _ _ _ _ (fun e3 => e (congrArg Addr.off e3).symm), (h.2 j hj).1]
    by_cases e2 : j < i
    · rw [if_pos e2, if_pos (by omega)]
    · rw [if_neg e2, if_neg (by omega)]
theorem By.conv {w : World} {g : Nat} (h : By w g 201) (m : Nat) (hm : m ≤ 201) : (convert 38 9 (.slice (some ⟨g, 0, none⟩) m 201)).run Tryz.prog w = .ok (.string ⟨(List.replicate m 49).toArray⟩) w := by
  have e := run_convert_bytes_back (P := Tryz.prog) w 38 9 5 ⟨g, 0, none⟩ 201 (List.replicate m 49) slice_u8 (Tryz.underlying5) (Tryz.underlying9) (fun j hj => by
    rw [List.length_replicate] at hj
    have h1 := (h.2 j (by omega)).1
    rw [if_pos (show j < 201 by omega)] at h1
    rw [List.getElem_replicate]
    have e2 : (Addr.add ⟨g, 0, none⟩ j) = ⟨g, j, none⟩ := by
      unfold Addr.add
      split
      · rename_i e0
        rw [e0]
      · rw [Nat.zero_add]
    rw [e2]
    exact h1)
  rw [List.length_replicate] at e
  exact e
set_option maxRecDepth 100000 in
set_option maxHeartbeats 16000000 in
theorem names_any (w : World) (hU : TabU w) : Calls Tryz.prog 3 #[] w (RBw w true) := by
  have BX : Hid (Below w.heap.size w w) := Below.refl _ _
  have TU := Lib.hid hU
  clear hU
  go_enter Tryz.func3, Tryz.ntmps3
  go_wp2_with fail
  refine (rfrom_any _ 2 (by omega) (by omega)).mono ?_
  rintro e w1 ⟨A1, n1, c1, rfl, hL, hb⟩
  replace BX := Lib.hid (btr BX.out hb)
  replace TU := Lib.hid (TU.out.via hb)
  have L1 := Lib.hid hL
  clear hb hL
  go_upto_region 2 with (fail)
  have P1 := Lib.hid (Pr.new w1 _ rfl (.bool false) (.slice A1 n1 c1) 24)
  replace L1 := Lib.hid (L1.out.box (.cells #[.bool false, .slice A1 n1 c1] 24))
  replace BX := Lib.hid (below_alloc BX.out (.cells #[.bool false, .slice A1 n1 c1] 24))
  replace TU := Lib.hid (TU.out.box (.cells #[.bool false, .slice A1 n1 c1] 24))
  generalize w1.heap.size = g1 at *
  generalize w1.alloc (.cells #[.bool false, .slice A1 n1 c1] 24) = V1 at *
  have HKS : Hid (∀ X : World, Below V1.heap.size V1 X → X.cell? ⟨g1, 0, none⟩ = some (.bool false) ∧ X.cell? ⟨g1, 1, none⟩ = some (.slice A1 n1 c1)) := fun X h => ⟨(P1.out.via h).c0, (P1.out.via h).c1⟩
  go_region_held3 (fun X => X.cell? ⟨g1, 0, none⟩ = some (.bool false) ∧ X.cell? ⟨g1, 1, none⟩ = some (.slice A1 n1 c1))
    (first | exact HKS.out _ (Below.refl _ _) | exact HKS.out _ (Below.refl _ _).drew | exact HKS.out _ E5 | exact HKS.out _ E4 | exact HKS.out _ E3 | exact HKS.out _ E2 | exact HKS.out _ E1 | exact HKS.out _ E0)
    (first
     | (have _t := E4; go_at_call 8; refine (ck4 hX4).mono ?_; rintro e y5 ⟨rfl, hb5⟩; have E5 : Below V1.heap.size V1 y5 := btr E4 hb5)
     | (have _t := E3; go_at_call 9; refine (lpart_c _ 0 5 (by decide) (by decide) (by decide) (by decide)).mono ?_; rintro e y4 ⟨z4, A4, n4, c4, B4, m4, d4, rfl, hX4, hb4⟩; have E4 : Below V1.heap.size V1 y4 := btr E3 hb4)
     | (have _t := E2; go_at_call 8; refine (ck3 _ A1 AF n1 nF c1 cF (L1.out.via E2) hF).mono ?_; rintro e y3 ⟨rfl, hb3⟩; have E3 : Below V1.heap.size V1 y3 := btr E2 hb3)
     | (have _t := E1; go_at_call 7; refine (rfrom_any _ (-1) (by decide) (by decide)).mono ?_; rintro e y2 ⟨AF, nF, cF, rfl, hF, hb2⟩; have E2 : Below V1.heap.size V1 y2 := btr E1 hb2)
     | (have _t := E0; go_at_call 8; refine (ck2 _ A1 n1 c1 (L1.out.via E0)).mono ?_; rintro e y1 ⟨rfl, hb1⟩; have E1 : Below V1.heap.size V1 y1 := btr E0 hb1)
     | (go_at_call 8; refine (ck1 _).mono ?_; rintro e y0 ⟨rfl, hb0⟩; have E0 : Below V1.heap.size V1 y0 := (by first | exact (Below.refl _ _).drew.trans hb0 | exact hb0))
     | fail)
  clear HKS hX4 hF E4 E3 E2 E1 E0 hb5 hb4 hb3 hb2 hb1 hb0
  have hb := E5
  clear E5
  clear L1 P1
  replace BX := Lib.hid (btr BX.out hb)
  replace TU := Lib.hid (TU.out.via hb)
  clear hb
  go_wp2_with fail
  refine (of_zero _ 1 (by decide) (by decide)).mono ?_
  rintro e w2 ⟨A3, n3, c3, B3, m3, d3, rfl, -, -, hb⟩
  replace BX := Lib.hid (btr BX.out hb)
  replace TU := Lib.hid (TU.out.via hb)
  clear hb
  go_upto_region 4 with (fail)
  replace BX := Lib.hid (below_alloc BX.out (.cells #[.bool false, .slice A3 n3 c3, .bool false, .slice B3 m3 d3] 29))
  replace TU := Lib.hid (TU.out.box (.cells #[.bool false, .slice A3 n3 c3, .bool false, .slice B3 m3 d3] 29))
  generalize w2.heap.size = g3 at *
  generalize w2.alloc (.cells #[.bool false, .slice A3 n3 c3, .bool false, .slice B3 m3 d3] 29) = V2 at *
  go_wp2_with fail
  refine (lpart_c _ 1 2 (by decide) (by decide) (by decide) (by decide)).mono ?_
  rintro e w3 ⟨z4, A4, n4, c4, B4, m4, d4, rfl, hX, hb⟩
  replace BX := Lib.hid (btr BX.out hb)
  replace TU := Lib.hid (TU.out.via hb)
  have X4 := Lib.hid hX
  clear hb hX
  go_wp2_with fail
  refine (lpart_c _ 0 1 (by decide) (by decide) (by decide) (by decide)).mono ?_
  rintro e w4 ⟨z5, A5, n5, c5, B5, m5, d5, rfl, hX, hb⟩
  replace X4 := Lib.hid (X4.out.via hb)
  replace BX := Lib.hid (btr BX.out hb)
  replace TU := Lib.hid (TU.out.via hb)
  have X5 := Lib.hid hX
  clear hb hX
  go_wp2_with fail
  refine (fdiv_z X4.out X5.out (by omega) (by decide)).mono ?_
  rintro e w5 ⟨A6, n6, c6, B6, m6, d6, rfl, -, -, hb⟩
  replace X4 := Lib.hid (X4.out.via hb)
  replace X5 := Lib.hid (X5.out.via hb)
  replace BX := Lib.hid (btr BX.out hb)
  replace TU := Lib.hid (TU.out.via hb)
  clear hb
  clear X4 X5
  go_upto_region 5 with (fail)
  replace BX := Lib.hid (below_alloc BX.out (.cells #[.bool false, .slice A6 n6 c6, .bool false, .slice B6 m6 d6] 29))
  replace TU := Lib.hid (TU.out.box (.cells #[.bool false, .slice A6 n6 c6, .bool false, .slice B6 m6 d6] 29))
  generalize w5.heap.size = g6 at *
  generalize w5.alloc (.cells #[.bool false, .slice A6 n6 c6, .bool false, .slice B6 m6 d6] 29) = V5 at *
  go_wp2_with fail
  refine (nm_pe1 _).mono ?_
  rintro e w6 ⟨A7, n7, c7, B7, m7, d7, rfl, -, -, hb⟩
  replace BX := Lib.hid (btr BX.out hb)
  replace TU := Lib.hid (TU.out.via hb)
  clear hb
  go_upto_region 6 with (fail)
  replace BX := Lib.hid (below_alloc BX.out (.cells #[.bool false, .slice A7 n7 c7, .bool false, .slice B7 m7 d7] 29))
  replace TU := Lib.hid (TU.out.box (.cells #[.bool false, .slice A7 n7 c7, .bool false, .slice B7 m7 d7] 29))
  generalize w6.heap.size = g7 at *
  generalize w6.alloc (.cells #[.bool false, .slice A7 n7 c7, .bool false, .slice B7 m7 d7] 29) = V6 at *
  go_wp2_with fail
  refine (nm_pe2 _).mono ?_
  rintro e w7 ⟨A8, n8, c8, B8, m8, d8, rfl, -, -, hb⟩
  replace BX := Lib.hid (btr BX.out hb)
  replace TU := Lib.hid (TU.out.via hb)
  clear hb
  go_upto_region 7 with (fail)
  replace BX := Lib.hid (below_alloc BX.out (.cells #[.bool false, .slice A8 n8 c8, .bool false, .slice B8 m8 d8] 29))
  replace TU := Lib.hid (TU.out.box (.cells #[.bool false, .slice A8 n8 c8, .bool false, .slice B8 m8 d8] 29))
  generalize w7.heap.size = g8 at *
  generalize w7.alloc (.cells #[.bool false, .slice A8 n8 c8, .bool false, .slice B8 m8 d8] 29) = V7 at *
  go_wp2_with fail
  refine (nm_pe3 _).mono ?_
  rintro e w8 ⟨A9, n9, c9, B9, m9, d9, rfl, -, -, hb⟩
  replace BX := Lib.hid (btr BX.out hb)
  replace TU := Lib.hid (TU.out.via hb)
  clear hb
  go_upto_region 8 with (fail)
  replace BX := Lib.hid (below_alloc BX.out (.cells #[.bool false, .slice A9 n9 c9, .bool false, .slice B9 m9 d9] 29))
  replace TU := Lib.hid (TU.out.box (.cells #[.bool false, .slice A9 n9 c9, .bool false, .slice B9 m9 d9] 29))
  generalize w8.heap.size = g9 at *
  generalize w8.alloc (.cells #[.bool false, .slice A9 n9 c9, .bool false, .slice B9 m9 d9] 29) = V8 at *
  go_wp2_with fail
  refine (nm_pe4 _).mono ?_
  rintro e w9 ⟨A10, n10, c10, B10, m10, d10, rfl, -, -, hb⟩
  replace BX := Lib.hid (btr BX.out hb)
  replace TU := Lib.hid (TU.out.via hb)
  clear hb
  go_upto_region 9 with (fail)
  replace BX := Lib.hid (below_alloc BX.out (.cells #[.bool false, .slice A10 n10 c10, .bool false, .slice B10 m10 d10] 29))
  replace TU := Lib.hid (TU.out.box (.cells #[.bool false, .slice A10 n10 c10, .bool false, .slice B10 m10 d10] 29))
  generalize w9.heap.size = g10 at *
  generalize w9.alloc (.cells #[.bool false, .slice A10 n10 c10, .bool false, .slice B10 m10 d10] 29) = V9 at *
  go_wp2_with fail
  refine (nm_pe5 _).mono ?_
  rintro e w10 ⟨A11, n11, c11, B11, m11, d11, rfl, -, -, hb⟩
  replace BX := Lib.hid (btr BX.out hb)
  replace TU := Lib.hid (TU.out.via hb)
  clear hb
  go_upto_region 10 with (fail)
  replace BX := Lib.hid (below_alloc BX.out (.cells #[.bool false, .slice A11 n11 c11, .bool false, .slice B11 m11 d11] 29))
  replace TU := Lib.hid (TU.out.box (.cells #[.bool false, .slice A11 n11 c11, .bool false, .slice B11 m11 d11] 29))
  generalize w10.heap.size = g11 at *
  generalize w10.alloc (.cells #[.bool false, .slice A11 n11 c11, .bool false, .slice B11 m11 d11] 29) = V10 at *
  go_wp2_with fail
  refine (lpart_c _ 1 2 (by decide) (by decide) (by decide) (by decide)).mono ?_
  rintro e w11 ⟨z12, A12, n12, c12, B12, m12, d12, rfl, hX, hb⟩
  replace BX := Lib.hid (btr BX.out hb)
  replace TU := Lib.hid (TU.out.via hb)
  have X12 := Lib.hid hX
  clear hb hX
  go_wp2_with fail
  refine (nm_dec51 X12.out).mono ?_
  rintro e w12 ⟨rfl, hb⟩
  replace X12 := Lib.hid (X12.out.via hb)
  replace BX := Lib.hid (btr BX.out hb)
  replace TU := Lib.hid (TU.out.via hb)
  clear hb
  clear X12
  go_wp2_with fail
  refine (lpart_c _ 1 2 (by decide) (by decide) (by decide) (by decide)).mono ?_
  rintro e w13 ⟨z13, A13, n13, c13, B13, m13, d13, rfl, hX, hb⟩
  replace BX := Lib.hid (btr BX.out hb)
  replace TU := Lib.hid (TU.out.via hb)
  have X13 := Lib.hid hX
  clear hb hX
  go_wp2_with fail
  refine (nm_dec0 X13.out TU.out).mono ?_
  rintro e w14 ⟨rfl, hb⟩
  replace X13 := Lib.hid (X13.out.via hb)
  replace BX := Lib.hid (btr BX.out hb)
  replace TU := Lib.hid (TU.out.via hb)
  clear hb
  clear X13
  go_wp2_with fail
  refine (lpart_c _ (-31) 2 (by decide) (by decide) (by decide) (by decide)).mono ?_
  rintro e w15 ⟨z14, A14, n14, c14, B14, m14, d14, rfl, hX, hb⟩
  replace BX := Lib.hid (btr BX.out hb)
  replace TU := Lib.hid (TU.out.via hb)
  have X14 := Lib.hid hX
  clear hb hX
  go_wp2_with fail
  refine (nm_dec31 X14.out TU.out).mono ?_
  rintro e w16 ⟨rfl, hb⟩
  replace X14 := Lib.hid (X14.out.via hb)
  replace BX := Lib.hid (btr BX.out hb)
  replace TU := Lib.hid (TU.out.via hb)
  clear hb
  clear X14
  go_wp2_with fail
  refine (nm_p7 _).mono ?_
  rintro e w17 ⟨z23, A23, n23, c23, B23, m23, d23, rfl, hX, hb⟩
  replace BX := Lib.hid (btr BX.out hb)
  replace TU := Lib.hid (TU.out.via hb)
  have X23 := Lib.hid hX
  clear hb hX
  go_upto_region 14 with (fail)
  have Q23 := Lib.hid (Qd.new w17 _ rfl (.bool z23) (.slice A23 n23 c23) (.bool false) (.slice B23 m23 d23) 29)
  replace X23 := Lib.hid (X23.out.alloc (.cells #[.bool z23, .slice A23 n23 c23, .bool false, .slice B23 m23 d23] 29))
  replace BX := Lib.hid (below_alloc BX.out (.cells #[.bool z23, .slice A23 n23 c23, .bool false, .slice B23 m23 d23] 29))
  replace TU := Lib.hid (TU.out.box (.cells #[.bool z23, .slice A23 n23 c23, .bool false, .slice B23 m23 d23] 29))
  generalize w17.heap.size = gQ23 at *
  generalize w17.alloc (.cells #[.bool z23, .slice A23 n23 c23, .bool false, .slice B23 m23 d23] 29) = V17 at *
  go_wp2_with fail
  refine (of_w _ (-9223372036854775808) (-9223372036854775808) (by decide) (by decide) (by decide) (by decide) (by decide)).mono ?_
  rintro e w18 ⟨z25, A25, n25, c25, B25, m25, d25, rfl, hX, hb⟩
  replace X23 := Lib.hid (X23.out.via hb)
  replace Q23 := Lib.hid (Q23.out.via hb)
  replace BX := Lib.hid (btr BX.out hb)
  replace TU := Lib.hid (TU.out.via hb)
  have X25 := Lib.hid hX
  clear hb hX
  go_upto_region 15 with (fail)
  have Q25 := Lib.hid (Qd.new w18 _ rfl (.bool z25) (.slice A25 n25 c25) (.bool false) (.slice B25 m25 d25) 29)
  replace X23 := Lib.hid (X23.out.alloc (.cells #[.bool z25, .slice A25 n25 c25, .bool false, .slice B25 m25 d25] 29))
  replace Q23 := Lib.hid (Q23.out.alloc (.cells #[.bool z25, .slice A25 n25 c25, .bool false, .slice B25 m25 d25] 29))
  replace X25 := Lib.hid (X25.out.alloc (.cells #[.bool z25, .slice A25 n25 c25, .bool false, .slice B25 m25 d25] 29))
  replace BX := Lib.hid (below_alloc BX.out (.cells #[.bool z25, .slice A25 n25 c25, .bool false, .slice B25 m25 d25] 29))
  replace TU := Lib.hid (TU.out.box (.cells #[.bool z25, .slice A25 n25 c25, .bool false, .slice B25 m25 d25] 29))
  generalize w18.heap.size = gQ25 at *
  generalize w18.alloc (.cells #[.bool z25, .slice A25 n25 c25, .bool false, .slice B25 m25 d25] 29) = V18 at *
  go_wp2_with fail
  refine (fsum_nil _).mono ?_
  rintro e w19 ⟨z27, A27, n27, c27, B27, m27, d27, rfl, hX, hb⟩
  replace X23 := Lib.hid (X23.out.via hb)
  replace Q23 := Lib.hid (Q23.out.via hb)
  replace X25 := Lib.hid (X25.out.via hb)
  replace Q25 := Lib.hid (Q25.out.via hb)
  replace BX := Lib.hid (btr BX.out hb)
  replace TU := Lib.hid (TU.out.via hb)
  have X27 := Lib.hid hX
  clear hb hX
  go_upto_region 16 with (fail)
  have Q27 := Lib.hid (Qd.new w19 _ rfl (.bool z27) (.slice A27 n27 c27) (.bool false) (.slice B27 m27 d27) 29)
  replace X23 := Lib.hid (X23.out.alloc (.cells #[.bool z27, .slice A27 n27 c27, .bool false, .slice B27 m27 d27] 29))
  replace Q23 := Lib.hid (Q23.out.alloc (.cells #[.bool z27, .slice A27 n27 c27, .bool false, .slice B27 m27 d27] 29))
  replace X25 := Lib.hid (X25.out.alloc (.cells #[.bool z27, .slice A27 n27 c27, .bool false, .slice B27 m27 d27] 29))
  replace Q25 := Lib.hid (Q25.out.alloc (.cells #[.bool z27, .slice A27 n27 c27, .bool false, .slice B27 m27 d27] 29))
  replace X27 := Lib.hid (X27.out.alloc (.cells #[.bool z27, .slice A27 n27 c27, .bool false, .slice B27 m27 d27] 29))
  replace BX := Lib.hid (below_alloc BX.out (.cells #[.bool z27, .slice A27 n27 c27, .bool false, .slice B27 m27 d27] 29))
  replace TU := Lib.hid (TU.out.box (.cells #[.bool z27, .slice A27 n27 c27, .bool false, .slice B27 m27 d27] 29))
  generalize w19.heap.size = gQ27 at *
  generalize w19.alloc (.cells #[.bool z27, .slice A27 n27 c27, .bool false, .slice B27 m27 d27] 29) = V19 at *
  go_wp2_with fail
  refine (lpart_c _ 1 2 (by decide) (by decide) (by decide) (by decide)).mono ?_
  rintro e w20 ⟨z28, A28, n28, c28, B28, m28, d28, rfl, hX, hb⟩
  replace X23 := Lib.hid (X23.out.via hb)
  replace Q23 := Lib.hid (Q23.out.via hb)
  replace X25 := Lib.hid (X25.out.via hb)
  replace Q25 := Lib.hid (Q25.out.via hb)
  replace X27 := Lib.hid (X27.out.via hb)
  replace Q27 := Lib.hid (Q27.out.via hb)
  replace BX := Lib.hid (btr BX.out hb)
  replace TU := Lib.hid (TU.out.via hb)
  have X28 := Lib.hid hX
  clear hb hX
  go_wp2_with fail
  refine (fadd_badz X28.out).mono ?_
  rintro e w21 ⟨A29, n29, c29, B29, m29, d29, rfl, -, -, hb⟩
  replace X23 := Lib.hid (X23.out.via hb)
  replace Q23 := Lib.hid (Q23.out.via hb)
  replace X25 := Lib.hid (X25.out.via hb)
  replace Q25 := Lib.hid (Q25.out.via hb)
  replace X27 := Lib.hid (X27.out.via hb)
  replace Q27 := Lib.hid (Q27.out.via hb)
  replace X28 := Lib.hid (X28.out.via hb)
  replace BX := Lib.hid (btr BX.out hb)
  replace TU := Lib.hid (TU.out.via hb)
  clear hb
  clear X28
  go_upto_region 17 with (fail)
  replace X23 := Lib.hid (X23.out.alloc (.cells #[.bool false, .slice A29 n29 c29, .bool false, .slice B29 m29 d29] 29))
  replace Q23 := Lib.hid (Q23.out.alloc (.cells #[.bool false, .slice A29 n29 c29, .bool false, .slice B29 m29 d29] 29))
  replace X25 := Lib.hid (X25.out.alloc (.cells #[.bool false, .slice A29 n29 c29, .bool false, .slice B29 m29 d29] 29))
  replace Q25 := Lib.hid (Q25.out.alloc (.cells #[.bool false, .slice A29 n29 c29, .bool false, .slice B29 m29 d29] 29))
  replace X27 := Lib.hid (X27.out.alloc (.cells #[.bool false, .slice A29 n29 c29, .bool false, .slice B29 m29 d29] 29))
  replace Q27 := Lib.hid (Q27.out.alloc (.cells #[.bool false, .slice A29 n29 c29, .bool false, .slice B29 m29 d29] 29))
  replace BX := Lib.hid (below_alloc BX.out (.cells #[.bool false, .slice A29 n29 c29, .bool false, .slice B29 m29 d29] 29))
  replace TU := Lib.hid (TU.out.box (.cells #[.bool false, .slice A29 n29 c29, .bool false, .slice B29 m29 d29] 29))
  generalize w21.heap.size = g29 at *
  generalize w21.alloc (.cells #[.bool false, .slice A29 n29 c29, .bool false, .slice B29 m29 d29] 29) = V21 at *
  have hmk := run_make_201 V21
  go_wp2_with fail
  clear hmk
  go_loopw [32] (fun s wr => ∃ i : Nat, i ≤ 201 ∧ s = .int .i64 i ∧ By wr V21.heap.size i ∧ Below V21.heap.size V21 wr) (fun s _ => 201 - (intOf s).toNat)
  case atStart => exact ⟨0, Nat.zero_le _, rfl, By.new _ _, below_alloc (Below.refl _ _) _⟩
  case round =>
    obtain ⟨i, hi, rfl, hBy, hb⟩ := hrel
    have HY := Lib.hid hBy
    have HBl := Lib.hid hb
    clear hBy hb
    by_cases hp : i < 201
    · have hc0 := (HY.out.2 i hp).1
      have hf0 := (HY.out.2 i hp).2
      rw [if_neg (Nat.lt_irrefl i)] at hc0
      have hlt : (i : Int) < 201 := by omega
      go_wp2
      go_roundw
      case rel => exact ⟨i + 1, by omega, by go_num, HY.out.step hp, HBl.out.setCell (p := ⟨V21.heap.size, i, none⟩) (Nat.le_refl _) _⟩
      case measure => simp [intOf]; omega
    · obtain rfl : i = 201 := by omega
      have hb := HBl.out
      clear HBl hp hi
      replace X23 := Lib.hid (X23.out.via hb)
      replace Q23 := Lib.hid (Q23.out.via hb)
      replace X25 := Lib.hid (X25.out.via hb)
      replace Q25 := Lib.hid (Q25.out.via hb)
      replace X27 := Lib.hid (X27.out.via hb)
      replace Q27 := Lib.hid (Q27.out.via hb)
      replace BX := Lib.hid (btr BX.out hb)
      replace TU := Lib.hid (TU.out.via hb)
      clear hb
      have YB := Lib.hid HY.out
      clear HY
      generalize V21.heap.size = gB at *
      have hcv := YB.out.conv 201 (Nat.le_refl _)
      go_wp2_with fail
      clear hcv
      refine (nm_l201 _).mono ?_
      rintro e w22 ⟨A33, n33, c33, B33, m33, d33, rfl, -, -, hb⟩
      replace X23 := Lib.hid (X23.out.via hb)
      replace Q23 := Lib.hid (Q23.out.via hb)
      replace X25 := Lib.hid (X25.out.via hb)
      replace Q25 := Lib.hid (Q25.out.via hb)
      replace X27 := Lib.hid (X27.out.via hb)
      replace Q27 := Lib.hid (Q27.out.via hb)
      replace YB := Lib.hid (YB.out.via hb)
      replace BX := Lib.hid (btr BX.out hb)
      replace TU := Lib.hid (TU.out.via hb)
      clear hb
      go_upto_region 23 with (fail)
      replace X23 := Lib.hid (X23.out.alloc (.cells #[.bool false, .slice A33 n33 c33, .bool false, .slice B33 m33 d33] 29))
      replace Q23 := Lib.hid (Q23.out.alloc (.cells #[.bool false, .slice A33 n33 c33, .bool false, .slice B33 m33 d33] 29))
      replace X25 := Lib.hid (X25.out.alloc (.cells #[.bool false, .slice A33 n33 c33, .bool false, .slice B33 m33 d33] 29))
      replace Q25 := Lib.hid (Q25.out.alloc (.cells #[.bool false, .slice A33 n33 c33, .bool false, .slice B33 m33 d33] 29))
      replace X27 := Lib.hid (X27.out.alloc (.cells #[.bool false, .slice A33 n33 c33, .bool false, .slice B33 m33 d33] 29))
      replace Q27 := Lib.hid (Q27.out.alloc (.cells #[.bool false, .slice A33 n33 c33, .bool false, .slice B33 m33 d33] 29))
      replace YB := Lib.hid (YB.out.alloc (.cells #[.bool false, .slice A33 n33 c33, .bool false, .slice B33 m33 d33] 29))
      replace BX := Lib.hid (below_alloc BX.out (.cells #[.bool false, .slice A33 n33 c33, .bool false, .slice B33 m33 d33] 29))
      replace TU := Lib.hid (TU.out.box (.cells #[.bool false, .slice A33 n33 c33, .bool false, .slice B33 m33 d33] 29))
      generalize w22.heap.size = g33 at *
      generalize w22.alloc (.cells #[.bool false, .slice A33 n33 c33, .bool false, .slice B33 m33 d33] 29) = V22 at *
      have hcv := YB.out.conv 200 (by omega)
      go_wp2_with fail
      clear hcv
      refine (nm_l200 _).mono ?_
      rintro e w23 ⟨z35, A35, n35, c35, B35, m35, d35, rfl, hX, hb⟩
      replace X23 := Lib.hid (X23.out.via hb)
      replace Q23 := Lib.hid (Q23.out.via hb)
      replace X25 := Lib.hid (X25.out.via hb)
      replace Q25 := Lib.hid (Q25.out.via hb)
      replace X27 := Lib.hid (X27.out.via hb)
      replace Q27 := Lib.hid (Q27.out.via hb)
      replace YB := Lib.hid (YB.out.via hb)
      replace BX := Lib.hid (btr BX.out hb)
      replace TU := Lib.hid (TU.out.via hb)
      have X35 := Lib.hid hX
      clear hb hX
      go_upto_region 24 with (fail)
      have Q35 := Lib.hid (Qd.new w23 _ rfl (.bool z35) (.slice A35 n35 c35) (.bool false) (.slice B35 m35 d35) 29)
      replace X23 := Lib.hid (X23.out.alloc (.cells #[.bool z35, .slice A35 n35 c35, .bool false, .slice B35 m35 d35] 29))
      replace Q23 := Lib.hid (Q23.out.alloc (.cells #[.bool z35, .slice A35 n35 c35, .bool false, .slice B35 m35 d35] 29))
      replace X25 := Lib.hid (X25.out.alloc (.cells #[.bool z35, .slice A35 n35 c35, .bool false, .slice B35 m35 d35] 29))
      replace Q25 := Lib.hid (Q25.out.alloc (.cells #[.bool z35, .slice A35 n35 c35, .bool false, .slice B35 m35 d35] 29))
      replace X27 := Lib.hid (X27.out.alloc (.cells #[.bool z35, .slice A35 n35 c35, .bool false, .slice B35 m35 d35] 29))
      replace Q27 := Lib.hid (Q27.out.alloc (.cells #[.bool z35, .slice A35 n35 c35, .bool false, .slice B35 m35 d35] 29))
      replace YB := Lib.hid (YB.out.alloc (.cells #[.bool z35, .slice A35 n35 c35, .bool false, .slice B35 m35 d35] 29))
      replace X35 := Lib.hid (X35.out.alloc (.cells #[.bool z35, .slice A35 n35 c35, .bool false, .slice B35 m35 d35] 29))
      replace BX := Lib.hid (below_alloc BX.out (.cells #[.bool z35, .slice A35 n35 c35, .bool false, .slice B35 m35 d35] 29))
      replace TU := Lib.hid (TU.out.box (.cells #[.bool z35, .slice A35 n35 c35, .bool false, .slice B35 m35 d35] 29))
      generalize w23.heap.size = gQ35 at *
      generalize w23.alloc (.cells #[.bool z35, .slice A35 n35 c35, .bool false, .slice B35 m35 d35] 29) = V23 at *
      clear YB
      go_wp2_with fail
      refine (lalive_w _ TU.out).mono ?_
      rintro e w24 ⟨rfl, hb⟩
      replace X23 := Lib.hid (X23.out.via hb)
      replace Q23 := Lib.hid (Q23.out.via hb)
      replace X25 := Lib.hid (X25.out.via hb)
      replace Q25 := Lib.hid (Q25.out.via hb)
      replace X27 := Lib.hid (X27.out.via hb)
      replace Q27 := Lib.hid (Q27.out.via hb)
      replace X35 := Lib.hid (X35.out.via hb)
      replace Q35 := Lib.hid (Q35.out.via hb)
      replace BX := Lib.hid (btr BX.out hb)
      replace TU := Lib.hid (TU.out.via hb)
      clear hb
      have ⟨Q23r0, Q23r1, Q23r2, Q23r3, Q23r4, Q23r5, Q23r6, Q23r7, Q23r8⟩ := Q23.out
      go_wp2_with fail
      clear Q23r0 Q23r1 Q23r2 Q23r3 Q23r4 Q23r5 Q23r6 Q23r7 Q23r8
      refine (lsame_w _ _ _ _ (3) 40 _ _ _ _ _ _ _ X23.out (by decide) (by decide) (by decide) (by decide) (by decide) (by decide) (by decide)).mono ?_
      rintro e w25 ⟨rfl, hb⟩
      replace X23 := Lib.hid (X23.out.via hb)
      replace Q23 := Lib.hid (Q23.out.via hb)
      replace X25 := Lib.hid (X25.out.via hb)
      replace Q25 := Lib.hid (Q25.out.via hb)
      replace X27 := Lib.hid (X27.out.via hb)
      replace Q27 := Lib.hid (Q27.out.via hb)
      replace X35 := Lib.hid (X35.out.via hb)
      replace Q35 := Lib.hid (Q35.out.via hb)
      replace BX := Lib.hid (btr BX.out hb)
      replace TU := Lib.hid (TU.out.via hb)
      clear hb
      have ⟨Q25r0, Q25r1, Q25r2, Q25r3, Q25r4, Q25r5, Q25r6, Q25r7, Q25r8⟩ := Q25.out
      go_wp2_with fail
      clear Q25r0 Q25r1 Q25r2 Q25r3 Q25r4 Q25r5 Q25r6 Q25r7 Q25r8
      refine (lsame_w _ _ _ _ (1) 1 _ _ _ _ _ _ _ X25.out (by decide) (by decide) (by decide) (by decide) (by decide) (by decide) (by decide)).mono ?_
      rintro e w26 ⟨rfl, hb⟩
      replace X23 := Lib.hid (X23.out.via hb)
      replace Q23 := Lib.hid (Q23.out.via hb)
      replace X25 := Lib.hid (X25.out.via hb)
      replace Q25 := Lib.hid (Q25.out.via hb)
      replace X27 := Lib.hid (X27.out.via hb)
      replace Q27 := Lib.hid (Q27.out.via hb)
      replace X35 := Lib.hid (X35.out.via hb)
      replace Q35 := Lib.hid (Q35.out.via hb)
      replace BX := Lib.hid (btr BX.out hb)
      replace TU := Lib.hid (TU.out.via hb)
      clear hb
      have ⟨Q27r0, Q27r1, Q27r2, Q27r3, Q27r4, Q27r5, Q27r6, Q27r7, Q27r8⟩ := Q27.out
      go_wp2_with fail
      clear Q27r0 Q27r1 Q27r2 Q27r3 Q27r4 Q27r5 Q27r6 Q27r7 Q27r8
      refine (lsame_w _ _ _ _ (0) 1 _ _ _ _ _ _ _ X27.out (by decide) (by decide) (by decide) (by decide) (by decide) (by decide) (by decide)).mono ?_
      rintro e w27 ⟨rfl, hb⟩
      replace X23 := Lib.hid (X23.out.via hb)
      replace Q23 := Lib.hid (Q23.out.via hb)
      replace X25 := Lib.hid (X25.out.via hb)
      replace Q25 := Lib.hid (Q25.out.via hb)
      replace X27 := Lib.hid (X27.out.via hb)
      replace Q27 := Lib.hid (Q27.out.via hb)
      replace X35 := Lib.hid (X35.out.via hb)
      replace Q35 := Lib.hid (Q35.out.via hb)
      replace BX := Lib.hid (btr BX.out hb)
      replace TU := Lib.hid (TU.out.via hb)
      clear hb
      have ⟨Q35r0, Q35r1, Q35r2, Q35r3, Q35r4, Q35r5, Q35r6, Q35r7, Q35r8⟩ := Q35.out
      go_wp2_with fail
      clear Q35r0 Q35r1 Q35r2 Q35r3 Q35r4 Q35r5 Q35r6 Q35r7 Q35r8
      refine (rck4 X35.out).mono ?_
      rintro e w28 ⟨rfl, hb⟩
      replace X23 := Lib.hid (X23.out.via hb)
      replace Q23 := Lib.hid (Q23.out.via hb)
      replace X25 := Lib.hid (X25.out.via hb)
      replace Q25 := Lib.hid (Q25.out.via hb)
      replace X27 := Lib.hid (X27.out.via hb)
      replace Q27 := Lib.hid (Q27.out.via hb)
      replace X35 := Lib.hid (X35.out.via hb)
      replace Q35 := Lib.hid (Q35.out.via hb)
      replace BX := Lib.hid (btr BX.out hb)
      replace TU := Lib.hid (TU.out.via hb)
      clear hb
      go_wp2
      go_ret
      exact ⟨rfl, BX.out⟩
end Go.Proofs.YtoigmcggkanncaaGreatDoor

namespace Go.Proofs.YtoigmcggkanncaaGreatDoor
open Go.ChangeShapes Go.WideShapes Go.ChangeAt Go.RowKit

set_option maxRecDepth 100000 in
theorem fracNames_lifted (os : Os) (started : os.Started) (H : Type) (enc : TypeId × Value → H) :
    ReturnsInHanded {} Tryz.checked os 3 .any (fun w args => (Rows.fracNamesSpec.pre enc Tryz.prog Tryz.f3 [] false w args ∧ laidMetH Tryz.prog laid7 w) ∧ sizedMet enc Tryz.prog Tryz.f3 (OpenSpec.ofChange Rows.fracNamesSpec) false w args)
      (Rows.fracNamesSpec.post enc Tryz.prog Tryz.f3 false true false false) := by
  refine returnsInHanded_of_change_and (C := Tryz.checked) (X := fun w _ => laidMetH Tryz.prog laid7 w) (fun _ _ _ hh h => h.of_heap hh) own started (by kernel_rfl) Tryz.func3
    (ChangeSpec.witness_shaped (enc := enc) (C := Tryz.checked) (os := os) (X := fun w _ => laidMetH Tryz.prog laid7 w) false (World.laidAll Tryz.prog os laid7) #[] 8 (World.laidAll_os _ _ _) (World.shaped_of_ZipB (by kernel_rfl) (by kernel_rfl)) (by kernel_rfl) (by kernel_rfl) (by kernel_rfl) (by rw [MakeChecks.laidMetH_plain _ _ _ (by kernel_rfl)]; exact laidMet_laidAll _ (by kernel_rfl) (by kernel_rfl))) ?_
  intro W base args ds gs before hval0 hW _ _ hL _
  have hTU := tabU_of hL
  have hval : ∀ (j : Nat) t v, Tryz.f3.params[j]? = some t → args[j]? = some v → Value.okWide Tryz.prog W .any base t v := hval0
  have hW' := hW
  obtain ⟨p, q, hA0, hV, rfl, hfz, hnd⟩ := hW
  have hA : DataW.TrodAll enc Tryz.prog W 0 (fun _ => true) true Tryz.f3.params.toList args.toList ds p := hA0
  rw [Tryz.params3] at hA hval
  obtain ⟨rfl, rfl, rfl⟩ := trodAll_none hA
  obtain ⟨rfl, rfl⟩ := trodVars_none hV
  clear hA0 hval0 hval
  try (simp only [List.append_nil] at hW')
  refine (names_any W hTU).mono fun e W' ⟨he, hb⟩ => ?_
  subst he
  exact ⟨_, rfl, _, _, _, [], [], [], hW', trodAll_mk1 (shut_bool Tryz.underlying4 _),
    trodAll_mk0, rfl, hb.frame _, fun h => by cases h⟩

theorem fracNames_row : Rows.FracNamesSaid :=
  OpenClaim.holds_of_wide 3 Tryz.f3 rfl rfl rfl rfl rfl rfl rfl ⟨rfl, rfl, rfl, rfl, rfl⟩ rfl rfl rfl rfl rfl (by kernel_rfl) Tryz.func3 (by kernel_rfl)
    (of_decide_eq_true (by kernel_rfl)) (by unfold Func.isWrapper; first | (rw [if_pos (by decide +kernel)]; kernel_rfl) | (rw [if_neg (by decide +kernel)]; exact ⟨rfl, rfl⟩))
    (fun os started H enc _ => fracNames_lifted os started H enc)

theorem fracNames_holds : Rows.FracNamesCardSaid :=
  Claim7.holds_tied_plain_at .later [] [.data, .data, .data, .data, .sentinel, .sentinel, .pinned] true (Rows.fracNamesCard.stood.harness) true
    fracNames_row (fun _ h => by cases h) (by kernel_rfl) (fun _ h => by cases h) fracNames_row_tie rfl ⟨rfl, rfl⟩ (by kernel_rfl) rfl
    (fun f fn hf hfn => by
      obtain rfl : f = 3 := Option.some.inj ((show Tryz.prog.funcNamed "planisphere/planispherelaw02.FracNames" = some 3 by kernel_rfl).symm.trans hf) |>.symm
      obtain rfl : fn = Tryz.f3 := (Option.some.inj (Tryz.func3.symm.trans hfn)).symm
      exact ⟨by kernel_rfl, fun j t ht => by
        rw [Tryz.params3] at ht
        simp at ht⟩)
    (by kernel_rfl)
end Go.Proofs.YtoigmcggkanncaaGreatDoor

