/- wide.Add and wide.Sub: the contracts. -/
import Derived.Test.YtdbilpmhejigpaaJoin
namespace Go.Proofs.Ytdbilpmhejigpaa
open Go.RowKit

def RZ (w : World) (z : Int) : Ending → World → Prop := RW w (mkN (decide (z < 0)) z.natAbs) (mkL z.natAbs) (mkE z.natAbs)
theorem toI_abs (neg : Bool) (v : Nat) : (toI neg v).natAbs = v := by unfold toI; cases neg <;> simp
theorem toI_neg (neg : Bool) (v : Nat) : mkN (decide (toI neg v < 0)) v = mkN neg v := by
  have h : (decide (toI neg v < 0) && decide (v ≠ 0)) = (neg && decide (v ≠ 0)) := by
    unfold toI
    cases neg
    · rw [if_neg (by simp), decide_eq_false (by omega)]
    · rw [if_pos rfl]
      rcases Nat.eq_zero_or_pos v with h | h
      · subst h; rfl
      · rw [decide_eq_true (show -(v : Int) < 0 by omega)]
  unfold mkN
  rw [h]
theorem rz_of (w : World) (neg : Bool) (v : Nat) {z : Int} (h : z = toI neg v) : RW w (mkN neg v) (mkL v) (mkE v) = RZ w z := by
  subst h
  unfold RZ
  rw [toI_abs, toI_neg]
theorem toI_same {na nb : Bool} (h : na = nb) (a b : Nat) : toI na a + toI nb b = toI na (a + b) := by subst h; unfold toI; cases na <;> simp <;> omega
theorem toI_less {na nb : Bool} (h : na ≠ nb) {a b : Nat} (hl : a < b) : toI na a + toI nb b = toI (!na) (b - a) := by unfold toI; cases na <;> cases nb <;> simp_all <;> omega
theorem toI_more {na nb : Bool} (h : na ≠ nb) {a b : Nat} (hl : b ≤ a) : toI na a + toI nb b = toI na (a - b) := by unfold toI; cases na <;> cases nb <;> simp_all <;> omega
theorem toI_not (nb : Bool) (b : Nat) : toI (!nb) b = - toI nb b := by unfold toI; cases nb <;> simp
theorem toI_mul (na nb : Bool) (a b : Nat) : toI na a * toI nb b = toI (na != nb) (a * b) := by unfold toI; cases na <;> cases nb <;> simp [Int.mul_neg, Int.neg_mul]

theorem same_any (s o : Bool) (w : World) : Calls Try.prog 33 #[.bool s, .bool o] w fun e w' => e = .returned (.bool (s == o)) ∧ w = w' := by
  go_enter Try.func33, Try.ntmps33
  go_wp2
  go_ret
  exact ⟨rfl, rfl⟩
theorem differs_any (s o : Bool) (w : World) : Calls Try.prog 36 #[.bool s, .bool o] w fun e w' => e = .returned (.bool (s != o)) ∧ w = w' := by
  go_enter Try.func36, Try.ntmps36
  go_wp2
  go_ret
  exact ⟨rfl, rfl⟩

theorem join_ok (w : World) (K : FuncId) (na nb g : Bool) (A B : Option Addr) (n m ca cb a b : Nat) (z : Int) (hA : Lm w w.heap.size A n ca (digs a)) (hB : Lm w w.heap.size B m cb (digs b)) (hv : chkB na (digs a) nb (digs b) = 0)
    (hR : ∀ w, Sem.run Try.prog (callFunc K #[.bool na, .bool nb]) w = .ok (.enter K #[.bool na, .bool nb]) w) (hK : ∀ w, Calls Try.prog K #[.bool na, .bool nb] w fun e w' => e = .returned (.bool g) ∧ w = w')
    (hz : z = toI na a + toI (if g = true then na else !na) b) :
    Calls Try.prog 32 #[.agg #[.bool na, .slice A n ca], .agg #[.bool nb, .slice B m cb], .func (.func K) #[.bool na] #[]] w (RZ w z) := by
  cases g
  · by_cases hl : a < b
    · rw [← rz_of w (!na) (b - a) (by rw [hz, toI_less (by cases na <;> simp) hl])]
      exact join_less w K na nb A B n m ca cb a b hA hB hv hl hR hK
    · rw [← rz_of w na (a - b) (by rw [hz, toI_more (by cases na <;> simp) (by omega)])]
      exact join_more w K na nb A B n m ca cb a b hA hB hv (by omega) hR hK
  · rw [← rz_of w na (a + b) (by rw [hz, toI_same (by simp)])]
    exact join_grow w K na nb A B n m ca cb a b hA hB hv hR hK

set_option maxRecDepth 100000 in
set_option maxHeartbeats 600000 in
theorem add_ok (w : World) (na nb : Bool) (A B : Option Addr) (n m ca cb a b : Nat) (hA : Lm w w.heap.size A n ca (digs a)) (hB : Lm w w.heap.size B m cb (digs b)) (hv : chkB na (digs a) nb (digs b) = 0) :
    Calls Try.prog 7 #[.agg #[.bool na, .slice A n ca], .agg #[.bool nb, .slice B m cb]] w (RZ w (toI na a + toI nb b)) := by
  have hmf : ∀ (fn : Fn) (first cap : Array Value) (w : World), (Instr.makeFunc fn first cap).run Try.prog w = .ok (.func fn first cap) w := fun _ _ _ _ => rfl
  have HA := Lib.hid hA
  have HB := Lib.hid hB
  have HV := Lib.hid hv
  clear hv
  go_enter Try.func7, Try.ntmps7
  go_wp2_with (go_at_call 32; refine (join_ok _ 33 na nb (na == nb) _ _ _ _ _ _ a b (toI na a + toI nb b) (((HA.out.box _).box _).box _) (((HB.out.box _).box _).box _) HV.out (fun _ => by kernel_rfl) (same_any na nb) (by cases na <;> cases nb <;> rfl)).mono ?_; rintro e w1 ⟨A1, n1, c1, rfl, hL1, hb1⟩; have ⟨hx0, hx1, hy0, hy1, hz0, hz1, hf0, hf1, hsz⟩ := box3 hb1)
  exact post_ws Try.results7 rfl rfl hz0 hz1 ⟨A1, n1, c1, rfl, hL1.set2 hz0 hz1 _ _, below_set2 (bbox (bbox (bbox hb1))) (by omega) _ _⟩

set_option maxRecDepth 100000 in
set_option maxHeartbeats 600000 in
theorem add_bad (w : World) (na nb : Bool) (A B : Option Addr) (n m ca cb : Nat) (xs ys : List Nat) (hA : Lm w w.heap.size A n ca xs) (hB : Lm w w.heap.size B m cb ys) (hv : chkB na xs nb ys = 8) :
    Calls Try.prog 7 #[.agg #[.bool na, .slice A n ca], .agg #[.bool nb, .slice B m cb]] w (RW w false [] 8) := by
  have hmf : ∀ (fn : Fn) (first cap : Array Value) (w : World), (Instr.makeFunc fn first cap).run Try.prog w = .ok (.func fn first cap) w := fun _ _ _ _ => rfl
  have HA := Lib.hid hA
  have HB := Lib.hid hB
  have HV := Lib.hid hv
  clear hv
  go_enter Try.func7, Try.ntmps7
  go_wp2_with (go_at_call 32; refine (join_bad _ _ na nb _ _ _ _ _ _ _ _ (((HA.out.box _).box _).box _) (((HB.out.box _).box _).box _) HV.out).mono ?_; rintro e w1 ⟨A1, n1, c1, rfl, hL1, hb1⟩; have ⟨hx0, hx1, hy0, hy1, hz0, hz1, hf0, hf1, hsz⟩ := box3 hb1)
  exact post_ws Try.results7 rfl rfl hz0 hz1 ⟨A1, n1, c1, rfl, hL1.set2 hz0 hz1 _ _, below_set2 (bbox (bbox (bbox hb1))) (by omega) _ _⟩

set_option maxRecDepth 100000 in
set_option maxHeartbeats 600000 in
theorem sub_ok (w : World) (na nb : Bool) (A B : Option Addr) (n m ca cb a b : Nat) (hA : Lm w w.heap.size A n ca (digs a)) (hB : Lm w w.heap.size B m cb (digs b)) (hv : chkB na (digs a) nb (digs b) = 0) :
    Calls Try.prog 9 #[.agg #[.bool na, .slice A n ca], .agg #[.bool nb, .slice B m cb]] w (RZ w (toI na a - toI nb b)) := by
  have hmf : ∀ (fn : Fn) (first cap : Array Value) (w : World), (Instr.makeFunc fn first cap).run Try.prog w = .ok (.func fn first cap) w := fun _ _ _ _ => rfl
  have HA := Lib.hid hA
  have HB := Lib.hid hB
  have HV := Lib.hid hv
  clear hv
  go_enter Try.func9, Try.ntmps9
  go_wp2_with (go_at_call 32; refine (join_ok _ 36 na nb (na != nb) _ _ _ _ _ _ a b (toI na a - toI nb b) (((HA.out.box _).box _).box _) (((HB.out.box _).box _).box _) HV.out (fun _ => by kernel_rfl) (differs_any na nb) (by rw [Int.sub_eq_add_neg, ← toI_not]; cases na <;> cases nb <;> rfl)).mono ?_; rintro e w1 ⟨A1, n1, c1, rfl, hL1, hb1⟩; have ⟨hx0, hx1, hy0, hy1, hz0, hz1, hf0, hf1, hsz⟩ := box3 hb1)
  exact post_ws Try.results9 rfl rfl hz0 hz1 ⟨A1, n1, c1, rfl, hL1.set2 hz0 hz1 _ _, below_set2 (bbox (bbox (bbox hb1))) (by omega) _ _⟩

set_option maxRecDepth 100000 in
set_option maxHeartbeats 600000 in
theorem sub_bad (w : World) (na nb : Bool) (A B : Option Addr) (n m ca cb : Nat) (xs ys : List Nat) (hA : Lm w w.heap.size A n ca xs) (hB : Lm w w.heap.size B m cb ys) (hv : chkB na xs nb ys = 8) :
    Calls Try.prog 9 #[.agg #[.bool na, .slice A n ca], .agg #[.bool nb, .slice B m cb]] w (RW w false [] 8) := by
  have hmf : ∀ (fn : Fn) (first cap : Array Value) (w : World), (Instr.makeFunc fn first cap).run Try.prog w = .ok (.func fn first cap) w := fun _ _ _ _ => rfl
  have HA := Lib.hid hA
  have HB := Lib.hid hB
  have HV := Lib.hid hv
  clear hv
  go_enter Try.func9, Try.ntmps9
  go_wp2_with (go_at_call 32; refine (join_bad _ _ na nb _ _ _ _ _ _ _ _ (((HA.out.box _).box _).box _) (((HB.out.box _).box _).box _) HV.out).mono ?_; rintro e w1 ⟨A1, n1, c1, rfl, hL1, hb1⟩; have ⟨hx0, hx1, hy0, hy1, hz0, hz1, hf0, hf1, hsz⟩ := box3 hb1)
  exact post_ws Try.results9 rfl rfl hz0 hz1 ⟨A1, n1, c1, rfl, hL1.set2 hz0 hz1 _ _, below_set2 (bbox (bbox (bbox hb1))) (by omega) _ _⟩

end Go.Proofs.Ytdbilpmhejigpaa
