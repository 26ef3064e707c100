/- Both sides return the same, whatever it is. -/
import Derived.Test.YtdbilpmhejigpaaReT
namespace Go.Proofs.Ytdbilpmhejigpaa
open Go.RowKit

def Twos (f : FuncId) (na nb : Bool) (xs ys : List Nat) (N : Bool) (l : List Nat) (E : Int) : Prop := ∀ (W : World) (A B : Option Addr) (n m ca cb : Nat), Lm W W.heap.size A n ca xs → Lm W W.heap.size B m cb ys →
  Calls Try.prog f #[.agg #[.bool na, .slice A n ca], .agg #[.bool nb, .slice B m cb]] W (RW W N l E)
def Twos2 (f : FuncId) (na nb : Bool) (xs ys : List Nat) (N : Bool) (l : List Nat) (N' : Bool) (l' : List Nat) (E : Int) : Prop := ∀ (W : World) (A B : Option Addr) (n m ca cb : Nat), Lm W W.heap.size A n ca xs → Lm W W.heap.size B m cb ys →
  Calls Try.prog f #[.agg #[.bool na, .slice A n ca], .agg #[.bool nb, .slice B m cb]] W (RWW W N l N' l' E)
theorem add_pair (na nb : Bool) (xs ys : List Nat) : ∃ N l E, Twos 7 na nb xs ys N l E ∧ Twos 8 na nb xs ys N l E :=
  ⟨_, _, _, fun W A B n m ca cb h1 h2 => add_t W na nb A B n m ca cb xs ys h1 h2, fun W A B n m ca cb h1 h2 => radd_t W na nb A B n m ca cb xs ys h1 h2⟩
theorem sub_pair (na nb : Bool) (xs ys : List Nat) : ∃ N l E, Twos 9 na nb xs ys N l E ∧ Twos 10 na nb xs ys N l E :=
  ⟨_, _, _, fun W A B n m ca cb h1 h2 => sub_t W na nb A B n m ca cb xs ys h1 h2, fun W A B n m ca cb h1 h2 => rsub_t W na nb A B n m ca cb xs ys h1 h2⟩
theorem mul_pair (na nb : Bool) (xs ys : List Nat) : ∃ N l E, Twos 11 na nb xs ys N l E ∧ Twos 12 na nb xs ys N l E :=
  ⟨_, _, _, fun W A B n m ca cb h1 h2 => mul_t W na nb A B n m ca cb xs ys h1 h2, fun W A B n m ca cb h1 h2 => rmul_t W na nb A B n m ca cb xs ys h1 h2⟩
theorem divmod_pair (na nb : Bool) (xs ys : List Nat) : ∃ N l N' l' E, Twos2 13 na nb xs ys N l N' l' E ∧ Twos2 14 na nb xs ys N l N' l' E :=
  ⟨_, _, _, _, _, fun W A B n m ca cb h1 h2 => divmod_t W na nb A B n m ca cb xs ys h1 h2, fun W A B n m ca cb h1 h2 => rdivmod_t W na nb A B n m ca cb xs ys h1 h2⟩
end Go.Proofs.Ytdbilpmhejigpaa
