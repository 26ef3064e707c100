/-
  The contract of bits.Len32: how many binary digits a uint32 has.
-/
import Derived.Test.YtdbilpmhejigpaaBase
import Derived.Shelf.Strconv.Itoa0
import Derived.Lib.Strings
import Derived.Lib.Slices
import Derived.Lib.Small
import Derived.Lib.Walk
import Derived.Lib.BitFns
namespace Go.Proofs.Ytdbilpmhejigpaa
open Go.RowKit
set_option maxRecDepth 100000 in
set_option maxHeartbeats 400000 in
theorem len32_a (w : World) (x : Int) (h0 : 16777216 ≤ x) (h1 : x ≤ 4294967295) :
    Calls Try.prog 68 #[.int .u32 x] w fun e w' => e = .returned (.int .i64 (Lib.bitLen x.toNat)) ∧ w = w' := by
  have hT : ∀ w, (Instr.index 9 (.string Lib.len8tab) (.int .u8 (x / 65536 / 256))).run Try.prog w = .ok (.int .u8 (Lib.len8 (x / 65536 / 256))) w := fun w => Lib.run_index_len8tab w 9 .u8 (x / 65536 / 256) Try.underlying9 (by omega) (by omega)
  have hE : Hid (Lib.len8 (x / 65536 / 256) = Lib.bitLen (x / 65536 / 256).toNat) := Lib.len8_of (x / 65536 / 256) (by omega) (by omega)
  have hL := Lib.hid (Lib.bitLen_le8' (x / 65536 / 256) (by omega) (by omega))
  have hs := Lib.hid (Lib.bitLen_shift24 x.toNat (by omega) (by omega))
  have he : Hid ((x / 65536 / 256).toNat = x.toNat / 16777216) := by show _ = _; omega
  go_enter Try.func68, Try.ntmps68
  go_wp2
  go_ret
  refine ⟨ret_int ?_, rfl⟩
  rw [hE.out]
  have l := hL.out
  have s := hs.out
  rw [he.out] at l ⊢
  unfold wrap64
  omega
set_option maxRecDepth 100000 in
set_option maxHeartbeats 400000 in
theorem len32_b (w : World) (x : Int) (h0 : 65536 ≤ x) (h1 : x < 16777216) :
    Calls Try.prog 68 #[.int .u32 x] w fun e w' => e = .returned (.int .i64 (Lib.bitLen x.toNat)) ∧ w = w' := by
  have hT : ∀ w, (Instr.index 9 (.string Lib.len8tab) (.int .u8 (x / 65536))).run Try.prog w = .ok (.int .u8 (Lib.len8 (x / 65536))) w := fun w => Lib.run_index_len8tab w 9 .u8 (x / 65536) Try.underlying9 (by omega) (by omega)
  have hE : Hid (Lib.len8 (x / 65536) = Lib.bitLen (x / 65536).toNat) := Lib.len8_of (x / 65536) (by omega) (by omega)
  have hL := Lib.hid (Lib.bitLen_le8' (x / 65536) (by omega) (by omega))
  have hs := Lib.hid (Lib.bitLen_shift16 x.toNat (by omega) (by omega))
  have he : Hid ((x / 65536).toNat = x.toNat / 65536) := by show _ = _; omega
  go_enter Try.func68, Try.ntmps68
  go_wp2
  go_ret
  refine ⟨ret_int ?_, rfl⟩
  rw [hE.out]
  have l := hL.out
  have s := hs.out
  rw [he.out] at l ⊢
  unfold wrap64
  omega
set_option maxRecDepth 100000 in
set_option maxHeartbeats 400000 in
theorem len32_c (w : World) (x : Int) (h0 : 256 ≤ x) (h1 : x < 65536) :
    Calls Try.prog 68 #[.int .u32 x] w fun e w' => e = .returned (.int .i64 (Lib.bitLen x.toNat)) ∧ w = w' := by
  have hT : ∀ w, (Instr.index 9 (.string Lib.len8tab) (.int .u8 (x / 256))).run Try.prog w = .ok (.int .u8 (Lib.len8 (x / 256))) w := fun w => Lib.run_index_len8tab w 9 .u8 (x / 256) Try.underlying9 (by omega) (by omega)
  have hE : Hid (Lib.len8 (x / 256) = Lib.bitLen (x / 256).toNat) := Lib.len8_of (x / 256) (by omega) (by omega)
  have hL := Lib.hid (Lib.bitLen_le8' (x / 256) (by omega) (by omega))
  have hs := Lib.hid (Lib.bitLen_shift8 x.toNat (by omega) (by omega))
  have he : Hid ((x / 256).toNat = x.toNat / 256) := by show _ = _; omega
  go_enter Try.func68, Try.ntmps68
  go_wp2
  go_ret
  refine ⟨ret_int ?_, rfl⟩
  rw [hE.out]
  have l := hL.out
  have s := hs.out
  rw [he.out] at l ⊢
  unfold wrap64
  omega
set_option maxRecDepth 100000 in
set_option maxHeartbeats 400000 in
theorem len32_d (w : World) (x : Int) (h0 : 0 ≤ x) (h1 : x < 256) :
    Calls Try.prog 68 #[.int .u32 x] w fun e w' => e = .returned (.int .i64 (Lib.bitLen x.toNat)) ∧ w = w' := by
  have hT : ∀ w, (Instr.index 9 (.string Lib.len8tab) (.int .u8 (x))).run Try.prog w = .ok (.int .u8 (Lib.len8 (x))) w := fun w => Lib.run_index_len8tab w 9 .u8 (x) Try.underlying9 (by omega) (by omega)
  have hE : Hid (Lib.len8 (x) = Lib.bitLen (x).toNat) := Lib.len8_of (x) (by omega) (by omega)
  have hL := Lib.hid (Lib.bitLen_le8' (x) (by omega) (by omega))
  go_enter Try.func68, Try.ntmps68
  go_wp2
  go_ret
  refine ⟨ret_int ?_, rfl⟩
  rw [hE.out]
  have l := hL.out
  unfold wrap64
  omega
theorem len32_any (w : World) (x : Int) (h0 : 0 ≤ x) (h1 : x ≤ 4294967295) :
    Calls Try.prog 68 #[.int .u32 x] w fun e w' => e = .returned (.int .i64 (Lib.bitLen x.toNat)) ∧ w = w' := by
  by_cases a : 16777216 ≤ x
  · exact len32_a w x a h1
  by_cases b : 65536 ≤ x
  · exact len32_b w x b (by omega)
  by_cases c : 256 ≤ x
  · exact len32_c w x c (by omega)
  exact len32_d w x h0 (by omega)
end Go.Proofs.Ytdbilpmhejigpaa
