/- Rotations: math/bits.RotateLeft64, the model's and the laws' own. Nothing here is a claim. -/
import Derived.Test.YtobfgkiccmhgdaaGreatSipKit
namespace Go.Proofs.YtobfgkiccmhgdaaGreat
open Go.RowKit Go.Lib

theorem rot_or (x : BitVec 64) (k : Nat) (hk : k < 64) : bits .or .u64 (IntKind.u64.wrap (n64 x * 2 ^ k)) (n64 x / 2 ^ (64 - k)) = n64 (x.rotateLeft k) := by
  rw [shl64, shr64, or64, BitVec.rotateLeft_def, Nat.mod_eq_of_lt hk]
theorem rot_ro (x : BitVec 64) (k : Nat) (hk : k < 64) : bits .or .u64 (n64 x / 2 ^ k) (IntKind.u64.wrap (n64 x * 2 ^ (64 - k))) = n64 (x.rotateRight k) := by
  rw [shl64, shr64, or64, BitVec.rotateRight_def, Nat.mod_eq_of_lt hk]
theorem and63_all : ∀ k : Fin 64, bits .and .u64 (k.val : Int) 63 = (k.val : Int) := by decide +kernel

set_option maxRecDepth 100000 in
set_option maxHeartbeats 400000 in
theorem rotS (x : BitVec 64) (k : Nat) (hk : 0 < k ∧ k < 64) (w : World) : Calls Tryz.prog 78 #[.int .u64 (n64 x), .int .u64 k] w fun e w' => e = .returned (.int .u64 (n64 (x.rotateLeft k))) ∧ w' = w := by
  rw [← rot_or x k hk.2]
  go_enter Tryz.func78, Tryz.ntmps78
  go_wp2
  go_ret
  exact ⟨rfl, rfl⟩
set_option maxRecDepth 100000 in
set_option maxHeartbeats 400000 in
theorem rotI (x : BitVec 64) (k : Nat) (hk : 0 < k ∧ k < 64) (w : World) : Calls Tryz.prog 80 #[.int .u64 (n64 x), .int .i64 k] w fun e w' => e = .returned (.int .u64 (n64 (x.rotateLeft k))) ∧ w' = w := by
  rw [← rot_or x k hk.2]
  have e1 : IntKind.u64.wrap (k : Int) = k := by rw [IntKind.wrap_u64]; omega
  have e2 : bits .and .u64 (k : Int) 63 = k := and63_all ⟨k, hk.2⟩
  go_enter Tryz.func80, Tryz.ntmps80
  go_wp2
  go_ret
  exact ⟨rfl, rfl⟩
end Go.Proofs.YtobfgkiccmhgdaaGreat
