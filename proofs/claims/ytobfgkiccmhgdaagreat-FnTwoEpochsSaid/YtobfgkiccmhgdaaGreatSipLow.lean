/- Little-endian words: the model's l10Low, impl's littleWord. Nothing here is a claim. -/
import Derived.Test.YtobfgkiccmhgdaaGreatSipKit
namespace Go.Proofs.YtobfgkiccmhgdaaGreat
open Go.RowKit Go.Lib

/-- A byte of a text as a word. -/
def by64 (s : ByteArray) (i : Nat) : BitVec 64 := BitVec.ofNat 64 (at8 s i).toNat
/-- k bytes from a on, the lowest first. -/
def le (s : ByteArray) (a : Nat) : Nat → BitVec 64
  | 0 => 0
  | k + 1 => le s a k ||| (by64 s (a + k) <<< (8 * k))
theorem le_down (s : ByteArray) (a : Nat) : ∀ k, le s a (k + 1) = (le s (a + 1) k <<< 8) ||| by64 s a
  | 0 => by simp [le]
  | k + 1 => by
    rw [le, le_down s a k]
    show _ = (le s (a + 1) k ||| (by64 s (a + 1 + k) <<< (8 * k))) <<< 8 ||| _
    rw [BitVec.shiftLeft_or_distrib, ← BitVec.shiftLeft_add, BitVec.or_assoc, BitVec.or_assoc, BitVec.or_comm (by64 s a), show a + (k + 1) = a + 1 + k by omega, show 8 * (k + 1) = 8 * k + 8 by omega]
theorem le_extract (s : ByteArray) (a b : Nat) : ∀ k, a + k ≤ b → le (s.extract a b) 0 k = le s a k
  | 0, _ => rfl
  | k + 1, h => by
    rw [le, le, le_extract s a b k (by omega)]
    unfold by64
    rw [Nat.zero_add, at8_extract s a b k (by omega)]
theorem by_n64 (s : ByteArray) (i : Nat) (h : i < s.size) : ((s[i].toNat : Nat) : Int) = n64 (by64 s i) := by
  rw [at8_eq s i h]
  have := (at8 s i).toNat_lt
  unfold n64 by64
  rw [BitVec.toNat_ofNat]
  omega
theorem shl8 (x : BitVec 64) : IntKind.u64.wrap (n64 x * 256) = n64 (x <<< 8) := shl64 x 8

set_option maxHeartbeats 400000 in
theorem lowS (s : ByteArray) (hs : s.size ≤ 1000) (w : World) : Calls Tryz.prog 68 #[.string s] w fun e w' => e = .returned (.int .u64 (n64 (le s 0 s.size))) ∧ w' = w := by
  go_enter Tryz.func68, Tryz.ntmps68
  go_wp2_with fail
  go_loop [3, 4] (fun m i => ∃ k : Nat, k ≤ s.size ∧ i = .int .i64 ((k : Int) - 1) ∧ m = .int .u64 (n64 (le s k (s.size - k))))
    (fun _ i => (RowKit.intOf i + 1).toNat)
  case atStart => exact ⟨s.size, Nat.le_refl _, by go_num, by rw [Nat.sub_self]; rfl⟩
  case round =>
    obtain ⟨k, hk, rfl, rfl⟩ := hrel
    by_cases hlt : 0 < k
    · obtain ⟨j, rfl⟩ : ∃ j, k = j + 1 := ⟨k - 1, by omega⟩
      have hb := by_n64 s j (by omega)
      have E : Hid (bits .or .u64 (IntKind.u64.wrap (n64 (le s (j + 1) (s.size - (j + 1))) * 256)) (IntKind.u64.wrap (n64 (by64 s j))) = n64 (le s j (s.size - j))) := by
        show _ = _
        rw [shl8, wrap_n64, or64, show s.size - j = s.size - (j + 1) + 1 by omega, le_down]
      go_wp2_with fail
      rw [E.out]
      go_round
      case rel => exact ⟨j, by omega, by go_num, rfl⟩
      case measure => simp [RowKit.intOf]
    · obtain rfl : k = 0 := by omega
      go_wp2_with fail
      go_ret
      exact ⟨rfl, rfl⟩
set_option maxHeartbeats 400000 in
theorem lowI (s : ByteArray) (hs : s.size ≤ 8) (w : World) : Calls Tryz.prog 64 #[.string s] w fun e w' => e = .returned (.int .u64 (n64 (le s 0 s.size))) ∧ w' = w := by
  go_enter Tryz.func64, Tryz.ntmps64
  go_wp2_with fail
  go_loop [3, 7] (fun m i => ∃ k : Nat, k ≤ s.size ∧ i = .int .i64 k ∧ m = .int .u64 (n64 (le s 0 k)))
    (fun _ i => s.size - (RowKit.intOf i).toNat)
  case atStart => exact ⟨0, Nat.zero_le _, rfl, rfl⟩
  case round =>
    obtain ⟨k, hk, rfl, rfl⟩ := hrel
    by_cases hlt : k < s.size
    · have hb := by_n64 s k hlt
      have hsh : Op.shift .shl .u64 (IntKind.u64.wrap (n64 (by64 s k))) .i64 (8 * (k : Int)) = pure (.int .u64 (IntKind.u64.wrap (IntKind.u64.wrap (n64 (by64 s k)) * 2 ^ (8 * k)))) := by
        rw [shift_shl_any _ _ _ _ (by omega), show min (8 * (k : Int)).toNat IntKind.u64.bits = 8 * k by show min (8 * (k : Int)).toNat 64 = 8 * k; omega]
      have E : Hid (bits .or .u64 (n64 (le s 0 k)) (IntKind.u64.wrap (IntKind.u64.wrap (n64 (by64 s k)) * 2 ^ (8 * k))) = n64 (le s 0 (k + 1))) := by
        show _ = _
        rw [wrap_n64, shl64, or64, le, Nat.zero_add]
      go_wp2_with fail
      rw [E.out]
      go_round
      case rel => exact ⟨k + 1, by omega, by go_num, rfl⟩
      case measure => simp [RowKit.intOf]; omega
    · obtain rfl : k = s.size := by omega
      go_wp2_with fail
      go_ret
      exact ⟨rfl, rfl⟩
end Go.Proofs.YtobfgkiccmhgdaaGreat
