/- Plain words on reading a packet (chapter 7 of the document). Nothing here is a claim. -/
import Derived.Test.YtedndifhnmhgpaaDoorPacketKit
namespace Go.Proofs.YtedndifhnmhgpaaDoor
open Go.RowKit Go.Lib

/-- The first reason why s is no packet; 0 if it begins with one. -/
def pkWhy (s : ByteArray) : Nat :=
  if s.size < 20 then 1 else if ¬ (at8 s 0).toNat = 69 then 2 else if sumRight (s.extract 0 20) = false then 3
  else if ¬ (20 ≤ gw s 2 2 ∧ gw s 2 2 ≤ s.size ∧ gw s 2 2 ≤ 1500) then 4 else if ¬ (gw s 6 2 = 0 ∨ gw s 6 2 = 16384) then 5 else if (at8 s 8).toNat = 0 then 6 else 0
theorem pkWhy_le (s : ByteArray) : pkWhy s ≤ 6 := by unfold pkWhy; repeat' split
                                                     all_goals omega
theorem and191_all : ∀ n : Fin 256, (bits .and .u8 (n.val : Int) 191 = 0 ↔ (n.val = 0 ∨ n.val = 64)) := by decide +kernel
theorem and191 (n : Nat) (h : n < 256) : bits .and .u8 (n : Int) 191 = 0 ↔ (n = 0 ∨ n = 64) := and191_all ⟨n, h⟩
theorem gw2 (s : ByteArray) (a : Nat) : gw s a 2 = 256 * (at8 s a).toNat + (at8 s (a + 1)).toNat := by simp [gw]
theorem frag_bytes (s : ByteArray) : (gw s 6 2 = 0 ∨ gw s 6 2 = 16384) ↔ (bits .and .u8 ((at8 s 6).toNat : Int) 191 = 0 ∧ (at8 s 7).toNat = 0) := by
  have h1 := (at8 s 6).toNat_lt
  have h2 := (at8 s 7).toNat_lt
  have e : gw s 6 2 = 256 * (at8 s 6).toNat + (at8 s 7).toNat := gw2 s 6
  rw [e, and191 _ h1]
  omega
end Go.Proofs.YtedndifhnmhgpaaDoor
