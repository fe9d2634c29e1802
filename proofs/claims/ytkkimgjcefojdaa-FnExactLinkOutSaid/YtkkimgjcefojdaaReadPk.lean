/- ReadPacket, of the model and of the program: one contract each. Nothing here is a claim. -/
import Derived.Test.YtkkimgjcefojdaaReadPkI
import Derived.Test.YtkkimgjcefojdaaReadPkS
namespace Go.Proofs.Ytkkimgjcefojdaa
open Go.RowKit Go.Lib

/-- What ReadPacket answers. -/
def rkF (s : ByteArray) (n : Int) : Int := if pkWhy s = 0 then n else 0
def rkS (s : ByteArray) : Int := rkF s (gw s 12 4 : Nat)
def rkD (s : ByteArray) : Int := rkF s (gw s 16 4 : Nat)
def rkT (s : ByteArray) : Int := rkF s (at8 s 8).toNat
def rkP (s : ByteArray) : Int := rkF s (at8 s 9).toNat
def rkI (s : ByteArray) : Int := rkF s (gw s 4 2 : Nat)
def rkB (s : ByteArray) : ByteArray := if pkWhy s = 0 then s.extract 20 (gw s 2 2) else ⟨#[]⟩
def rkV (s : ByteArray) : Value := .tuple #[.agg #[.int .i64 (rkS s), .int .i64 (rkD s), .int .i64 (rkT s), .int .i64 (rkP s), .int .i64 (rkI s), .string (rkB s)], .int .i64 (pkWhy s : Nat)]
theorem rkV_yes (s : ByteArray) (h : pkWhy s = 0) : rkV s = .tuple #[.agg #[.int .i64 (gw s 12 4 : Nat), .int .i64 (gw s 16 4 : Nat), .int .i64 (at8 s 8).toNat, .int .i64 (at8 s 9).toNat, .int .i64 (gw s 4 2 : Nat), .string (s.extract 20 (gw s 2 2))], .int .i64 0] := by
  unfold rkV rkS rkD rkT rkP rkI rkB rkF; simp only [h, if_true]; rfl
theorem rkV_no (s : ByteArray) (k : Nat) (h : pkWhy s = k) (h0 : ¬ k = 0) : rkV s = .tuple #[.agg #[.int .i64 0, .int .i64 0, .int .i64 0, .int .i64 0, .int .i64 0, .string ⟨#[]⟩], .int .i64 k] := by
  unfold rkV rkS rkD rkT rkP rkI rkB rkF; simp only [h, h0, if_false]
/-- What is known of a text that begins with a packet. -/
theorem pkWhy_zero {s : ByteArray} (h : pkWhy s = 0) : 20 ≤ s.size ∧ (at8 s 0).toNat = 69 ∧ sumRight (s.extract 0 20) = true ∧ (20 ≤ gw s 2 2 ∧ gw s 2 2 ≤ s.size ∧ gw s 2 2 ≤ 1500) ∧ (gw s 6 2 = 0 ∨ gw s 6 2 = 16384) ∧ ¬ (at8 s 8).toNat = 0 := by
  unfold pkWhy at h
  split at h
  · omega
  split at h
  · omega
  split at h
  · omega
  rename_i h3
  split at h
  · omega
  split at h
  · omega
  split at h
  · omega
  exact ⟨by omega, by omega, by simpa using h3, by omega, by omega, by assumption⟩

end Go.Proofs.Ytkkimgjcefojdaa
