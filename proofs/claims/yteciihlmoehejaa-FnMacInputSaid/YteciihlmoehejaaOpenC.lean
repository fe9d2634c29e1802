/- A slice of bytes that came in, with its capacity. Nothing here is a claim. -/
import Derived.Test.YteciihlmoehejaaOpen
namespace Go.Proofs.Yteciihlmoehejaa
open Go.ChangeShapes Go.WideShapes Go.RowKit Go.Lib

/-- What the walk is told of a []byte and of its capacity. -/
def IsBytesC (w : World) (a : Option Addr) (len cap : Nat) (bs : List UInt8) : Prop := IsBytes w a len bs ∧ len ≤ cap ∧ cap ≤ maxLen
theorem openBytesC {H : Type} {enc : TypeId × Value → H} {P : Program} {w : World} {t e : TypeId} {fuel : Nat} {a : Option Addr} {len cap : Nat} {x : DataW H × List MemPlace} (ht : P.underlying t = some (.slice e)) (he : P.underlying e = some (.int .u8)) (hc : P.cellsOf e = 1)
    (h : DataW.trod enc P w 0 (fun _ => true) true fuel t (Value.slice a len cap).cells.toList = some x) : ∃ bs : List UInt8, IsBytesC w a len cap bs := by
  have hlc : len ≤ cap ∧ cap ≤ maxLen := by
    rcases open_ints ht he hc h with ⟨hcs, _⟩ | ⟨y, l, c, zs, hcs, _, hl, hm, _⟩
    · simp [Value.cells] at hcs
      obtain ⟨rfl, rfl, rfl⟩ := hcs
      exact ⟨Nat.le_refl _, Nat.zero_le _⟩
    · simp [Value.cells] at hcs
      obtain ⟨rfl, rfl, rfl⟩ := hcs
      exact ⟨hl, hm⟩
  obtain ⟨bs, hb⟩ := openBytes ht he hc h
  exact ⟨bs, hb, hlc⟩
end Go.Proofs.Yteciihlmoehejaa
