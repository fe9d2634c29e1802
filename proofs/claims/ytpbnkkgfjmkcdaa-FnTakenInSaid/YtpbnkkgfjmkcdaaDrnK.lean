/- Rows that a draw holds: pieces, bytes. Nothing here is a claim. -/
import Derived.Test.YtpbnkkgfjmkcdaaRcvTakeK
import Derived.Test.YtpbnkkgfjmkcdaaCurO
namespace Go.Proofs.Ytpbnkkgfjmkcdaa
open Go.RowKit Go.Lib

theorem own_g {w w' : World} {base size n g : Nat} {e : TypeId} {v : Value} {xs : List Value} (h : w.ownsRow base e size v n xs) (hb : g < base) (hg : w.grownBy w' (some g)) : w'.ownsRow base e size v n xs :=
  h.kept hg (.inr (fun e => by have := (h.lt _ e).1; omega))
/-- The pieces of a drawn receiver: their row is new or there is none. -/
def DrnP (base g : Nat) (a : Option Addr) (cap : Nat) (rs : List HP) (w : World) : Prop := w.ownsRow base 64 2 (.slice a rs.length cap) rs.length (hps rs) ∧ g < base
theorem DrnP.grown {base g cap : Nat} {a : Option Addr} {rs : List HP} {w w' : World} (h : DrnP base g a cap rs w) (hg : w.grownBy w' (some g)) : DrnP base g a cap rs w' := ⟨own_g h.1 h.2 hg, h.2⟩
theorem DrnP.below {base g cap : Nat} {a : Option Addr} {rs : List HP} {w w' : World} (h : DrnP base g a cap rs w) (hb : Below w.heap.size w w') : DrnP base g a cap rs w' := ⟨own_below h.1 hb, h.2⟩
theorem DrnP.alloc {base g cap : Nat} {a : Option Addr} {rs : List HP} {w : World} (h : DrnP base g a cap rs w) (o : Obj) : DrnP base g a cap rs (w.alloc o) := ⟨h.1.alloc o, h.2⟩
theorem DrnP.set {base g cap b : Nat} {a : Option Addr} {rs : List HP} {w : World} (h : DrnP base g a cap rs w) (k : Nat) (v : Value) (hb : b < base ∨ (Value.slice a rs.length cap).ownBlock ≠ some b) : DrnP base g a cap rs (w.setCell ⟨b, k, none⟩ v) := by
  rcases hb with hb | hb
  · exact ⟨own_set h.1 b k hb v, h.2⟩
  · exact ⟨h.1.kept (row := some b) ⟨rfl, rfl, rfl, by simp, fun j _ hj => Below.heap_setCell w ⟨b, k, none⟩ v j (fun e => hj (by rw [e]))⟩ (.inr hb), h.2⟩
theorem DrnP.apart {base g cap : Nat} {a : Option Addr} {rs : List HP} {w : World} (h : DrnP base g a cap rs w) : (Value.slice a rs.length cap).ownBlock ≠ some w.heap.size := fun e => by have := (h.1.lt _ e).2; omega
/-- A new block that is only read. -/
def HIs (g r : Nat) (o : Obj) (w : World) : Prop := w.heap[r]? = some o ∧ r ≠ g
theorem HIs.lt {g r : Nat} {o : Obj} {w : World} (h : HIs g r o w) : r < w.heap.size := by
  rcases Nat.lt_or_ge r w.heap.size with hlt | hge
  · exact hlt
  · have h1 := h.1; rw [Array.getElem?_eq_none hge] at h1; cases h1
theorem HIs.grown {g r : Nat} {o : Obj} {w w' : World} (h : HIs g r o w) (hg : w.grownBy w' (some g)) : HIs g r o w' := ⟨(hg.block r h.lt (fun e => h.2 (by injection e))).trans h.1, h.2⟩
theorem HIs.below {g r : Nat} {o : Obj} {w w' : World} (h : HIs g r o w) (hb : Below w.heap.size w w') : HIs g r o w' := ⟨(hb.block r h.lt).trans h.1, h.2⟩
theorem HIs.alloc {g r : Nat} {o : Obj} {w : World} (h : HIs g r o w) (o' : Obj) : HIs g r o (w.alloc o') := h.below ((Below.refl _ _).alloc (Nat.le_refl _) o')
theorem HIs.new {g : Nat} (o : Obj) (w : World) (h : g < w.heap.size) : HIs g w.heap.size o (w.alloc o) := ⟨heap_alloc_new w o, by omega⟩
/-- An append to a row leaves the cursor, and all that was there but the cursor. -/
theorem app_keepsR {w w1 w2 : World} {B g base size : Nat} {e : TypeId} {v : Value} {n : Nat} {xs : List Value} (hc : CurB w1 B g) (hgb : g < base) (hwb : w.heap.size ≤ base) (hg1 : w.grownBy w1 (some g)) (hown : w1.ownsRow base e size v n xs) (hg : w1.grownBy w2 v.ownBlock) :
    CurB w2 B g ∧ w.grownBy w2 (some g) := by
  have hlt := hc.lt
  have hB := hc.1
  have hv : ∀ k, k < base → some k ≠ v.ownBlock := fun k hk e => by have := (hown.lt k e.symm).1; omega
  refine ⟨hc.keep (hg.block g hlt (hv g hgb)) ⟨hg.os, hg.tape, hg.output, hg.size, fun k h => hg.block k (by omega) (hv k (by omega))⟩, ?_⟩
  exact ⟨hg.os.trans hg1.os, hg.tape.trans hg1.tape, hg.output.trans hg1.output, Nat.le_trans hg1.size hg.size, fun k h1 h2 =>
    (hg.block k (Nat.lt_of_lt_of_le h1 hg1.size) (hv k (by omega))).trans (hg1.block k h1 h2)⟩
theorem blk_row {w w' : World} {r : Nat} {vs : List Value} {row : Option Nat} (h : Blk w r vs) (hg : w.grownBy w' row) (hne : some r ≠ row) : Blk w' r vs := by
  have hlt := h.lt
  obtain ⟨t, ht⟩ := h
  exact ⟨t, (hg.block r hlt hne).trans ht⟩
theorem DrnP.has {base g cap : Nat} {a : Option Addr} {rs : List HP} {w : World} (h : DrnP base g a cap rs w) : HasP w a cap rs := HasP.own h.1
theorem DrnP.none (base g : Nat) (w : World) (h : g < base) : DrnP base g none 0 [] w := ⟨⟨rfl, .inl ⟨rfl, rfl⟩⟩, h⟩
/-- Bytes in a row of the draw's own. -/
def DrnB (base g : Nat) (v : Value) (l : List UInt8) (w : World) : Prop := w.ownsRow base 5 1 v l.length (byteCells l) ∧ g < base
theorem DrnB.grown {base g : Nat} {v : Value} {l : List UInt8} {w w' : World} (h : DrnB base g v l w) (hg : w.grownBy w' (some g)) : DrnB base g v l w' := ⟨own_g h.1 h.2 hg, h.2⟩
theorem DrnB.below {base g : Nat} {v : Value} {l : List UInt8} {w w' : World} (h : DrnB base g v l w) (hb : Below w.heap.size w w') : DrnB base g v l w' := ⟨own_below h.1 hb, h.2⟩
theorem DrnB.alloc {base g : Nat} {v : Value} {l : List UInt8} {w : World} (h : DrnB base g v l w) (o : Obj) : DrnB base g v l (w.alloc o) := ⟨h.1.alloc o, h.2⟩
theorem DrnB.set {base g b : Nat} {v : Value} {l : List UInt8} {w : World} (h : DrnB base g v l w) (k : Nat) (u : Value) (hb : b < base) : DrnB base g v l (w.setCell ⟨b, k, none⟩ u) := ⟨own_set h.1 b k hb u, h.2⟩
theorem mod8 (x : Int) : ∃ c : UInt8, x % 256 = (c.toNat : Int) := ⟨UInt8.ofNat (x % 256).toNat, by rw [UInt8.toNat_ofNat']; omega⟩
/-- A drawn text with its place and its end's mark; only the cursor has turned. -/
def StrEnd (w : World) (B g : Nat) (e : Ending) (w' : World) : Prop :=
  ∃ (s : Int) (x : ByteArray) (b : Bool), e = .returned (.tuple #[.int .i64 s, .string x, .bool b]) ∧ x.size ≤ 8 ∧ CurB w' B g ∧ w.grownBy w' (some g)
end Go.Proofs.Ytpbnkkgfjmkcdaa
