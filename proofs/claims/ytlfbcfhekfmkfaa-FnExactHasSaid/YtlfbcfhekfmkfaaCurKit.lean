/- The cursor over the bytes of a draw: what is known of its block, and of worlds in which only one block has turned. Nothing here is a claim. -/
import Derived.Test.YtlfbcfhekfmkfaaJoinKit
import Derived.Deep.Draws
import Derived.Laws.Rows
namespace Go.Proofs.Ytlfbcfhekfmkfaa
open Go.RowKit Go.Lib

theorem mask_bd (x : Int) (m : Nat) (hm : m < 9223372036854775808) : 0 ≤ bits .and .i64 x m ∧ bits .and .i64 x m ≤ m := by
  have h1 : (BitVec.ofInt 64 (m : Int)).toNat = m := by
    rw [BitVec.ofInt_natCast, BitVec.toNat_ofNat]; exact Nat.mod_eq_of_lt (by omega)
  have h2 : (BitVec.ofInt 64 x &&& BitVec.ofInt 64 (m : Int)).toNat ≤ m := by
    rw [BitVec.toNat_and, h1]; exact Nat.and_le_right
  have h3 : bits .and .i64 x m = IntKind.i64.wrap ((BitVec.ofInt 64 x &&& BitVec.ofInt 64 (m : Int)).toNat : Int) := rfl
  rw [h3, IntKind.wrap_i64]
  omega
theorem mask255 (x : Int) : 0 ≤ bits .and .i64 x 255 ∧ bits .and .i64 x 255 ≤ 255 := mask_bd x 255 (by decide)

/-! ### Only one block has turned -/
theorem grown_tr {a b c : World} {row : Option Nat} (h : a.grownBy b row) (k : b.grownBy c row) : a.grownBy c row :=
  ⟨k.os.trans h.os, k.tape.trans h.tape, k.output.trans h.output, Nat.le_trans h.size k.size, fun i hi hne => (k.block i (Nat.lt_of_lt_of_le hi h.size) hne).trans (h.block i hi hne)⟩
theorem grown_draws {a b : World} {row : Option Nat} (h : a.grownBy b row) (n : Nat) : a.grownBy (b.drewN n) row := ⟨h.os, h.tape, h.output, h.size, h.block⟩
theorem grown_set {a b : World} {g : Nat} (h : a.grownBy b (some g)) (k : Nat) (v : Value) : a.grownBy (b.setCell ⟨g, k, none⟩ v) (some g) :=
  ⟨h.os, h.tape, h.output, by rw [show (b.setCell ⟨g, k, none⟩ v).heap.size = b.heap.size by simp [World.setCell]]; exact h.size, fun i hi hne => by
    rw [Below.heap_setCell b ⟨g, k, none⟩ v i (fun e => hne (by rw [e]))]; exact h.block i hi hne⟩
theorem grown_new {a b : World} {row : Option Nat} (h : a.grownBy b row) (o : Obj) : a.grownBy (b.alloc o) row :=
  ⟨h.os, h.tape, h.output, Nat.le_trans h.size (by simp), fun i hi hne => (Below.heap_alloc b o i (Nat.lt_of_lt_of_le hi h.size)).trans (h.block i hi hne)⟩
theorem grown_below {a b : World} {B g : Nat} (h : a.grownBy b (some g)) (hB : B ≤ g) (hs : B ≤ a.heap.size) : Below B a b :=
  ⟨h.os, h.tape, h.output, h.size, fun k hk => h.block k (Nat.lt_of_lt_of_le hk hs) (fun e => by injection e with e; omega)⟩
theorem below_any {a b : World} {row : Option Nat} (h : Below a.heap.size a b) : a.grownBy b row := ⟨h.os, h.tape, h.output, h.size, fun k hk _ => h.block k hk⟩

/-! ### The cursor -/
/-- Block g is a cursor over bytes that lie below block B. -/
def CurB (w : World) (B g : Nat) : Prop := B ≤ g ∧ ∃ (a : Option Addr) (bs : List UInt8) (cap : Nat) (i h : Int),
  w.heap[g]? = some (.cells #[.slice a bs.length cap, .int .i64 i, .int .i64 h] 78 (0, 0)) ∧ (0 ≤ i ∧ i ≤ 1048576) ∧ bs.length ≤ 1048576 ∧ Row w B a (byteCells bs)
theorem CurB.lt {w : World} {B g : Nat} (h : CurB w B g) : g < w.heap.size := by
  obtain ⟨_, _, _, _, _, _, hg, _⟩ := h
  rcases Nat.lt_or_ge g w.heap.size with hlt | hge
  · exact hlt
  · rw [Array.getElem?_eq_none hge] at hg; cases hg
/-- Whatever else has turned or is new: the cursor is as it was. -/
theorem CurB.other {w w' : World} {B g r : Nat} (h : CurB w B g) (hg : w.grownBy w' (some r)) (hr : B ≤ r) (hne : g ≠ r) : CurB w' B g := by
  have hlt := h.lt
  obtain ⟨hB, a, bs, cap, i, x, hh, h1, h2, h3⟩ := h
  exact ⟨hB, a, bs, cap, i, x, (hg.block g hlt (fun e => hne (by injection e))).trans hh, h1, h2, h3.below (grown_below hg hr (by omega))⟩
theorem CurB.new {w : World} {B g : Nat} (h : CurB w B g) (o : Obj) : CurB (w.alloc o) B g := by
  have hlt := h.lt
  obtain ⟨hB, a, bs, cap, i, x, hh, h1, h2, h3⟩ := h
  exact ⟨hB, a, bs, cap, i, x, (Below.heap_alloc w o g hlt).trans hh, h1, h2, h3.below ((Below.refl B w).alloc (by omega) o)⟩
theorem CurB.below {w w' : World} {B g : Nat} (h : CurB w B g) (hb : Below w.heap.size w w') : CurB w' B g := by
  have hlt := h.lt
  obtain ⟨hB, a, bs, cap, i, x, hh, h1, h2, h3⟩ := h
  exact ⟨hB, a, bs, cap, i, x, (hb.block g hlt).trans hh, h1, h2, h3.below (hb.mono (by omega))⟩
theorem set_whole {w : World} {g k : Nat} {cs : Array Value} {t : TypeId} {v : Value} (h : w.heap[g]? = some (.cells cs t (0, 0))) : (w.setCell ⟨g, k, none⟩ v).heap[g]? = some (.cells (cs.setIfInBounds k v) t (0, 0)) := by
  simp [World.setCell, Array.getElem?_modify, h]
theorem CurB.draws {w : World} {B g : Nat} (h : CurB w B g) (n : Nat) : CurB (w.drewN n) B g := h
/-- The cursor's two numbers, set anew. -/
theorem cur_set {w : World} {B g : Nat} {a : Option Addr} {bs : List UInt8} {cap : Nat} {i h : Int} (hB : B ≤ g)
    (hh : w.heap[g]? = some (.cells #[.slice a bs.length cap, .int .i64 i, .int .i64 h] 78 (0, 0))) (hi : 0 ≤ i ∧ i ≤ 1048576) (hbs : bs.length ≤ 1048576) (hrow : Row w B a (byteCells bs)) (x : Int) : CurB (w.setCell ⟨g, 2, none⟩ (.int .i64 x)) B g :=
  ⟨hB, a, bs, cap, i, x, (set_whole hh).trans rfl, hi, hbs, hrow.below ((Below.refl B w).setCell (p := ⟨g, 2, none⟩) hB _)⟩
theorem cur_step {w : World} {B g : Nat} {a : Option Addr} {bs : List UInt8} {cap : Nat} {i h : Int} (hB : B ≤ g)
    (hh : w.heap[g]? = some (.cells #[.slice a bs.length cap, .int .i64 i, .int .i64 h] 78 (0, 0))) (hbs : bs.length ≤ 1048576) (hrow : Row w B a (byteCells bs)) (x i' : Int) (hi : 0 ≤ i' ∧ i' ≤ 1048576) : CurB ((w.setCell ⟨g, 2, none⟩ (.int .i64 x)).setCell ⟨g, 1, none⟩ (.int .i64 i')) B g :=
  ⟨hB, a, bs, cap, i', x, (set_whole (set_whole hh)).trans rfl, hi, hbs, hrow.below (((Below.refl B w).setCell (p := ⟨g, 2, none⟩) hB _).setCell (p := ⟨g, 1, none⟩) hB _)⟩
theorem Row.byte {w : World} {B : Nat} {a : Option Addr} {bs : List UInt8} (h : Row w B a (byteCells bs)) {k : Nat} (hk : k < bs.length) :
    ∃ b off, a = some ⟨b, off, none⟩ ∧ b < B ∧ ∀ j (hj : j < bs.length), w.cell? ⟨b, off + j, none⟩ = some (.int .u8 bs[j].toNat) := by
  obtain ⟨b, off, ha, hb, hc⟩ := h (fun e => by have := congrArg List.length e; simp [byteCells] at this; subst this; simp at hk)
  exact ⟨b, off, ha, hb, fun j hj => hc j _ (by simp [byteCells, hj])⟩
theorem cur_new {w : World} {a : Option Addr} {bs : List UInt8} {cap : Nat} (hrow : Row w w.heap.size a (byteCells bs)) (hbs : bs.length ≤ 1048576) (x : Int) :
    CurB (w.alloc (.cells #[.slice a bs.length cap, .int .i64 0, .int .i64 x] 78)) w.heap.size w.heap.size :=
  ⟨Nat.le_refl _, a, bs, cap, 0, x, heap_alloc_new w _, ⟨by omega, by omega⟩, hbs, hrow.below ((Below.refl _ _).alloc (Nat.le_refl _) _)⟩
/-- What a pick hands back: one of the list's elements; only the cursor has turned. -/
def PickEnd (w : World) (B g : Nat) (vs : List Value) (e : Ending) (w' : World) : Prop :=
  ∃ v, v ∈ vs ∧ e = .returned v ∧ CurB w' B g ∧ w.grownBy w' (some g)
/-- A row of a block that is known whole. -/
theorem cell_none (w : World) (r : Nat) (h : w.heap.size ≤ r) (o : Nat) : w.cell? ⟨r, o, none⟩ = none := by
  simp [World.cell?, Array.getElem?_eq_none h]
/-- What l1Byte and l1Below hand back: an integer from 0 to m; only the cursor has turned. -/
def DrawEnd (w : World) (B g : Nat) (m : Int) (e : Ending) (w' : World) : Prop :=
  ∃ r : Int, e = .returned (.int .i64 r) ∧ (0 ≤ r ∧ r ≤ m) ∧ CurB w' B g ∧ w.grownBy w' (some g)
end Go.Proofs.Ytlfbcfhekfmkfaa
