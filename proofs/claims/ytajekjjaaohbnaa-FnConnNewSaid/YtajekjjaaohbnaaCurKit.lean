/- The cursor over the bytes of a draw: what is known of its block, and of worlds in which only one block has turned. Nothing here is a claim. -/
import Derived.Test.YtajekjjaaohbnaaKit
import Derived.Deep.Draws
import Derived.Laws.Rows
import Derived.Laws.IdiomStrings
import Derived.Laws.AppendOwn
namespace Go.Proofs.Ytajekjjaaohbnaa
open Go.RowKit Go.Lib

theorem mask_bd (x : Int) (m : Nat) (hm : m < 9223372036854775808) : 0 ≤ bits .and .i64 x m ∧ bits .and .i64 x m ≤ m := by
  have h1 : (BitVec.ofInt 64 (m : Int)).toNat = m := by
    rw [BitVec.ofInt_natCast, BitVec.toNat_ofNat]; exact Nat.mod_eq_of_lt (by omega)
  have h2 : (BitVec.ofInt 64 x &&& BitVec.ofInt 64 (m : Int)).toNat ≤ m := by
    rw [BitVec.toNat_and, h1]; exact Nat.and_le_right
  have h3 : bits .and .i64 x m = IntKind.i64.wrap ((BitVec.ofInt 64 x &&& BitVec.ofInt 64 (m : Int)).toNat : Int) := rfl
  rw [h3, IntKind.wrap_i64]
  omega
theorem mask255 (x : Int) : 0 ≤ bits .and .i64 x 255 ∧ bits .and .i64 x 255 ≤ 255 := mask_bd x 255 (by decide)

/-! ### Only one block has turned -/
theorem grown_tr {a b c : World} {row : Option Nat} (h : a.grownBy b row) (k : b.grownBy c row) : a.grownBy c row :=
  ⟨k.os.trans h.os, k.tape.trans h.tape, k.output.trans h.output, Nat.le_trans h.size k.size, fun i hi hne => (k.block i (Nat.lt_of_lt_of_le hi h.size) hne).trans (h.block i hi hne)⟩
theorem grown_draws {a b : World} {row : Option Nat} (h : a.grownBy b row) (n : Nat) : a.grownBy (b.drewN n) row := ⟨h.os, h.tape, h.output, h.size, h.block⟩
theorem grown_set {a b : World} {g : Nat} (h : a.grownBy b (some g)) (k : Nat) (v : Value) : a.grownBy (b.setCell ⟨g, k, none⟩ v) (some g) :=
  ⟨h.os, h.tape, h.output, by rw [show (b.setCell ⟨g, k, none⟩ v).heap.size = b.heap.size by simp [World.setCell]]; exact h.size, fun i hi hne => by
    rw [Below.heap_setCell b ⟨g, k, none⟩ v i (fun e => hne (by rw [e]))]; exact h.block i hi hne⟩
theorem grown_new {a b : World} {row : Option Nat} (h : a.grownBy b row) (o : Obj) : a.grownBy (b.alloc o) row :=
  ⟨h.os, h.tape, h.output, Nat.le_trans h.size (by simp), fun i hi hne => (Below.heap_alloc b o i (Nat.lt_of_lt_of_le hi h.size)).trans (h.block i hi hne)⟩
theorem grown_below {a b : World} {B g : Nat} (h : a.grownBy b (some g)) (hB : B ≤ g) (hs : B ≤ a.heap.size) : Below B a b :=
  ⟨h.os, h.tape, h.output, h.size, fun k hk => h.block k (Nat.lt_of_lt_of_le hk hs) (fun e => by injection e with e; omega)⟩
theorem below_any {a b : World} {row : Option Nat} (h : Below a.heap.size a b) : a.grownBy b row := ⟨h.os, h.tape, h.output, h.size, fun k hk _ => h.block k hk⟩

/-! ### The cursor -/
/-- Block g is a cursor over bytes that lie below block B. -/
def CurB (w : World) (B g : Nat) : Prop := B ≤ g ∧ ∃ (a : Option Addr) (bs : List UInt8) (cap : Nat) (i h : Int),
  w.heap[g]? = some (.cells #[.slice a bs.length cap, .int .i64 i, .int .i64 h] 96 (0, 0)) ∧ (0 ≤ i ∧ i ≤ 1048576) ∧ bs.length ≤ 1048576 ∧ Row w B a (byteCells bs)
theorem CurB.lt {w : World} {B g : Nat} (h : CurB w B g) : g < w.heap.size := by
  obtain ⟨_, _, _, _, _, _, hg, _⟩ := h
  rcases Nat.lt_or_ge g w.heap.size with hlt | hge
  · exact hlt
  · rw [Array.getElem?_eq_none hge] at hg; cases hg
/-- Whatever else has turned or is new: the cursor is as it was. -/
theorem CurB.other {w w' : World} {B g r : Nat} (h : CurB w B g) (hg : w.grownBy w' (some r)) (hr : B ≤ r) (hne : g ≠ r) : CurB w' B g := by
  have hlt := h.lt
  obtain ⟨hB, a, bs, cap, i, x, hh, h1, h2, h3⟩ := h
  exact ⟨hB, a, bs, cap, i, x, (hg.block g hlt (fun e => hne (by injection e))).trans hh, h1, h2, h3.below (grown_below hg hr (by omega))⟩
theorem CurB.new {w : World} {B g : Nat} (h : CurB w B g) (o : Obj) : CurB (w.alloc o) B g := by
  have hlt := h.lt
  obtain ⟨hB, a, bs, cap, i, x, hh, h1, h2, h3⟩ := h
  exact ⟨hB, a, bs, cap, i, x, (Below.heap_alloc w o g hlt).trans hh, h1, h2, h3.below ((Below.refl B w).alloc (by omega) o)⟩
theorem CurB.below {w w' : World} {B g : Nat} (h : CurB w B g) (hb : Below w.heap.size w w') : CurB w' B g := by
  have hlt := h.lt
  obtain ⟨hB, a, bs, cap, i, x, hh, h1, h2, h3⟩ := h
  exact ⟨hB, a, bs, cap, i, x, (hb.block g hlt).trans hh, h1, h2, h3.below (hb.mono (by omega))⟩
theorem set_whole {w : World} {g k : Nat} {cs : Array Value} {t : TypeId} {v : Value} (h : w.heap[g]? = some (.cells cs t (0, 0))) : (w.setCell ⟨g, k, none⟩ v).heap[g]? = some (.cells (cs.setIfInBounds k v) t (0, 0)) := by
  simp [World.setCell, Array.getElem?_modify, h]
theorem CurB.draws {w : World} {B g : Nat} (h : CurB w B g) (n : Nat) : CurB (w.drewN n) B g := h
/-- The cursor's two numbers, set anew. -/
theorem cur_set {w : World} {B g : Nat} {a : Option Addr} {bs : List UInt8} {cap : Nat} {i h : Int} (hB : B ≤ g)
    (hh : w.heap[g]? = some (.cells #[.slice a bs.length cap, .int .i64 i, .int .i64 h] 96 (0, 0))) (hi : 0 ≤ i ∧ i ≤ 1048576) (hbs : bs.length ≤ 1048576) (hrow : Row w B a (byteCells bs)) (x : Int) : CurB (w.setCell ⟨g, 2, none⟩ (.int .i64 x)) B g :=
  ⟨hB, a, bs, cap, i, x, (set_whole hh).trans rfl, hi, hbs, hrow.below ((Below.refl B w).setCell (p := ⟨g, 2, none⟩) hB _)⟩
theorem cur_step {w : World} {B g : Nat} {a : Option Addr} {bs : List UInt8} {cap : Nat} {i h : Int} (hB : B ≤ g)
    (hh : w.heap[g]? = some (.cells #[.slice a bs.length cap, .int .i64 i, .int .i64 h] 96 (0, 0))) (hbs : bs.length ≤ 1048576) (hrow : Row w B a (byteCells bs)) (x i' : Int) (hi : 0 ≤ i' ∧ i' ≤ 1048576) : CurB ((w.setCell ⟨g, 2, none⟩ (.int .i64 x)).setCell ⟨g, 1, none⟩ (.int .i64 i')) B g :=
  ⟨hB, a, bs, cap, i', x, (set_whole (set_whole hh)).trans rfl, hi, hbs, hrow.below (((Below.refl B w).setCell (p := ⟨g, 2, none⟩) hB _).setCell (p := ⟨g, 1, none⟩) hB _)⟩
theorem Row.byte {w : World} {B : Nat} {a : Option Addr} {bs : List UInt8} (h : Row w B a (byteCells bs)) {k : Nat} (hk : k < bs.length) :
    ∃ b off, a = some ⟨b, off, none⟩ ∧ b < B ∧ ∀ j (hj : j < bs.length), w.cell? ⟨b, off + j, none⟩ = some (.int .u8 bs[j].toNat) := by
  obtain ⟨b, off, ha, hb, hc⟩ := h (fun e => by have := congrArg List.length e; simp [byteCells] at this; subst this; simp at hk)
  exact ⟨b, off, ha, hb, fun j hj => hc j _ (by simp [byteCells, hj])⟩
theorem cur_new {w : World} {a : Option Addr} {bs : List UInt8} {cap : Nat} (hrow : Row w w.heap.size a (byteCells bs)) (hbs : bs.length ≤ 1048576) (x : Int) :
    CurB (w.alloc (.cells #[.slice a bs.length cap, .int .i64 0, .int .i64 x] 96)) w.heap.size w.heap.size :=
  ⟨Nat.le_refl _, a, bs, cap, 0, x, heap_alloc_new w _, ⟨by omega, by omega⟩, hbs, hrow.below ((Below.refl _ _).alloc (Nat.le_refl _) _)⟩
/-- What a pick hands back: one of the list's elements; only the cursor has turned. -/
def PickEnd (w : World) (B g : Nat) (vs : List Value) (e : Ending) (w' : World) : Prop :=
  ∃ v, v ∈ vs ∧ e = .returned v ∧ CurB w' B g ∧ w.grownBy w' (some g)
/-- A row of a block that is known whole. -/
theorem cell_none (w : World) (r : Nat) (h : w.heap.size ≤ r) (o : Nat) : w.cell? ⟨r, o, none⟩ = none := by
  simp [World.cell?, Array.getElem?_eq_none h]
/-- What l1Byte and l1Below hand back: an integer from 0 to m; only the cursor has turned. -/
def DrawEnd (w : World) (B g : Nat) (m : Int) (e : Ending) (w' : World) : Prop :=
  ∃ r : Int, e = .returned (.int .i64 r) ∧ (0 ≤ r ∧ r ≤ m) ∧ CurB w' B g ∧ w.grownBy w' (some g)
end Go.Proofs.Ytajekjjaaohbnaa
namespace Go.Proofs.Ytajekjjaaohbnaa
open Go.RowKit Go.Lib

/-- Block g begins with the bytes l, which may be written. -/
def Laid8 (W : World) (g : Nat) (l : List UInt8) : Prop :=
  (∀ j (hj : j < l.length), W.cell? ⟨g, j, none⟩ = some (.int .u8 (l[j].toNat : Int))) ∧ (∀ j, j < l.length → W.frozen? ⟨g, j, none⟩ = false)

theorem bytes_new {P : Program} (w : World) (src dst e : TypeId) (s : ByteArray) (hs : P.underlying src = some .string) (hd : P.underlying dst = some (.slice e)) (he : P.underlying e = some (.int .u8)) :
    ∃ (cap : Nat) (W : World), (convert src dst (.string s)).run P w = .ok (.slice (some ⟨w.heap.size, 0, none⟩) s.size cap) W ∧ Laid8 W w.heap.size s.data.toList ∧ Below w.heap.size w W := by
  refine ⟨_, _, run_bytes_of_string w src dst e s hs hd he, ?_, ?_⟩
  · have hsz : ∀ cap, s.size ≤ (bytesRow s cap).size := fun cap => by simp [bytesRow]
    have hg : ∀ (C : Array Value) (fr : Nat × Nat), (w.drew.alloc (.cells C e fr)).heap[w.heap.size]? = some (.cells C e fr) := fun C fr => heap_alloc_new w.drew _
    refine ⟨fun j hj => ?_, fun j hj => ?_⟩
    · have hj' : j < s.size := by simpa using hj
      rw [cell_of_row _ _ _ _ _ _ (hg _ _)]
      unfold bytesRow
      rw [Array.getElem?_append_left (by simpa using hj')]
      simp [hj']
    · have hj' : j < s.size := by simpa using hj
      have := hsz (grownCap w s.size 0 e)
      unfold World.frozen?
      rw [hg]
      simp
      omega
  · exact (show Below w.heap.size w w.drew from ⟨rfl, rfl, rfl, Nat.le_refl _, fun _ _ => rfl⟩).alloc (Nat.le_refl _) _

theorem Laid8.set {W : World} {g : Nat} {l : List UInt8} (h : Laid8 W g l) {i : Nat} (hi : i < l.length) (y : UInt8) : Laid8 (W.setCell ⟨g, i, none⟩ (.int .u8 (y.toNat : Int))) g (l.set i y) := by
  have hlen : (l.set i y).length = l.length := by simp
  refine ⟨fun j hj => ?_, fun j hj => (World.frozen?_setCell _ _ _ _).trans (h.2 j (by omega))⟩
  have hj' : j < l.length := by omega
  by_cases e : i = j
  · subst e
    rw [World.cell?_setCell_same _ _ _ (h.1 i hi)]
    simp
  · rw [World.cell?_setCell_other _ _ _ _ (by intro x; injection x; omega), h.1 j hj', List.getElem_set_ne e]
end Go.Proofs.Ytajekjjaaohbnaa
namespace Go.Proofs.Ytajekjjaaohbnaa
open Go.RowKit Go.Lib

theorem Laid8.heap {W W' : World} {g : Nat} {l : List UInt8} (h : Laid8 W g l) (e : W'.heap[g]? = W.heap[g]?) : Laid8 W' g l := by
  refine ⟨fun j hj => ?_, fun j hj => ?_⟩
  · rw [show W'.cell? ⟨g, j, none⟩ = W.cell? ⟨g, j, none⟩ by unfold World.cell?; rw [e]]; exact h.1 j hj
  · rw [show W'.frozen? ⟨g, j, none⟩ = W.frozen? ⟨g, j, none⟩ by unfold World.frozen?; rw [e]]; exact h.2 j hj
theorem Laid8.lt {W : World} {g : Nat} {l : List UInt8} (h : Laid8 W g l) (h0 : 0 < l.length) : g < W.heap.size := World.block_lt_of_cell? W ⟨g, 0, none⟩ (h.1 0 h0)
theorem Laid8.grown {W W' : World} {g r : Nat} {l : List UInt8} (h : Laid8 W g l) (h0 : 0 < l.length) (hg : W.grownBy W' (some r)) (hne : g ≠ r) : Laid8 W' g l :=
  h.heap (hg.block g (h.lt h0) (fun e => hne (by injection e)))
theorem Laid8.below {W W' : World} {g : Nat} {l : List UInt8} (h : Laid8 W g l) (h0 : 0 < l.length) (hb : Below W.heap.size W W') : Laid8 W' g l :=
  h.heap (hb.block g (h.lt h0))
/-- The first k bytes, made a string. -/
theorem Laid8.conv {P : Program} {W : World} {g : Nat} {l : List UInt8} (h : Laid8 W g l) (src dst e : TypeId) (cap k : Nat) (hk : k ≤ l.length) (hs : P.underlying src = some (.slice e)) (he : P.underlying e = some (.int .u8)) (hd : P.underlying dst = some .string) :
    (convert src dst (.slice (some ⟨g, 0, none⟩) k cap)).run P W = .ok (.string ⟨(l.take k).toArray⟩) W := by
  have el : (l.take k).length = k := by rw [List.length_take]; omega
  have := run_convert_bytes_back (P := P) W src dst e ⟨g, 0, none⟩ cap (l.take k) hs he hd (fun j hj => by
    rw [show (⟨g, 0, none⟩ : Addr).add j = ⟨g, j, none⟩ by simp [Addr.add]; exact fun e => e.symm]
    have hj' : j < l.length := by omega
    rw [List.getElem_take]
    exact h.1 j hj')
  rw [el] at this
  exact this
theorem bytes_new2 {P : Program} (w : World) (src dst e : TypeId) (s : ByteArray) (hs : P.underlying src = some .string) (hd : P.underlying dst = some (.slice e)) (he : P.underlying e = some (.int .u8)) :
    ∃ (cap : Nat) (W : World), (convert src dst (.string s)).run P w = .ok (.slice (some ⟨w.heap.size, 0, none⟩) s.size cap) W ∧ s.size ≤ cap ∧ Laid8 W w.heap.size s.data.toList ∧ Below w.heap.size w W := by
  obtain ⟨cap, W, h, hl, hb⟩ := bytes_new w src dst e s hs hd he
  refine ⟨cap, W, h, ?_, hl, hb⟩
  have h2 := h.symm.trans (run_bytes_of_string w src dst e s hs hd he)
  injection h2 with e1 e2
  injection e1 with _ _ e3
  rw [e3]
  exact grownCap_ge _ _ _ _
end Go.Proofs.Ytajekjjaaohbnaa
namespace Go.Proofs.Ytajekjjaaohbnaa
open Go.RowKit Go.Lib

/-- An int. -/
def I64 (n : Int) : Prop := -9223372036854775808 ≤ n ∧ n ≤ 9223372036854775807
def WholeEnd (w : World) (B g : Nat) (e : Ending) (w' : World) : Prop := ∃ n : Int, e = .returned (.int .i64 n) ∧ I64 n ∧ CurB w' B g ∧ w.grownBy w' (some g)
/-- A new cursor, behind whatever it draws: nothing that was there has turned. -/
theorem below_cur {w w1 w2 : World} {g : Nat} (hb : Below w.heap.size w w1) (hc : CurB w1 w.heap.size g) (hg : w1.grownBy w2 (some g)) : Below w.heap.size w w2 :=
  hb.trans (grown_below hg hc.1 hb.size)
theorem below_new {w w1 w2 : World} {g : Nat} (hb : Below w.heap.size w w1) (hc : CurB w1 w.heap.size g) (hg : w1.grownBy w2 (some g)) : Below w.heap.size w w2 :=
  hb.trans (grown_below hg hc.1 hb.size)
end Go.Proofs.Ytajekjjaaohbnaa
