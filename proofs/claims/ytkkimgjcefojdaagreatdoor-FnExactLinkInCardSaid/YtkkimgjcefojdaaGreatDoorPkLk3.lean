/- Texts of a proof that belong together, joined. Nothing here is a claim. -/
import Derived.Deep.Draws
import Derived.Laws.AppendOwn
import Derived.Deep.RegionWith
import Derived.Test.YtkkimgjcefojdaaGreatDoorPkLk2
namespace Go.Proofs.YtkkimgjcefojdaaGreatDoor
open Go.RowKit Go.Lib

/-! ### Only one block has turned -/
theorem grown_tr {a b c : World} {row : Option Nat} (h : a.grownBy b row) (k : b.grownBy c row) : a.grownBy c row :=
 ⟨k.os.trans h.os, k.tape.trans h.tape, k.output.trans h.output, Nat.le_trans h.size k.size, fun i hi hne => (k.block i (Nat.lt_of_lt_of_le hi h.size) hne).trans (h.block i hi hne)⟩
theorem grown_below {a b : World} {B g : Nat} (h : a.grownBy b (some g)) (hB : B ≤ g) (hs : B ≤ a.heap.size) : Below B a b :=
 ⟨h.os, h.tape, h.output, h.size, fun k hk => h.block k (Nat.lt_of_lt_of_le hk hs) (fun e => by injection e with e; omega)⟩
theorem below_any {a b : World} {row : Option Nat} (h : Below a.heap.size a b) : a.grownBy b row := ⟨h.os, h.tape, h.output, h.size, fun k hk _ => h.block k hk⟩

/-! ### The cursor -/
/-- Block g is a cursor over bytes that lie below block B. -/
def CurB (w : World) (B g : Nat) : Prop := B ≤ g ∧ ∃ (a : Option Addr) (bs : List UInt8) (cap : Nat) (i h : Int),
 w.heap[g]? = some (.cells #[.slice a bs.length cap, .int .i64 i, .int .i64 h] 90 (0, 0)) ∧ (0 ≤ i ∧ i ≤ 1048576) ∧ bs.length ≤ 1048576 ∧ Row w B a (byteCells bs)
theorem CurB.lt {w : World} {B g : Nat} (h : CurB w B g) : g < w.heap.size := by
 obtain ⟨_, _, _, _, _, _, hg, _⟩ := h
 rcases Nat.lt_or_ge g w.heap.size with hlt | hge
 ·exact hlt
 ·rw [Array.getElem?_eq_none hge] at hg; cases hg
theorem CurB.new {w : World} {B g : Nat} (h : CurB w B g) (o : Obj) : CurB (w.alloc o) B g := by
 have hlt := h.lt
 obtain ⟨hB, a, bs, cap, i, x, hh, h1, h2, h3⟩ := h
 exact ⟨hB, a, bs, cap, i, x, (Below.heap_alloc w o g hlt).trans hh, h1, h2, h3.below ((Below.refl B w).alloc (by omega) o)⟩
theorem CurB.below {w w' : World} {B g : Nat} (h : CurB w B g) (hb : Below w.heap.size w w') : CurB w' B g := by
 have hlt := h.lt
 obtain ⟨hB, a, bs, cap, i, x, hh, h1, h2, h3⟩ := h
 exact ⟨hB, a, bs, cap, i, x, (hb.block g hlt).trans hh, h1, h2, h3.below (hb.mono (by omega))⟩
theorem set_whole {w : World} {g k : Nat} {cs : Array Value} {t : TypeId} {v : Value} (h : w.heap[g]? = some (.cells cs t (0, 0))) : (w.setCell ⟨g, k, none⟩ v).heap[g]? = some (.cells (cs.setIfInBounds k v) t (0, 0)) := by
 simp [World.setCell, Array.getElem?_modify, h]
end Go.Proofs.YtkkimgjcefojdaaGreatDoor
namespace Go.Proofs.YtkkimgjcefojdaaGreatDoor
open Go.RowKit Go.Lib

/-- Block g begins with the bytes l, which may be written. -/
def Laid8 (W : World) (g : Nat) (l : List UInt8) : Prop :=
 (∀ j (hj : j < l.length), W.cell? ⟨g, j, none⟩ = some (.int .u8 (l[j].toNat : Int))) ∧ (∀ j, j < l.length → W.frozen? ⟨g, j, none⟩ = false)

theorem Laid8.set {W : World} {g : Nat} {l : List UInt8} (h : Laid8 W g l) {i : Nat} (hi : i < l.length) (y : UInt8) : Laid8 (W.setCell ⟨g, i, none⟩ (.int .u8 (y.toNat : Int))) g (l.set i y) := by
 have hlen : (l.set i y).length = l.length := by simp
 refine ⟨fun j hj => ?_, fun j hj => (World.frozen?_setCell _ _ _ _).trans (h.2 j (by omega))⟩
 have hj' : j < l.length := by omega
 by_cases e : i = j
 ·subst e
  rw [World.cell?_setCell_same _ _ _ (h.1 i hi)]
  simp
 ·rw [World.cell?_setCell_other _ _ _ _ (by intro x; injection x; omega), h.1 j hj', List.getElem_set_ne e]
end Go.Proofs.YtkkimgjcefojdaaGreatDoor
namespace Go.Proofs.YtkkimgjcefojdaaGreatDoor
open Go.RowKit Go.Lib

theorem Laid8.heap {W W' : World} {g : Nat} {l : List UInt8} (h : Laid8 W g l) (e : W'.heap[g]? = W.heap[g]?) : Laid8 W' g l := by
 refine ⟨fun j hj => ?_, fun j hj => ?_⟩
 ·rw [show W'.cell? ⟨g, j, none⟩ = W.cell? ⟨g, j, none⟩ by unfold World.cell?; rw [e]]; exact h.1 j hj
 ·rw [show W'.frozen? ⟨g, j, none⟩ = W.frozen? ⟨g, j, none⟩ by unfold World.frozen?; rw [e]]; exact h.2 j hj
theorem Laid8.lt {W : World} {g : Nat} {l : List UInt8} (h : Laid8 W g l) (h0 : 0 < l.length) : g < W.heap.size := World.block_lt_of_cell? W ⟨g, 0, none⟩ (h.1 0 h0)
theorem Laid8.grown {W W' : World} {g r : Nat} {l : List UInt8} (h : Laid8 W g l) (h0 : 0 < l.length) (hg : W.grownBy W' (some r)) (hne : g ≠ r) : Laid8 W' g l :=
 h.heap (hg.block g (h.lt h0) (fun e => hne (by injection e)))
theorem Laid8.below {W W' : World} {g : Nat} {l : List UInt8} (h : Laid8 W g l) (h0 : 0 < l.length) (hb : Below W.heap.size W W') : Laid8 W' g l :=
 h.heap (hb.block g (h.lt h0))
end Go.Proofs.YtkkimgjcefojdaaGreatDoor
namespace Go.Proofs.YtkkimgjcefojdaaGreatDoor
open Go.RowKit Go.Lib

end Go.Proofs.YtkkimgjcefojdaaGreatDoor
namespace Go.Proofs.YtkkimgjcefojdaaGreatDoor
open Go.RowKit Go.Lib

end Go.Proofs.YtkkimgjcefojdaaGreatDoor
namespace Go.Proofs.YtkkimgjcefojdaaGreatDoor
open Go.RowKit Go.Lib

end Go.Proofs.YtkkimgjcefojdaaGreatDoor
namespace Go.Proofs.YtkkimgjcefojdaaGreatDoor
open Go.RowKit Go.Lib

theorem CurB.keep {w w' : World} {B g : Nat} (h : CurB w B g) (he : w'.heap[g]? = w.heap[g]?) (hb : Below B w w') : CurB w' B g := by
 obtain ⟨hB, a, bs, cap, i, x, hh, h1, h2, h3⟩ := h
 exact ⟨hB, a, bs, cap, i, x, he.trans hh, h1, h2, h3.below hb⟩
end Go.Proofs.YtkkimgjcefojdaaGreatDoor
namespace Go.Proofs.YtkkimgjcefojdaaGreatDoor
open Go.RowKit Go.Lib

/-- Block r holds these cells, all of which may be written. -/
def Blk (w : World) (r : Nat) (vs : List Value) : Prop := ∃ t, w.heap[r]? = some (.cells vs.toArray t (0, 0))
theorem Blk.lt {w : World} {r : Nat} {vs : List Value} (h : Blk w r vs) : r < w.heap.size := by
 obtain ⟨t, h⟩ := h
 rcases Nat.lt_or_ge r w.heap.size with hlt | hge
 ·exact hlt
 ·rw [Array.getElem?_eq_none hge] at h; cases h
theorem Blk.new (w : World) (vs : List Value) (t : TypeId) : Blk (w.alloc (.cells vs.toArray t)) w.heap.size vs := ⟨t, heap_alloc_new w _⟩
theorem Blk.below {w w' : World} {r : Nat} {vs : List Value} (h : Blk w r vs) (hb : Below w.heap.size w w') : Blk w' r vs := by
 have hlt := h.lt
 obtain ⟨t, h⟩ := h
 exact ⟨t, (hb.block r hlt).trans h⟩
theorem own_below {w w' : World} {base size n : Nat} {e : TypeId} {v : Value} {xs : List Value} (h : w.ownsRow base e size v n xs) (hb : Below w.heap.size w w') : w'.ownsRow base e size v n xs :=
 h.kept (below_any (row := none) hb) (Classical.em _)
theorem Blk.drew {w : World} {r : Nat} {vs : List Value} (h : Blk w r vs) : Blk w.drew r vs := h
theorem Blk.alloc {w : World} {r : Nat} {vs : List Value} (h : Blk w r vs) (o : Obj) : Blk (w.alloc o) r vs := h.below ((Below.refl _ _).alloc (Nat.le_refl _) o)
theorem Blk.grown {w w' : World} {r g : Nat} {vs : List Value} (h : Blk w r vs) (hg : w.grownBy w' (some g)) (hne : r ≠ g) : Blk w' r vs := by
 have hlt := h.lt
 obtain ⟨t, h⟩ := h
 exact ⟨t, (hg.block r hlt (fun e => hne (by injection e))).trans h⟩
theorem Blk.set {w : World} {r : Nat} {vs : List Value} (h : Blk w r vs) (k : Nat) (v : Value) : Blk (w.setCell ⟨r, k, none⟩ v) r (vs.set k v) := by
 obtain ⟨t, h⟩ := h
 exact ⟨t, by rw [set_whole h]; simp⟩
theorem Blk.setOther {w : World} {r : Nat} {vs : List Value} (h : Blk w r vs) (q : Addr) (v : Value) (hne : r ≠ q.block) : Blk (w.setCell q v) r vs := by
 obtain ⟨t, h⟩ := h
 exact ⟨t, (Below.heap_setCell w q v r hne).trans h⟩
theorem Blk.cell {w : World} {r : Nat} {vs : List Value} (h : Blk w r vs) (k : Nat) (v : Value) (hv : vs[k]? = some v) : w.cell? ⟨r, k, none⟩ = some v := by
 obtain ⟨t, h⟩ := h
 rw [cell_of_row w r k _ t (0, 0) h]; simpa using hv
theorem Blk.open {w : World} {r : Nat} {vs : List Value} (h : Blk w r vs) (k : Nat) : w.frozen? ⟨r, k, none⟩ = false := by
 obtain ⟨t, h⟩ := h
 exact frozen_of_row w r k _ t h
theorem Blk.four {w : World} {r : Nat} {v0 v1 v2 v3 : Value} (h : Blk w r [v0, v1, v2, v3]) : (w.cell? ⟨r, 0, none⟩ = some v0 ∧ w.cell? ⟨r, 1, none⟩ = some v1 ∧ w.cell? ⟨r, 2, none⟩ = some v2 ∧ w.cell? ⟨r, 3, none⟩ = some v3) ∧
  w.frozen? ⟨r, 0, none⟩ = false ∧ w.frozen? ⟨r, 1, none⟩ = false ∧ w.frozen? ⟨r, 2, none⟩ = false ∧ w.frozen? ⟨r, 3, none⟩ = false :=
 ⟨⟨h.cell 0 _ rfl, h.cell 1 _ rfl, h.cell 2 _ rfl, h.cell 3 _ rfl⟩, h.open 0, h.open 1, h.open 2, h.open 3⟩

/-- The cursor, while a cell of another block is stored into. -/
theorem CurB.setOther {w : World} {B g : Nat} (h : CurB w B g) (q : Addr) (v : Value) (hB : B ≤ q.block) (hne : q.block ≠ g) : CurB (w.setCell q v) B g :=
 h.keep (Below.heap_setCell w q v g (fun e => hne e.symm)) ((Below.refl B w).setCell hB v)
end Go.Proofs.YtkkimgjcefojdaaGreatDoor
namespace Go.Proofs.YtkkimgjcefojdaaGreatDoor
open Go.RowKit Go.Lib

theorem Blk.of5 {w : World} {g : Nat} {v0 v1 v2 v3 v4 : Value} (h : Blk w g [v0, v1, v2, v3, v4]) : (w.cell? ⟨g, 0, none⟩ = some v0 ∧ w.cell? ⟨g, 1, none⟩ = some v1 ∧ w.cell? ⟨g, 2, none⟩ = some v2 ∧ w.cell? ⟨g, 3, none⟩ = some v3 ∧ w.cell? ⟨g, 4, none⟩ = some v4) ∧ w.frozen? ⟨g, 0, none⟩ = false ∧ w.frozen? ⟨g, 1, none⟩ = false ∧ w.frozen? ⟨g, 2, none⟩ = false ∧ w.frozen? ⟨g, 3, none⟩ = false ∧ w.frozen? ⟨g, 4, none⟩ = false :=
 ⟨⟨h.cell 0 _ rfl, h.cell 1 _ rfl, h.cell 2 _ rfl, h.cell 3 _ rfl, h.cell 4 _ rfl⟩, h.open 0, h.open 1, h.open 2, h.open 3, h.open 4⟩
end Go.Proofs.YtkkimgjcefojdaaGreatDoor
namespace Go.Proofs.YtkkimgjcefojdaaGreatDoor
open Go.RowKit Go.Lib

theorem Blk.of6 {w : World} {g : Nat} {v0 v1 v2 v3 v4 v5 : Value} (h : Blk w g [v0, v1, v2, v3, v4, v5]) : (w.cell? ⟨g, 0, none⟩ = some v0 ∧ w.cell? ⟨g, 1, none⟩ = some v1 ∧ w.cell? ⟨g, 2, none⟩ = some v2 ∧ w.cell? ⟨g, 3, none⟩ = some v3 ∧ w.cell? ⟨g, 4, none⟩ = some v4 ∧ w.cell? ⟨g, 5, none⟩ = some v5) ∧ w.frozen? ⟨g, 0, none⟩ = false ∧ w.frozen? ⟨g, 1, none⟩ = false ∧ w.frozen? ⟨g, 2, none⟩ = false ∧ w.frozen? ⟨g, 3, none⟩ = false ∧ w.frozen? ⟨g, 4, none⟩ = false ∧ w.frozen? ⟨g, 5, none⟩ = false :=
 ⟨⟨h.cell 0 _ rfl, h.cell 1 _ rfl, h.cell 2 _ rfl, h.cell 3 _ rfl, h.cell 4 _ rfl, h.cell 5 _ rfl⟩, h.open 0, h.open 1, h.open 2, h.open 3, h.open 4, h.open 5⟩
end Go.Proofs.YtkkimgjcefojdaaGreatDoor
namespace Go.Proofs.YtkkimgjcefojdaaGreatDoor
open Go.RowKit Go.Lib

end Go.Proofs.YtkkimgjcefojdaaGreatDoor
namespace Go.Proofs.YtkkimgjcefojdaaGreatDoor
open Go.RowKit Go.Lib

end Go.Proofs.YtkkimgjcefojdaaGreatDoor
namespace Go.Proofs.YtkkimgjcefojdaaGreatDoor
open Go.RowKit Go.Lib

/-- What the library's variable errors.errorType holds. -/
def ErrTy (w : World) : Prop := w.cell? ⟨1, 0, none⟩ = some (.iface 132 (.agg #[.pointer (some ⟨2, 60, none⟩)]))
theorem ErrTy.below {B : Nat} {w w' : World} (h : ErrTy w) (hb : Below B w w') (hB : 1 < B) : ErrTy w' :=
 (hb.cell (p := ⟨1, 0, none⟩) hB).trans h
theorem ErrTy.lt {w : World} (h : ErrTy w) : 1 < w.heap.size := World.block_lt_of_cell? w _ h
theorem as_set (k : Int) (g : Nat) (old : Value) (w : World) (hg : ErrTy w) (hr : Blk w g [old]) :
  Calls Tryz.prog 119 #[.iface 147 (.int .i64 k), .iface 150 (.pointer (some ⟨g, 0, none⟩))] w fun ev w' => ev = .returned (.bool true) ∧ w'.cell? ⟨g, 0, none⟩ = some (.int .i64 k) ∧ Below g w w' := by
 have hc := hr.cell 0 _ rfl
 have hf := hr.open 0
 have hlt := World.block_lt_of_cell? w _ hc
 refine (as_hit k ⟨g, 0, none⟩ old w hg hc hf).mono ?_
 rintro e w' ⟨rfl, rfl⟩
 have hlt : g < w.heap.size := hlt
 have B : ∀ o1 o2 o3 o4 : Obj, Below g w ((((w.alloc o1).alloc o2).alloc o3).alloc o4) := fun o1 o2 o3 o4 =>
  ((((Below.refl g w).alloc (by omega) o1).alloc (by simp; omega) o2).alloc (by simp; omega) o3).alloc (by simp; omega) o4
 have R : ∀ o1 o2 o3 o4 : Obj, Blk ((((w.alloc o1).alloc o2).alloc o3).alloc o4) g [old] := fun o1 o2 o3 o4 => (((hr.alloc o1).alloc o2).alloc o3).alloc o4
 exact ⟨rfl, ((R _ _ _ _).set 0 _).cell 0 _ rfl, (B _ _ _ _).setCell (Nat.le_refl _) _⟩
end Go.Proofs.YtkkimgjcefojdaaGreatDoor
namespace Go.Proofs.YtkkimgjcefojdaaGreatDoor
open Go.RowKit Go.Lib

end Go.Proofs.YtkkimgjcefojdaaGreatDoor
namespace Go.Proofs.YtkkimgjcefojdaaGreatDoor
open Go.RowKit Go.Lib

/-- The first reason why s is no packet; 0 if it begins with one. -/
def pkWhy (s : ByteArray) : Nat :=
 if s.size < 20 then 1 else if ¬ (at8 s 0).toNat = 69 then 2 else if sumRight (s.extract 0 20) = false then 3
 else if ¬ (20 ≤ gw s 2 2 ∧ gw s 2 2 ≤ s.size ∧ gw s 2 2 ≤ 1500) then 4 else if ¬ (gw s 6 2 = 0 ∨ gw s 6 2 = 16384) then 5 else if (at8 s 8).toNat = 0 then 6 else 0
end Go.Proofs.YtkkimgjcefojdaaGreatDoor
namespace Go.Proofs.YtkkimgjcefojdaaGreatDoor
open Go.RowKit Go.Lib

set_option maxHeartbeats 400000 in
theorem foldedS (n : Int) (hn : n ≤ 9223372036854775807) (w : World) :
  Calls Tryz.prog 114 #[.int .i64 n] w fun e w' => e = .returned (.int .i64 (foldI n)) ∧ w = w' := by
 by_cases h : n < 0
 ·rw [foldI_neg n h]
  go_enter Tryz.func114, Tryz.ntmps114
  go_wp2_with fail
  go_ret
  exact ⟨rfl, rfl⟩
 ·go_enter Tryz.func114, Tryz.ntmps114
  go_wp2_with fail
  go_loop [0] (fun x => ∃ q : Int, x = .int .i64 q ∧ (0 ≤ q ∧ q ≤ 9223372036854775807) ∧ Hid (foldI q = foldI n))
   (fun x => (RowKit.intOf x).toNat)
  case atStart => exact ⟨n, rfl, ⟨by omega, hn⟩, rfl⟩
  case round =>
   obtain ⟨q, rfl, ⟨q0, q1⟩, hq⟩ := hrel
   by_cases hlt : 65535 < q
   ·have E : Hid (foldI (q / 65536 + q % 65536) = foldI n) := by show _ = _; rw [foldI_step q hlt]; exact hq.out
    go_wp2_with fail
    go_round
    case rel => exact ⟨_, by go_num, ⟨by omega, by omega⟩, E⟩
    case measure => simp [RowKit.intOf]; omega
   ·have E : Hid (foldI n = q) := by show _ = _; rw [← hq.out]; exact foldI_small q q0 (by omega)
    clear hq
    go_wp2_with fail
    go_ret
    rw [E.out]
    exact ⟨rfl, rfl⟩

set_option maxHeartbeats 400000 in
theorem foldedI (n : Int) (hn : n ≤ 9223372036854775807) (w : World) :
  Calls Tryz.prog 112 #[.int .i64 n] w fun e w' => e = .returned (.int .i64 (foldI n)) ∧ w = w' := by
 by_cases h : n < 0
 ·rw [foldI_neg n h]
  go_enter Tryz.func112, Tryz.ntmps112
  go_wp2_with fail
  go_ret
  exact ⟨rfl, rfl⟩
 ·go_enter Tryz.func112, Tryz.ntmps112
  go_wp2_with fail
  go_loop [0] (fun x => ∃ q : Int, x = .int .i64 q ∧ (0 ≤ q ∧ q ≤ 9223372036854775807) ∧ Hid (foldI q = foldI n))
   (fun x => (RowKit.intOf x).toNat)
  case atStart => exact ⟨n, rfl, ⟨by omega, hn⟩, rfl⟩
  case round =>
   obtain ⟨q, rfl, ⟨q0, q1⟩, hq⟩ := hrel
   by_cases hlt : 65535 < q
   ·have E : Hid (foldI (q / 65536 + q % 65536) = foldI n) := by show _ = _; rw [foldI_step q hlt]; exact hq.out
    have hm := and_mask q q0 q1
    go_wp2_with fail
    go_round
    case rel => exact ⟨_, by go_num, ⟨by omega, by omega⟩, E⟩
    case measure => simp [RowKit.intOf]; omega
   ·have E : Hid (foldI n = q) := by show _ = _; rw [← hq.out]; exact foldI_small q q0 (by omega)
    clear hq
    go_wp2_with fail
    go_ret
    rw [E.out]
    exact ⟨rfl, rfl⟩
end Go.Proofs.YtkkimgjcefojdaaGreatDoor
namespace Go.Proofs.YtkkimgjcefojdaaGreatDoor
open Go.RowKit Go.Lib

set_option maxHeartbeats 400000 in
theorem wordSumS (s : ByteArray) (hs : s.size ≤ 1048592) (w : World) :
  Calls Tryz.prog 115 #[.string s] w fun e w' => e = .returned (.int .i64 (wsum s)) ∧ w = w' := by
 go_enter Tryz.func115, Tryz.ntmps115
 go_wp2_with fail
 go_loop [3, 4] (fun x i => ∃ (j q : Nat), i = .int .i64 j ∧ x = .int .i64 q ∧ (j ≤ s.size ∧ j % 2 = 0 ∧ Hid (q = psum s j) ∨ j = s.size + 1 ∧ Hid (q = wsum s)))
  (fun _ i => s.size + 1 - (RowKit.intOf i).toNat)
 case atStart => exact ⟨0, 0, rfl, rfl, .inl ⟨Nat.zero_le _, rfl, (psum_zero s).symm⟩⟩
 case round =>
  obtain ⟨j, q, rfl, rfl, (⟨hj, he, hq⟩ | ⟨rfl, hq⟩)⟩ := hrel
  ·have hqb : q ≤ 68452085760 := by rw [hq.out]; exact Nat.le_trans (psum_bd s j) (by omega)
   by_cases hlt : j < s.size
   ·have h8 : s[j].toNat < 256 := s[j].toNat_lt
    by_cases hlt2 : j + 1 < s.size
    ·have h82 : s[j + 1].toNat < 256 := s[j + 1].toNat_lt
     have E : Hid (q + 256 * s[j].toNat + s[j + 1].toNat = psum s (j + 2)) := by
      show _ = _; rw [psum_odd s (j + 1) hlt2 (by omega), psum_even s j hlt he, hq.out]
     clear hq
     go_wp2_with fail
     go_round
     case rel => exact ⟨j + 2, _, by go_num, by go_num, .inl ⟨by omega, by omega, E⟩⟩
     case measure => simp [RowKit.intOf]; omega
    ·have E : Hid (q + 256 * s[j].toNat = wsum s) := by
      show _ = _; rw [← psum_all s, show s.size = j + 1 by omega, psum_even s j hlt he, hq.out]
     clear hq
     go_wp2_with fail
     go_round
     case rel => exact ⟨j + 2, _, by go_num, by go_num, .inr ⟨by omega, E⟩⟩
     case measure => simp [RowKit.intOf]; omega
   ·have E : Hid (wsum s = q) := by show _ = _; rw [← psum_all s, show s.size = j by omega, hq.out]
    clear hq
    go_wp2_with fail
    go_ret
    rw [E.out]
    exact ⟨rfl, rfl⟩
  ·go_wp2_with fail
   go_ret
   rw [hq.out]
   exact ⟨rfl, rfl⟩

/-- The shift that the program has ahead of byte j. -/
def shf (j : Nat) : Int := if j % 2 = 0 then 8 else 0
theorem shf_cases (j : Nat) : (j % 2 = 0 ∧ shf j = 8 ∧ shf (j + 1) = 0) ∨ (j % 2 = 1 ∧ shf j = 0 ∧ shf (j + 1) = 8) := by
 unfold shf
 rcases Nat.mod_two_eq_zero_or_one j with h | h
 ·exact .inl ⟨h, if_pos h, if_neg (by omega)⟩
 ·exact .inr ⟨h, if_neg (by omega), if_pos (by omega)⟩

set_option maxHeartbeats 1000000 in
/-- The program's sum over a list of one text. -/
theorem joinedSumI (s : ByteArray) (hs : s.size ≤ 1048592) (r cap : Nat) (w : World) (hc : w.cell? ⟨r, 0, none⟩ = some (.string s)) :
  Calls Tryz.prog 121 #[.slice (some ⟨r, 0, none⟩) 1 cap] w fun e w' => e = .returned (.int .i64 (wsum s)) ∧ w = w' := by
 go_enter Tryz.func121, Tryz.ntmps121
 go_wp2_with fail
 go_loop [3, 4, 10] (fun x h i => (x = .int .i64 0 ∧ h = .int .i64 8 ∧ i = .int .i64 0) ∨ (∃ (q : Nat) (z : Int), x = .int .i64 q ∧ Hid (q = wsum s) ∧ h = .int .i64 z ∧ i = .int .i64 1))
  (fun _ _ i => 1 - (RowKit.intOf i).toNat)
 case atStart => exact .inl ⟨rfl, rfl, rfl⟩
 case round =>
  rcases hrel with ⟨rfl, rfl, rfl⟩ | ⟨q, z, rfl, hq, rfl, rfl⟩
  ·go_wp2_with fail
   go_loop [3, 4, 16] (fun x h i => ∃ (j q : Nat), j ≤ s.size ∧ i = .int .i64 j ∧ x = .int .i64 q ∧ h = .int .i64 (shf j) ∧ Hid (q = psum s j))
    (fun _ _ i => s.size - (RowKit.intOf i).toNat)
   case atStart => exact ⟨0, 0, Nat.zero_le _, rfl, rfl, rfl, (psum_zero s).symm⟩
   case round =>
    obtain ⟨j, q, hj, rfl, rfl, rfl, hq⟩ := hrel
    have hqb : q ≤ 68452085760 := by rw [hq.out]; exact Nat.le_trans (psum_bd s j) (by omega)
    by_cases hlt : j < s.size
    ·have h8 : s[j].toNat < 256 := s[j].toNat_lt
     rcases shf_cases j with ⟨he, h1, h2⟩ | ⟨he, h1, h2⟩
     ·have E : Hid (q + 256 * s[j].toNat = psum s (j + 1)) := by show _ = _; rw [psum_even s j hlt he, hq.out]
      rw [h1]
      have H2 := Lib.hid h2
      clear hq h1 h2
      go_wp2_with fail
      go_round
      case rel => exact ⟨j + 1, _, by omega, by go_num, by go_num, by rw [H2.out], E⟩
      case measure => simp [RowKit.intOf]; omega
     ·have E : Hid (q + s[j].toNat = psum s (j + 1)) := by show _ = _; rw [psum_odd s j hlt he, hq.out]
      rw [h1]
      have H2 := Lib.hid h2
      clear hq h1 h2
      go_wp2_with fail
      go_round
      case rel => exact ⟨j + 1, _, by omega, by go_num, by go_num, by rw [H2.out], E⟩
      case measure => simp [RowKit.intOf]; omega
    ·have E : Hid (q = wsum s) := by show _ = _; rw [← psum_all s, show s.size = j by omega, hq.out]
     clear hq
     go_wp2_with fail
     go_round
     case rel => exact .inr ⟨q, _, rfl, E, rfl, rfl⟩
     case measure => simp [RowKit.intOf]
  ·go_wp2_with fail
   go_ret
   rw [hq.out]
   exact ⟨rfl, rfl⟩
end Go.Proofs.YtkkimgjcefojdaaGreatDoor
namespace Go.Proofs.YtkkimgjcefojdaaGreatDoor
open Go.RowKit Go.Lib

set_option maxHeartbeats 400000 in
theorem wordSumI (s : ByteArray) (hs : s.size ≤ 1048592) (w : World) :
  Calls Tryz.prog 113 #[.string s] w fun e w' => e = .returned (.int .i64 (wsum s)) ∧ Below w.heap.size w w' := by
 go_enter Tryz.func113, Tryz.ntmps113
 go_wp2_with fail
 refine (joinedSumI s hs w.heap.size 1 (w.alloc (.cells #[.string s] 9)) (row_at (heap_alloc_new w _) (by simp))).mono ?_
 rintro e w1 ⟨rfl, rfl⟩
 go_wp2_with fail
 go_ret
 exact ⟨rfl, (Below.refl _ _).alloc (Nat.le_refl _) _⟩

theorem wsum_i64 (s : ByteArray) (hs : s.size ≤ 1048592) : (wsum s : Int) ≤ 68452085760 := by
 have := wsum_bd s; omega

set_option maxHeartbeats 400000 in
theorem sumOfS (s : ByteArray) (hs : s.size ≤ 1048592) (w : World) :
  Calls Tryz.prog 94 #[.string s] w fun e w' => e = .returned (.int .i64 (sumOf s)) ∧ w = w' := by
 have C1 := Lib.hid (wordSumS s hs)
 have C2 := Lib.hid (foldedS (wsum s) (by have := wsum_i64 s hs; omega))
 have hf := foldI_bd (wsum s)
 have E : Hid (sumOf s = 65535 - foldI (wsum s)) := rfl
 obtain ⟨f, hf'⟩ : ∃ f, foldI (wsum s) = f := ⟨_, rfl⟩
 rw [hf'] at C2 E hf
 clear hf'
 rw [E.out]
 go_enter Tryz.func94, Tryz.ntmps94
 go_wp2_with fail
 refine (C1.out _).mono ?_
 rintro e w1 ⟨rfl, rfl⟩
 go_wp2_with fail
 refine (C2.out _).mono ?_
 rintro e w1 ⟨rfl, rfl⟩
 go_wp2_with fail
 go_ret
 exact ⟨rfl, rfl⟩

set_option maxHeartbeats 400000 in
theorem sumOfI (s : ByteArray) (hs : s.size ≤ 1048592) (w : World) :
  Calls Tryz.prog 91 #[.string s] w fun e w' => e = .returned (.int .i64 (sumOf s)) ∧ Below w.heap.size w w' := by
 have C1 := Lib.hid (wordSumI s hs)
 have C2 := Lib.hid (foldedI (wsum s) (by have := wsum_i64 s hs; omega))
 have hf := foldI_bd (wsum s)
 have E : Hid (sumOf s = 65535 - foldI (wsum s)) := rfl
 obtain ⟨f, hf'⟩ : ∃ f, foldI (wsum s) = f := ⟨_, rfl⟩
 rw [hf'] at C2 E hf
 clear hf'
 rw [E.out]
 go_enter Tryz.func91, Tryz.ntmps91
 go_wp2_with fail
 refine (C1.out _).mono ?_
 rintro e w1 ⟨rfl, hb1⟩
 go_wp2_with fail
 refine (C2.out _).mono ?_
 rintro e w2 ⟨rfl, rfl⟩
 go_wp2_with fail
 go_ret
 exact ⟨rfl, hb1⟩

end Go.Proofs.YtkkimgjcefojdaaGreatDoor
namespace Go.Proofs.YtkkimgjcefojdaaGreatDoor
open Go.RowKit Go.Lib

set_option maxHeartbeats 400000 in
theorem sumRightI (s : ByteArray) (hs : s.size ≤ 1048592) (w : World) :
  Calls Tryz.prog 127 #[.string s] w fun e w' => e = .returned (.bool (sumRight s)) ∧ Below w.heap.size w w' := by
 have C1 := Lib.hid (sumOfI s hs)
 have E : Hid (sumRight s = (sumOf s == 0)) := rfl
 obtain ⟨f, hf'⟩ : ∃ f, sumOf s = f := ⟨_, rfl⟩
 rw [hf'] at C1 E
 clear hf'
 rw [E.out]
 go_enter Tryz.func127, Tryz.ntmps127
 go_wp2_with fail
 refine (C1.out _).mono ?_
 rintro e w1 ⟨rfl, hb1⟩
 go_wp2_with fail
 go_ret
 exact ⟨rfl, hb1⟩
end Go.Proofs.YtkkimgjcefojdaaGreatDoor
namespace Go.Proofs.YtkkimgjcefojdaaGreatDoor
open Go.RowKit Go.Lib

/-- What packetFault answers. -/
def faultV (k : Nat) : Value := if k = 0 then .nilIface else .iface 147 (.int .i64 k)

set_option maxRecDepth 100000 in
set_option maxHeartbeats 4000000 in
theorem fault_short (s : ByteArray) (w : World) (h : s.size < 20) :
  Calls Tryz.prog 120 #[.string s] w fun e w' => e = .returned (.iface 147 (.int .i64 1)) ∧ Below w.heap.size w w' := by
 have h0 : (s.size : Int) < 20 := by omega
 go_enter Tryz.func120, Tryz.ntmps120
 go_wp2
 go_ret
 exact ⟨rfl, Below.refl _ _⟩

set_option maxRecDepth 100000 in
set_option maxHeartbeats 4000000 in
theorem fault_version (s : ByteArray) (w : World) (h : 20 ≤ s.size) (hv : ¬ (at8 s 0).toNat = 69) :
  Calls Tryz.prog 120 #[.string s] w fun e w' => e = .returned (.iface 147 (.int .i64 2)) ∧ Below w.heap.size w w' := by
 have h0 : ¬ (s.size : Int) < 20 := by omega
 have h1 : 0 < s.size := by omega
 have hb : ((s[0].toNat : Int) != 69) = true := by rw [at8_eq]; simp; omega
 clear hv
 go_enter Tryz.func120, Tryz.ntmps120
 go_wp2
 go_ret
 exact ⟨rfl, Below.refl _ _⟩

set_option maxRecDepth 100000 in
set_option maxHeartbeats 4000000 in
theorem fault_sum (s : ByteArray) (w : World) (hs : s.size ≤ 1048576) (h : 20 ≤ s.size) (hv : (at8 s 0).toNat = 69) (hr : sumRight (s.extract 0 20) = false) :
  Calls Tryz.prog 120 #[.string s] w fun e w' => e = .returned (.iface 147 (.int .i64 3)) ∧ Below w.heap.size w w' := by
 have h0 : ¬ (s.size : Int) < 20 := by omega
 have h1 : 0 < s.size := by omega
 have hb : ((s[0].toNat : Int) != 69) = false := by rw [at8_eq]; simp; omega
 clear hv
 have R := Lib.hid (sumRightI (s.extract 0 20) (by rw [ByteArray.size_extract]; omega))
 rw [hr] at R
 clear hr
 go_enter Tryz.func120, Tryz.ntmps120
 go_wp2_with fail
 refine (R.out _).mono ?_
 rintro e w1 ⟨rfl, hb1⟩
 have B1 := Lib.hid hb1
 clear hb1
 go_wp2
 go_ret
 exact ⟨rfl, B1.out⟩

set_option maxRecDepth 100000 in
set_option maxHeartbeats 4000000 in
theorem fault_low (s : ByteArray) (w : World) (hs : s.size ≤ 1048576) (h : 20 ≤ s.size) (hv : (at8 s 0).toNat = 69) (hr : sumRight (s.extract 0 20) = true) (hx : gw s 2 2 < 20) :
  Calls Tryz.prog 120 #[.string s] w fun e w' => e = .returned (.iface 147 (.int .i64 4)) ∧ Below w.heap.size w w' := by
 have h0 : ¬ (s.size : Int) < 20 := by omega
 have h1 : 0 < s.size := by omega
 have hb : ((s[0].toNat : Int) != 69) = false := by rw [at8_eq]; simp; omega
 clear hv
 have R := Lib.hid (sumRightI (s.extract 0 20) (by rw [ByteArray.size_extract]; omega))
 rw [hr] at R
 clear hr
 have G2 := Lib.hid (fun w => get3I s 2 2 w hs (by omega) (by omega))
 generalize gw s 2 2 = x at *
 go_enter Tryz.func120, Tryz.ntmps120
 go_wp2_with fail
 refine (R.out _).mono ?_
 rintro e w1 ⟨rfl, hb1⟩
 have B1 := Lib.hid hb1
 clear hb1
 go_wp2_with fail
 refine (G2.out _).mono ?_
 rintro e w2 ⟨rfl, rfl⟩
 go_wp2
 go_ret
 exact ⟨rfl, B1.out⟩

set_option maxRecDepth 100000 in
set_option maxHeartbeats 4000000 in
theorem fault_long (s : ByteArray) (w : World) (hs : s.size ≤ 1048576) (h : 20 ≤ s.size) (hv : (at8 s 0).toNat = 69) (hr : sumRight (s.extract 0 20) = true) (_ : 20 ≤ gw s 2 2) (hx : s.size < gw s 2 2) :
  Calls Tryz.prog 120 #[.string s] w fun e w' => e = .returned (.iface 147 (.int .i64 4)) ∧ Below w.heap.size w w' := by
 have h0 : ¬ (s.size : Int) < 20 := by omega
 have h1 : 0 < s.size := by omega
 have hb : ((s[0].toNat : Int) != 69) = false := by rw [at8_eq]; simp; omega
 clear hv
 have R := Lib.hid (sumRightI (s.extract 0 20) (by rw [ByteArray.size_extract]; omega))
 rw [hr] at R
 clear hr
 have G2 := Lib.hid (fun w => get3I s 2 2 w hs (by omega) (by omega))
 generalize gw s 2 2 = x at *
 go_enter Tryz.func120, Tryz.ntmps120
 go_wp2_with fail
 refine (R.out _).mono ?_
 rintro e w1 ⟨rfl, hb1⟩
 have B1 := Lib.hid hb1
 clear hb1
 go_wp2_with fail
 refine (G2.out _).mono ?_
 rintro e w2 ⟨rfl, rfl⟩
 go_wp2
 go_ret
 exact ⟨rfl, B1.out⟩

set_option maxRecDepth 100000 in
set_option maxHeartbeats 4000000 in
theorem fault_most (s : ByteArray) (w : World) (hs : s.size ≤ 1048576) (h : 20 ≤ s.size) (hv : (at8 s 0).toNat = 69) (hr : sumRight (s.extract 0 20) = true) (_ : 20 ≤ gw s 2 2) (hx1 : gw s 2 2 ≤ s.size) (hx : 1500 < gw s 2 2) :
  Calls Tryz.prog 120 #[.string s] w fun e w' => e = .returned (.iface 147 (.int .i64 4)) ∧ Below w.heap.size w w' := by
 have h0 : ¬ (s.size : Int) < 20 := by omega
 have h1 : 0 < s.size := by omega
 have hb : ((s[0].toNat : Int) != 69) = false := by rw [at8_eq]; simp; omega
 clear hv
 have R := Lib.hid (sumRightI (s.extract 0 20) (by rw [ByteArray.size_extract]; omega))
 rw [hr] at R
 clear hr
 have G2 := Lib.hid (fun w => get3I s 2 2 w hs (by omega) (by omega))
 generalize gw s 2 2 = x at *
 go_enter Tryz.func120, Tryz.ntmps120
 go_wp2_with fail
 refine (R.out _).mono ?_
 rintro e w1 ⟨rfl, hb1⟩
 have B1 := Lib.hid hb1
 clear hb1
 go_wp2_with fail
 refine (G2.out _).mono ?_
 rintro e w2 ⟨rfl, rfl⟩
 go_wp2
 go_ret
 exact ⟨rfl, B1.out⟩

set_option maxRecDepth 100000 in
set_option maxHeartbeats 4000000 in
theorem fault_frag (s : ByteArray) (w : World) (hs : s.size ≤ 1048576) (h : 20 ≤ s.size) (hv : (at8 s 0).toNat = 69) (hr : sumRight (s.extract 0 20) = true) (hx0 : 20 ≤ gw s 2 2) (hx1 : gw s 2 2 ≤ s.size) (hx2 : gw s 2 2 ≤ 1500) (hy : ¬ gw s 6 2 = 0) (hy2 : ¬ gw s 6 2 = 16384) :
  Calls Tryz.prog 120 #[.string s] w fun e w' => e = .returned (.iface 147 (.int .i64 5)) ∧ Below w.heap.size w w' := by
 have h0 : ¬ (s.size : Int) < 20 := by omega
 have h1 : 0 < s.size := by omega
 have hb : ((s[0].toNat : Int) != 69) = false := by rw [at8_eq]; simp; omega
 clear hv
 have R := Lib.hid (sumRightI (s.extract 0 20) (by rw [ByteArray.size_extract]; omega))
 rw [hr] at R
 clear hr
 have G2 := Lib.hid (fun w => get3I s 2 2 w hs (by omega) (by omega))
 generalize gw s 2 2 = x at *
 have G6 := Lib.hid (fun w => get3I s 6 2 w hs (by omega) (by omega))
 generalize gw s 6 2 = y at *
 have hy' : ((y : Int) != 0) = true := by simp; omega
 have hy2' : ((y : Int) != 16384) = true := by simp; omega
 clear hy hy2
 go_enter Tryz.func120, Tryz.ntmps120
 go_wp2_with fail
 refine (R.out _).mono ?_
 rintro e w1 ⟨rfl, hb1⟩
 have B1 := Lib.hid hb1
 clear hb1
 go_wp2_with fail
 refine (G2.out _).mono ?_
 rintro e w2 ⟨rfl, rfl⟩
 go_wp2_with fail
 refine (G6.out _).mono ?_
 rintro e w2 ⟨rfl, rfl⟩
 go_wp2
 go_ret
 exact ⟨rfl, B1.out⟩

set_option maxRecDepth 100000 in
set_option maxHeartbeats 4000000 in
theorem fault_ttl (s : ByteArray) (w : World) (hs : s.size ≤ 1048576) (h : 20 ≤ s.size) (hv : (at8 s 0).toNat = 69) (hr : sumRight (s.extract 0 20) = true) (hx0 : 20 ≤ gw s 2 2) (hx1 : gw s 2 2 ≤ s.size) (hx2 : gw s 2 2 ≤ 1500) (hy : gw s 6 2 = 0 ∨ gw s 6 2 = 16384) (ht : (at8 s 8).toNat = 0) :
  Calls Tryz.prog 120 #[.string s] w fun e w' => e = .returned (.iface 147 (.int .i64 6)) ∧ Below w.heap.size w w' := by
 have h0 : ¬ (s.size : Int) < 20 := by omega
 have h1 : 0 < s.size := by omega
 have h8 : 8 < s.size := by omega
 have hb : ((s[0].toNat : Int) != 69) = false := by rw [at8_eq]; simp; omega
 clear hv
 have R := Lib.hid (sumRightI (s.extract 0 20) (by rw [ByteArray.size_extract]; omega))
 rw [hr] at R
 clear hr
 have G2 := Lib.hid (fun w => get3I s 2 2 w hs (by omega) (by omega))
 generalize gw s 2 2 = x at *
 have G6 := Lib.hid (fun w => get3I s 6 2 w hs (by omega) (by omega))
 generalize gw s 6 2 = y at *
 have ht8 : ((s[8].toNat : Int) == 0) = true := by rw [at8_eq]; simp; omega
 clear ht
 rcases hy with rfl | rfl
 all_goals
  go_enter Tryz.func120, Tryz.ntmps120
  go_wp2_with fail
  refine (R.out _).mono ?_
  rintro e w1 ⟨rfl, hb1⟩
  have B1 := Lib.hid hb1
  clear hb1
  go_wp2_with fail
  refine (G2.out _).mono ?_
  rintro e w2 ⟨rfl, rfl⟩
  go_wp2_with fail
  refine (G6.out _).mono ?_
  rintro e w2 ⟨rfl, rfl⟩
  go_wp2
  go_ret
  exact ⟨rfl, B1.out⟩

set_option maxRecDepth 100000 in
set_option maxHeartbeats 4000000 in
theorem fault_ok (s : ByteArray) (w : World) (hs : s.size ≤ 1048576) (h : 20 ≤ s.size) (hv : (at8 s 0).toNat = 69) (hr : sumRight (s.extract 0 20) = true) (hx0 : 20 ≤ gw s 2 2) (hx1 : gw s 2 2 ≤ s.size) (hx2 : gw s 2 2 ≤ 1500) (hy : gw s 6 2 = 0 ∨ gw s 6 2 = 16384) (ht : ¬ (at8 s 8).toNat = 0) :
  Calls Tryz.prog 120 #[.string s] w fun e w' => e = .returned (.nilIface) ∧ Below w.heap.size w w' := by
 have h0 : ¬ (s.size : Int) < 20 := by omega
 have h1 : 0 < s.size := by omega
 have h8 : 8 < s.size := by omega
 have hb : ((s[0].toNat : Int) != 69) = false := by rw [at8_eq]; simp; omega
 clear hv
 have R := Lib.hid (sumRightI (s.extract 0 20) (by rw [ByteArray.size_extract]; omega))
 rw [hr] at R
 clear hr
 have G2 := Lib.hid (fun w => get3I s 2 2 w hs (by omega) (by omega))
 generalize gw s 2 2 = x at *
 have G6 := Lib.hid (fun w => get3I s 6 2 w hs (by omega) (by omega))
 generalize gw s 6 2 = y at *
 have ht8 : ((s[8].toNat : Int) == 0) = false := by rw [at8_eq]; simp; omega
 clear ht
 rcases hy with rfl | rfl
 all_goals
  go_enter Tryz.func120, Tryz.ntmps120
  go_wp2_with fail
  refine (R.out _).mono ?_
  rintro e w1 ⟨rfl, hb1⟩
  have B1 := Lib.hid hb1
  clear hb1
  go_wp2_with fail
  refine (G2.out _).mono ?_
  rintro e w2 ⟨rfl, rfl⟩
  go_wp2_with fail
  refine (G6.out _).mono ?_
  rintro e w2 ⟨rfl, rfl⟩
  go_wp2
  go_ret
  exact ⟨rfl, B1.out⟩

theorem faultI (s : ByteArray) (hs : s.size ≤ 1048576) (w : World) :
  Calls Tryz.prog 120 #[.string s] w fun e w' => e = .returned (faultV (pkWhy s)) ∧ Below w.heap.size w w' := by
 unfold pkWhy
 split
 ·exact fault_short s w (by assumption)
 split
 ·exact fault_version s w (by omega) (by assumption)
 rename_i h hv
 have h : 20 ≤ s.size := by omega
 have hv : (at8 s 0).toNat = 69 := by omega
 split
 ·exact fault_sum s w hs h hv (by assumption)
 rename_i hr
 have hr : sumRight (s.extract 0 20) = true := by simpa using hr
 split
 ·by_cases hx0 : 20 ≤ gw s 2 2
  ·by_cases hx1 : gw s 2 2 ≤ s.size
   ·exact fault_most s w hs h hv hr hx0 hx1 (by omega)
   ·exact fault_long s w hs h hv hr hx0 (by omega)
  ·exact fault_low s w hs h hv hr (by omega)
 rename_i hx
 have hx : 20 ≤ gw s 2 2 ∧ gw s 2 2 ≤ s.size ∧ gw s 2 2 ≤ 1500 := by omega
 split
 ·exact fault_frag s w hs h hv hr hx.1 hx.2.1 hx.2.2 (by omega) (by omega)
 rename_i hy
 have hy : gw s 6 2 = 0 ∨ gw s 6 2 = 16384 := by omega
 split
 ·exact fault_ttl s w hs h hv hr hx.1 hx.2.1 hx.2.2 hy (by assumption)
 ·exact fault_ok s w hs h hv hr hx.1 hx.2.1 hx.2.2 hy (by assumption)
end Go.Proofs.YtkkimgjcefojdaaGreatDoor
namespace Go.Proofs.YtkkimgjcefojdaaGreatDoor
open Go.RowKit Go.Lib

theorem post_put {P : Program} {fn : Func} {R : Ending → World → Prop} {x : Exit} {a : Act} {d : Option Nat} {w : World} {v : Value} (n : Nat) (hd : d = some n) (h : bodyPost P fn R x (a.put (some n) v) w) : bodyPost P fn R x (a.put d v) w := by
 subst hd; exact h
theorem Blk.under {w w' : World} {B r : Nat} {vs : List Value} (h : Blk w r vs) (hb : Below B w w') (hr : r < B) : Blk w' r vs := by
 obtain ⟨t, h⟩ := h
 exact ⟨t, (hb.block r hr).trans h⟩

set_option maxRecDepth 100000 in
set_option maxHeartbeats 1000000 in
theorem readPkI_bad (s : ByteArray) (hs : s.size ≤ 1048576) (k : Nat) (hk : pkWhy s = k) (hk0 : ¬ k = 0) (w : World) (hg : ErrTy w) :
  Calls Tryz.prog 108 #[.string s] w fun e w' => e = .returned (.tuple #[.agg #[.int .i64 0, .int .i64 0, .int .i64 0, .int .i64 0, .int .i64 0, .string ⟨#[]⟩], .int .i64 k]) ∧ Below w.heap.size w w' := by
 have C := Lib.hid (faultI s hs)
 have e : faultV k = .iface 147 (.int .i64 k) := by unfold faultV; rw [if_neg hk0]
 rw [hk, e] at C
 clear e hk hk0
 have HG := Lib.hid hg
 have HL := Lib.hid hg.lt
 clear hg
 go_enter Tryz.func108, Tryz.ntmps108
 go_wp2_with fail
 refine (C.out _).mono ?_
 rintro e w1 ⟨rfl, hb⟩
 have B0 := Lib.hid (((Below.refl w.heap.size w).alloc (Nat.le_refl _) (.cells #[.int .i64 0, .int .i64 0, .int .i64 0, .int .i64 0, .int .i64 0, .string ⟨#[]⟩] 30)).alloc (by simp) (.cells #[.int .i64 0] 147))
 have B1 := Lib.hid (B0.out.trans (hb.mono (by simp; omega)))
 have R1 := Lib.hid (((Blk.new w [.int .i64 0, .int .i64 0, .int .i64 0, .int .i64 0, .int .i64 0, .string ⟨#[]⟩] 30).alloc (.cells #[.int .i64 0] 147)).below hb)
 have Y1 : Blk w1 (w.heap.size + 1) [.int .i64 0] := by
  have := (Blk.new (w.alloc (.cells #[.int .i64 0, .int .i64 0, .int .i64 0, .int .i64 0, .int .i64 0, .string ⟨#[]⟩] 30)) [.int .i64 0] 147).below hb
  simpa using this
 have Y1 := Lib.hid Y1
 have A := Lib.hid (as_set k (w.heap.size + 1) (.int .i64 0) w1 (HG.out.below B1.out HL.out) Y1.out)
 clear hb B0 Y1
 go_wp2_with fail
 refine A.out.mono ?_
 rintro e w2 ⟨rfl, hc, hb2⟩
 have B2 := Lib.hid (B1.out.trans (hb2.mono (by omega)))
 have R2 := Lib.hid (R1.out.under hb2 (by omega))
 clear hb2 B1 R1 A
 obtain ⟨⟨d0, d1, d2, d3, d4, d5⟩, e0, e1, e2, e3, e4, e5⟩ := R2.out.of6
 go_wp2_with fail
 go_region_with fail
 all_goals go_wp2_with fail
 all_goals refine post_put 3 rfl ?_
 all_goals exact bodyPost_ret (v := .tuple #[.agg #[.int .i64 0, .int .i64 0, .int .i64 0, .int .i64 0, .int .i64 0, .string ⟨#[]⟩], .int .i64 k]) (by simp [results, Tryz.results108, go_sem, d0, d1, d2, d3, d4, d5]) rfl ⟨rfl, ((((((B2.out.setCell (Nat.le_refl _) _).setCell (Nat.le_refl _) _).setCell (Nat.le_refl _) _).setCell (Nat.le_refl _) _).setCell (Nat.le_refl _) _).setCell (Nat.le_refl _) _).drew⟩

set_option maxRecDepth 100000 in
set_option maxHeartbeats 1000000 in
theorem readPkI_ok (s : ByteArray) (hs : s.size ≤ 1048576) (hk : pkWhy s = 0) (h : 20 ≤ s.size) (hx0 : 20 ≤ gw s 2 2) (hx1 : gw s 2 2 ≤ s.size) (w : World) :
  Calls Tryz.prog 108 #[.string s] w fun e w' => e = .returned (.tuple #[.agg #[.int .i64 (gw s 12 4 : Nat), .int .i64 (gw s 16 4 : Nat), .int .i64 (at8 s 8).toNat, .int .i64 (at8 s 9).toNat, .int .i64 (gw s 4 2 : Nat), .string (s.extract 20 (gw s 2 2))], .int .i64 0]) ∧ Below w.heap.size w w' := by
 have C := Lib.hid (faultI s hs)
 have e : faultV 0 = .nilIface := rfl
 rw [hk, e] at C
 clear e hk
 have G2 := Lib.hid (fun w => get3I s 2 2 w hs (by omega) (by omega))
 have G4 := Lib.hid (fun w => get3I s 4 2 w hs (by omega) (by omega))
 have G12 := Lib.hid (fun w => get3I s 12 4 w hs (by omega) (by omega))
 have G16 := Lib.hid (fun w => get3I s 16 4 w hs (by omega) (by omega))
 generalize gw s 2 2 = x2 at *
 generalize gw s 4 2 = x4 at *
 generalize gw s 12 4 = x12 at *
 generalize gw s 16 4 = x16 at *
 have h8 : 8 < s.size := by omega
 have h9 : 9 < s.size := by omega
 have i8 : (8 : Int) < s.size := by omega
 have i9 : (9 : Int) < s.size := by omega
 have w8 : IntKind.i64.wrap (s[8].toNat : Int) = s[8].toNat := by have := s[8].toNat_lt; rw [IntKind.wrap_i64]; omega
 have w9 : IntKind.i64.wrap (s[9].toNat : Int) = s[9].toNat := by have := s[9].toNat_lt; rw [IntKind.wrap_i64]; omega
 have q1 : (20 : Int) ≤ x2 := by omega
 have q2 : (x2 : Int) ≤ s.size := by omega
 rw [← at8_eq s 8 h8, ← at8_eq s 9 h9]
 have AN := Lib.hid as_nil
 go_enter Tryz.func108, Tryz.ntmps108
 go_wp2_with fail
 refine (C.out _).mono ?_
 rintro e w1 ⟨rfl, hb⟩
 have B0 := Lib.hid (((Below.refl w.heap.size w).alloc (Nat.le_refl _) (.cells #[.int .i64 0, .int .i64 0, .int .i64 0, .int .i64 0, .int .i64 0, .string ⟨#[]⟩] 30)).alloc (by simp) (.cells #[.int .i64 0] 147))
 have B1 := Lib.hid (B0.out.trans (hb.mono (by simp; omega)))
 have R1 := Lib.hid (((Blk.new w [.int .i64 0, .int .i64 0, .int .i64 0, .int .i64 0, .int .i64 0, .string ⟨#[]⟩] 30).alloc (.cells #[.int .i64 0] 147)).below hb)
 clear hb B0
 go_wp2_with fail
 refine (AN.out _ _).mono ?_
 rintro e w2 ⟨rfl, rfl⟩
 go_wp2_with fail
 refine (G2.out _).mono ?_
 rintro e w2 ⟨rfl, rfl⟩
 go_wp2_with fail
 refine (G4.out _).mono ?_
 rintro e w2 ⟨rfl, rfl⟩
 go_wp2_with fail
 refine (G12.out _).mono ?_
 rintro e w2 ⟨rfl, rfl⟩
 go_wp2_with fail
 refine (G16.out _).mono ?_
 rintro e w2 ⟨rfl, rfl⟩
 obtain ⟨⟨d0, d1, d2, d3, d4, d5⟩, e0, e1, e2, e3, e4, e5⟩ := R1.out.of6
 go_wp2_with fail
 go_region_with fail
 all_goals go_wp2_with fail
 all_goals refine post_put 3 rfl ?_
 all_goals exact bodyPost_ret (v := .tuple #[.agg #[.int .i64 x12, .int .i64 x16, .int .i64 s[8].toNat, .int .i64 s[9].toNat, .int .i64 x4, .string (s.extract 20 x2)], .int .i64 0]) (by simp [results, Tryz.results108, go_sem, d0, d1, d2, d3, d4, d5]) rfl ⟨rfl, ((((((B1.out.setCell (Nat.le_refl _) _).setCell (Nat.le_refl _) _).setCell (Nat.le_refl _) _).setCell (Nat.le_refl _) _).setCell (Nat.le_refl _) _).setCell (Nat.le_refl _) _).drew⟩
end Go.Proofs.YtkkimgjcefojdaaGreatDoor
namespace Go.Proofs.YtkkimgjcefojdaaGreatDoor
open Go.RowKit Go.Lib

/-- What ReadPacket answers. -/
def rkF (s : ByteArray) (n : Int) : Int := if pkWhy s = 0 then n else 0
def rkS (s : ByteArray) : Int := rkF s (gw s 12 4 : Nat)
def rkD (s : ByteArray) : Int := rkF s (gw s 16 4 : Nat)
def rkT (s : ByteArray) : Int := rkF s (at8 s 8).toNat
def rkP (s : ByteArray) : Int := rkF s (at8 s 9).toNat
def rkI (s : ByteArray) : Int := rkF s (gw s 4 2 : Nat)
def rkB (s : ByteArray) : ByteArray := if pkWhy s = 0 then s.extract 20 (gw s 2 2) else ⟨#[]⟩
def rkV (s : ByteArray) : Value := .tuple #[.agg #[.int .i64 (rkS s), .int .i64 (rkD s), .int .i64 (rkT s), .int .i64 (rkP s), .int .i64 (rkI s), .string (rkB s)], .int .i64 (pkWhy s : Nat)]
theorem rkV_yes (s : ByteArray) (h : pkWhy s = 0) : rkV s = .tuple #[.agg #[.int .i64 (gw s 12 4 : Nat), .int .i64 (gw s 16 4 : Nat), .int .i64 (at8 s 8).toNat, .int .i64 (at8 s 9).toNat, .int .i64 (gw s 4 2 : Nat), .string (s.extract 20 (gw s 2 2))], .int .i64 0] := by
 unfold rkV rkS rkD rkT rkP rkI rkB rkF; simp only [h, if_true]; rfl
theorem rkV_no (s : ByteArray) (k : Nat) (h : pkWhy s = k) (h0 : ¬ k = 0) : rkV s = .tuple #[.agg #[.int .i64 0, .int .i64 0, .int .i64 0, .int .i64 0, .int .i64 0, .string ⟨#[]⟩], .int .i64 k] := by
 unfold rkV rkS rkD rkT rkP rkI rkB rkF; simp only [h, h0, if_false]
/-- What is known of a text that begins with a packet. -/
theorem pkWhy_zero {s : ByteArray} (h : pkWhy s = 0) : 20 ≤ s.size ∧ (at8 s 0).toNat = 69 ∧ sumRight (s.extract 0 20) = true ∧ (20 ≤ gw s 2 2 ∧ gw s 2 2 ≤ s.size ∧ gw s 2 2 ≤ 1500) ∧ (gw s 6 2 = 0 ∨ gw s 6 2 = 16384) ∧ ¬ (at8 s 8).toNat = 0 := by
 unfold pkWhy at h
 split at h
 ·omega
 split at h
 ·omega
 split at h
 ·omega
 rename_i h3
 split at h
 ·omega
 split at h
 ·omega
 split at h
 ·omega
 exact ⟨by omega, by omega, by simpa using h3, by omega, by omega, by assumption⟩

theorem readPkI (s : ByteArray) (w : World) (hg : ErrTy w) (hs : s.size ≤ 1048576) :
  Calls Tryz.prog 108 #[.string s] w fun e w' => e = .returned (rkV s) ∧ Below w.heap.size w w' := by
 by_cases h : pkWhy s = 0
 ·obtain ⟨h1, _, _, ⟨h2, h3, _⟩, _, _⟩ := pkWhy_zero h
  rw [rkV_yes s h]; exact readPkI_ok s hs h h1 h2 h3 w
 ·rw [rkV_no s _ rfl h]; exact readPkI_bad s hs _ rfl h w hg

end Go.Proofs.YtkkimgjcefojdaaGreatDoor
namespace Go.Proofs.YtkkimgjcefojdaaGreatDoor
open Go.RowKit Go.Lib

/-- Whether a message of these five fields is valid. -/
def arpOk (k a b c d : Int) : Bool := decide (1 ≤ k ∧ k ≤ 2) && wordOk a 48 && wordOk c 48 && wordOk b 32 && wordOk d 32
def arpHead : ByteArray := ⟨#[0, 1, 8, 0, 6, 4]⟩
/-- What ArpText answers. -/
def arpText (k a b c d : Int) : ByteArray := if arpOk k a b c d then arpHead ++ putW k 2 ++ putW a 6 ++ putW b 4 ++ putW c 6 ++ putW d 4 else ⟨#[]⟩
end Go.Proofs.YtkkimgjcefojdaaGreatDoor
