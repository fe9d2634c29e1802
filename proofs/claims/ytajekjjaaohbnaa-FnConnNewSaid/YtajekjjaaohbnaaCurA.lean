/- The draws' own l1Byte. -/
import Derived.Test.YtajekjjaaohbnaaBase
import Derived.Test.YtajekjjaaohbnaaCurKit
import Derived.Test.YtajekjjaaohbnaaKit
namespace Go.Proofs.Ytajekjjaaohbnaa
open Go.RowKit Go.Lib

set_option maxRecDepth 100000 in
set_option maxHeartbeats 1000000 in
theorem l1Byte_any (B g : Nat) (w : World) (hc : CurB w B g) : Calls Try.prog 97 #[.pointer (some ⟨g, 0, none⟩)] w (DrawEnd w B g 255) := by
  obtain ⟨hB, a, bs, cap, i, h, hh, ⟨hi0, hi1⟩, hbs, hrow⟩ := hc
  have c0 : w.cell? ⟨g, 0, none⟩ = some (.slice a bs.length cap) := by rw [cell_of_row w g 0 _ _ _ hh]; rfl
  have c1 : w.cell? ⟨g, 1, none⟩ = some (.int .i64 i) := by rw [cell_of_row w g 1 _ _ _ hh]; rfl
  have c2 : w.cell? ⟨g, 2, none⟩ = some (.int .i64 h) := by rw [cell_of_row w g 2 _ _ _ hh]; rfl
  have f1 : w.frozen? ⟨g, 1, none⟩ = false := by simp [World.frozen?, hh]
  have f2 : w.frozen? ⟨g, 2, none⟩ = false := by simp [World.frozen?, hh]
  have HH := Lib.hid hh
  have HR := Lib.hid hrow
  clear hh hrow
  by_cases hlt : i < bs.length
  · obtain ⟨k, rfl⟩ : ∃ k : Nat, i = (k : Int) := ⟨i.toNat, by omega⟩
    have hk : k < bs.length := by omega
    obtain ⟨b, off, rfl, hb, hcs⟩ := HR.out.byte hk
    have c3 := hcs k hk
    have hne : ¬ b = g := by omega
    have h8 : bs[k].toNat < 256 := bs[k].toNat_lt
    clear hcs
    go_enter Try.func97, Try.ntmps97
    go_wp2_with fail
    go_quiet (fail)
    go_wp2_with fail
    go_quiet (fail)
    go_wp2_with fail
    go_quiet (fail)
    go_wp2_with fail
    go_ret
    refine ⟨_, rfl, mask255 _, ?_, ?_⟩
    · exact cur_step hB HH.out hbs HR.out _ _ (by omega)
    · exact grown_set (grown_draws (grown_set (World.grownBy.refl w (some g)) 2 _) _) 1 _
  · go_enter Try.func97, Try.ntmps97
    go_wp2_with fail
    go_quiet (fail)
    go_wp2_with fail
    go_quiet (fail)
    go_wp2_with fail
    go_ret
    refine ⟨_, rfl, mask255 _, ?_, ?_⟩
    · exact cur_set hB HH.out ⟨hi0, hi1⟩ hbs HR.out _
    · exact grown_draws (grown_draws (grown_set (World.grownBy.refl w (some g)) 2 _) _) _
end Go.Proofs.Ytajekjjaaohbnaa
namespace Go.Proofs.Ytajekjjaaohbnaa
open Go.RowKit Go.Lib

set_option maxHeartbeats 1000000 in
theorem l1Below_small (B g : Nat) (w : World) (hc : CurB w B g) (n : Int) (h0 : 0 < n) (h1 : n ≤ 256) : Calls Try.prog 79 #[.pointer (some ⟨g, 0, none⟩), .int .i64 n] w (DrawEnd w B g (n - 1)) := by
  have C := Lib.hid (l1Byte_any B g w hc)
  clear hc
  have hn0 : (n == 0) = false := by simp; omega
  go_enter Try.func79, Try.ntmps79
  go_wp2_with fail
  refine C.out.mono ?_
  rintro e w1 ⟨r, rfl, ⟨r0, r1⟩, hc1, hg1⟩
  have HC := Lib.hid hc1
  have HG := Lib.hid hg1
  clear hc1 hg1
  go_wp2_with fail
  go_ret
  exact ⟨_, rfl, ⟨Int.emod_nonneg _ (by omega), by have := Int.emod_lt_of_pos r h0; omega⟩, HC.out, HG.out⟩

set_option maxHeartbeats 1000000 in
theorem l1Below_big (B g : Nat) (w : World) (hc : CurB w B g) (n : Int) (h0 : 256 < n) (h1 : n ≤ 4000000000) : Calls Try.prog 79 #[.pointer (some ⟨g, 0, none⟩), .int .i64 n] w (DrawEnd w B g (n - 1)) := by
  have hn0 : (n == 0) = false := by simp; omega
  have C := Lib.hid hc
  clear hc
  go_enter Try.func79, Try.ntmps79
  go_wp2_with fail
  refine (l1Byte_any B g w C.out).mono ?_
  rintro e w1 ⟨a, rfl, ⟨a0, a1⟩, hc1, hg1⟩
  have C1 := Lib.hid hc1
  have G1 := Lib.hid hg1
  clear hc1 hg1
  go_wp2_with fail
  refine (l1Byte_any B g w1 C1.out).mono ?_
  rintro e w2 ⟨b, rfl, ⟨b0, b1⟩, hc2, hg2⟩
  have C2 := Lib.hid hc2
  have G2 := Lib.hid (grown_tr G1.out hg2)
  clear hc2 hg2
  go_wp2_with fail
  refine (l1Byte_any B g w2 C2.out).mono ?_
  rintro e w3 ⟨c, rfl, ⟨c0, c1⟩, hc3, hg3⟩
  have C3 := Lib.hid hc3
  have G3 := Lib.hid (grown_tr G2.out hg3)
  clear hc3 hg3
  go_wp2_with fail
  refine (l1Byte_any B g w3 C3.out).mono ?_
  rintro e w4 ⟨d, rfl, ⟨d0, d1⟩, hc4, hg4⟩
  have C4 := Lib.hid hc4
  have G4 := Lib.hid (grown_tr G3.out hg4)
  clear hc4 hg4
  go_wp2_with fail
  go_ret
  exact ⟨_, rfl, ⟨Int.emod_nonneg _ (by omega), by have := Int.emod_lt_of_pos (a * 16777216 + b * 65536 + c * 256 + d) (show (0 : Int) < n by omega); omega⟩, C4.out, G4.out⟩

theorem l1Below_pos (B g : Nat) (w : World) (hc : CurB w B g) (n : Int) (h0 : 0 < n) (h1 : n ≤ 4000000000) : Calls Try.prog 79 #[.pointer (some ⟨g, 0, none⟩), .int .i64 n] w (DrawEnd w B g (n - 1)) := by
  by_cases h : n ≤ 256
  · exact l1Below_small B g w hc n h0 h
  · exact l1Below_big B g w hc n (by omega) h1
theorem l1Below_zero (B g : Nat) (w : World) (hc : CurB w B g) (n : Int) (h0 : n ≤ 0) : Calls Try.prog 79 #[.pointer (some ⟨g, 0, none⟩), .int .i64 n] w (DrawEnd w B g 0) := by
  have C := Lib.hid hc
  clear hc
  go_enter Try.func79, Try.ntmps79
  go_wp2_with fail
  go_ret
  exact ⟨0, rfl, ⟨by omega, by omega⟩, C.out, World.grownBy.refl _ _⟩

/-- What l1New hands back: a new cursor. -/
def NewEnd (w : World) (e : Ending) (w' : World) : Prop := ∃ g, e = .returned (.pointer (some ⟨g, 0, none⟩)) ∧ CurB w' w.heap.size g ∧ Below w.heap.size w w'

set_option maxRecDepth 100000 in
set_option maxHeartbeats 1000000 in
theorem l1New_any (a : Option Addr) (bs : List UInt8) (cap : Nat) (w : World) (hrow : Row w w.heap.size a (byteCells bs)) (hbs : bs.length ≤ 1048576) : Calls Try.prog 35 #[.slice a bs.length cap] w (NewEnd w) := by
  go_enter Try.func35, Try.ntmps35
  go_wp2_with fail
  go_loop [3, 4] (fun h i => ∃ k : Nat, k ≤ bs.length ∧ i = .int .i64 k ∧ ∃ x : Int, h = .int .i64 x) (fun _ i => bs.length - (RowKit.intOf i).toNat)
  case atStart => exact ⟨0, Nat.zero_le _, rfl, _, rfl⟩
  case round =>
    obtain ⟨k, hk, rfl, x, rfl⟩ := hrel
    by_cases hlt : k < bs.length ∧ k < 4000
    · obtain ⟨hlt, h4⟩ := hlt
      obtain ⟨b, off, rfl, hb, hcs⟩ := hrow.byte hlt
      have hc := hcs k hlt
      have h8 : bs[k].toNat < 256 := bs[k].toNat_lt
      clear hcs hrow
      go_wp2_with fail
      go_round
      case rel => exact ⟨k + 1, by omega, by go_num, _, rfl⟩
      case measure => simp [RowKit.intOf]; omega
    · have HR := Lib.hid hrow
      clear hrow
      by_cases h1 : k < bs.length
      · have h4 : ¬ k < 4000 := fun h => hlt ⟨h1, h⟩
        clear hlt
        go_wp2_with fail
        go_ret
        exact ⟨w.heap.size, rfl, cur_new HR.out hbs x, (Below.refl _ _).alloc (Nat.le_refl _) _⟩
      · clear hlt
        go_wp2_with fail
        go_ret
        exact ⟨w.heap.size, rfl, cur_new HR.out hbs x, (Below.refl _ _).alloc (Nat.le_refl _) _⟩
end Go.Proofs.Ytajekjjaaohbnaa
namespace Go.Proofs.Ytajekjjaaohbnaa
open Go.RowKit Go.Lib

theorem CurB.keep {w w' : World} {B g : Nat} (h : CurB w B g) (he : w'.heap[g]? = w.heap[g]?) (hb : Below B w w') : CurB w' B g := by
  obtain ⟨hB, a, bs, cap, i, x, hh, h1, h2, h3⟩ := h
  exact ⟨hB, a, bs, cap, i, x, he.trans hh, h1, h2, h3.below hb⟩
/-- An append to a row of the call's own leaves the cursor, and all that was there but the cursor. -/
theorem app_keeps {w w1 w2 : World} {B g base : Nat} {e : TypeId} {v : Value} {n : Nat} {xs : List Value} {o : Obj} (hc : CurB w1 B g) (hgb : g < base) (hB : B ≤ base) (hw : base = w.heap.size) (hg1 : w.grownBy w1 (some g)) (hown : w1.ownsRow base e 1 v n xs) (hg : (w1.alloc o).grownBy w2 v.ownBlock) :
    CurB w2 B g ∧ w.grownBy w2 (some g) := by
  have hlt := hc.lt
  have hv : ∀ k, k < base → some k ≠ v.ownBlock := fun k hk e => by have := (hown.lt k e.symm).1; omega
  have hk : ∀ k, k < w1.heap.size → k < base → w2.heap[k]? = w1.heap[k]? := fun k h1 h2 =>
    (hg.block k (by simp; omega) (hv k h2)).trans (Below.heap_alloc w1 o k h1)
  refine ⟨hc.keep (hk g hlt hgb) ⟨hg.os, hg.tape, hg.output, Nat.le_trans (by simp) hg.size, fun k h => hk k (by have := hc.1; omega) (by omega)⟩, ?_⟩
  exact ⟨hg.os.trans hg1.os, hg.tape.trans hg1.tape, hg.output.trans hg1.output, Nat.le_trans hg1.size (Nat.le_trans (by simp) hg.size), fun k h1 h2 =>
    (hk k (Nat.lt_of_lt_of_le h1 hg1.size) (by omega)).trans (hg1.block k h1 h2)⟩
end Go.Proofs.Ytajekjjaaohbnaa
namespace Go.Proofs.Ytajekjjaaohbnaa
open Go.RowKit Go.Lib

/-- Block r holds these cells, all of which may be written. -/
def Blk (w : World) (r : Nat) (vs : List Value) : Prop := ∃ t, w.heap[r]? = some (.cells vs.toArray t (0, 0))
theorem Blk.lt {w : World} {r : Nat} {vs : List Value} (h : Blk w r vs) : r < w.heap.size := by
  obtain ⟨t, h⟩ := h
  rcases Nat.lt_or_ge r w.heap.size with hlt | hge
  · exact hlt
  · rw [Array.getElem?_eq_none hge] at h; cases h
theorem Blk.new (w : World) (vs : List Value) (t : TypeId) : Blk (w.alloc (.cells vs.toArray t)) w.heap.size vs := ⟨t, heap_alloc_new w _⟩
theorem Blk.below {w w' : World} {r : Nat} {vs : List Value} (h : Blk w r vs) (hb : Below w.heap.size w w') : Blk w' r vs := by
  have hlt := h.lt
  obtain ⟨t, h⟩ := h
  exact ⟨t, (hb.block r hlt).trans h⟩
theorem own_below {w w' : World} {base size n : Nat} {e : TypeId} {v : Value} {xs : List Value} (h : w.ownsRow base e size v n xs) (hb : Below w.heap.size w w') : w'.ownsRow base e size v n xs :=
  h.kept (below_any (row := none) hb) (Classical.em _)
theorem Blk.drew {w : World} {r : Nat} {vs : List Value} (h : Blk w r vs) : Blk w.drew r vs := h
theorem Blk.alloc {w : World} {r : Nat} {vs : List Value} (h : Blk w r vs) (o : Obj) : Blk (w.alloc o) r vs := h.below ((Below.refl _ _).alloc (Nat.le_refl _) o)
theorem Blk.grown {w w' : World} {r g : Nat} {vs : List Value} (h : Blk w r vs) (hg : w.grownBy w' (some g)) (hne : r ≠ g) : Blk w' r vs := by
  have hlt := h.lt
  obtain ⟨t, h⟩ := h
  exact ⟨t, (hg.block r hlt (fun e => hne (by injection e))).trans h⟩
theorem Blk.set {w : World} {r : Nat} {vs : List Value} (h : Blk w r vs) (k : Nat) (v : Value) : Blk (w.setCell ⟨r, k, none⟩ v) r (vs.set k v) := by
  obtain ⟨t, h⟩ := h
  exact ⟨t, by rw [set_whole h]; simp⟩
theorem Blk.setOther {w : World} {r : Nat} {vs : List Value} (h : Blk w r vs) (q : Addr) (v : Value) (hne : r ≠ q.block) : Blk (w.setCell q v) r vs := by
  obtain ⟨t, h⟩ := h
  exact ⟨t, (Below.heap_setCell w q v r hne).trans h⟩
theorem Blk.cell {w : World} {r : Nat} {vs : List Value} (h : Blk w r vs) (k : Nat) (v : Value) (hv : vs[k]? = some v) : w.cell? ⟨r, k, none⟩ = some v := by
  obtain ⟨t, h⟩ := h
  rw [cell_of_row w r k _ t (0, 0) h]; simpa using hv
theorem Blk.open {w : World} {r : Nat} {vs : List Value} (h : Blk w r vs) (k : Nat) : w.frozen? ⟨r, k, none⟩ = false := by
  obtain ⟨t, h⟩ := h
  exact frozen_of_row w r k _ t h
theorem Blk.four {w : World} {r : Nat} {v0 v1 v2 v3 : Value} (h : Blk w r [v0, v1, v2, v3]) : (w.cell? ⟨r, 0, none⟩ = some v0 ∧ w.cell? ⟨r, 1, none⟩ = some v1 ∧ w.cell? ⟨r, 2, none⟩ = some v2 ∧ w.cell? ⟨r, 3, none⟩ = some v3) ∧
    w.frozen? ⟨r, 0, none⟩ = false ∧ w.frozen? ⟨r, 1, none⟩ = false ∧ w.frozen? ⟨r, 2, none⟩ = false ∧ w.frozen? ⟨r, 3, none⟩ = false :=
  ⟨⟨h.cell 0 _ rfl, h.cell 1 _ rfl, h.cell 2 _ rfl, h.cell 3 _ rfl⟩, h.open 0, h.open 1, h.open 2, h.open 3⟩

/-- The cursor, while a cell of another block is stored into. -/
theorem CurB.setOther {w : World} {B g : Nat} (h : CurB w B g) (q : Addr) (v : Value) (hB : B ≤ q.block) (hne : q.block ≠ g) : CurB (w.setCell q v) B g :=
  h.keep (Below.heap_setCell w q v g (fun e => hne e.symm)) ((Below.refl B w).setCell hB v)
/-- A store into a block that is new. -/
theorem grown_setNew {a b : World} {row : Option Nat} (h : a.grownBy b row) (q : Addr) (v : Value) (hq : a.heap.size ≤ q.block) : a.grownBy (b.setCell q v) row :=
  ⟨h.os, h.tape, h.output, by rw [show (b.setCell q v).heap.size = b.heap.size by simp [World.setCell]]; exact h.size, fun i hi hne => by
    rw [Below.heap_setCell b q v i (by omega)]; exact h.block i hi hne⟩
end Go.Proofs.Ytajekjjaaohbnaa
namespace Go.Proofs.Ytajekjjaaohbnaa
open Go.RowKit Go.Lib

theorem Blk.of5 {w : World} {g : Nat} {v0 v1 v2 v3 v4 : Value} (h : Blk w g [v0, v1, v2, v3, v4]) : (w.cell? ⟨g, 0, none⟩ = some v0 ∧ w.cell? ⟨g, 1, none⟩ = some v1 ∧ w.cell? ⟨g, 2, none⟩ = some v2 ∧ w.cell? ⟨g, 3, none⟩ = some v3 ∧ w.cell? ⟨g, 4, none⟩ = some v4) ∧ w.frozen? ⟨g, 0, none⟩ = false ∧ w.frozen? ⟨g, 1, none⟩ = false ∧ w.frozen? ⟨g, 2, none⟩ = false ∧ w.frozen? ⟨g, 3, none⟩ = false ∧ w.frozen? ⟨g, 4, none⟩ = false :=
  ⟨⟨h.cell 0 _ rfl, h.cell 1 _ rfl, h.cell 2 _ rfl, h.cell 3 _ rfl, h.cell 4 _ rfl⟩, h.open 0, h.open 1, h.open 2, h.open 3, h.open 4⟩
/-- The same block and its cells behind a call that turns the cursor. -/
theorem keepB5 {w w' : World} {g r : Nat} {v0 v1 v2 v3 v4 : Value} (h : Blk w g [v0, v1, v2, v3, v4] ∧ w.cell? ⟨g, 0, none⟩ = some v0 ∧ w.cell? ⟨g, 1, none⟩ = some v1 ∧ w.cell? ⟨g, 2, none⟩ = some v2 ∧ w.cell? ⟨g, 3, none⟩ = some v3 ∧ w.cell? ⟨g, 4, none⟩ = some v4) (hg : w.grownBy w' (some r)) (hne : g ≠ r) : Blk w' g [v0, v1, v2, v3, v4] ∧ w'.cell? ⟨g, 0, none⟩ = some v0 ∧ w'.cell? ⟨g, 1, none⟩ = some v1 ∧ w'.cell? ⟨g, 2, none⟩ = some v2 ∧ w'.cell? ⟨g, 3, none⟩ = some v3 ∧ w'.cell? ⟨g, 4, none⟩ = some v4 :=
  ⟨h.1.grown hg hne, (h.1.grown hg hne).of5.1⟩
/-- The same block and its cells behind a call that makes memory of its own. -/
theorem keepC5 {w w' : World} {g : Nat} {v0 v1 v2 v3 v4 : Value} (h : Blk w g [v0, v1, v2, v3, v4] ∧ w.cell? ⟨g, 0, none⟩ = some v0 ∧ w.cell? ⟨g, 1, none⟩ = some v1 ∧ w.cell? ⟨g, 2, none⟩ = some v2 ∧ w.cell? ⟨g, 3, none⟩ = some v3 ∧ w.cell? ⟨g, 4, none⟩ = some v4) (hb : Below w.heap.size w w') : Blk w' g [v0, v1, v2, v3, v4] ∧ w'.cell? ⟨g, 0, none⟩ = some v0 ∧ w'.cell? ⟨g, 1, none⟩ = some v1 ∧ w'.cell? ⟨g, 2, none⟩ = some v2 ∧ w'.cell? ⟨g, 3, none⟩ = some v3 ∧ w'.cell? ⟨g, 4, none⟩ = some v4 :=
  ⟨h.1.below hb, (h.1.below hb).of5.1⟩
end Go.Proofs.Ytajekjjaaohbnaa
namespace Go.Proofs.Ytajekjjaaohbnaa
open Go.RowKit Go.Lib

theorem Blk.of6 {w : World} {g : Nat} {v0 v1 v2 v3 v4 v5 : Value} (h : Blk w g [v0, v1, v2, v3, v4, v5]) : (w.cell? ⟨g, 0, none⟩ = some v0 ∧ w.cell? ⟨g, 1, none⟩ = some v1 ∧ w.cell? ⟨g, 2, none⟩ = some v2 ∧ w.cell? ⟨g, 3, none⟩ = some v3 ∧ w.cell? ⟨g, 4, none⟩ = some v4 ∧ w.cell? ⟨g, 5, none⟩ = some v5) ∧ w.frozen? ⟨g, 0, none⟩ = false ∧ w.frozen? ⟨g, 1, none⟩ = false ∧ w.frozen? ⟨g, 2, none⟩ = false ∧ w.frozen? ⟨g, 3, none⟩ = false ∧ w.frozen? ⟨g, 4, none⟩ = false ∧ w.frozen? ⟨g, 5, none⟩ = false :=
  ⟨⟨h.cell 0 _ rfl, h.cell 1 _ rfl, h.cell 2 _ rfl, h.cell 3 _ rfl, h.cell 4 _ rfl, h.cell 5 _ rfl⟩, h.open 0, h.open 1, h.open 2, h.open 3, h.open 4, h.open 5⟩
/-- The same block and its cells behind a call that turns the cursor. -/
theorem keepB6 {w w' : World} {g r : Nat} {v0 v1 v2 v3 v4 v5 : Value} (h : Blk w g [v0, v1, v2, v3, v4, v5] ∧ w.cell? ⟨g, 0, none⟩ = some v0 ∧ w.cell? ⟨g, 1, none⟩ = some v1 ∧ w.cell? ⟨g, 2, none⟩ = some v2 ∧ w.cell? ⟨g, 3, none⟩ = some v3 ∧ w.cell? ⟨g, 4, none⟩ = some v4 ∧ w.cell? ⟨g, 5, none⟩ = some v5) (hg : w.grownBy w' (some r)) (hne : g ≠ r) : Blk w' g [v0, v1, v2, v3, v4, v5] ∧ w'.cell? ⟨g, 0, none⟩ = some v0 ∧ w'.cell? ⟨g, 1, none⟩ = some v1 ∧ w'.cell? ⟨g, 2, none⟩ = some v2 ∧ w'.cell? ⟨g, 3, none⟩ = some v3 ∧ w'.cell? ⟨g, 4, none⟩ = some v4 ∧ w'.cell? ⟨g, 5, none⟩ = some v5 :=
  ⟨h.1.grown hg hne, (h.1.grown hg hne).of6.1⟩
/-- The same block and its cells behind a call that makes memory of its own. -/
theorem keepC6 {w w' : World} {g : Nat} {v0 v1 v2 v3 v4 v5 : Value} (h : Blk w g [v0, v1, v2, v3, v4, v5] ∧ w.cell? ⟨g, 0, none⟩ = some v0 ∧ w.cell? ⟨g, 1, none⟩ = some v1 ∧ w.cell? ⟨g, 2, none⟩ = some v2 ∧ w.cell? ⟨g, 3, none⟩ = some v3 ∧ w.cell? ⟨g, 4, none⟩ = some v4 ∧ w.cell? ⟨g, 5, none⟩ = some v5) (hb : Below w.heap.size w w') : Blk w' g [v0, v1, v2, v3, v4, v5] ∧ w'.cell? ⟨g, 0, none⟩ = some v0 ∧ w'.cell? ⟨g, 1, none⟩ = some v1 ∧ w'.cell? ⟨g, 2, none⟩ = some v2 ∧ w'.cell? ⟨g, 3, none⟩ = some v3 ∧ w'.cell? ⟨g, 4, none⟩ = some v4 ∧ w'.cell? ⟨g, 5, none⟩ = some v5 :=
  ⟨h.1.below hb, (h.1.below hb).of6.1⟩
end Go.Proofs.Ytajekjjaaohbnaa
namespace Go.Proofs.Ytajekjjaaohbnaa
open Go.RowKit Go.Lib

theorem Blk.of13 {w : World} {g : Nat} {v0 v1 v2 v3 v4 v5 v6 v7 v8 v9 v10 v11 v12 : Value} (h : Blk w g [v0, v1, v2, v3, v4, v5, v6, v7, v8, v9, v10, v11, v12]) : (w.cell? ⟨g, 0, none⟩ = some v0 ∧ w.cell? ⟨g, 1, none⟩ = some v1 ∧ w.cell? ⟨g, 2, none⟩ = some v2 ∧ w.cell? ⟨g, 3, none⟩ = some v3 ∧ w.cell? ⟨g, 4, none⟩ = some v4 ∧ w.cell? ⟨g, 5, none⟩ = some v5 ∧ w.cell? ⟨g, 6, none⟩ = some v6 ∧ w.cell? ⟨g, 7, none⟩ = some v7 ∧ w.cell? ⟨g, 8, none⟩ = some v8 ∧ w.cell? ⟨g, 9, none⟩ = some v9 ∧ w.cell? ⟨g, 10, none⟩ = some v10 ∧ w.cell? ⟨g, 11, none⟩ = some v11 ∧ w.cell? ⟨g, 12, none⟩ = some v12) ∧ w.frozen? ⟨g, 0, none⟩ = false ∧ w.frozen? ⟨g, 1, none⟩ = false ∧ w.frozen? ⟨g, 2, none⟩ = false ∧ w.frozen? ⟨g, 3, none⟩ = false ∧ w.frozen? ⟨g, 4, none⟩ = false ∧ w.frozen? ⟨g, 5, none⟩ = false ∧ w.frozen? ⟨g, 6, none⟩ = false ∧ w.frozen? ⟨g, 7, none⟩ = false ∧ w.frozen? ⟨g, 8, none⟩ = false ∧ w.frozen? ⟨g, 9, none⟩ = false ∧ w.frozen? ⟨g, 10, none⟩ = false ∧ w.frozen? ⟨g, 11, none⟩ = false ∧ w.frozen? ⟨g, 12, none⟩ = false :=
  ⟨⟨h.cell 0 _ rfl, h.cell 1 _ rfl, h.cell 2 _ rfl, h.cell 3 _ rfl, h.cell 4 _ rfl, h.cell 5 _ rfl, h.cell 6 _ rfl, h.cell 7 _ rfl, h.cell 8 _ rfl, h.cell 9 _ rfl, h.cell 10 _ rfl, h.cell 11 _ rfl, h.cell 12 _ rfl⟩, h.open 0, h.open 1, h.open 2, h.open 3, h.open 4, h.open 5, h.open 6, h.open 7, h.open 8, h.open 9, h.open 10, h.open 11, h.open 12⟩
/-- The same block and its cells behind a call that turns the cursor. -/
theorem keepB13 {w w' : World} {g r : Nat} {v0 v1 v2 v3 v4 v5 v6 v7 v8 v9 v10 v11 v12 : Value} (h : Blk w g [v0, v1, v2, v3, v4, v5, v6, v7, v8, v9, v10, v11, v12] ∧ w.cell? ⟨g, 0, none⟩ = some v0 ∧ w.cell? ⟨g, 1, none⟩ = some v1 ∧ w.cell? ⟨g, 2, none⟩ = some v2 ∧ w.cell? ⟨g, 3, none⟩ = some v3 ∧ w.cell? ⟨g, 4, none⟩ = some v4 ∧ w.cell? ⟨g, 5, none⟩ = some v5 ∧ w.cell? ⟨g, 6, none⟩ = some v6 ∧ w.cell? ⟨g, 7, none⟩ = some v7 ∧ w.cell? ⟨g, 8, none⟩ = some v8 ∧ w.cell? ⟨g, 9, none⟩ = some v9 ∧ w.cell? ⟨g, 10, none⟩ = some v10 ∧ w.cell? ⟨g, 11, none⟩ = some v11 ∧ w.cell? ⟨g, 12, none⟩ = some v12) (hg : w.grownBy w' (some r)) (hne : g ≠ r) : Blk w' g [v0, v1, v2, v3, v4, v5, v6, v7, v8, v9, v10, v11, v12] ∧ w'.cell? ⟨g, 0, none⟩ = some v0 ∧ w'.cell? ⟨g, 1, none⟩ = some v1 ∧ w'.cell? ⟨g, 2, none⟩ = some v2 ∧ w'.cell? ⟨g, 3, none⟩ = some v3 ∧ w'.cell? ⟨g, 4, none⟩ = some v4 ∧ w'.cell? ⟨g, 5, none⟩ = some v5 ∧ w'.cell? ⟨g, 6, none⟩ = some v6 ∧ w'.cell? ⟨g, 7, none⟩ = some v7 ∧ w'.cell? ⟨g, 8, none⟩ = some v8 ∧ w'.cell? ⟨g, 9, none⟩ = some v9 ∧ w'.cell? ⟨g, 10, none⟩ = some v10 ∧ w'.cell? ⟨g, 11, none⟩ = some v11 ∧ w'.cell? ⟨g, 12, none⟩ = some v12 :=
  ⟨h.1.grown hg hne, (h.1.grown hg hne).of13.1⟩
/-- The same block and its cells behind a call that makes memory of its own. -/
theorem keepC13 {w w' : World} {g : Nat} {v0 v1 v2 v3 v4 v5 v6 v7 v8 v9 v10 v11 v12 : Value} (h : Blk w g [v0, v1, v2, v3, v4, v5, v6, v7, v8, v9, v10, v11, v12] ∧ w.cell? ⟨g, 0, none⟩ = some v0 ∧ w.cell? ⟨g, 1, none⟩ = some v1 ∧ w.cell? ⟨g, 2, none⟩ = some v2 ∧ w.cell? ⟨g, 3, none⟩ = some v3 ∧ w.cell? ⟨g, 4, none⟩ = some v4 ∧ w.cell? ⟨g, 5, none⟩ = some v5 ∧ w.cell? ⟨g, 6, none⟩ = some v6 ∧ w.cell? ⟨g, 7, none⟩ = some v7 ∧ w.cell? ⟨g, 8, none⟩ = some v8 ∧ w.cell? ⟨g, 9, none⟩ = some v9 ∧ w.cell? ⟨g, 10, none⟩ = some v10 ∧ w.cell? ⟨g, 11, none⟩ = some v11 ∧ w.cell? ⟨g, 12, none⟩ = some v12) (hb : Below w.heap.size w w') : Blk w' g [v0, v1, v2, v3, v4, v5, v6, v7, v8, v9, v10, v11, v12] ∧ w'.cell? ⟨g, 0, none⟩ = some v0 ∧ w'.cell? ⟨g, 1, none⟩ = some v1 ∧ w'.cell? ⟨g, 2, none⟩ = some v2 ∧ w'.cell? ⟨g, 3, none⟩ = some v3 ∧ w'.cell? ⟨g, 4, none⟩ = some v4 ∧ w'.cell? ⟨g, 5, none⟩ = some v5 ∧ w'.cell? ⟨g, 6, none⟩ = some v6 ∧ w'.cell? ⟨g, 7, none⟩ = some v7 ∧ w'.cell? ⟨g, 8, none⟩ = some v8 ∧ w'.cell? ⟨g, 9, none⟩ = some v9 ∧ w'.cell? ⟨g, 10, none⟩ = some v10 ∧ w'.cell? ⟨g, 11, none⟩ = some v11 ∧ w'.cell? ⟨g, 12, none⟩ = some v12 :=
  ⟨h.1.below hb, (h.1.below hb).of13.1⟩
end Go.Proofs.Ytajekjjaaohbnaa
namespace Go.Proofs.Ytajekjjaaohbnaa
open Go.RowKit Go.Lib

theorem Blk.of9 {w : World} {g : Nat} {v0 v1 v2 v3 v4 v5 v6 v7 v8 : Value} (h : Blk w g [v0, v1, v2, v3, v4, v5, v6, v7, v8]) : (w.cell? ⟨g, 0, none⟩ = some v0 ∧ w.cell? ⟨g, 1, none⟩ = some v1 ∧ w.cell? ⟨g, 2, none⟩ = some v2 ∧ w.cell? ⟨g, 3, none⟩ = some v3 ∧ w.cell? ⟨g, 4, none⟩ = some v4 ∧ w.cell? ⟨g, 5, none⟩ = some v5 ∧ w.cell? ⟨g, 6, none⟩ = some v6 ∧ w.cell? ⟨g, 7, none⟩ = some v7 ∧ w.cell? ⟨g, 8, none⟩ = some v8) ∧ w.frozen? ⟨g, 0, none⟩ = false ∧ w.frozen? ⟨g, 1, none⟩ = false ∧ w.frozen? ⟨g, 2, none⟩ = false ∧ w.frozen? ⟨g, 3, none⟩ = false ∧ w.frozen? ⟨g, 4, none⟩ = false ∧ w.frozen? ⟨g, 5, none⟩ = false ∧ w.frozen? ⟨g, 6, none⟩ = false ∧ w.frozen? ⟨g, 7, none⟩ = false ∧ w.frozen? ⟨g, 8, none⟩ = false :=
  ⟨⟨h.cell 0 _ rfl, h.cell 1 _ rfl, h.cell 2 _ rfl, h.cell 3 _ rfl, h.cell 4 _ rfl, h.cell 5 _ rfl, h.cell 6 _ rfl, h.cell 7 _ rfl, h.cell 8 _ rfl⟩, h.open 0, h.open 1, h.open 2, h.open 3, h.open 4, h.open 5, h.open 6, h.open 7, h.open 8⟩
/-- The same block and its cells behind a call that turns the cursor. -/
theorem keepB9 {w w' : World} {g r : Nat} {v0 v1 v2 v3 v4 v5 v6 v7 v8 : Value} (h : Blk w g [v0, v1, v2, v3, v4, v5, v6, v7, v8] ∧ w.cell? ⟨g, 0, none⟩ = some v0 ∧ w.cell? ⟨g, 1, none⟩ = some v1 ∧ w.cell? ⟨g, 2, none⟩ = some v2 ∧ w.cell? ⟨g, 3, none⟩ = some v3 ∧ w.cell? ⟨g, 4, none⟩ = some v4 ∧ w.cell? ⟨g, 5, none⟩ = some v5 ∧ w.cell? ⟨g, 6, none⟩ = some v6 ∧ w.cell? ⟨g, 7, none⟩ = some v7 ∧ w.cell? ⟨g, 8, none⟩ = some v8) (hg : w.grownBy w' (some r)) (hne : g ≠ r) : Blk w' g [v0, v1, v2, v3, v4, v5, v6, v7, v8] ∧ w'.cell? ⟨g, 0, none⟩ = some v0 ∧ w'.cell? ⟨g, 1, none⟩ = some v1 ∧ w'.cell? ⟨g, 2, none⟩ = some v2 ∧ w'.cell? ⟨g, 3, none⟩ = some v3 ∧ w'.cell? ⟨g, 4, none⟩ = some v4 ∧ w'.cell? ⟨g, 5, none⟩ = some v5 ∧ w'.cell? ⟨g, 6, none⟩ = some v6 ∧ w'.cell? ⟨g, 7, none⟩ = some v7 ∧ w'.cell? ⟨g, 8, none⟩ = some v8 :=
  ⟨h.1.grown hg hne, (h.1.grown hg hne).of9.1⟩
/-- The same block and its cells behind a call that makes memory of its own. -/
theorem keepC9 {w w' : World} {g : Nat} {v0 v1 v2 v3 v4 v5 v6 v7 v8 : Value} (h : Blk w g [v0, v1, v2, v3, v4, v5, v6, v7, v8] ∧ w.cell? ⟨g, 0, none⟩ = some v0 ∧ w.cell? ⟨g, 1, none⟩ = some v1 ∧ w.cell? ⟨g, 2, none⟩ = some v2 ∧ w.cell? ⟨g, 3, none⟩ = some v3 ∧ w.cell? ⟨g, 4, none⟩ = some v4 ∧ w.cell? ⟨g, 5, none⟩ = some v5 ∧ w.cell? ⟨g, 6, none⟩ = some v6 ∧ w.cell? ⟨g, 7, none⟩ = some v7 ∧ w.cell? ⟨g, 8, none⟩ = some v8) (hb : Below w.heap.size w w') : Blk w' g [v0, v1, v2, v3, v4, v5, v6, v7, v8] ∧ w'.cell? ⟨g, 0, none⟩ = some v0 ∧ w'.cell? ⟨g, 1, none⟩ = some v1 ∧ w'.cell? ⟨g, 2, none⟩ = some v2 ∧ w'.cell? ⟨g, 3, none⟩ = some v3 ∧ w'.cell? ⟨g, 4, none⟩ = some v4 ∧ w'.cell? ⟨g, 5, none⟩ = some v5 ∧ w'.cell? ⟨g, 6, none⟩ = some v6 ∧ w'.cell? ⟨g, 7, none⟩ = some v7 ∧ w'.cell? ⟨g, 8, none⟩ = some v8 :=
  ⟨h.1.below hb, (h.1.below hb).of9.1⟩
end Go.Proofs.Ytajekjjaaohbnaa
namespace Go.Proofs.Ytajekjjaaohbnaa
open Go.RowKit Go.Lib

theorem Blk.o3 {w : World} {g : Nat} {v0 v1 v2 : Value} (h : Blk w g [v0, v1, v2]) : (w.cell? ⟨g, 0, none⟩ = some v0 ∧ w.cell? ⟨g, 1, none⟩ = some v1 ∧ w.cell? ⟨g, 2, none⟩ = some v2) ∧ w.frozen? ⟨g, 0, none⟩ = false ∧ w.frozen? ⟨g, 1, none⟩ = false ∧ w.frozen? ⟨g, 2, none⟩ = false :=
  ⟨⟨h.cell 0 _ rfl, h.cell 1 _ rfl, h.cell 2 _ rfl⟩, h.open 0, h.open 1, h.open 2⟩
theorem Blk.of10 {w : World} {g : Nat} {v0 v1 v2 v3 v4 v5 v6 v7 v8 v9 : Value} (h : Blk w g [v0, v1, v2, v3, v4, v5, v6, v7, v8, v9]) : (w.cell? ⟨g, 0, none⟩ = some v0 ∧ w.cell? ⟨g, 1, none⟩ = some v1 ∧ w.cell? ⟨g, 2, none⟩ = some v2 ∧ w.cell? ⟨g, 3, none⟩ = some v3 ∧ w.cell? ⟨g, 4, none⟩ = some v4 ∧ w.cell? ⟨g, 5, none⟩ = some v5 ∧ w.cell? ⟨g, 6, none⟩ = some v6 ∧ w.cell? ⟨g, 7, none⟩ = some v7 ∧ w.cell? ⟨g, 8, none⟩ = some v8 ∧ w.cell? ⟨g, 9, none⟩ = some v9) ∧ w.frozen? ⟨g, 0, none⟩ = false ∧ w.frozen? ⟨g, 1, none⟩ = false ∧ w.frozen? ⟨g, 2, none⟩ = false ∧ w.frozen? ⟨g, 3, none⟩ = false ∧ w.frozen? ⟨g, 4, none⟩ = false ∧ w.frozen? ⟨g, 5, none⟩ = false ∧ w.frozen? ⟨g, 6, none⟩ = false ∧ w.frozen? ⟨g, 7, none⟩ = false ∧ w.frozen? ⟨g, 8, none⟩ = false ∧ w.frozen? ⟨g, 9, none⟩ = false :=
  ⟨⟨h.cell 0 _ rfl, h.cell 1 _ rfl, h.cell 2 _ rfl, h.cell 3 _ rfl, h.cell 4 _ rfl, h.cell 5 _ rfl, h.cell 6 _ rfl, h.cell 7 _ rfl, h.cell 8 _ rfl, h.cell 9 _ rfl⟩, h.open 0, h.open 1, h.open 2, h.open 3, h.open 4, h.open 5, h.open 6, h.open 7, h.open 8, h.open 9⟩
end Go.Proofs.Ytajekjjaaohbnaa
namespace Go.Proofs.Ytajekjjaaohbnaa
open Go.RowKit Go.Lib

theorem blk_under {w w' : World} {B r : Nat} {vs : List Value} (h : Blk w r vs) (hb : Below B w w') (hr : r < B) : Blk w' r vs := by
  obtain ⟨t, ht⟩ := h
  exact ⟨t, (hb.block r hr).trans ht⟩
end Go.Proofs.Ytajekjjaaohbnaa
namespace Go.Proofs.Ytajekjjaaohbnaa
open Go.RowKit Go.Lib

/-- A coin. -/
theorem l1Once_any (B g : Nat) (w : World) (hc : CurB w B g) (n : Int) (h0 : 0 < n) (h1 : n ≤ 4000000000) :
    Calls Try.prog 81 #[.pointer (some ⟨g, 0, none⟩), .int .i64 n] w fun e w' => ∃ b : Bool, e = .returned (.bool b) ∧ CurB w' B g ∧ w.grownBy w' (some g) := by
  have C := Lib.hid (l1Below_pos B g w hc n h0 h1)
  clear hc
  go_enter Try.func81, Try.ntmps81
  go_wp2_with fail
  refine C.out.mono ?_
  rintro e w1 ⟨r, rfl, ⟨r0, r1⟩, hc1, hg1⟩
  have C1 := Lib.hid hc1
  have G1 := Lib.hid hg1
  clear hc1 hg1
  go_wp2_with fail
  go_ret
  exact ⟨_, rfl, C1.out, G1.out⟩
end Go.Proofs.Ytajekjjaaohbnaa
namespace Go.Proofs.Ytajekjjaaohbnaa
open Go.RowKit Go.Lib

end Go.Proofs.Ytajekjjaaohbnaa
namespace Go.Proofs.Ytajekjjaaohbnaa
open Go.RowKit Go.Lib

set_option maxHeartbeats 1000000 in
theorem l1PickInt_any (B g r : Nat) (w : World) (hc : CurB w B g) (cs : Array Value) (h : w.heap[r]? = some (.cells cs 3 (0, 0))) (hne : r ≠ g) (h0 : 0 < cs.size) (h1 : cs.size ≤ 1000000) (hall : ∀ v ∈ cs.toList, ∃ x, v = .int .i64 x) :
    Calls Try.prog 39 #[.pointer (some ⟨g, 0, none⟩), .slice (some ⟨r, 0, none⟩) cs.size cs.size] w (PickEnd w B g cs.toList) := by
  have C := Lib.hid (l1Below_pos B g w hc cs.size (by omega) (by omega))
  have hr : r < w.heap.size := by
    rcases Nat.lt_or_ge r w.heap.size with hlt | hge
    · exact hlt
    · rw [Array.getElem?_eq_none hge] at h; cases h
  have HH := Lib.hid h
  have HA := Lib.hid hall
  clear hc h hall
  go_enter Try.func39, Try.ntmps39
  go_wp2_with fail
  refine C.out.mono ?_
  rintro e w1 ⟨q, rfl, ⟨q0, q1⟩, hc1, hg1⟩
  obtain ⟨k, rfl⟩ : ∃ k : Nat, q = (k : Int) := ⟨q.toNat, by omega⟩
  have hk : k < cs.size := by omega
  have h' : w1.heap[r]? = some (.cells cs 3 (0, 0)) := (hg1.block r hr (fun e => hne (by injection e))).trans HH.out
  have hcell := row_at h' hk
  obtain ⟨x, hx⟩ := HA.out cs[k] (by simp)
  have hmem : Hid (Value.int .i64 x ∈ cs.toList) := by show _ ∈ _; rw [← hx]; simp
  rw [hx] at hcell
  have C1 := Lib.hid hc1
  have G1 := Lib.hid hg1
  clear hc1 hg1 h' hx
  go_wp2_with fail
  go_ret
  exact ⟨_, hmem.out, rfl, C1.out, G1.out⟩

end Go.Proofs.Ytajekjjaaohbnaa
namespace Go.Proofs.Ytajekjjaaohbnaa
open Go.RowKit Go.Lib

/-- A pick out of a new list of ints. -/
theorem pickNew (B g : Nat) (w : World) (hc : CurB w B g) (cs : Array Value) (hs : 0 < cs.size) (hs1 : cs.size ≤ 1000000) (hbd : ∀ v ∈ cs.toList, ∃ x, v = .int .i64 x ∧ I64 x) :
    Calls Try.prog 39 #[.pointer (some ⟨g, 0, none⟩), .slice (some ⟨w.heap.size, 0, none⟩) cs.size cs.size] (w.alloc (.cells cs 3)) (WholeEnd w B g) := by
  have hlt := hc.lt
  refine (l1PickInt_any B g w.heap.size _ (hc.new _) cs (heap_alloc_new w _) (by omega) hs hs1 (fun v hv => (hbd v hv).imp fun _ h => h.1)).mono ?_
  rintro e w' ⟨v, hv, rfl, h1, h2⟩
  obtain ⟨x, rfl, hx⟩ := hbd v hv
  exact ⟨x, rfl, hx, h1, grown_tr (World.grownBy_alloc w _ _) h2⟩
end Go.Proofs.Ytajekjjaaohbnaa
namespace Go.Proofs.Ytajekjjaaohbnaa
open Go.RowKit Go.Lib

/-- The numbers among which l1Whole picks. -/
def wholeCs : Array Value := #[.int .i64 0, .int .i64 1, .int .i64 (-1), .int .i64 9, .int .i64 10, .int .i64 999999999999, .int .i64 1000000000000, .int .i64 9223372036854775807, .int .i64 4294967295, .int .i64 4294967296, .int .i64 65535, .int .i64 65536, .int .i64 (-9223372036854775808)]
theorem wholeCs_bd : ∀ v ∈ wholeCs.toList, ∃ x, v = .int .i64 x ∧ I64 x := by
  intro v hv
  simp only [wholeCs, List.mem_cons, List.mem_nil_iff, or_false] at hv
  unfold I64
  rcases hv with rfl | rfl | rfl | rfl | rfl | rfl | rfl | rfl | rfl | rfl | rfl | rfl | rfl <;> exact ⟨_, rfl, by decide⟩
theorem pickWhole (B g : Nat) (w : World) (hc : CurB w B g) : Calls Try.prog 39 #[.pointer (some ⟨g, 0, none⟩), .slice (some ⟨w.heap.size, 0, none⟩) 13 13] (w.alloc (.cells wholeCs 3)) (WholeEnd w B g) := by
  have hlt := hc.lt
  refine (l1PickInt_any B g w.heap.size _ (hc.new _) wholeCs (heap_alloc_new w _) (by omega) (by decide) (by decide) (fun v hv => (wholeCs_bd v hv).imp fun _ h => h.1)).mono ?_
  rintro e w' ⟨v, hv, rfl, h1, h2⟩
  obtain ⟨x, rfl, hx⟩ := wholeCs_bd v hv
  exact ⟨x, rfl, hx, h1, grown_tr (World.grownBy_alloc w _ _) h2⟩

set_option maxRecDepth 100000 in
set_option maxHeartbeats 1000000 in
theorem l1Whole_any (B g : Nat) (w : World) (hc : CurB w B g) : Calls Try.prog 82 #[.pointer (some ⟨g, 0, none⟩)] w (WholeEnd w B g) := by
  have C := Lib.hid (l1Below_pos B g w hc 3 (by omega) (by omega))
  clear hc
  go_enter Try.func82, Try.ntmps82
  go_wp2_with fail
  refine C.out.mono ?_
  rintro e w1 ⟨r, rfl, ⟨r0, r1⟩, hc1, hg1⟩
  have C1 := Lib.hid hc1
  have G1 := Lib.hid hg1
  clear hc1 hg1
  have hr : r = 0 ∨ r = 1 ∨ r = 2 := by omega
  rcases hr with rfl | rfl | rfl
  · go_wp2_with fail
    refine (pickWhole B g w1 C1.out).mono ?_
    rintro e w2 ⟨n, rfl, hn, hc2, hg2⟩
    have N := Lib.hid hn
    have C2 := Lib.hid hc2
    have G2 := Lib.hid (grown_tr G1.out hg2)
    clear hn hc2 hg2
    go_wp2_with fail
    go_ret
    exact ⟨n, rfl, N.out, C2.out, G2.out⟩
  · go_wp2_with fail
    refine (l1Below_pos B g w1 C1.out 1000000 (by omega) (by omega)).mono ?_
    rintro e w2 ⟨n, rfl, ⟨n0, n1⟩, hc2, hg2⟩
    have C2 := Lib.hid hc2
    have G2 := Lib.hid (grown_tr G1.out hg2)
    clear hc2 hg2
    go_wp2_with fail
    go_ret
    exact ⟨_, rfl, ⟨by omega, by omega⟩, C2.out, G2.out⟩
  · go_wp2_with fail
    refine (l1Below_pos B g w1 C1.out 20 (by omega) (by omega)).mono ?_
    rintro e w2 ⟨n, rfl, ⟨n0, n1⟩, hc2, hg2⟩
    have C2 := Lib.hid hc2
    have G2 := Lib.hid (grown_tr G1.out hg2)
    clear hc2 hg2
    go_wp2_with fail
    go_ret
    exact ⟨_, rfl, ⟨by omega, by omega⟩, C2.out, G2.out⟩


end Go.Proofs.Ytajekjjaaohbnaa
namespace Go.Proofs.Ytajekjjaaohbnaa
open Go.RowKit Go.Lib

/-- What l1Bytes hands back: n bytes in a new row. -/
def BytesEnd (w : World) (B g n : Nat) (e : Ending) (w' : World) : Prop :=
  ∃ (v : Value) (l : List UInt8), e = .returned v ∧ l.length = n ∧ w'.ownsRow w.heap.size 5 1 v n (byteCells l) ∧ CurB w' B g ∧ w.grownBy w' (some g)

end Go.Proofs.Ytajekjjaaohbnaa
namespace Go.Proofs.Ytajekjjaaohbnaa
open Go.RowKit Go.Lib

theorem pow256_4 (k : Nat) (h : k ≤ 4) : (256 : Int) ^ k ≤ 4294967296 := by
  have h : k = 0 ∨ k = 1 ∨ k = 2 ∨ k = 3 ∨ k = 4 := by omega
  rcases h with rfl | rfl | rfl | rfl | rfl <;> decide
def deepCs : Array Value := #[.int .i64 0, .int .i64 1, .int .i64 4294967295, .int .i64 2147483647, .int .i64 2147483648, .int .i64 4294967294]
theorem deepCs_bd : ∀ v ∈ deepCs.toList, ∃ x, v = .int .i64 x ∧ I64 x := by
  intro v hv
  simp only [deepCs, List.mem_cons, List.mem_nil_iff, or_false] at hv
  unfold I64
  rcases hv with rfl | rfl | rfl | rfl | rfl | rfl <;> exact ⟨_, rfl, by decide⟩
theorem pickDeep (B g : Nat) (w : World) (hc : CurB w B g) : Calls Try.prog 39 #[.pointer (some ⟨g, 0, none⟩), .slice (some ⟨w.heap.size, 0, none⟩) 6 6] (w.alloc (.cells deepCs 3)) (WholeEnd w B g) :=
  pickNew B g w hc deepCs (by decide) (by decide) deepCs_bd

set_option maxRecDepth 100000 in
set_option maxHeartbeats 1000000 in
theorem l2Deep_any (B g : Nat) (w : World) (hc : CurB w B g) : Calls Try.prog 83 #[.pointer (some ⟨g, 0, none⟩)] w (WholeEnd w B g) := by
  have C := Lib.hid (l1Once_any B g w hc 3 (by omega) (by omega))
  clear hc
  go_enter Try.func83, Try.ntmps83
  go_wp2_with fail
  refine C.out.mono ?_
  rintro e w1 ⟨b, rfl, hc1, hg1⟩
  have C1 := Lib.hid hc1
  have G1 := Lib.hid hg1
  clear hc1 hg1
  cases b with
  | true =>
    go_wp2_with fail
    refine (pickDeep B g w1 C1.out).mono ?_
    rintro e w2 ⟨n, rfl, hn, hc2, hg2⟩
    have N := Lib.hid hn
    have C2 := Lib.hid hc2
    have G2 := Lib.hid (grown_tr G1.out hg2)
    clear hn hc2 hg2
    go_wp2_with fail
    go_ret
    exact ⟨n, rfl, N.out, C2.out, G2.out⟩
  | false =>
    go_wp2_with fail
    go_loopw [3, 4] (fun n i wr => ∃ (k : Nat) (q : Int), k ≤ 4 ∧ i = .int .i64 k ∧ n = .int .i64 q ∧ (0 ≤ q ∧ q < 256 ^ k) ∧ CurB wr B g ∧ w.grownBy wr (some g))
      (fun _ i _ => 4 - (RowKit.intOf i).toNat)
    case atStart => exact ⟨0, 0, Nat.zero_le _, rfl, rfl, ⟨by omega, by decide⟩, C1.out, G1.out⟩
    case round =>
      obtain ⟨k, q, hk, rfl, rfl, ⟨q0, q1⟩, hcur, hgr⟩ := hrel
      have K := Lib.hid hcur
      have G := Lib.hid hgr
      have hq4 : q < 4294967296 := Int.lt_of_lt_of_le q1 (pow256_4 k hk)
      have Q := Lib.hid q1
      clear hcur hgr q1
      by_cases hlt : k < 4
      · go_wp2_with fail
        refine (l1Byte_any B g wr K.out).mono ?_
        rintro e w2 ⟨x, rfl, ⟨x0, x1⟩, hc2, hg2⟩
        have K2 := Lib.hid hc2
        have G2 := Lib.hid (grown_tr G.out hg2)
        clear hc2 hg2
        go_wp2_with fail
        go_roundw
        case rel => exact ⟨k + 1, 256 * q + x, by omega, by go_num, by go_num, ⟨by omega, by have := Q.out; rw [Int.pow_succ]; omega⟩, K2.out, G2.out⟩
        case measure => simp [RowKit.intOf]; omega
      · go_wp2_with fail
        go_ret
        exact ⟨q, rfl, ⟨by omega, by omega⟩, K.out, G.out⟩

end Go.Proofs.Ytajekjjaaohbnaa
namespace Go.Proofs.Ytajekjjaaohbnaa
open Go.RowKit Go.Lib

theorem results_four {fn : Func} {t u v x : Tmp} (h : fn.results = #[.tmp t, .tmp u, .tmp v, .tmp x]) (tmps : Array Value) (P : Program) (w : World) :
    (results fn tmps).run P w = .ok (.tuple #[tmps.getD t undef, tmps.getD u undef, tmps.getD v undef, tmps.getD x undef]) w := by
  simp [results, h]

set_option maxHeartbeats 1000000 in
theorem l4Place_any (B g : Nat) (w : World) (hc : CurB w B g) : Calls Try.prog 37 #[.pointer (some ⟨g, 0, none⟩)] w (WholeEnd w B g) := by
  have C := Lib.hid (l1Once_any B g w hc 12 (by omega) (by omega))
  clear hc
  go_enter Try.func37, Try.ntmps37
  go_wp2_with fail
  refine C.out.mono ?_
  rintro e w1 ⟨b, rfl, hc1, hg1⟩
  have C1 := Lib.hid hc1
  have G1 := Lib.hid hg1
  clear hc1 hg1
  cases b with
  | true =>
    go_wp2_with fail
    refine (l1Whole_any B g w1 C1.out).mono ?_
    rintro e w2 ⟨n, rfl, hn, hc2, hg2⟩
    have N := Lib.hid hn
    have C2 := Lib.hid hc2
    have G2 := Lib.hid (grown_tr G1.out hg2)
    clear hn hc2 hg2
    go_wp2_with fail
    go_ret
    exact ⟨n, rfl, N.out, C2.out, G2.out⟩
  | false =>
    go_wp2_with fail
    refine (l2Deep_any B g w1 C1.out).mono ?_
    rintro e w2 ⟨n, rfl, hn, hc2, hg2⟩
    have N := Lib.hid hn
    have C2 := Lib.hid hc2
    have G2 := Lib.hid (grown_tr G1.out hg2)
    clear hn hc2 hg2
    go_wp2_with fail
    go_ret
    exact ⟨n, rfl, N.out, C2.out, G2.out⟩

end Go.Proofs.Ytajekjjaaohbnaa
namespace Go.Proofs.Ytajekjjaaohbnaa
open Go.RowKit Go.Lib

end Go.Proofs.Ytajekjjaaohbnaa
namespace Go.Proofs.Ytajekjjaaohbnaa
open Go.RowKit Go.Lib

theorem made_zero (k : Nat) : (madeCells (Value.int IntKind.u8 0).cells (k * 1)).toList = byteCells (List.replicate k (0 : UInt8)) := by
  apply List.ext_getElem?
  intro j
  by_cases hj : j < k
  · simp [madeCells, byteCells, hj, Value.cells, Nat.mod_one]
  · simp [madeCells, byteCells, hj]

end Go.Proofs.Ytajekjjaaohbnaa
namespace Go.Proofs.Ytajekjjaaohbnaa
open Go.RowKit Go.Lib

/-- The numbers among which l2Word picks. -/
def word2Cs : Array Value := #[.int .i64 0, .int .i64 1, .int .i64 255, .int .i64 256, .int .i64 65535, .int .i64 65536, .int .i64 16777215, .int .i64 4294967295, .int .i64 4294967296, .int .i64 281474976710655, .int .i64 281474976710656]
theorem word2Cs_bd : ∀ v ∈ word2Cs.toList, ∃ x, v = .int .i64 x ∧ I64 x := by
  intro v hv
  simp only [word2Cs, List.mem_cons, List.mem_nil_iff, or_false] at hv
  unfold I64
  rcases hv with rfl | rfl | rfl | rfl | rfl | rfl | rfl | rfl | rfl | rfl | rfl <;> exact ⟨_, rfl, by decide⟩
theorem pickWord2 (B g : Nat) (w : World) (hc : CurB w B g) : Calls Try.prog 39 #[.pointer (some ⟨g, 0, none⟩), .slice (some ⟨w.heap.size, 0, none⟩) 11 11] (w.alloc (.cells word2Cs 3)) (WholeEnd w B g) :=
  pickNew B g w hc word2Cs (by decide) (by decide) word2Cs_bd

set_option maxRecDepth 100000 in
set_option maxHeartbeats 1000000 in
theorem l2Word_any (B g : Nat) (w : World) (hc : CurB w B g) : Calls Try.prog 80 #[.pointer (some ⟨g, 0, none⟩)] w (WholeEnd w B g) := by
  have C := Lib.hid (l1Below_pos B g w hc 3 (by omega) (by omega))
  clear hc
  go_enter Try.func80, Try.ntmps80
  go_wp2_with fail
  refine C.out.mono ?_
  rintro e w1 ⟨r, rfl, ⟨r0, r1⟩, hc1, hg1⟩
  have C1 := Lib.hid hc1
  have G1 := Lib.hid hg1
  clear hc1 hg1
  have hr : r = 0 ∨ r = 1 ∨ r = 2 := by omega
  rcases hr with rfl | rfl | rfl
  · go_wp2_with fail
    refine (l1Whole_any B g w1 C1.out).mono ?_
    rintro e w2 ⟨n, rfl, hn, hc2, hg2⟩
    have N := Lib.hid hn
    have C2 := Lib.hid hc2
    have G2 := Lib.hid (grown_tr G1.out hg2)
    clear hn hc2 hg2
    go_wp2_with fail
    go_ret
    exact ⟨n, rfl, N.out, C2.out, G2.out⟩
  · go_wp2_with fail
    refine (pickWord2 B g w1 C1.out).mono ?_
    rintro e w2 ⟨n, rfl, hn, hc2, hg2⟩
    have N := Lib.hid hn
    have C2 := Lib.hid hc2
    have G2 := Lib.hid (grown_tr G1.out hg2)
    clear hn hc2 hg2
    go_wp2_with fail
    go_ret
    exact ⟨n, rfl, N.out, C2.out, G2.out⟩
  · go_wp2_with fail
    refine (l1Below_pos B g w1 C1.out 65536 (by omega) (by omega)).mono ?_
    rintro e w2 ⟨n, rfl, ⟨n0, n1⟩, hc2, hg2⟩
    have C2 := Lib.hid hc2
    have G2 := Lib.hid (grown_tr G1.out hg2)
    clear hc2 hg2
    go_wp2_with fail
    go_ret
    exact ⟨_, rfl, ⟨by omega, by omega⟩, C2.out, G2.out⟩
end Go.Proofs.Ytajekjjaaohbnaa
