/- The draws' own l1Byte. -/
import Derived.Test.YtlfbcfhekfmkfaaBase
import Derived.Test.YtlfbcfhekfmkfaaCurKit
namespace Go.Proofs.Ytlfbcfhekfmkfaa
open Go.RowKit Go.Lib

set_option maxRecDepth 100000 in
set_option maxHeartbeats 1000000 in
theorem l1Byte_any (B g : Nat) (w : World) (hc : CurB w B g) : Calls Try.prog 49 #[.pointer (some ⟨g, 0, none⟩)] w (DrawEnd w B g 255) := by
  obtain ⟨hB, a, bs, cap, i, h, hh, ⟨hi0, hi1⟩, hbs, hrow⟩ := hc
  have c0 : w.cell? ⟨g, 0, none⟩ = some (.slice a bs.length cap) := by rw [cell_of_row w g 0 _ _ _ hh]; rfl
  have c1 : w.cell? ⟨g, 1, none⟩ = some (.int .i64 i) := by rw [cell_of_row w g 1 _ _ _ hh]; rfl
  have c2 : w.cell? ⟨g, 2, none⟩ = some (.int .i64 h) := by rw [cell_of_row w g 2 _ _ _ hh]; rfl
  have f1 : w.frozen? ⟨g, 1, none⟩ = false := by simp [World.frozen?, hh]
  have f2 : w.frozen? ⟨g, 2, none⟩ = false := by simp [World.frozen?, hh]
  have HH := Lib.hid hh
  have HR := Lib.hid hrow
  clear hh hrow
  by_cases hlt : i < bs.length
  · obtain ⟨k, rfl⟩ : ∃ k : Nat, i = (k : Int) := ⟨i.toNat, by omega⟩
    have hk : k < bs.length := by omega
    obtain ⟨b, off, rfl, hb, hcs⟩ := HR.out.byte hk
    have c3 := hcs k hk
    have hne : ¬ b = g := by omega
    have h8 : bs[k].toNat < 256 := bs[k].toNat_lt
    clear hcs
    go_enter Try.func49, Try.ntmps49
    go_wp2_with fail
    go_quiet (fail)
    go_wp2_with fail
    go_quiet (fail)
    go_wp2_with fail
    go_quiet (fail)
    go_wp2_with fail
    go_ret
    refine ⟨_, rfl, mask255 _, ?_, ?_⟩
    · exact cur_step hB HH.out hbs HR.out _ _ (by omega)
    · exact grown_set (grown_draws (grown_set (World.grownBy.refl w (some g)) 2 _) _) 1 _
  · go_enter Try.func49, Try.ntmps49
    go_wp2_with fail
    go_quiet (fail)
    go_wp2_with fail
    go_quiet (fail)
    go_wp2_with fail
    go_ret
    refine ⟨_, rfl, mask255 _, ?_, ?_⟩
    · exact cur_set hB HH.out ⟨hi0, hi1⟩ hbs HR.out _
    · exact grown_draws (grown_draws (grown_set (World.grownBy.refl w (some g)) 2 _) _) _
end Go.Proofs.Ytlfbcfhekfmkfaa
namespace Go.Proofs.Ytlfbcfhekfmkfaa
open Go.RowKit Go.Lib

set_option maxHeartbeats 1000000 in
theorem l1Below_small (B g : Nat) (w : World) (hc : CurB w B g) (n : Int) (h0 : 0 < n) (h1 : n ≤ 256) : Calls Try.prog 58 #[.pointer (some ⟨g, 0, none⟩), .int .i64 n] w (DrawEnd w B g (n - 1)) := by
  have C := Lib.hid (l1Byte_any B g w hc)
  clear hc
  have hn0 : (n == 0) = false := by simp; omega
  go_enter Try.func58, Try.ntmps58
  go_wp2_with fail
  refine C.out.mono ?_
  rintro e w1 ⟨r, rfl, ⟨r0, r1⟩, hc1, hg1⟩
  have HC := Lib.hid hc1
  have HG := Lib.hid hg1
  clear hc1 hg1
  go_wp2_with fail
  go_ret
  exact ⟨_, rfl, ⟨Int.emod_nonneg _ (by omega), by have := Int.emod_lt_of_pos r h0; omega⟩, HC.out, HG.out⟩

set_option maxHeartbeats 1000000 in
theorem l1Below_big (B g : Nat) (w : World) (hc : CurB w B g) (n : Int) (h0 : 256 < n) (h1 : n ≤ 4000000000) : Calls Try.prog 58 #[.pointer (some ⟨g, 0, none⟩), .int .i64 n] w (DrawEnd w B g (n - 1)) := by
  have hn0 : (n == 0) = false := by simp; omega
  have C := Lib.hid hc
  clear hc
  go_enter Try.func58, Try.ntmps58
  go_wp2_with fail
  refine (l1Byte_any B g w C.out).mono ?_
  rintro e w1 ⟨a, rfl, ⟨a0, a1⟩, hc1, hg1⟩
  have C1 := Lib.hid hc1
  have G1 := Lib.hid hg1
  clear hc1 hg1
  go_wp2_with fail
  refine (l1Byte_any B g w1 C1.out).mono ?_
  rintro e w2 ⟨b, rfl, ⟨b0, b1⟩, hc2, hg2⟩
  have C2 := Lib.hid hc2
  have G2 := Lib.hid (grown_tr G1.out hg2)
  clear hc2 hg2
  go_wp2_with fail
  refine (l1Byte_any B g w2 C2.out).mono ?_
  rintro e w3 ⟨c, rfl, ⟨c0, c1⟩, hc3, hg3⟩
  have C3 := Lib.hid hc3
  have G3 := Lib.hid (grown_tr G2.out hg3)
  clear hc3 hg3
  go_wp2_with fail
  refine (l1Byte_any B g w3 C3.out).mono ?_
  rintro e w4 ⟨d, rfl, ⟨d0, d1⟩, hc4, hg4⟩
  have C4 := Lib.hid hc4
  have G4 := Lib.hid (grown_tr G3.out hg4)
  clear hc4 hg4
  go_wp2_with fail
  go_ret
  exact ⟨_, rfl, ⟨Int.emod_nonneg _ (by omega), by have := Int.emod_lt_of_pos (a * 16777216 + b * 65536 + c * 256 + d) (show (0 : Int) < n by omega); omega⟩, C4.out, G4.out⟩

theorem l1Below_pos (B g : Nat) (w : World) (hc : CurB w B g) (n : Int) (h0 : 0 < n) (h1 : n ≤ 4000000000) : Calls Try.prog 58 #[.pointer (some ⟨g, 0, none⟩), .int .i64 n] w (DrawEnd w B g (n - 1)) := by
  by_cases h : n ≤ 256
  · exact l1Below_small B g w hc n h0 h
  · exact l1Below_big B g w hc n (by omega) h1
theorem l1Below_zero (B g : Nat) (w : World) (hc : CurB w B g) (n : Int) (h0 : n ≤ 0) : Calls Try.prog 58 #[.pointer (some ⟨g, 0, none⟩), .int .i64 n] w (DrawEnd w B g 0) := by
  have C := Lib.hid hc
  clear hc
  go_enter Try.func58, Try.ntmps58
  go_wp2_with fail
  go_ret
  exact ⟨0, rfl, ⟨by omega, by omega⟩, C.out, World.grownBy.refl _ _⟩

/-- What l1New hands back: a new cursor. -/
def NewEnd (w : World) (e : Ending) (w' : World) : Prop := ∃ g, e = .returned (.pointer (some ⟨g, 0, none⟩)) ∧ CurB w' w.heap.size g ∧ Below w.heap.size w w'

set_option maxRecDepth 100000 in
set_option maxHeartbeats 1000000 in
theorem l1New_any (a : Option Addr) (bs : List UInt8) (cap : Nat) (w : World) (hrow : Row w w.heap.size a (byteCells bs)) (hbs : bs.length ≤ 1048576) : Calls Try.prog 28 #[.slice a bs.length cap] w (NewEnd w) := by
  go_enter Try.func28, Try.ntmps28
  go_wp2_with fail
  go_loop [3, 4] (fun h i => ∃ k : Nat, k ≤ bs.length ∧ i = .int .i64 k ∧ ∃ x : Int, h = .int .i64 x) (fun _ i => bs.length - (RowKit.intOf i).toNat)
  case atStart => exact ⟨0, Nat.zero_le _, rfl, _, rfl⟩
  case round =>
    obtain ⟨k, hk, rfl, x, rfl⟩ := hrel
    by_cases hlt : k < bs.length ∧ k < 4000
    · obtain ⟨hlt, h4⟩ := hlt
      obtain ⟨b, off, rfl, hb, hcs⟩ := hrow.byte hlt
      have hc := hcs k hlt
      have h8 : bs[k].toNat < 256 := bs[k].toNat_lt
      clear hcs hrow
      go_wp2_with fail
      go_round
      case rel => exact ⟨k + 1, by omega, by go_num, _, rfl⟩
      case measure => simp [RowKit.intOf]; omega
    · have HR := Lib.hid hrow
      clear hrow
      by_cases h1 : k < bs.length
      · have h4 : ¬ k < 4000 := fun h => hlt ⟨h1, h⟩
        clear hlt
        go_wp2_with fail
        go_ret
        exact ⟨w.heap.size, rfl, cur_new HR.out hbs x, (Below.refl _ _).alloc (Nat.le_refl _) _⟩
      · clear hlt
        go_wp2_with fail
        go_ret
        exact ⟨w.heap.size, rfl, cur_new HR.out hbs x, (Below.refl _ _).alloc (Nat.le_refl _) _⟩
end Go.Proofs.Ytlfbcfhekfmkfaa
namespace Go.Proofs.Ytlfbcfhekfmkfaa
open Go.RowKit Go.Lib

set_option maxHeartbeats 1000000 in
theorem l1PickInt_any (B g r : Nat) (w : World) (hc : CurB w B g) (cs : Array Value) (h : w.heap[r]? = some (.cells cs 3 (0, 0))) (hne : r ≠ g) (h0 : 0 < cs.size) (h1 : cs.size ≤ 1000000) (hall : ∀ v ∈ cs.toList, ∃ x, v = .int .i64 x) :
    Calls Try.prog 50 #[.pointer (some ⟨g, 0, none⟩), .slice (some ⟨r, 0, none⟩) cs.size cs.size] w (PickEnd w B g cs.toList) := by
  have C := Lib.hid (l1Below_pos B g w hc cs.size (by omega) (by omega))
  have hr : r < w.heap.size := by
    rcases Nat.lt_or_ge r w.heap.size with hlt | hge
    · exact hlt
    · rw [Array.getElem?_eq_none hge] at h; cases h
  have HH := Lib.hid h
  have HA := Lib.hid hall
  clear hc h hall
  go_enter Try.func50, Try.ntmps50
  go_wp2_with fail
  refine C.out.mono ?_
  rintro e w1 ⟨q, rfl, ⟨q0, q1⟩, hc1, hg1⟩
  obtain ⟨k, rfl⟩ : ∃ k : Nat, q = (k : Int) := ⟨q.toNat, by omega⟩
  have hk : k < cs.size := by omega
  have h' : w1.heap[r]? = some (.cells cs 3 (0, 0)) := (hg1.block r hr (fun e => hne (by injection e))).trans HH.out
  have hcell := row_at h' hk
  obtain ⟨x, hx⟩ := HA.out cs[k] (by simp)
  have hmem : Hid (Value.int .i64 x ∈ cs.toList) := by show _ ∈ _; rw [← hx]; simp
  rw [hx] at hcell
  have C1 := Lib.hid hc1
  have G1 := Lib.hid hg1
  clear hc1 hg1 h' hx
  go_wp2_with fail
  go_ret
  exact ⟨_, hmem.out, rfl, C1.out, G1.out⟩

end Go.Proofs.Ytlfbcfhekfmkfaa
namespace Go.Proofs.Ytlfbcfhekfmkfaa
open Go.RowKit Go.Lib

theorem CurB.keep {w w' : World} {B g : Nat} (h : CurB w B g) (he : w'.heap[g]? = w.heap[g]?) (hb : Below B w w') : CurB w' B g := by
  obtain ⟨hB, a, bs, cap, i, x, hh, h1, h2, h3⟩ := h
  exact ⟨hB, a, bs, cap, i, x, he.trans hh, h1, h2, h3.below hb⟩
/-- An append to a row of the call's own leaves the cursor, and all that was there but the cursor. -/
theorem app_keeps {w w1 w2 : World} {B g base : Nat} {e : TypeId} {v : Value} {n : Nat} {xs : List Value} {o : Obj} (hc : CurB w1 B g) (hgb : g < base) (hB : B ≤ base) (hw : base = w.heap.size) (hg1 : w.grownBy w1 (some g)) (hown : w1.ownsRow base e 1 v n xs) (hg : (w1.alloc o).grownBy w2 v.ownBlock) :
    CurB w2 B g ∧ w.grownBy w2 (some g) := by
  have hlt := hc.lt
  have hv : ∀ k, k < base → some k ≠ v.ownBlock := fun k hk e => by have := (hown.lt k e.symm).1; omega
  have hk : ∀ k, k < w1.heap.size → k < base → w2.heap[k]? = w1.heap[k]? := fun k h1 h2 =>
    (hg.block k (by simp; omega) (hv k h2)).trans (Below.heap_alloc w1 o k h1)
  refine ⟨hc.keep (hk g hlt hgb) ⟨hg.os, hg.tape, hg.output, Nat.le_trans (by simp) hg.size, fun k h => hk k (by have := hc.1; omega) (by omega)⟩, ?_⟩
  exact ⟨hg.os.trans hg1.os, hg.tape.trans hg1.tape, hg.output.trans hg1.output, Nat.le_trans hg1.size (Nat.le_trans (by simp) hg.size), fun k h1 h2 =>
    (hk k (Nat.lt_of_lt_of_le h1 hg1.size) (by omega)).trans (hg1.block k h1 h2)⟩
end Go.Proofs.Ytlfbcfhekfmkfaa
