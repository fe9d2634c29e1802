/- The draws' own l1Below, l1New. -/
import Derived.Test.YtgnjbejkhklkiaaCurA
namespace Go.Proofs.Ytgnjbejkhklkiaa
open Go.RowKit Go.Lib

set_option maxHeartbeats 1000000 in
theorem l1Below_small (B g : Nat) (w : World) (hc : CurB w B g) (n : Int) (h0 : 0 < n) (h1 : n ≤ 256) : Calls Try.prog 34 #[.pointer (some ⟨g, 0, none⟩), .int .i64 n] w (DrawEnd w B g (n - 1)) := by
  have C := Lib.hid (l1Byte_any B g w hc)
  clear hc
  have hn0 : (n == 0) = false := by simp; omega
  go_enter Try.func34, Try.ntmps34
  go_wp2_with fail
  refine C.out.mono ?_
  rintro e w1 ⟨r, rfl, ⟨r0, r1⟩, hc1, hg1⟩
  have HC := Lib.hid hc1
  have HG := Lib.hid hg1
  clear hc1 hg1
  go_wp2_with fail
  go_ret
  exact ⟨_, rfl, ⟨Int.emod_nonneg _ (by omega), by have := Int.emod_lt_of_pos r h0; omega⟩, HC.out, HG.out⟩

set_option maxHeartbeats 1000000 in
theorem l1Below_big (B g : Nat) (w : World) (hc : CurB w B g) (n : Int) (h0 : 256 < n) (h1 : n ≤ 4000000000) : Calls Try.prog 34 #[.pointer (some ⟨g, 0, none⟩), .int .i64 n] w (DrawEnd w B g (n - 1)) := by
  have hn0 : (n == 0) = false := by simp; omega
  have C := Lib.hid hc
  clear hc
  go_enter Try.func34, Try.ntmps34
  go_wp2_with fail
  refine (l1Byte_any B g w C.out).mono ?_
  rintro e w1 ⟨a, rfl, ⟨a0, a1⟩, hc1, hg1⟩
  have C1 := Lib.hid hc1
  have G1 := Lib.hid hg1
  clear hc1 hg1
  go_wp2_with fail
  refine (l1Byte_any B g w1 C1.out).mono ?_
  rintro e w2 ⟨b, rfl, ⟨b0, b1⟩, hc2, hg2⟩
  have C2 := Lib.hid hc2
  have G2 := Lib.hid (grown_tr G1.out hg2)
  clear hc2 hg2
  go_wp2_with fail
  refine (l1Byte_any B g w2 C2.out).mono ?_
  rintro e w3 ⟨c, rfl, ⟨c0, c1⟩, hc3, hg3⟩
  have C3 := Lib.hid hc3
  have G3 := Lib.hid (grown_tr G2.out hg3)
  clear hc3 hg3
  go_wp2_with fail
  refine (l1Byte_any B g w3 C3.out).mono ?_
  rintro e w4 ⟨d, rfl, ⟨d0, d1⟩, hc4, hg4⟩
  have C4 := Lib.hid hc4
  have G4 := Lib.hid (grown_tr G3.out hg4)
  clear hc4 hg4
  go_wp2_with fail
  go_ret
  exact ⟨_, rfl, ⟨Int.emod_nonneg _ (by omega), by have := Int.emod_lt_of_pos (a * 16777216 + b * 65536 + c * 256 + d) (show (0 : Int) < n by omega); omega⟩, C4.out, G4.out⟩

theorem l1Below_pos (B g : Nat) (w : World) (hc : CurB w B g) (n : Int) (h0 : 0 < n) (h1 : n ≤ 4000000000) : Calls Try.prog 34 #[.pointer (some ⟨g, 0, none⟩), .int .i64 n] w (DrawEnd w B g (n - 1)) := by
  by_cases h : n ≤ 256
  · exact l1Below_small B g w hc n h0 h
  · exact l1Below_big B g w hc n (by omega) h1
theorem l1Below_zero (B g : Nat) (w : World) (hc : CurB w B g) (n : Int) (h0 : n ≤ 0) : Calls Try.prog 34 #[.pointer (some ⟨g, 0, none⟩), .int .i64 n] w (DrawEnd w B g 0) := by
  have C := Lib.hid hc
  clear hc
  go_enter Try.func34, Try.ntmps34
  go_wp2_with fail
  go_ret
  exact ⟨0, rfl, ⟨by omega, by omega⟩, C.out, World.grownBy.refl _ _⟩

/-- What l1New hands back: a new cursor. -/
def NewEnd (w : World) (e : Ending) (w' : World) : Prop := ∃ g, e = .returned (.pointer (some ⟨g, 0, none⟩)) ∧ CurB w' w.heap.size g ∧ Below w.heap.size w w'

set_option maxRecDepth 100000 in
set_option maxHeartbeats 1000000 in
theorem l1New_any (a : Option Addr) (bs : List UInt8) (cap : Nat) (w : World) (hrow : Row w w.heap.size a (byteCells bs)) (hbs : bs.length ≤ 1048576) : Calls Try.prog 22 #[.slice a bs.length cap] w (NewEnd w) := by
  go_enter Try.func22, Try.ntmps22
  go_wp2_with fail
  go_loop [3, 4] (fun h i => ∃ k : Nat, k ≤ bs.length ∧ i = .int .i64 k ∧ ∃ x : Int, h = .int .i64 x) (fun _ i => bs.length - (RowKit.intOf i).toNat)
  case atStart => exact ⟨0, Nat.zero_le _, rfl, _, rfl⟩
  case round =>
    obtain ⟨k, hk, rfl, x, rfl⟩ := hrel
    by_cases hlt : k < bs.length ∧ k < 4000
    · obtain ⟨hlt, h4⟩ := hlt
      obtain ⟨b, off, rfl, hb, hcs⟩ := hrow.byte hlt
      have hc := hcs k hlt
      have h8 : bs[k].toNat < 256 := bs[k].toNat_lt
      clear hcs hrow
      go_wp2_with fail
      go_round
      case rel => exact ⟨k + 1, by omega, by go_num, _, rfl⟩
      case measure => simp [RowKit.intOf]; omega
    · have HR := Lib.hid hrow
      clear hrow
      by_cases h1 : k < bs.length
      · have h4 : ¬ k < 4000 := fun h => hlt ⟨h1, h⟩
        clear hlt
        go_wp2_with fail
        go_ret
        exact ⟨w.heap.size, rfl, cur_new HR.out hbs x, (Below.refl _ _).alloc (Nat.le_refl _) _⟩
      · clear hlt
        go_wp2_with fail
        go_ret
        exact ⟨w.heap.size, rfl, cur_new HR.out hbs x, (Below.refl _ _).alloc (Nat.le_refl _) _⟩
end Go.Proofs.Ytgnjbejkhklkiaa
