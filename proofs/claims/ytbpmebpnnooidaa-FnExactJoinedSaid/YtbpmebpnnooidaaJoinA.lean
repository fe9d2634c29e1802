import Derived.Test.YtbpmebpnnooidaaHexA
import Derived.Test.YtbpmebpnnooidaaJoinKit
namespace Go.Proofs.Ytbpmebpnnooidaa
open Go.RowKit Go.Lib

theorem Try.info9 : (Try.prog.info? 9).map (fun i => (i.zero, i.size, i.bytes)) = some (some (.string ⟨#[]⟩), 1, 16) := by kernel_rfl

/-- What szStringS tells: a result that is not negative bounds the list. -/
def SzEnd (ss : List ByteArray) (left : Int) (w : World) (e : Ending) (w' : World) : Prop :=
  w = w' ∧ ∃ r : Int, e = .returned (.int .i64 r) ∧ (0 ≤ r → (ss.length : Int) + lens (bytesOf ss) ≤ left)

set_option maxHeartbeats 800000 in
theorem szStr (a : Option Addr) (cap : Nat) (ss : List ByteArray) (left : Int) (w : World) (B : Nat) (hrow : Row w B a (strVals ss)) (hl : ss.length ≤ maxLen) (hsz : ∀ s ∈ ss, s.size ≤ maxLen) (h0 : 0 ≤ left) (h1 : left ≤ 1048576) :
    Calls Try.prog 13 #[.slice a ss.length cap, .int .i64 left] w (SzEnd ss left w) := by
  unfold maxLen at hl
  by_cases hn : left - ss.length < 0
  · go_enter Try.func13, Try.ntmps13
    go_wp2_with fail
    go_ret
    exact ⟨rfl, -1, rfl, fun h => by omega⟩
  · go_enter Try.func13, Try.ntmps13
    go_wp2_with fail
    go_loop [1, 5] (fun l i => ∃ k : Nat, k ≤ ss.length ∧ i = .int .i64 k ∧ ∃ q : Int, l = .int .i64 q ∧ 0 ≤ q ∧ q ≤ left ∧ Hid (q = left - ss.length - lens (bytesOf (ss.take k)))) (fun _ i => ss.length - (RowKit.intOf i).toNat)
    case atStart => exact ⟨0, Nat.zero_le _, rfl, _, rfl, by omega, by omega, by show _ = _; simp [bytesOf, lens]⟩
    case round =>
      obtain ⟨k, hk, rfl, q, rfl, hq0, hq1, hq⟩ := hrel
      by_cases hlt : k < ss.length
      · obtain ⟨b, off, rfl, hb, hcs⟩ := hrow.str hlt
        have hc := hcs k hlt
        have hs := hsz ss[k] (List.getElem_mem hlt)
        unfold maxLen at hs
        have hls := Lib.hid (lens_take ss k hlt)
        clear hcs hrow
        by_cases hz : q - ss[k].size < 0
        · go_wp2_with fail
          go_ret
          exact ⟨rfl, -1, rfl, fun h => by omega⟩
        · go_wp2_with fail
          go_round
          case rel => exact ⟨k + 1, by omega, by go_num, _, rfl, by omega, by omega, by show _ = _; rw [hls.out, hq.out]; omega⟩
          case measure => simp [RowKit.intOf]; omega
      · go_wp2_with fail
        go_ret
        exact ⟨rfl, q, rfl, fun h => by have := hq.out; rw [List.take_of_length_le (by omega)] at this; omega⟩

/-- What toStringS hands back: a new row with the same strings. -/
def ToEnd (ss : List ByteArray) (w : World) (e : Ending) (w' : World) : Prop :=
  ∃ g, e = .returned (.slice (some ⟨g, 0, none⟩) ss.length ss.length) ∧ w'.ownsRow w.heap.size 9 1 (.slice (some ⟨g, 0, none⟩) ss.length ss.length) ss.length (strVals ss) ∧ Below w.heap.size w w'

set_option maxHeartbeats 800000 in
theorem toStr (a : Option Addr) (cap : Nat) (ss : List ByteArray) (w : World) (hrow : Row w w.heap.size a (strVals ss)) (hl : ss.length ≤ 1048576) :
    Calls Try.prog 15 #[.slice a ss.length cap] w (ToEnd ss w) := by
  obtain ⟨i0, hi, hz0, hz1, hz2⟩ := info_parts Try.info9
  go_enter Try.func15, Try.ntmps15
  go_wp2_with (at_make; refine wpList_make_full _ rfl _ _ 28 rfl w.heap.size 9 i0 (.string ⟨#[]⟩) 1 Try.underlying28 hi hz0 hz1 .i64 .i64 _ _ ss.length rfl rfl rfl rfl (by rw [hz2]; omega) (by unfold maxLen; omega) (Nat.le_refl _) ?_; intro w0 hown0 hgrow0)
  have hst : w0.ownsRow w.heap.size 9 1 (.slice (some ⟨w.heap.size, 0, none⟩) ss.length ss.length) ss.length (fillS ss 0) := by
    rw [fillS_zero]; rw [Nat.mul_one, show (Value.string ⟨#[]⟩).cells = #[Value.string ⟨#[]⟩] from rfl, toList_madeCells_one] at hown0; exact hown0
  have hbl : Below w.heap.size w w0 := (Below.refl _ _).grown hgrow0 (Nat.le_refl _) (fun _ h => by cases h)
  clear hown0 hgrow0
  go_loopw [4] (fun i wr => ∃ k : Nat, k ≤ ss.length ∧ i = .int .i64 k ∧ wr.ownsRow w.heap.size 9 1 (.slice (some ⟨w.heap.size, 0, none⟩) ss.length ss.length) ss.length (fillS ss k) ∧ Below w.heap.size w wr)
    (fun i _ => ss.length - (RowKit.intOf i).toNat)
  case atStart => exact ⟨0, Nat.zero_le _, rfl, hst, hbl⟩
  case round =>
    obtain ⟨k, hk, rfl, hown, hb⟩ := hrel
    clear hst hbl
    by_cases hlt : k < ss.length
    · obtain ⟨b, off, rfl, hbb, hcs⟩ := (hrow.below hb).str hlt
      have hc := hcs k hlt
      have hd : wr.cell? ⟨w.heap.size, k, none⟩ = some (.string ⟨#[]⟩) := (hown.cellAt k (by omega)).trans (fillS_at ss k hlt)
      have hf := hown.frozenAt k
      have hst := hown.stored k (.string ss[k])
      rw [fillS_set ss k hlt] at hst
      have hb1 := hb.setCell (p := ⟨w.heap.size, k, none⟩) (Nat.le_refl _) (.string ss[k])
      have H := Lib.hid hst.1
      clear hcs hrow hst hown
      go_wp2_with fail
      go_roundw
      case rel => exact ⟨k + 1, by omega, by go_num, H.out, hb1⟩
      case measure => simp [RowKit.intOf]; omega
    · rw [fillS_all ss k (by omega)] at hown
      go_wp2_with fail
      go_ret
      exact ⟨w.heap.size, rfl, hown, hb⟩
end Go.Proofs.Ytbpmebpnnooidaa
