/- spec.Joined -/
import Derived.Test.YtahkaemdgelmdaaDoorBase
import Derived.Test.YtahkaemdgelmdaaDoorJoinKit
namespace Go.Proofs.YtahkaemdgelmdaaDoor
open Go.RowKit Go.Lib

set_option maxHeartbeats 1000000 in
theorem joinedS (a : Option Addr) (cap : Nat) (ss : List ByteArray) (by_ : ByteArray) (w : World) (hrow : Row w w.heap.size a (strVals ss)) (hl : ss.length ≤ 1048576) (hb0 : by_.size ≤ 1048576) (hs : lens (bytesOf ss) ≤ 1048576) :
    Calls Tryd.prog 39 #[.slice a ss.length cap, .string by_] w fun e w' => e = .returned (.string ⟨(jn ss by_ ss.length).toArray⟩) ∧ Below w.heap.size w w' := by
  obtain ⟨i0, hi, hz0, hz1, hz2⟩ := info_parts Tryd.info5
  have hbd : ∀ k, k ≤ ss.length → (jn ss by_ k).length ≤ 1099512676352 := fun k hk => by
    have h1 := jn_length ss by_ k
    have h2 := Nat.mul_le_mul hb0 (Nat.le_trans hk hl)
    omega
  have HB := Lib.hid hbd
  clear hbd
  go_enter Tryd.func39, Tryd.ntmps39
  go_wp2_with fail
  go_loopw [5, 6] (fun v i wr => ∃ k : Nat, k ≤ ss.length ∧ i = .int .i64 k ∧ wr.ownsRow w.heap.size 5 1 v (jn ss by_ k).length (byteCells (jn ss by_ k)) ∧ Below w.heap.size w wr)
    (fun _ i _ => ss.length - (RowKit.intOf i).toNat)
  case atStart => exact ⟨0, Nat.zero_le _, rfl, World.ownsRow_lit w #[] 0 (Nat.le_refl _) (by simp [maxLen]) rfl, (Below.refl _ _).alloc (Nat.le_refl _) _⟩
  case round =>
    obtain ⟨k, hk, rfl, hown, hb⟩ := hrel
    by_cases hlt : k < ss.length
    · obtain ⟨b, off, rfl, hbb, hcs⟩ := hrow.str hlt
      have hc0 := Lib.hid (hcs k hlt)
      have hk1 := HB.out (k + 1) hlt
      have hsz : ss[k].size = ss[k].data.toList.length := by simp
      clear hcs hrow
      by_cases hz : k = 0
      · subst hz
        have hc : wr.cell? ⟨b, off + 0, none⟩ = some (.string ss[0]) := (hb.cell (p := ⟨b, off + 0, none⟩) hbb).trans hc0.out
        rw [Nat.add_zero] at hc
        rw [jn_one ss by_ hlt] at hk1
        have HS := Lib.hid hsz
        clear hsz
        go_wp2_with (at_builtin; refine wpList_append_own_string _ rfl _ _ _ _ rfl w.heap.size 5 i0 Tryd.underlying22 Tryd.underlying9 hi hz0 hz1 hz2 _ _ _ rfl hown ss[0] rfl (by have := HS.out; rw [jn_zero]; unfold maxLen; simp; omega) (by have := HS.out; rw [jn_zero]; simp; omega) hb.size ?_; intro v1 w1 hown1 hgrow1 _)
        have hb1 := below_grown hb hown hgrow1
        rw [strCells_bytes, jn_zero, ← byteCells_append, List.nil_append, ← jn_one ss by_ hlt] at hown1
        go_roundw
        case rel => exact ⟨0 + 1, by omega, by go_num, by rw [HS.out, List.length_nil, Nat.zero_add, ← jn_one ss by_ hlt] at hown1; exact hown1, hb1⟩
        case measure => simp [RowKit.intOf]; omega
      · have hpos : 0 < k := by omega
        have hjl : (jn ss by_ (k + 1)).length = (jn ss by_ k).length + by_.size + ss[k].size := by rw [jn_succ ss by_ k hlt hpos, List.length_append, List.length_append]; simp
        rw [hjl] at hk1
        have HJ := Lib.hid hjl
        clear hsz hjl hz
        go_wp2_with (first
          | (at_builtin; refine wpList_append_own_string _ rfl (.tmp 16) (.tmp 17) _ _ rfl w.heap.size 5 i0 Tryd.underlying22 Tryd.underlying9 hi hz0 hz1 hz2 _ _ _ rfl hown by_ rfl (by unfold maxLen; omega) (by omega) hb.size ?_; intro v1 w1 hown1 hgrow1 _; have hb1 := below_grown hb hown hgrow1; have hc1 : w1.cell? ⟨b, off + k, none⟩ = some (.string ss[k]) := (hb1.cell (p := ⟨b, off + k, none⟩) hbb).trans hc0.out)
          | (at_builtin; refine wpList_append_own_string _ rfl (.tmp 19) (.tmp 23) _ _ rfl w.heap.size 5 i0 Tryd.underlying22 Tryd.underlying9 hi hz0 hz1 hz2 _ _ _ rfl hown1 ss[k] rfl (by unfold maxLen; omega) (by omega) hb1.size ?_; intro v2 w2 hown2 hgrow2 _; have hb2 := below_grown hb1 hown1 hgrow2))
        rw [strCells_bytes, strCells_bytes, ← byteCells_append, ← byteCells_append, ← jn_succ ss by_ k hlt hpos, ← HJ.out] at hown2
        go_roundw
        case rel => exact ⟨k + 1, by omega, by go_num, hown2, hb2⟩
        case measure => simp [RowKit.intOf]; omega
    · have hcv := run_string_own (P := Tryd.prog) Tryd.underlying22 Tryd.underlying5 Tryd.underlying9 hown
      go_wp2_with fail
      go_ret
      rw [show k = ss.length by omega]
      exact ⟨rfl, hb⟩
end Go.Proofs.YtahkaemdgelmdaaDoor
