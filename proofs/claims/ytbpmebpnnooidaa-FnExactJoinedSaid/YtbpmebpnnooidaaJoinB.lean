import Derived.Test.YtbpmebpnnooidaaJoinA
import Derived.Test.YtbpmebpnnooidaaShelf
namespace Go.Proofs.Ytbpmebpnnooidaa
open Go.RowKit Go.Lib

theorem below_grown {B : Nat} {w wr w1 : World} {e : TypeId} {size : Nat} {v : Value} {n : Nat} {xs : List Value} (hb : Below w.heap.size w wr) (hown : wr.ownsRow B e size v n xs) (hg : wr.grownBy w1 v.ownBlock) (hB : w.heap.size ≤ B := by omega) : Below w.heap.size w w1 :=
  hb.grown hg hb.size (fun j hj => Nat.le_trans hB (hown.lt j hj).1)

theorem strCells_bytes (s : ByteArray) : strCells s = byteCells s.data.toList := rfl

set_option maxHeartbeats 1000000 in
theorem joinedS (a : Option Addr) (cap : Nat) (ss : List ByteArray) (by_ : ByteArray) (w : World) (hrow : Row w w.heap.size a (strVals ss)) (hl : ss.length ≤ 1048576) (hb0 : by_.size ≤ 1048576) (hs : lens (bytesOf ss) ≤ 1048576) :
    Calls Try.prog 14 #[.slice a ss.length cap, .string by_] w fun e w' => e = .returned (.string ⟨(jn ss by_ ss.length).toArray⟩) ∧ Below w.heap.size w w' := by
  obtain ⟨i0, hi, hz0, hz1, hz2⟩ := info_parts Try.info5
  have hbd : ∀ k, k ≤ ss.length → (jn ss by_ k).length ≤ 1099512676352 := fun k hk => by
    have h1 := jn_length ss by_ k
    have h2 := Nat.mul_le_mul hb0 (Nat.le_trans hk hl)
    omega
  have HB := Lib.hid hbd
  clear hbd
  go_enter Try.func14, Try.ntmps14
  go_wp2_with fail
  go_loopw [5, 6] (fun v i wr => ∃ k : Nat, k ≤ ss.length ∧ i = .int .i64 k ∧ wr.ownsRow w.heap.size 5 1 v (jn ss by_ k).length (byteCells (jn ss by_ k)) ∧ Below w.heap.size w wr)
    (fun _ i _ => ss.length - (RowKit.intOf i).toNat)
  case atStart => exact ⟨0, Nat.zero_le _, rfl, World.ownsRow_lit w #[] 0 (Nat.le_refl _) (by simp [maxLen]) rfl, (Below.refl _ _).alloc (Nat.le_refl _) _⟩
  case round =>
    obtain ⟨k, hk, rfl, hown, hb⟩ := hrel
    by_cases hlt : k < ss.length
    · obtain ⟨b, off, rfl, hbb, hcs⟩ := hrow.str hlt
      have hc0 := Lib.hid (hcs k hlt)
      have hk1 := HB.out (k + 1) hlt
      have hsz : ss[k].size = ss[k].data.toList.length := by simp
      clear hcs hrow
      by_cases hz : k = 0
      · subst hz
        have hc : wr.cell? ⟨b, off + 0, none⟩ = some (.string ss[0]) := (hb.cell (p := ⟨b, off + 0, none⟩) hbb).trans hc0.out
        rw [Nat.add_zero] at hc
        rw [jn_one ss by_ hlt] at hk1
        have HS := Lib.hid hsz
        clear hsz
        go_wp2_with (at_builtin; refine wpList_append_own_string _ rfl _ _ _ _ rfl w.heap.size 5 i0 Try.underlying36 Try.underlying9 hi hz0 hz1 hz2 _ _ _ rfl hown ss[0] rfl (by have := HS.out; rw [jn_zero]; unfold maxLen; simp; omega) (by have := HS.out; rw [jn_zero]; simp; omega) hb.size ?_; intro v1 w1 hown1 hgrow1 _)
        have hb1 := below_grown hb hown hgrow1
        rw [strCells_bytes, jn_zero, ← byteCells_append, List.nil_append, ← jn_one ss by_ hlt] at hown1
        go_roundw
        case rel => exact ⟨0 + 1, by omega, by go_num, by rw [HS.out, List.length_nil, Nat.zero_add, ← jn_one ss by_ hlt] at hown1; exact hown1, hb1⟩
        case measure => simp [RowKit.intOf]; omega
      · have hpos : 0 < k := by omega
        have hjl : (jn ss by_ (k + 1)).length = (jn ss by_ k).length + by_.size + ss[k].size := by rw [jn_succ ss by_ k hlt hpos, List.length_append, List.length_append]; simp
        rw [hjl] at hk1
        have HJ := Lib.hid hjl
        clear hsz hjl hz
        go_wp2_with (first
          | (at_builtin; refine wpList_append_own_string _ rfl (.tmp 16) (.tmp 17) _ _ rfl w.heap.size 5 i0 Try.underlying36 Try.underlying9 hi hz0 hz1 hz2 _ _ _ rfl hown by_ rfl (by unfold maxLen; omega) (by omega) hb.size ?_; intro v1 w1 hown1 hgrow1 _; have hb1 := below_grown hb hown hgrow1; have hc1 : w1.cell? ⟨b, off + k, none⟩ = some (.string ss[k]) := (hb1.cell (p := ⟨b, off + k, none⟩) hbb).trans hc0.out)
          | (at_builtin; refine wpList_append_own_string _ rfl (.tmp 19) (.tmp 23) _ _ rfl w.heap.size 5 i0 Try.underlying36 Try.underlying9 hi hz0 hz1 hz2 _ _ _ rfl hown1 ss[k] rfl (by unfold maxLen; omega) (by omega) hb1.size ?_; intro v2 w2 hown2 hgrow2 _; have hb2 := below_grown hb1 hown1 hgrow2))
        rw [strCells_bytes, strCells_bytes, ← byteCells_append, ← byteCells_append, ← jn_succ ss by_ k hlt hpos, ← HJ.out] at hown2
        go_roundw
        case rel => exact ⟨k + 1, by omega, by go_num, hown2, hb2⟩
        case measure => simp [RowKit.intOf]; omega
    · have hcv := run_string_own (P := Try.prog) Try.underlying36 Try.underlying5 Try.underlying9 hown
      go_wp2_with fail
      go_ret
      rw [show k = ss.length by omega]
      exact ⟨rfl, hb⟩
set_option maxHeartbeats 1000000 in
/-- Two lists that are the same. -/
theorem eqStr (a c : Option Addr) (cap cap' : Nat) (ss : List ByteArray) (w : World) (hrow : Row w w.heap.size a (strVals ss)) (hrow' : Row w w.heap.size c (strVals ss)) (hl : ss.length ≤ 1048576) :
    Calls Try.prog 17 #[.slice a ss.length cap, .slice c ss.length cap'] w fun e w' => e = .returned (.bool true) ∧ Below w.heap.size w w' := by
  go_enter Try.func17, Try.ntmps17
  go_wp2_with fail
  go_loopw [5] (fun i wr => ∃ k : Nat, k ≤ ss.length ∧ i = .int .i64 k ∧ Below w.heap.size w wr)
    (fun i _ => ss.length - (RowKit.intOf i).toNat)
  case atStart => exact ⟨0, Nat.zero_le _, rfl, Below.refl _ _⟩
  case round =>
    obtain ⟨k, hk, rfl, hb⟩ := hrel
    by_cases hlt : k < ss.length
    · obtain ⟨b, off, rfl, hbb, hcs⟩ := (hrow.below hb).str hlt
      obtain ⟨b', off', rfl, hbb', hcs'⟩ := (hrow'.below hb).str hlt
      have hc := hcs k hlt
      have hc' := hcs' k hlt
      have hk0 : (0 : Int) ≤ (k : Int) := Int.natCast_nonneg _
      have hk1 : (k : Int) < (ss.length : Int) := by omega
      clear hcs hcs' hrow hrow'
      go_wp2_with fail
      go_quiet (fail)
      go_wp2_with fail
      go_roundw
      case rel => exact ⟨k + 1, by omega, by go_num, ⟨hb.os, hb.tape, hb.output, hb.size, hb.block⟩⟩
      case measure => simp [RowKit.intOf]; omega
    · go_wp2_with fail
      go_ret
      exact ⟨rfl, hb⟩

theorem bytes_back (ss : List ByteArray) : ss.map (·.data.toList) = bytesOf ss := rfl
/-- The program's Joined. -/
theorem joinedI (a : Option Addr) (cap : Nat) (ss : List ByteArray) (by_ : ByteArray) (w : World) (hrow : Row w w.heap.size a (strVals ss)) (hcap : ss.length ≤ cap) (hl : ss.length ≤ 1048576) (hb0 : by_.size ≤ 1048576) (hs : lens (bytesOf ss) ≤ 1048576) :
    Calls Try.prog 16 #[.slice a ss.length cap, .string by_] w fun e w' => e = .returned (.string ⟨(jn ss by_ ss.length).toArray⟩) ∧ Below w.heap.size w w' := by
  have hj : jn ss by_ ss.length = Lib.join (ss.map (·.data.toList)) by_.data.toList := by unfold jn; rw [List.take_of_length_le (Nat.le_refl _)]; rfl
  have hbd : (Lib.join (ss.map (·.data.toList)) by_.data.toList).length ≤ 140737488355328 := by
    rw [← hj]
    have h1 := jn_length ss by_ ss.length
    have h2 := Nat.mul_le_mul hb0 hl
    omega
  rw [hj]
  by_cases h0 : 0 < ss.length
  · obtain ⟨b, off, rfl, hbb, hcs⟩ := hrow.str h0
    have C := Lib.hid (Try.strings_Join b off cap ss by_ w (fun j x hx => by
      obtain ⟨hj, rfl⟩ := List.getElem?_eq_some_iff.1 hx; exact hcs j hj) hbb (by omega) hcap hbd)
    clear hcs hj hbd hrow
    go_enter Try.func16, Try.ntmps16
    go_wp2_with fail
    refine C.out.mono ?_
    rintro e w1 ⟨rfl, hb⟩
    go_wp2_with fail
    go_ret
    exact ⟨rfl, hb⟩
  · have hn : ss = [] := List.eq_nil_of_length_eq_zero (by omega)
    subst hn
    have C := Lib.hid (Try.strings_Join_none a cap by_ w)
    clear hj hbd hrow
    go_enter Try.func16, Try.ntmps16
    go_wp2_with fail
    refine C.out.mono ?_
    rintro e w1 ⟨rfl, rfl⟩
    go_wp2_with fail
    go_ret
    exact ⟨rfl, Below.refl _ _⟩
end Go.Proofs.Ytbpmebpnnooidaa
