/- The laws' own marks on a []string: markText, markStringS, heldStringS. -/
import Derived.Test.YtbpmebpnnooidaaDoorBase
import Derived.Test.YtbpmebpnnooidaaDoorNumKit
import Derived.Test.YtbpmebpnnooidaaDoorCurKit
import Derived.Deep.RegionHeld3
namespace Go.Proofs.YtbpmebpnnooidaaDoor
open Go.RowKit Go.Lib

/-- The mark of number u. -/
def markB (u : Nat) : ByteArray := ⟨#[109]⟩ ++ ⟨(decDigits u).toArray⟩

set_option maxHeartbeats 400000 in
theorem markText_any (u : Nat) (w : World) (h0 : 0 < u) (h1 : u ≤ 4000000000) :
    Calls Tryd.prog 37 #[.int .i64 u] w fun e w' => e = .returned (.string (markB u)) ∧ Below w.heap.size w w' := by
  have hu : Hid (u ≠ 0) := by show u ≠ 0; omega
  go_enter Tryd.func37, Tryd.ntmps37
  go_wp2_with fail
  go_loopw [0, 3] (fun n out wr => ∃ (v : Nat) (t : ByteArray), t.size + v ≤ u ∧ n = .int .i64 v ∧ out = .string t ∧ Rest u v t ∧ Below w.heap.size w wr)
    (fun n _ _ => (RowKit.intOf n).toNat)
  case atStart => exact ⟨u, ⟨#[]⟩, by simp [ByteArray.size], rfl, rfl, Rest.start hu.out, Below.refl _ _⟩
  case round =>
    obtain ⟨v, t, hv, rfl, rfl, hr, hb⟩ := hrel
    have hts : ¬ 9223372036854775807 < 1 + t.size := by omega
    by_cases hz : v = 0
    · subst hz
      go_wp2_with fail
      go_ret
      exact ⟨ret_str (by rw [hr.last]; rfl), hb⟩
    · have hpos : 0 < v := by omega
      have hcv := run_string_lit1 (P := Tryd.prog) wr 22 9 5 (digB v) (48 + (v : Int) % 10) (digB_nat v) Tryd.underlying22 Tryd.underlying5 Tryd.underlying9
      go_wp2_with fail
      go_roundw
      case rel => exact ⟨v / 10, _, by rw [ByteArray.size_append]; show 1 + t.size + v / 10 ≤ u; omega, rfl, rfl, hr.next hz, hb.alloc hb.size _⟩
      case measure => simp [RowKit.intOf]; omega

/-- n marks from number u on. -/
def marks (u n : Nat) : List ByteArray := (List.range n).map fun i => markB (u + i)
theorem marks_length (u n : Nat) : (marks u n).length = n := by simp [marks]
theorem marks_at (u n j : Nat) (h : j < n) : (marks u n)[j]? = some (markB (u + j)) := by simp [marks, h]
theorem marks_succ (u n : Nat) : marks u (n + 1) = marks u n ++ [markB (u + n)] := by simp [marks, List.range_succ]
/-- The first k marks, then the old strings. -/
def marked (u k : Nat) (ss : List ByteArray) : List Value := strVals (marks u k) ++ strVals (ss.drop k)
theorem marked_zero (u : Nat) (ss : List ByteArray) : marked u 0 ss = strVals ss := by simp [marked, marks, strVals]
theorem marked_all (u : Nat) (ss : List ByteArray) (k : Nat) (h : k = ss.length) : marked u k ss = strVals (marks u ss.length) := by
  subst h; simp [marked, strVals]
theorem marked_at (u k : Nat) (ss : List ByteArray) (h : k < ss.length) : (marked u k ss)[k]? = some (.string ss[k]) := by
  unfold marked
  have hl : (strVals (marks u k)).length = k := by simp [strVals, marks]
  rw [List.getElem?_append_right (by omega), hl, Nat.sub_self]
  simp [strVals, h]
theorem marked_set (u k : Nat) (ss : List ByteArray) (h : k < ss.length) : (marked u k ss).set k (.string (markB (u + k))) = marked u (k + 1) ss := by
  unfold marked
  have hl : (strVals (marks u k)).length = k := by simp [strVals, marks]
  have hd : strVals (ss.drop k) = .string ss[k] :: strVals (ss.drop (k + 1)) := by
    rw [List.drop_eq_getElem_cons h]; rfl
  rw [List.set_append_right _ _ (by omega), hl, Nat.sub_self, hd, List.set_cons_zero, marks_succ]
  simp [strVals]

set_option maxHeartbeats 1000000 in
/-- markStringS: only the row has turned. -/
theorem markStr (B g n cap u : Nat) (ss : List ByteArray) (w : World) (hn : ss.length = n) (hown : w.ownsRow B 9 1 (.slice (some ⟨g, 0, none⟩) n cap) n (strVals ss)) (h0 : 0 < u) (h1 : u ≤ 1000000000) (h2 : n ≤ 1048577) :
    Calls Tryd.prog 22 #[.slice (some ⟨g, 0, none⟩) n cap, .int .i64 u] w fun e w' => e = .returned (.int .i64 (u + n : Nat)) ∧ w'.ownsRow B 9 1 (.slice (some ⟨g, 0, none⟩) n cap) n (strVals (marks u n)) ∧ w.grownBy w' (some g) := by
  subst hn
  rw [← marked_zero u ss] at hown
  have O := Lib.hid hown
  clear hown
  go_enter Tryd.func22, Tryd.ntmps22
  go_wp2_with fail
  go_loopw [1, 5] (fun k i wr => ∃ j : Nat, j ≤ ss.length ∧ i = .int .i64 j ∧ k = .int .i64 (u + j : Nat) ∧ wr.ownsRow B 9 1 (.slice (some ⟨g, 0, none⟩) ss.length cap) ss.length (marked u j ss) ∧ w.grownBy wr (some g))
    (fun _ i _ => ss.length - (RowKit.intOf i).toNat)
  case atStart => exact ⟨0, Nat.zero_le _, rfl, rfl, O.out, World.grownBy.refl _ _⟩
  case round =>
    obtain ⟨j, hj, rfl, rfl, hown, hg⟩ := hrel
    by_cases hlt : j < ss.length
    · have C := Lib.hid (markText_any (u + j) wr (by omega) (by omega))
      have O1 := Lib.hid hown
      have G1 := Lib.hid hg
      clear hown hg
      go_wp2_with fail
      refine C.out.mono ?_
      rintro e w1 ⟨rfl, hb1⟩
      have hg1 : wr.grownBy w1 none := below_any hb1
      have hown1 := O1.out.kept hg1 (.inr (by simp [Value.ownBlock]))
      have hcell : w1.cell? ⟨g, j, none⟩ = some (.string ss[j]) := (hown1.cellAt j (by omega)).trans (marked_at u j ss hlt)
      have hf := hown1.frozenAt j
      have hst := hown1.stored j (.string (markB (u + j)))
      rw [marked_set u j ss hlt] at hst
      have O2 := Lib.hid hst.1
      have G2 := Lib.hid (grown_tr (grown_tr G1.out (below_any (row := some g) hb1)) hst.2)
      clear hb1 hg1 hown1 hst
      go_wp2_with fail
      go_roundw
      case rel => exact ⟨j + 1, by omega, by go_num, by go_num, O2.out, G2.out⟩
      case measure => simp [RowKit.intOf]; omega
    · obtain rfl : j = ss.length := by omega
      rw [marked_all u ss _ rfl] at hown
      have O1 := Lib.hid hown
      clear hown
      go_wp2_with fail
      go_ret
      exact ⟨rfl, O1.out, hg⟩

set_option maxHeartbeats 1000000 in
/-- heldStringS, where the marks stand. -/
theorem heldStr (a : Option Addr) (n cap u : Nat) (w : World) (hrow : Row w w.heap.size a (strVals (marks u n))) (h0 : 0 < u) (h1 : u ≤ 1000000000) (h2 : n ≤ 1048577) :
    Calls Tryd.prog 23 #[.slice a n cap, .int .i64 u] w fun e w' => e = .returned (.int .i64 (u + n : Nat)) ∧ Below w.heap.size w w' := by
  have R := Lib.hid hrow
  clear hrow
  go_enter Tryd.func23, Tryd.ntmps23
  go_wp2_with fail
  go_loopw [1, 5] (fun k i wr => ∃ j : Nat, j ≤ n ∧ i = .int .i64 j ∧ k = .int .i64 (u + j : Nat) ∧ Below w.heap.size w wr)
    (fun _ i _ => n - (RowKit.intOf i).toNat)
  case atStart => exact ⟨0, Nat.zero_le _, rfl, rfl, Below.refl _ _⟩
  case round =>
    obtain ⟨j, hj, rfl, rfl, hb⟩ := hrel
    by_cases hlt : j < n
    · obtain ⟨b, off, rfl, hbb, hcs⟩ := (R.out.below hb).str (show j < (marks u n).length by rw [marks_length]; exact hlt)
      have hc : wr.cell? ⟨b, off + j, none⟩ = some (.string (markB (u + j))) := by
        rw [hcs j (by rw [marks_length]; exact hlt)]; simp [marks]
      have hk0 : (0 : Int) ≤ (j : Int) := Int.natCast_nonneg _
      have hk1 : (j : Int) < (n : Int) := by omega
      have hbl : b < wr.heap.size := Nat.lt_of_lt_of_le hbb hb.size
      have HB := Lib.hid hb
      clear hcs hb
      go_wp2_with fail
      go_region_held3 (fun w' => w'.cell? ⟨b, off + j, none⟩ = some (.string (markB (u + j))))
        (first | go_keep | (exact (hb1.cell (p := ⟨b, off + j, none⟩) (by simpa using hbl)).trans hc))
        ((go_at_call 37; refine (markText_any (u + j) _ (by omega) (by omega)).mono ?_; rintro e w1 ⟨rfl, hb1⟩))
      have B1 := Lib.hid (HB.out.drew.trans (hb1.mono HB.out.size))
      clear hb1 HB hc
      go_wp2_with fail
      go_roundw
      case rel => exact ⟨j + 1, by omega, by go_num, by go_num, B1.out⟩
      case measure => simp [RowKit.intOf]; omega
    · obtain rfl : j = n := by omega
      go_wp2_with fail
      go_ret
      exact ⟨rfl, hb⟩
end Go.Proofs.YtbpmebpnnooidaaDoor
