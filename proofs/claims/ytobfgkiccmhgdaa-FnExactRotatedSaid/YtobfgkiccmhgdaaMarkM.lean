/- The laws' own marks on a table: markMacRowS, heldMacRowS, markMac, heldMac. Nothing here is a claim. -/
import Derived.Test.YtobfgkiccmhgdaaMarkT
import Derived.Test.YtobfgkiccmhgdaaFlatRow
import Derived.Deep.RegionHeld3
namespace Go.Proofs.Ytobfgkiccmhgdaa
open Go.RowKit Go.Lib

/-- n marks from number u on. -/
def marksM (u n : Nat) : List MR := (List.range n).map fun i => ⟨markB (u + 2 * i), (u + 2 * i + 1 : Nat)⟩
theorem marksM_length (u n : Nat) : (marksM u n).length = n := by simp [marksM]
theorem marksM_succ (u n : Nat) : marksM u (n + 1) = marksM u n ++ [⟨markB (u + 2 * n), (u + 2 * n + 1 : Nat)⟩] := by simp [marksM, List.range_succ]
/-- The first k marks, then the old rows. -/
def markedM (u k : Nat) (rs : List MR) : List MR := marksM u k ++ rs.drop k
theorem markedM_zero (u : Nat) (rs : List MR) : markedM u 0 rs = rs := by simp [markedM, marksM]
theorem markedM_all (u : Nat) (rs : List MR) : markedM u rs.length rs = marksM u rs.length := by simp [markedM]
theorem markedM_length (u k : Nat) (rs : List MR) (h : k ≤ rs.length) : (markedM u k rs).length = rs.length := by simp [markedM, marksM_length]; omega
theorem markedM_set (u k : Nat) (rs : List MR) (h : k < rs.length) : (markedM u k rs).set k ⟨markB (u + 2 * k), (u + 2 * k + 1 : Nat)⟩ = markedM u (k + 1) rs := by
  unfold markedM
  rw [List.set_append_right _ _ (by rw [marksM_length]; omega), marksM_length, Nat.sub_self, List.drop_eq_getElem_cons h, List.set_cons_zero, marksM_succ, List.append_assoc]
  rfl

set_option maxHeartbeats 1000000 in
/-- markMacRowS: only the row has turned. -/
theorem markM_any (B g n cap u : Nat) (rs : List MR) (w : World) (hn : rs.length = n) (hown : w.ownsRow B 92 2 (.slice (some ⟨g, 0, none⟩) n cap) n (mrs rs)) (h0 : 0 < u) (h1 : u ≤ 1000000000) (h2 : n ≤ 1048577) :
    Calls Try.prog 62 #[.slice (some ⟨g, 0, none⟩) n cap, .int .i64 u] w fun e w' => e = .returned (.int .i64 (u + 2 * n : Nat)) ∧ w'.ownsRow B 92 2 (.slice (some ⟨g, 0, none⟩) n cap) n (mrs (marksM u n)) ∧ w.grownBy w' (some g) := by
  subst hn
  have O := Lib.hid (show w.ownsRow B 92 2 (.slice (some ⟨g, 0, none⟩) rs.length cap) rs.length (mrs (markedM u 0 rs)) by rw [markedM_zero]; exact hown)
  clear hown
  go_enter Try.func62, Try.ntmps62
  go_wp2_with fail
  go_loopw [1, 5] (fun k i wr => ∃ j : Nat, j ≤ rs.length ∧ i = .int .i64 j ∧ k = .int .i64 (u + 2 * j : Nat) ∧ Hid (wr.ownsRow B 92 2 (.slice (some ⟨g, 0, none⟩) rs.length cap) rs.length (mrs (markedM u j rs))) ∧ Hid (w.grownBy wr (some g)))
    (fun _ i _ => rs.length - (RowKit.intOf i).toNat)
  case atStart => exact ⟨0, Nat.zero_le _, rfl, rfl, O, World.grownBy.refl _ _⟩
  case round =>
    obtain ⟨j, hj, rfl, rfl, hown, hg⟩ := hrel
    by_cases hlt : j < rs.length
    · go_wp2_with fail
      refine (markText_any (u + 2 * j) wr (by omega) (by omega)).mono ?_
      rintro e w1 ⟨rfl, hb1⟩
      have O1 := hown.out.kept (below_any (row := none) hb1) (.inr (by simp [Value.ownBlock]))
      have hl := markedM_length u j rs (by omega)
      have hd0 := (O1.cellAt (j * 2) (by omega)).trans (mrs_s _ j (by omega))
      have hd1 := (O1.cellAt (j * 2 + 1) (by omega)).trans (mrs_v _ j (by omega))
      have hf0 := O1.frozenAt (j * 2)
      have hf1 := O1.frozenAt (j * 2 + 1)
      have S1 := O1.stored (j * 2) (.string (markB (u + 2 * j)))
      have S2 := S1.1.stored (j * 2 + 1) (.int .i64 (u + 2 * j + 1 : Nat))
      rw [mrs_set (markedM u j rs) j (by omega) ⟨markB (u + 2 * j), (u + 2 * j + 1 : Nat)⟩, markedM_set u j rs hlt] at S2
      have O2 := Lib.hid S2.1
      have G2 := Lib.hid (grown_tr (grown_tr (grown_tr hg.out (below_any (row := some g) hb1)) S1.2) S2.2)
      clear S1 S2 O1 hb1 hg hown
      go_wp2_with fail
      go_roundw
      case rel => exact ⟨j + 1, by omega, by go_num, by go_num, O2, G2⟩
      case measure => simp [RowKit.intOf]; omega
    · obtain rfl : j = rs.length := by omega
      rw [markedM_all] at hown
      go_wp2_with fail
      go_ret
      exact ⟨rfl, hown.out, hg.out⟩
theorem markM_nil (u : Nat) (w : World) :
    Calls Try.prog 62 #[.slice none 0 0, .int .i64 u] w fun e w' => e = .returned (.int .i64 u) ∧ w' = w := by
  go_enter Try.func62, Try.ntmps62
  go_wp2_with fail
  go_loop [1, 5] (fun k i => i = .int .i64 0 ∧ k = .int .i64 u) (fun _ _ => 0)
  case atStart => exact ⟨rfl, rfl⟩
  case round =>
    obtain ⟨rfl, rfl⟩ := hrel
    go_wp2_with fail
    go_ret
    exact ⟨rfl, rfl⟩

set_option maxHeartbeats 1000000 in
/-- heldMacRowS, where the marks stand. -/
theorem heldM_any (a : Option Addr) (n cap u : Nat) (w : World) (hrow : Row w w.heap.size a (mrs (marksM u n))) (h0 : 0 < u) (h1 : u ≤ 1000000000) (h2 : n ≤ 1048577) :
    Calls Try.prog 63 #[.slice a n cap, .int .i64 u] w fun e w' => e = .returned (.int .i64 (u + 2 * n : Nat)) ∧ Below w.heap.size w w' := by
  have R := Lib.hid hrow
  clear hrow
  go_enter Try.func63, Try.ntmps63
  go_wp2_with fail
  go_loopw [1, 5] (fun k i wr => ∃ j : Nat, j ≤ n ∧ i = .int .i64 j ∧ k = .int .i64 (u + 2 * j : Nat) ∧ Hid (Below w.heap.size w wr))
    (fun _ i _ => n - (RowKit.intOf i).toNat)
  case atStart => exact ⟨0, Nat.zero_le _, rfl, rfl, Below.refl _ _⟩
  case round =>
    obtain ⟨j, hj, rfl, rfl, hb⟩ := hrel
    by_cases hlt : j < n
    · obtain ⟨b, off, rfl, hbb, hcs⟩ := (R.out.below hb.out).mr (show j < (marksM u n).length by rw [marksM_length]; exact hlt)
      obtain ⟨hc, hv⟩ := hcs j (by rw [marksM_length]; exact hlt)
      have e1 : (marksM u n)[j]'(by rw [marksM_length]; exact hlt) = ⟨markB (u + 2 * j), (u + 2 * j + 1 : Nat)⟩ := by simp [marksM]
      rw [e1] at hc hv
      have hk0 : (0 : Int) ≤ (j : Int) := Int.natCast_nonneg _
      have hk1 : (j : Int) < (n : Int) := by omega
      have hbl : b < wr.heap.size := Nat.lt_of_lt_of_le hbb hb.out.size
      have V := Lib.hid hv
      clear hcs e1 hv
      go_wp2_with fail
      go_region_held3 (fun w' => w'.cell? ⟨b, off + j * 2, none⟩ = some (.string (markB (u + 2 * j))))
        (first | go_keep | (exact (hb1.cell (p := ⟨b, off + j * 2, none⟩) (by simpa using hbl)).trans hc))
        ((go_at_call 88; refine (markText_any (u + 2 * j) _ (by omega) (by omega)).mono ?_; rintro e w1 ⟨rfl, hb1⟩))
      have hv1 := (hb1.cell (p := ⟨b, off + j * 2 + 1, none⟩) (by simpa using hbl)).trans V.out
      have B1 := Lib.hid (hb.out.drew.trans (hb1.mono hb.out.size))
      clear hb1 hb hc
      go_wp2_with fail
      go_roundw
      case rel => exact ⟨j + 1, by omega, by go_num, by go_num, B1⟩
      case measure => simp [RowKit.intOf]; omega
    · obtain rfl : j = n := by omega
      go_wp2_with fail
      go_ret
      exact ⟨rfl, hb.out⟩

theorem heldMac_any (b : Bool) (x y : Int) (a : Option Addr) (n cap u : Nat) (w : World) (hrow : Row w w.heap.size a (mrs (marksM u n))) (h0 : 0 < u) (h1 : u ≤ 1000000000) (h2 : n ≤ 1048577) :
    Calls Try.prog 34 #[.agg #[.bool b, .int .u64 x, .int .u64 y, .slice a n cap], .int .i64 u] w fun e w' => e = .returned (.int .i64 (u + 2 * n : Nat)) ∧ Below w.heap.size w w' := by
  have B1 := Lib.hid (show Below w.heap.size w (w.alloc (.cells #[.bool b, .int .u64 x, .int .u64 y, .slice a n cap] 27)) from (Below.refl _ w).alloc (Nat.le_refl _) _)
  have R := Lib.hid ((hrow.below B1.out).mono B1.out.size)
  clear hrow
  go_enter Try.func34, Try.ntmps34
  go_wp2_with fail
  refine (heldM_any a n cap u _ R.out h0 h1 h2).mono ?_
  rintro e w1 ⟨rfl, hb1⟩
  have B2 := Lib.hid (B1.out.trans (hb1.mono B1.out.size))
  clear hb1 R B1
  go_wp2_with fail
  go_ret
  exact ⟨rfl, B2.out⟩

theorem markMac_nil (b : Bool) (x y : Int) (u : Nat) (w : World) :
    Calls Try.prog 33 #[.agg #[.bool b, .int .u64 x, .int .u64 y, .slice none 0 0], .int .i64 u] w fun e w' => e = .returned (.int .i64 u) ∧ Below w.heap.size w w' := by
  go_enter Try.func33, Try.ntmps33
  go_wp2_with fail
  refine (markM_nil u _).mono ?_
  rintro e w1 ⟨rfl, rfl⟩
  go_wp2_with fail
  go_ret
  exact ⟨rfl, (Below.refl _ _).alloc (Nat.le_refl _) _⟩

theorem markMac_any (b : Bool) (x y : Int) (B g n cap u : Nat) (rs : List MR) (w : World) (hn : rs.length = n) (hown : w.ownsRow B 92 2 (.slice (some ⟨g, 0, none⟩) n cap) n (mrs rs)) (h0 : 0 < u) (h1 : u ≤ 1000000000) (h2 : n ≤ 1048577) :
    Calls Try.prog 33 #[.agg #[.bool b, .int .u64 x, .int .u64 y, .slice (some ⟨g, 0, none⟩) n cap], .int .i64 u] w fun e w' => e = .returned (.int .i64 (u + 2 * n : Nat)) ∧ w'.ownsRow B 92 2 (.slice (some ⟨g, 0, none⟩) n cap) n (mrs (marksM u n)) ∧ w.grownBy w' (some g) := by
  have O := Lib.hid (hown.alloc (.cells #[.bool b, .int .u64 x, .int .u64 y, .slice (some ⟨g, 0, none⟩) n cap] 27))
  clear hown
  go_enter Try.func33, Try.ntmps33
  go_wp2_with fail
  refine (markM_any B g n cap u rs _ hn O.out h0 h1 h2).mono ?_
  rintro e w1 ⟨rfl, hown1, hg1⟩
  have O1 := Lib.hid hown1
  have G1 := Lib.hid (grown_tr (grown_new (World.grownBy.refl w (some g)) (.cells #[.bool b, .int .u64 x, .int .u64 y, .slice (some ⟨g, 0, none⟩) n cap] 27)) hg1)
  clear hown1 hg1
  go_wp2_with fail
  go_ret
  exact ⟨rfl, O1.out, G1.out⟩
end Go.Proofs.Ytobfgkiccmhgdaa
