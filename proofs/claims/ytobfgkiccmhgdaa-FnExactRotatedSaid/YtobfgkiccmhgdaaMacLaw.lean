/- The laws' own szMacRow, szMacRowS, toMacRow, toMacRowS, eqMacRow, eqMacRowS. Nothing here is a claim. -/
import Derived.Test.YtobfgkiccmhgdaaBase
import Derived.Test.YtobfgkiccmhgdaaInfoM
import Derived.Test.YtobfgkiccmhgdaaFlatRow
import Derived.Test.YtobfgkiccmhgdaaCurKit
import Derived.Deep.RegionHeld3
namespace Go.Proofs.Ytobfgkiccmhgdaa
open Go.RowKit Go.Lib

theorem szMacRow_any (r : MR) (left : Int) (w : World) (hs : r.s.size ≤ maxLen) (h0 : 0 ≤ left) (h1 : left ≤ 1048576) :
    Calls Try.prog 89 #[.agg #[.string r.s, .int .i64 r.v], .int .i64 left] w fun e w' => e = .returned (.int .i64 (if left - r.s.size < 0 then -1 else left - r.s.size)) ∧ Below w.heap.size w w' := by
  unfold maxLen at hs
  by_cases h : left - r.s.size < 0
  · rw [if_pos h]
    go_enter Try.func89, Try.ntmps89
    go_wp2
    go_ret
    exact ⟨rfl, (Below.refl _ _).alloc (Nat.le_refl _) _⟩
  · rw [if_neg h]
    go_enter Try.func89, Try.ntmps89
    go_wp2
    go_ret
    exact ⟨rfl, (Below.refl _ _).alloc (Nat.le_refl _) _⟩

/-- What szMacRowS tells: a result that is not negative bounds the table. -/
def SzM (rs : List MR) (left : Int) (w : World) (e : Ending) (w' : World) : Prop :=
  Below w.heap.size w w' ∧ ∃ r : Int, e = .returned (.int .i64 r) ∧ r ≤ left ∧ (0 ≤ r → r = left - rs.length - mlens rs)

set_option maxHeartbeats 800000 in
theorem szMacRowS_any (a : Option Addr) (cap : Nat) (rs : List MR) (left : Int) (w : World) (hrow : Row w w.heap.size a (mrs rs)) (hl : rs.length ≤ maxLen) (hsz : ∀ r ∈ rs, r.s.size ≤ maxLen) (h0 : 0 ≤ left) (h1 : left ≤ 1048576) :
    Calls Try.prog 64 #[.slice a rs.length cap, .int .i64 left] w (SzM rs left w) := by
  unfold maxLen at hl
  by_cases hn : left - rs.length < 0
  · go_enter Try.func64, Try.ntmps64
    go_wp2_with fail
    go_ret
    exact ⟨Below.refl _ _, -1, rfl, by omega, fun h => by omega⟩
  · go_enter Try.func64, Try.ntmps64
    go_wp2_with fail
    go_loopw [1, 5] (fun l i wr => ∃ k : Nat, k ≤ rs.length ∧ i = .int .i64 k ∧ Below w.heap.size w wr ∧ ∃ q : Int, l = .int .i64 q ∧ 0 ≤ q ∧ q ≤ left ∧ Hid (q = left - rs.length - mlens (rs.take k))) (fun _ i _ => rs.length - (RowKit.intOf i).toNat)
    case atStart => exact ⟨0, Nat.zero_le _, rfl, Below.refl _ _, _, rfl, by omega, by omega, by show _ = _; simp [mlens]⟩
    case round =>
      obtain ⟨k, hk, rfl, hb, q, rfl, hq0, hq1, hq⟩ := hrel
      by_cases hlt : k < rs.length
      · obtain ⟨b, off, rfl, hbb, hcs⟩ := (hrow.below hb).mr hlt
        obtain ⟨hc0, hc1⟩ := hcs k hlt
        have hs := hsz rs[k] (List.getElem_mem hlt)
        have hls := Lib.hid (mlens_take rs k hlt)
        have C := Lib.hid (szMacRow_any rs[k] q wr hs hq0 (by omega))
        have HB := Lib.hid hb
        clear hcs hrow hb
        by_cases hz : q - rs[k].s.size < 0
        · rw [if_pos hz] at C
          go_wp2_with fail
          refine C.out.mono ?_
          rintro e w1 ⟨rfl, hb1⟩
          go_wp2_with fail
          go_ret
          exact ⟨HB.out.trans (hb1.mono HB.out.size), -1, rfl, by omega, fun h => by omega⟩
        · rw [if_neg hz] at C
          go_wp2_with fail
          refine C.out.mono ?_
          rintro e w1 ⟨rfl, hb1⟩
          have HB1 := Lib.hid (HB.out.trans (hb1.mono HB.out.size))
          clear hb1
          go_wp2_with fail
          go_roundw
          case rel => exact ⟨k + 1, by omega, by go_num, HB1.out, _, rfl, by omega, by omega, by show _ = _; rw [hls.out, hq.out]; omega⟩
          case measure => simp [RowKit.intOf]; omega
      · go_wp2_with fail
        go_ret
        exact ⟨hb, q, rfl, by omega, fun h => by have := hq.out; rw [List.take_of_length_le (by omega)] at this; omega⟩

theorem toMacRow_any (r : MR) (w : World) :
    Calls Try.prog 92 #[.agg #[.string r.s, .int .i64 r.v]] w fun e w' => e = .returned (.agg #[.string r.s, .int .i64 r.v]) ∧ Below w.heap.size w w' := by
  go_enter Try.func92, Try.ntmps92
  go_wp2
  exact bodyPost_ret (v := .agg #[.string r.s, .int .i64 r.v]) (by simp [results, Try.results92, go_sem]) rfl ⟨rfl, (((Below.refl _ _).alloc (Nat.le_refl _) _).alloc (by simp) _).alloc (by simp; omega) _⟩

theorem eqMacRow_self (r : MR) (w : World) :
    Calls Try.prog 87 #[.agg #[.string r.s, .int .i64 r.v], .agg #[.string r.s, .int .i64 r.v]] w fun e w' => e = .returned (.bool true) ∧ Below w.heap.size w w' := by
  go_enter Try.func87, Try.ntmps87
  go_wp2
  go_ret
  exact ⟨rfl, ((Below.refl _ _).alloc (Nat.le_refl _) _).alloc (by simp) _⟩

/-- What toMacRowS hands back: a new row with the same rows. -/
def ToM (rs : List MR) (w : World) (e : Ending) (w' : World) : Prop :=
  ∃ g, e = .returned (.slice (some ⟨g, 0, none⟩) rs.length rs.length) ∧ w'.ownsRow w.heap.size 92 2 (.slice (some ⟨g, 0, none⟩) rs.length rs.length) rs.length (mrs rs) ∧ Below w.heap.size w w'

set_option maxHeartbeats 800000 in
theorem toMacRowS_any (a : Option Addr) (cap : Nat) (rs : List MR) (w : World) (hrow : Row w w.heap.size a (mrs rs)) (hl : rs.length ≤ 1048576) :
    Calls Try.prog 67 #[.slice a rs.length cap] w (ToM rs w) := by
  obtain ⟨i0, hi, hz0, hz1, hz2⟩ := info_parts Try.info92
  go_enter Try.func67, Try.ntmps67
  go_wp2_with (at_make; refine wpList_make_full _ rfl _ _ 25 rfl w.heap.size 92 i0 (.agg #[.string ⟨#[]⟩, .int .i64 0]) 2 Try.underlying25 hi hz0 hz1 .i64 .i64 _ _ rs.length rfl rfl rfl rfl (by rw [hz2]; omega) (by unfold maxLen; omega) (Nat.le_refl _) ?_; intro w0 hown0 hgrow0)
  have hst := Lib.hid (show w0.ownsRow w.heap.size 92 2 (.slice (some ⟨w.heap.size, 0, none⟩) rs.length rs.length) rs.length (mrs (fillM rs 0)) by
    rw [fillM_zero, ← madeM]; exact hown0)
  have hbl := Lib.hid (show Below w.heap.size w w0 from (Below.refl _ _).grown hgrow0 (Nat.le_refl _) (fun _ h => by cases h))
  clear hown0 hgrow0
  go_loopw [4] (fun i wr => ∃ k : Nat, k ≤ rs.length ∧ i = .int .i64 k ∧ Hid (wr.ownsRow w.heap.size 92 2 (.slice (some ⟨w.heap.size, 0, none⟩) rs.length rs.length) rs.length (mrs (fillM rs k))) ∧ Hid (Below w.heap.size w wr))
    (fun i _ => rs.length - (RowKit.intOf i).toNat)
  case atStart => exact ⟨0, Nat.zero_le _, rfl, hst, hbl⟩
  case round =>
    obtain ⟨k, hk, rfl, hown, hb⟩ := hrel
    clear hst hbl
    by_cases hlt : k < rs.length
    · obtain ⟨b, off, rfl, hbb, hcs⟩ := (hrow.below hb.out).mr hlt
      obtain ⟨hc0, hc1⟩ := hcs k hlt
      clear hcs hrow
      go_wp2_with fail
      refine (toMacRow_any rs[k] _).mono ?_
      rintro e w1 ⟨rfl, hb1⟩
      have O1 := hown.out.kept (below_any (row := none) hb1) (.inr (by simp [Value.ownBlock]))
      have hfl := fillM_length rs k (by omega)
      have hd0 := (O1.cellAt (k * 2) (by omega)).trans (mrs_s (fillM rs k) k (by omega))
      have hd1 := (O1.cellAt (k * 2 + 1) (by omega)).trans (mrs_v (fillM rs k) k (by omega))
      have hf0 := O1.frozenAt (k * 2)
      have hf1 := O1.frozenAt (k * 2 + 1)
      have S1 := O1.stored (k * 2) (.string rs[k].s)
      have S2 := S1.1.stored (k * 2 + 1) (.int .i64 rs[k].v)
      rw [mrs_set _ k (by omega), fillM_set rs k hlt] at S2
      have O2 := Lib.hid S2.1
      have B2 := Lib.hid (((hb.out.trans (hb1.mono hb.out.size)).setCell (p := ⟨w.heap.size, k * 2, none⟩) (Nat.le_refl _) (.string rs[k].s)).setCell (p := ⟨w.heap.size, k * 2 + 1, none⟩) (Nat.le_refl _) (.int .i64 rs[k].v))
      clear S1 S2 O1 hb1 hb hown
      go_wp2_with fail
      go_roundw
      case rel => exact ⟨k + 1, by omega, by go_num, O2, B2⟩
      case measure => simp [RowKit.intOf]; omega
    · have e1 := fillM_all rs k (by omega)
      rw [e1] at hown
      go_wp2_with fail
      go_ret
      exact ⟨w.heap.size, rfl, hown.out, hb.out⟩

set_option maxHeartbeats 800000 in
theorem eqMacRowS_self (a b : Option Addr) (c d : Nat) (rs : List MR) (w : World) (ha : Row w w.heap.size a (mrs rs)) (hb : Row w w.heap.size b (mrs rs)) (hl : rs.length ≤ 1048576) :
    Calls Try.prog 61 #[.slice a rs.length c, .slice b rs.length d] w fun e w' => e = .returned (.bool true) ∧ Below w.heap.size w w' := by
  have A0 := Lib.hid ha
  have B0 := Lib.hid hb
  clear ha hb
  go_enter Try.func61, Try.ntmps61
  go_wp2_with fail
  go_loopw [5] (fun i wr => ∃ k : Nat, k ≤ rs.length ∧ i = .int .i64 k ∧ Hid (Below w.heap.size w wr)) (fun i _ => rs.length - (RowKit.intOf i).toNat)
  case atStart => exact ⟨0, Nat.zero_le _, rfl, Below.refl _ _⟩
  case round =>
    obtain ⟨k, hk, rfl, hb⟩ := hrel
    by_cases hlt : k < rs.length
    · obtain ⟨p, o, rfl, hp, hcs⟩ := (A0.out.below hb.out).mr hlt
      obtain ⟨q, u, rfl, hq, hds⟩ := (B0.out.below hb.out).mr hlt
      obtain ⟨hc0, hc1⟩ := hcs k hlt
      obtain ⟨hd0, hd1⟩ := hds k hlt
      have hk0 : (0 : Int) ≤ (k : Int) := Int.natCast_nonneg _
      have hk1 : (k : Int) < (rs.length : Int) := by omega
      have hp1 : p < wr.heap.size := Nat.lt_of_lt_of_le hp hb.out.size
      have hq1 : q < wr.heap.size := Nat.lt_of_lt_of_le hq hb.out.size
      clear hcs hds
      go_wp2_with fail
      go_region_held3 (fun w' => (w'.cell? ⟨p, o + k * 2, none⟩ = some (.string rs[k].s) ∧ w'.cell? ⟨p, o + k * 2 + 1, none⟩ = some (.int .i64 rs[k].v)) ∧ w'.cell? ⟨q, u + k * 2, none⟩ = some (.string rs[k].s) ∧ w'.cell? ⟨q, u + k * 2 + 1, none⟩ = some (.int .i64 rs[k].v))
        (first | go_keep | (exact ⟨⟨(hb1.cell (p := ⟨p, o + k * 2, none⟩) (by simpa using hp1)).trans hc0, (hb1.cell (p := ⟨p, o + k * 2 + 1, none⟩) (by simpa using hp1)).trans hc1⟩, (hb1.cell (p := ⟨q, u + k * 2, none⟩) (by simpa using hq1)).trans hd0, (hb1.cell (p := ⟨q, u + k * 2 + 1, none⟩) (by simpa using hq1)).trans hd1⟩))
        ((go_at_call 87; refine (eqMacRow_self rs[k] _).mono ?_; rintro e w1 ⟨rfl, hb1⟩))
      have B1 := Lib.hid (hb.out.drew.trans (hb1.mono hb.out.size))
      clear hb1 hb hc0 hc1 hd0 hd1
      go_wp2_with fail
      go_roundw
      case rel => exact ⟨k + 1, by omega, by go_num, B1⟩
      case measure => simp [RowKit.intOf]; omega
    · go_wp2_with fail
      go_ret
      exact ⟨rfl, hb.out⟩
end Go.Proofs.Ytobfgkiccmhgdaa
