/- The laws' own szPieceS, toPieceS, eqPieceS, markPieceS, heldPieceS; szReceiver, toReceiver, eqReceiver, markReceiver, heldReceiver. Nothing here is a claim. -/
import Derived.Test.YtajekjjaaohbnaaBase
import Derived.Test.YtajekjjaaohbnaaRcvKit
import Derived.Test.YtajekjjaaohbnaaCurKit
import Derived.Test.YtajekjjaaohbnaaCurA
import Derived.Test.YtajekjjaaohbnaaMarkT
import Derived.Test.YtajekjjaaohbnaaTabMac
import Derived.Test.YtajekjjaaohbnaaOpenM
import Derived.Test.YtajekjjaaohbnaaEntKit
import Derived.Deep.RegionHeld3
namespace Go.Proofs.Ytajekjjaaohbnaa
open Go.RowKit Go.Lib

theorem Try.info100 : (Try.prog.info? 100).map (fun i => (i.zero, i.size, i.bytes)) = some (some (.agg #[.int .i64 0, .string ⟨#[]⟩]), 2, 24) := by kernel_rfl
/-- The bytes of the pieces. -/
def plens (rs : List HP) : Nat := (rs.map fun r => r.t.size).sum
theorem plens_take (rs : List HP) (k : Nat) (h : k < rs.length) : plens (rs.take (k + 1)) = plens (rs.take k) + rs[k].t.size := by
  unfold plens
  rw [List.take_succ_eq_append_getElem h]
  simp only [List.map_append, List.sum_append, List.map_cons, List.map_nil, List.sum_cons, List.sum_nil, Nat.add_zero]
theorem plens_mem (rs : List HP) (r : HP) (h : r ∈ rs) : r.t.size ≤ plens rs := by
  induction rs with
  | nil => cases h
  | cons x xs ih =>
    simp only [plens, List.map_cons, List.sum_cons]
    rcases List.mem_cons.1 h with rfl | h
    · omega
    · have := ih h; unfold plens at this; omega
/-- The first k pieces, then empty ones. -/
def fillP (rs : List HP) (k : Nat) : List HP := rs.take k ++ List.replicate (rs.length - k) ⟨0, ⟨#[]⟩⟩
theorem fillP_length (rs : List HP) (k : Nat) (h : k ≤ rs.length) : (fillP rs k).length = rs.length := by simp [fillP]; omega
theorem fillP_zero (rs : List HP) : fillP rs 0 = List.replicate rs.length ⟨0, ⟨#[]⟩⟩ := by simp [fillP]
theorem fillP_all (rs : List HP) (k : Nat) (h : rs.length ≤ k) : fillP rs k = rs := by simp [fillP, List.take_of_length_le h, Nat.sub_eq_zero_of_le h]
theorem fillP_set (rs : List HP) (k : Nat) (h : k < rs.length) : (fillP rs k).set k rs[k] = fillP rs (k + 1) := by
  unfold fillP
  rw [List.set_append_right _ _ (by simp; omega)]
  have e : k - (rs.take k).length = 0 := by simp; omega
  rw [e, show rs.length - k = (rs.length - (k + 1)) + 1 by omega, List.replicate_succ, List.set_cons_zero, List.take_succ_eq_append_getElem h, List.append_assoc]
  rfl
theorem madeP (n : Nat) : (madeCells (Value.agg #[.int .i64 0, .string ⟨#[]⟩]).cells (n * 2)).toList = hps (List.replicate n ⟨0, ⟨#[]⟩⟩) := flat_made HP.two (by decide) #[.int .i64 0, .string ⟨#[]⟩] ⟨0, ⟨#[]⟩⟩ rfl n

theorem szPiece_any (r : HP) (left : Int) (w : World) (hs : r.t.size ≤ maxLen) (h0 : 0 ≤ left) (h1 : left ≤ 1048576) :
    Calls Try.prog 100 #[.agg #[.int .i64 r.o, .string r.t], .int .i64 left] w fun e w' => e = .returned (.int .i64 (if left - r.t.size < 0 then -1 else left - r.t.size)) ∧ Below w.heap.size w w' := by
  unfold maxLen at hs
  by_cases h : left - r.t.size < 0
  · rw [if_pos h]
    go_enter Try.func100, Try.ntmps100
    go_wp2
    go_ret
    exact ⟨rfl, (Below.refl _ _).alloc (Nat.le_refl _) _⟩
  · rw [if_neg h]
    go_enter Try.func100, Try.ntmps100
    go_wp2
    go_ret
    exact ⟨rfl, (Below.refl _ _).alloc (Nat.le_refl _) _⟩

/-- What szPieceS tells: a result that is not negative bounds the table. -/
def SzP (rs : List HP) (left : Int) (w : World) (e : Ending) (w' : World) : Prop :=
  Below w.heap.size w w' ∧ ∃ r : Int, e = .returned (.int .i64 r) ∧ r ≤ left ∧ (0 ≤ r → r = left - rs.length - plens rs)

set_option maxHeartbeats 800000 in
theorem szPieceS_any (a : Option Addr) (cap : Nat) (rs : List HP) (left : Int) (w : World) (hrow : Row w w.heap.size a (hps rs)) (hl : rs.length ≤ maxLen) (hsz : ∀ r ∈ rs, r.t.size ≤ maxLen) (h0 : 0 ≤ left) (h1 : left ≤ 1048576) :
    Calls Try.prog 92 #[.slice a rs.length cap, .int .i64 left] w (SzP rs left w) := by
  unfold maxLen at hl
  by_cases hn : left - rs.length < 0
  · go_enter Try.func92, Try.ntmps92
    go_wp2_with fail
    go_ret
    exact ⟨Below.refl _ _, -1, rfl, by omega, fun h => by omega⟩
  · go_enter Try.func92, Try.ntmps92
    go_wp2_with fail
    go_loopw [1, 5] (fun l i wr => ∃ k : Nat, k ≤ rs.length ∧ i = .int .i64 k ∧ Below w.heap.size w wr ∧ ∃ q : Int, l = .int .i64 q ∧ 0 ≤ q ∧ q ≤ left ∧ Hid (q = left - rs.length - plens (rs.take k))) (fun _ i _ => rs.length - (RowKit.intOf i).toNat)
    case atStart => exact ⟨0, Nat.zero_le _, rfl, Below.refl _ _, _, rfl, by omega, by omega, by show _ = _; simp [plens]⟩
    case round =>
      obtain ⟨k, hk, rfl, hb, q, rfl, hq0, hq1, hq⟩ := hrel
      by_cases hlt : k < rs.length
      · obtain ⟨b, off, rfl, hbb, hcs⟩ := (hrow.below hb).hp hlt
        obtain ⟨hc0, hc1⟩ := hcs k hlt
        have hs := hsz rs[k] (List.getElem_mem hlt)
        have hls := Lib.hid (plens_take rs k hlt)
        have C := Lib.hid (szPiece_any rs[k] q wr hs hq0 (by omega))
        have HB := Lib.hid hb
        clear hcs hrow hb
        by_cases hz : q - rs[k].t.size < 0
        · rw [if_pos hz] at C
          go_wp2_with fail
          refine C.out.mono ?_
          rintro e w1 ⟨rfl, hb1⟩
          go_wp2_with fail
          go_ret
          exact ⟨HB.out.trans (hb1.mono HB.out.size), -1, rfl, by omega, fun h => by omega⟩
        · rw [if_neg hz] at C
          go_wp2_with fail
          refine C.out.mono ?_
          rintro e w1 ⟨rfl, hb1⟩
          have HB1 := Lib.hid (HB.out.trans (hb1.mono HB.out.size))
          clear hb1
          go_wp2_with fail
          go_roundw
          case rel => exact ⟨k + 1, by omega, by go_num, HB1.out, _, rfl, by omega, by omega, by show _ = _; rw [hls.out, hq.out]; omega⟩
          case measure => simp [RowKit.intOf]; omega
      · go_wp2_with fail
        go_ret
        exact ⟨hb, q, rfl, by omega, fun h => by have := hq.out; rw [List.take_of_length_le (by omega)] at this; omega⟩

theorem toPiece_any (r : HP) (w : World) :
    Calls Try.prog 101 #[.agg #[.int .i64 r.o, .string r.t]] w fun e w' => e = .returned (.agg #[.int .i64 r.o, .string r.t]) ∧ Below w.heap.size w w' := by
  go_enter Try.func101, Try.ntmps101
  go_wp2
  exact bodyPost_ret (v := .agg #[.int .i64 r.o, .string r.t]) (by simp [results, Try.results101, go_sem]) rfl ⟨rfl, (((Below.refl _ _).alloc (Nat.le_refl _) _).alloc (by simp) _).alloc (by simp; omega) _⟩

theorem eqPiece_self (r : HP) (w : World) :
    Calls Try.prog 98 #[.agg #[.int .i64 r.o, .string r.t], .agg #[.int .i64 r.o, .string r.t]] w fun e w' => e = .returned (.bool true) ∧ Below w.heap.size w w' := by
  go_enter Try.func98, Try.ntmps98
  go_wp2
  go_ret
  exact ⟨rfl, ((Below.refl _ _).alloc (Nat.le_refl _) _).alloc (by simp) _⟩

/-- What toPieceS hands back: a new row with the same rows. -/
def ToP (rs : List HP) (w : World) (e : Ending) (w' : World) : Prop :=
  ∃ g, e = .returned (.slice (some ⟨g, 0, none⟩) rs.length rs.length) ∧ w'.ownsRow w.heap.size 100 2 (.slice (some ⟨g, 0, none⟩) rs.length rs.length) rs.length (hps rs) ∧ Below w.heap.size w w'

set_option maxHeartbeats 800000 in
theorem toPieceS_any (a : Option Addr) (cap : Nat) (rs : List HP) (w : World) (hrow : Row w w.heap.size a (hps rs)) (hl : rs.length ≤ 1048576) :
    Calls Try.prog 93 #[.slice a rs.length cap] w (ToP rs w) := by
  obtain ⟨i0, hi, hz0, hz1, hz2⟩ := info_parts Try.info100
  go_enter Try.func93, Try.ntmps93
  go_wp2_with (at_make; refine wpList_make_full _ rfl _ _ 32 rfl w.heap.size 100 i0 (.agg #[.int .i64 0, .string ⟨#[]⟩]) 2 Try.underlying32 hi hz0 hz1 .i64 .i64 _ _ rs.length rfl rfl rfl rfl (by rw [hz2]; omega) (by unfold maxLen; omega) (Nat.le_refl _) ?_; intro w0 hown0 hgrow0)
  have hst := Lib.hid (show w0.ownsRow w.heap.size 100 2 (.slice (some ⟨w.heap.size, 0, none⟩) rs.length rs.length) rs.length (hps (fillP rs 0)) by
    rw [fillP_zero, ← madeP]; exact hown0)
  have hbl := Lib.hid (show Below w.heap.size w w0 from (Below.refl _ _).grown hgrow0 (Nat.le_refl _) (fun _ h => by cases h))
  clear hown0 hgrow0
  go_loopw [4] (fun i wr => ∃ k : Nat, k ≤ rs.length ∧ i = .int .i64 k ∧ Hid (wr.ownsRow w.heap.size 100 2 (.slice (some ⟨w.heap.size, 0, none⟩) rs.length rs.length) rs.length (hps (fillP rs k))) ∧ Hid (Below w.heap.size w wr))
    (fun i _ => rs.length - (RowKit.intOf i).toNat)
  case atStart => exact ⟨0, Nat.zero_le _, rfl, hst, hbl⟩
  case round =>
    obtain ⟨k, hk, rfl, hown, hb⟩ := hrel
    clear hst hbl
    by_cases hlt : k < rs.length
    · obtain ⟨b, off, rfl, hbb, hcs⟩ := (hrow.below hb.out).hp hlt
      obtain ⟨hc0, hc1⟩ := hcs k hlt
      clear hcs hrow
      go_wp2_with fail
      refine (toPiece_any rs[k] _).mono ?_
      rintro e w1 ⟨rfl, hb1⟩
      have O1 := hown.out.kept (below_any (row := none) hb1) (.inr (by simp [Value.ownBlock]))
      have hfl := fillP_length rs k (by omega)
      have hd0 := (O1.cellAt (k * 2) (by omega)).trans (hps_o (fillP rs k) k (by omega))
      have hd1 := (O1.cellAt (k * 2 + 1) (by omega)).trans (hps_t (fillP rs k) k (by omega))
      have hf0 := O1.frozenAt (k * 2)
      have hf1 := O1.frozenAt (k * 2 + 1)
      have S1 := O1.stored (k * 2) (.int .i64 rs[k].o)
      have S2 := S1.1.stored (k * 2 + 1) (.string rs[k].t)
      rw [hps_set _ k (by omega), fillP_set rs k hlt] at S2
      have O2 := Lib.hid S2.1
      have B2 := Lib.hid (((hb.out.trans (hb1.mono hb.out.size)).setCell (p := ⟨w.heap.size, k * 2, none⟩) (Nat.le_refl _) (.int .i64 rs[k].o)).setCell (p := ⟨w.heap.size, k * 2 + 1, none⟩) (Nat.le_refl _) (.string rs[k].t))
      clear S1 S2 O1 hb1 hb hown
      go_wp2_with fail
      go_roundw
      case rel => exact ⟨k + 1, by omega, by go_num, O2, B2⟩
      case measure => simp [RowKit.intOf]; omega
    · have e1 := fillP_all rs k (by omega)
      rw [e1] at hown
      go_wp2_with fail
      go_ret
      exact ⟨w.heap.size, rfl, hown.out, hb.out⟩

set_option maxHeartbeats 800000 in
theorem eqPieceS_self (a b : Option Addr) (c d : Nat) (rs : List HP) (w : World) (ha : Row w w.heap.size a (hps rs)) (hb : Row w w.heap.size b (hps rs)) (hl : rs.length ≤ 1048576) :
    Calls Try.prog 89 #[.slice a rs.length c, .slice b rs.length d] w fun e w' => e = .returned (.bool true) ∧ Below w.heap.size w w' := by
  have A0 := Lib.hid ha
  have B0 := Lib.hid hb
  clear ha hb
  go_enter Try.func89, Try.ntmps89
  go_wp2_with fail
  go_loopw [5] (fun i wr => ∃ k : Nat, k ≤ rs.length ∧ i = .int .i64 k ∧ Hid (Below w.heap.size w wr)) (fun i _ => rs.length - (RowKit.intOf i).toNat)
  case atStart => exact ⟨0, Nat.zero_le _, rfl, Below.refl _ _⟩
  case round =>
    obtain ⟨k, hk, rfl, hb⟩ := hrel
    by_cases hlt : k < rs.length
    · obtain ⟨p, o, rfl, hp, hcs⟩ := (A0.out.below hb.out).hp hlt
      obtain ⟨q, u, rfl, hq, hds⟩ := (B0.out.below hb.out).hp hlt
      obtain ⟨hc0, hc1⟩ := hcs k hlt
      obtain ⟨hd0, hd1⟩ := hds k hlt
      have hk0 : (0 : Int) ≤ (k : Int) := Int.natCast_nonneg _
      have hk1 : (k : Int) < (rs.length : Int) := by omega
      have hp1 : p < wr.heap.size := Nat.lt_of_lt_of_le hp hb.out.size
      have hq1 : q < wr.heap.size := Nat.lt_of_lt_of_le hq hb.out.size
      clear hcs hds
      go_wp2_with fail
      go_region_held3 (fun w' => (w'.cell? ⟨p, o + k * 2, none⟩ = some (.int .i64 rs[k].o) ∧ w'.cell? ⟨p, o + k * 2 + 1, none⟩ = some (.string rs[k].t)) ∧ w'.cell? ⟨q, u + k * 2, none⟩ = some (.int .i64 rs[k].o) ∧ w'.cell? ⟨q, u + k * 2 + 1, none⟩ = some (.string rs[k].t))
        (first | go_keep | (exact ⟨⟨(hb1.cell (p := ⟨p, o + k * 2, none⟩) (by simpa using hp1)).trans hc0, (hb1.cell (p := ⟨p, o + k * 2 + 1, none⟩) (by simpa using hp1)).trans hc1⟩, (hb1.cell (p := ⟨q, u + k * 2, none⟩) (by simpa using hq1)).trans hd0, (hb1.cell (p := ⟨q, u + k * 2 + 1, none⟩) (by simpa using hq1)).trans hd1⟩))
        ((go_at_call 98; refine (eqPiece_self rs[k] _).mono ?_; rintro e w1 ⟨rfl, hb1⟩))
      have B1 := Lib.hid (hb.out.drew.trans (hb1.mono hb.out.size))
      clear hb1 hb hc0 hc1 hd0 hd1
      go_wp2_with fail
      go_roundw
      case rel => exact ⟨k + 1, by omega, by go_num, B1⟩
      case measure => simp [RowKit.intOf]; omega
    · go_wp2_with fail
      go_ret
      exact ⟨rfl, hb.out⟩

/-- n marks from number u on. -/
def marksP (u n : Nat) : List HP := (List.range n).map fun i => ⟨(u + 2 * i : Nat), markB (u + 2 * i + 1)⟩
theorem marksP_length (u n : Nat) : (marksP u n).length = n := by simp [marksP]
theorem marksP_succ (u n : Nat) : marksP u (n + 1) = marksP u n ++ [⟨(u + 2 * n : Nat), markB (u + 2 * n + 1)⟩] := by simp [marksP, List.range_succ]
/-- The first k marks, then the old pieces. -/
def markedP (u k : Nat) (rs : List HP) : List HP := marksP u k ++ rs.drop k
theorem markedP_zero (u : Nat) (rs : List HP) : markedP u 0 rs = rs := by simp [markedP, marksP]
theorem markedP_all (u : Nat) (rs : List HP) : markedP u rs.length rs = marksP u rs.length := by simp [markedP]
theorem markedP_length (u k : Nat) (rs : List HP) (h : k ≤ rs.length) : (markedP u k rs).length = rs.length := by simp [markedP, marksP_length]; omega
theorem markedP_set (u k : Nat) (rs : List HP) (h : k < rs.length) : (markedP u k rs).set k ⟨(u + 2 * k : Nat), markB (u + 2 * k + 1)⟩ = markedP u (k + 1) rs := by
  unfold markedP
  rw [List.set_append_right _ _ (by rw [marksP_length]; omega), marksP_length, Nat.sub_self, List.drop_eq_getElem_cons h, List.set_cons_zero, marksP_succ, List.append_assoc]
  rfl

set_option maxHeartbeats 2000000 in
/-- markPieceS: only the row has turned. -/
theorem markP_any (B g n cap u : Nat) (rs : List HP) (w : World) (hn : rs.length = n) (hown : w.ownsRow B 100 2 (.slice (some ⟨g, 0, none⟩) n cap) n (hps rs)) (h0 : 0 < u) (h1 : u ≤ 1000000000) (h2 : n ≤ 1048577) :
    Calls Try.prog 90 #[.slice (some ⟨g, 0, none⟩) n cap, .int .i64 u] w fun e w' => e = .returned (.int .i64 (u + 2 * n : Nat)) ∧ w'.ownsRow B 100 2 (.slice (some ⟨g, 0, none⟩) n cap) n (hps (marksP u n)) ∧ w.grownBy w' (some g) := by
  subst hn
  have O := Lib.hid (show w.ownsRow B 100 2 (.slice (some ⟨g, 0, none⟩) rs.length cap) rs.length (hps (markedP u 0 rs)) by rw [markedP_zero]; exact hown)
  clear hown
  go_enter Try.func90, Try.ntmps90
  go_wp2_with fail
  go_loopw [1, 5] (fun k i wr => ∃ j : Nat, j ≤ rs.length ∧ i = .int .i64 j ∧ k = .int .i64 (u + 2 * j : Nat) ∧ Hid (wr.ownsRow B 100 2 (.slice (some ⟨g, 0, none⟩) rs.length cap) rs.length (hps (markedP u j rs))) ∧ Hid (w.grownBy wr (some g)))
    (fun _ i _ => rs.length - (RowKit.intOf i).toNat)
  case atStart => exact ⟨0, Nat.zero_le _, rfl, rfl, O, World.grownBy.refl _ _⟩
  case round =>
    obtain ⟨j, hj, rfl, rfl, hown, hg⟩ := hrel
    by_cases hlt : j < rs.length
    · have O1 := hown.out
      have hl := markedP_length u j rs (by omega)
      have hd0 := (O1.cellAt (j * 2) (by omega)).trans (hps_o _ j (by omega))
      have hf0 := O1.frozenAt (j * 2)
      have ec : ((u + 2 * j : Nat) : Int) = (u : Int) + 2 * (j : Int) := by omega
      have S1 := O1.stored (j * 2) (.int .i64 ((u : Int) + 2 * (j : Int)))
      have OS := Lib.hid S1.1
      have GS := Lib.hid S1.2
      clear S1 O1
      go_wp2_with fail
      generalize wr.setCell ⟨g, j * 2, none⟩ (.int .i64 ((u : Int) + 2 * (j : Int))) = v1 at OS GS ⊢
      clear hd0 hf0
      have M := markText_any (u + 2 * j + 1) v1 (by omega) (by omega)
      rw [show ((u + 2 * j + 1 : Nat) : Int) = (u : Int) + 2 * (j : Int) + 1 by omega] at M
      refine M.mono ?_
      rintro e w1 ⟨rfl, hb1⟩
      have O1 := OS.out.kept (below_any (row := none) hb1) (.inr (by simp [Value.ownBlock]))
      have hll : ((hps (markedP u j rs)).set (j * 2) (.int .i64 ((u : Int) + 2 * (j : Int)))).length = rs.length * 2 := by rw [List.length_set, hps_length, hl]
      have hd1 := (O1.cellAt (j * 2 + 1) (by omega)).trans ((List.getElem?_set_ne (by omega)).trans (hps_t _ j (by omega)))
      have hf1 := O1.frozenAt (j * 2 + 1)
      have S2 := O1.stored (j * 2 + 1) (.string (markB (u + 2 * j + 1)))
      rw [← ec, hps_set (markedP u j rs) j (by omega) ⟨(u + 2 * j : Nat), markB (u + 2 * j + 1)⟩, markedP_set u j rs hlt] at S2
      have O2 := Lib.hid S2.1
      have G2 := Lib.hid (grown_tr (grown_tr (grown_tr hg.out GS.out) (below_any (row := some g) hb1)) S2.2)
      clear S2 O1 hb1 hg hown OS GS hll ec M
      go_wp2_with fail
      go_roundw
      case rel => exact ⟨j + 1, by omega, by go_num, by go_num, O2, G2⟩
      case measure => simp [RowKit.intOf]; omega
    · obtain rfl : j = rs.length := by omega
      rw [markedP_all] at hown
      go_wp2_with fail
      go_ret
      exact ⟨rfl, hown.out, hg.out⟩
theorem markP_nil (a : Option Addr) (cap u : Nat) (w : World) :
    Calls Try.prog 90 #[.slice a 0 cap, .int .i64 u] w fun e w' => e = .returned (.int .i64 u) ∧ w' = w := by
  go_enter Try.func90, Try.ntmps90
  go_wp2_with fail
  go_loop [1, 5] (fun k i => i = .int .i64 0 ∧ k = .int .i64 u) (fun _ _ => 0)
  case atStart => exact ⟨rfl, rfl⟩
  case round =>
    obtain ⟨rfl, rfl⟩ := hrel
    go_wp2_with fail
    go_ret
    exact ⟨rfl, rfl⟩

set_option maxHeartbeats 2000000 in
/-- heldPieceS, where the marks stand. -/
theorem heldP_any (a : Option Addr) (n cap u : Nat) (w : World) (hrow : Row w w.heap.size a (hps (marksP u n))) (h0 : 0 < u) (h1 : u ≤ 1000000000) (h2 : n ≤ 1048577) :
    Calls Try.prog 91 #[.slice a n cap, .int .i64 u] w fun e w' => e = .returned (.int .i64 (u + 2 * n : Nat)) ∧ Below w.heap.size w w' := by
  have R := Lib.hid hrow
  clear hrow
  go_enter Try.func91, Try.ntmps91
  go_wp2_with fail
  go_loopw [1, 5] (fun k i wr => ∃ j : Nat, j ≤ n ∧ i = .int .i64 j ∧ k = .int .i64 (u + 2 * j : Nat) ∧ Hid (Below w.heap.size w wr))
    (fun _ i _ => n - (RowKit.intOf i).toNat)
  case atStart => exact ⟨0, Nat.zero_le _, rfl, rfl, Below.refl _ _⟩
  case round =>
    obtain ⟨j, hj, rfl, rfl, hb⟩ := hrel
    by_cases hlt : j < n
    · obtain ⟨b, off, rfl, hbb, hcs⟩ := (R.out.below hb.out).hp (show j < (marksP u n).length by rw [marksP_length]; exact hlt)
      obtain ⟨hv, hc⟩ := hcs j (by rw [marksP_length]; exact hlt)
      have e1 : (marksP u n)[j]'(by rw [marksP_length]; exact hlt) = ⟨(u + 2 * j : Nat), markB (u + 2 * j + 1)⟩ := by simp [marksP]
      rw [e1] at hc hv
      have hk0 : (0 : Int) ≤ (j : Int) := Int.natCast_nonneg _
      have hk1 : (j : Int) < (n : Int) := by omega
      have hbl : b < wr.heap.size := Nat.lt_of_lt_of_le hbb hb.out.size
      clear hcs e1
      go_wp2_with fail
      go_region_held3 (fun w' => w'.cell? ⟨b, off + j * 2 + 1, none⟩ = some (.string (markB (u + 2 * j + 1))))
        (first | go_keep | (exact (hb1.cell (p := ⟨b, off + j * 2 + 1, none⟩) (by simpa using hbl)).trans hc))
        ((go_at_call 99; refine (markText_any (u + 2 * j + 1) _ (by omega) (by omega)).mono ?_; rintro e w1 ⟨rfl, hb1⟩))
      have B1 := Lib.hid (hb.out.drew.trans (hb1.mono hb.out.size))
      clear hb1 hb hc hv
      go_wp2_with fail
      go_roundw
      case rel => exact ⟨j + 1, by omega, by go_num, by go_num, B1⟩
      case measure => simp [RowKit.intOf]; omega
    · obtain rfl : j = n := by omega
      go_wp2_with fail
      go_ret
      exact ⟨rfl, hb.out⟩
end Go.Proofs.Ytajekjjaaohbnaa
