/- The laws' own szEntryS, toEntry, toEntryS, eqEntry, eqEntryS, sameEntries, markEntryS, heldEntryS. Nothing here is a claim. -/
import Derived.Test.YtkkimgjcefojdaaEntG
import Derived.Test.YtkkimgjcefojdaaBase
import Derived.Test.YtkkimgjcefojdaaEntKit
import Derived.Test.YtkkimgjcefojdaaCurKit
import Derived.Deep.RegionHeld3
import Derived.Laws.StructEq
namespace Go.Proofs.Ytkkimgjcefojdaa
open Go.RowKit Go.Lib

theorem szEntryS_any (a : Option Addr) (n cap : Nat) (w : World) (hl : n ≤ maxLen) :
    Calls Try.prog 15 #[.slice a n cap, .int .i64 1048576] w fun e w' => e = .returned (.int .i64 (if n ≤ 1048576 then 1048576 - (n : Int) else -1)) ∧ w' = w := by
  unfold maxLen at hl
  by_cases h : n ≤ 1048576
  · rw [if_pos h]
    go_enter Try.func15, Try.ntmps15
    go_wp2_with fail
    go_ret
    exact ⟨rfl, rfl⟩
  · rw [if_neg h]
    go_enter Try.func15, Try.ntmps15
    go_wp2_with fail
    go_ret
    exact ⟨rfl, rfl⟩
theorem toEntry_any (r : ER) (w : World) :
    Calls Try.prog 31 #[.agg #[.int .i64 r.ip, .int .i64 r.hw, .int .i64 r.age]] w fun e w' => e = .returned (.agg #[.int .i64 r.ip, .int .i64 r.hw, .int .i64 r.age]) ∧ Below w.heap.size w w' := by
  go_enter Try.func31, Try.ntmps31
  go_wp2
  exact bodyPost_ret (v := .agg #[.int .i64 r.ip, .int .i64 r.hw, .int .i64 r.age]) (by simp [results, Try.results31, go_sem]) rfl ⟨rfl, (((Below.refl _ _).alloc (Nat.le_refl _) _).alloc (by simp) _).alloc (by simp; omega) _⟩
theorem eqEntry_self (r : ER) (w : World) :
    Calls Try.prog 34 #[.agg #[.int .i64 r.ip, .int .i64 r.hw, .int .i64 r.age], .agg #[.int .i64 r.ip, .int .i64 r.hw, .int .i64 r.age]] w fun e w' => e = .returned (.bool true) ∧ Below w.heap.size w w' := by
  go_enter Try.func34, Try.ntmps34
  go_wp2
  go_ret
  exact ⟨rfl, ((Below.refl _ _).alloc (Nat.le_refl _) _).alloc (by simp) _⟩

/-- The first k entries, then empty ones. -/
def fillE (rs : List ER) (k : Nat) : List ER := rs.take k ++ List.replicate (rs.length - k) ⟨0, 0, 0⟩
theorem fillE_length (rs : List ER) (k : Nat) (h : k ≤ rs.length) : (fillE rs k).length = rs.length := by simp [fillE]; omega
theorem fillE_zero (rs : List ER) : fillE rs 0 = List.replicate rs.length ⟨0, 0, 0⟩ := by simp [fillE]
theorem fillE_all (rs : List ER) (k : Nat) (h : rs.length ≤ k) : fillE rs k = rs := by simp [fillE, List.take_of_length_le h, Nat.sub_eq_zero_of_le h]
theorem fillE_set (rs : List ER) (k : Nat) (h : k < rs.length) : (fillE rs k).set k rs[k] = fillE rs (k + 1) := by
  unfold fillE
  rw [List.set_append_right _ _ (by simp; omega)]
  have e : k - (rs.take k).length = 0 := by simp; omega
  rw [e, show rs.length - k = (rs.length - (k + 1)) + 1 by omega, List.replicate_succ, List.set_cons_zero, List.take_succ_eq_append_getElem h, List.append_assoc]
  rfl
theorem madeE (n : Nat) : (madeCells (Value.agg #[.int .i64 0, .int .i64 0, .int .i64 0]).cells (n * 3)).toList = ers (List.replicate n ⟨0, 0, 0⟩) := flat_made ER.three (by decide) #[.int .i64 0, .int .i64 0, .int .i64 0] ⟨0, 0, 0⟩ rfl n

/-- What toEntryS hands back: a new row with the same entries. -/
def ToE (rs : List ER) (w : World) (e : Ending) (w' : World) : Prop :=
  ∃ g, e = .returned (.slice (some ⟨g, 0, none⟩) rs.length rs.length) ∧ w'.ownsRow w.heap.size 51 3 (.slice (some ⟨g, 0, none⟩) rs.length rs.length) rs.length (ers rs) ∧ Below w.heap.size w w'

set_option maxHeartbeats 1000000 in
theorem toEntryS_any (a : Option Addr) (cap : Nat) (rs : List ER) (w : World) (hrow : Row w w.heap.size a (ers rs)) (hl : rs.length ≤ 1048576) :
    Calls Try.prog 18 #[.slice a rs.length cap] w (ToE rs w) := by
  obtain ⟨i0, hi, hz0, hz1, hz2⟩ := info_parts Try.info51
  go_enter Try.func18, Try.ntmps18
  go_wp2_with (at_make; refine wpList_make_full _ rfl _ _ 27 rfl w.heap.size 51 i0 (.agg #[.int .i64 0, .int .i64 0, .int .i64 0]) 3 Try.underlying27 hi hz0 hz1 .i64 .i64 _ _ rs.length rfl rfl rfl rfl (by rw [hz2]; omega) (by unfold maxLen; omega) (Nat.le_refl _) ?_; intro w0 hown0 hgrow0)
  have hst := Lib.hid (show w0.ownsRow w.heap.size 51 3 (.slice (some ⟨w.heap.size, 0, none⟩) rs.length rs.length) rs.length (ers (fillE rs 0)) by
    rw [fillE_zero, ← madeE]; exact hown0)
  have hbl := Lib.hid (show Below w.heap.size w w0 from (Below.refl _ _).grown hgrow0 (Nat.le_refl _) (fun _ h => by cases h))
  clear hown0 hgrow0
  go_loopw [4] (fun i wr => ∃ k : Nat, k ≤ rs.length ∧ i = .int .i64 k ∧ Hid (wr.ownsRow w.heap.size 51 3 (.slice (some ⟨w.heap.size, 0, none⟩) rs.length rs.length) rs.length (ers (fillE rs k))) ∧ Hid (Below w.heap.size w wr))
    (fun i _ => rs.length - (RowKit.intOf i).toNat)
  case atStart => exact ⟨0, Nat.zero_le _, rfl, hst, hbl⟩
  case round =>
    obtain ⟨k, hk, rfl, hown, hb⟩ := hrel
    clear hst hbl
    by_cases hlt : k < rs.length
    · obtain ⟨b, off, rfl, hbb, hcs⟩ := (hrow.below hb.out).er hlt
      obtain ⟨hc0, hc1, hc2⟩ := hcs k hlt
      clear hcs hrow
      go_wp2_with fail
      refine (toEntry_any rs[k] _).mono ?_
      rintro e w1 ⟨rfl, hb1⟩
      have O1 := hown.out.kept (below_any (row := none) hb1) (.inr (by simp [Value.ownBlock]))
      have hfl := fillE_length rs k (by omega)
      have hd0 := (O1.cellAt (k * 3) (by omega)).trans (ers_ip (fillE rs k) k (by omega))
      have hd1 := (O1.cellAt (k * 3 + 1) (by omega)).trans (ers_hw (fillE rs k) k (by omega))
      have hd2 := (O1.cellAt (k * 3 + 2) (by omega)).trans (ers_age (fillE rs k) k (by omega))
      have hf0 := O1.frozenAt (k * 3)
      have hf1 := O1.frozenAt (k * 3 + 1)
      have hf2 := O1.frozenAt (k * 3 + 2)
      have S1 := O1.stored (k * 3) (.int .i64 rs[k].ip)
      have S2 := S1.1.stored (k * 3 + 1) (.int .i64 rs[k].hw)
      have S3 := S2.1.stored (k * 3 + 2) (.int .i64 rs[k].age)
      rw [ers_set _ k (by omega), fillE_set rs k hlt] at S3
      have O2 := Lib.hid S3.1
      have B2 := Lib.hid ((((hb.out.trans (hb1.mono hb.out.size)).setCell (p := ⟨w.heap.size, k * 3, none⟩) (Nat.le_refl _) (.int .i64 rs[k].ip)).setCell (p := ⟨w.heap.size, k * 3 + 1, none⟩) (Nat.le_refl _) (.int .i64 rs[k].hw)).setCell (p := ⟨w.heap.size, k * 3 + 2, none⟩) (Nat.le_refl _) (.int .i64 rs[k].age))
      clear S1 S2 S3 O1 hb1 hb hown
      go_wp2_with fail
      go_roundw
      case rel => exact ⟨k + 1, by omega, by go_num, O2, B2⟩
      case measure => simp [RowKit.intOf]; omega
    · have e1 := fillE_all rs k (by omega)
      rw [e1] at hown
      go_wp2_with fail
      go_ret
      exact ⟨w.heap.size, rfl, hown.out, hb.out⟩

set_option maxHeartbeats 1000000 in
theorem eqEntryS_self (a b : Option Addr) (n c d : Nat) (rs : List ER) (w : World) (hn : rs.length = n) (ha : Row w w.heap.size a (ers rs)) (hb : Row w w.heap.size b (ers rs)) (hl : n ≤ 1048577) :
    Calls Try.prog 21 #[.slice a n c, .slice b n d] w fun e w' => e = .returned (.bool true) ∧ Below w.heap.size w w' := by
  subst hn
  have A0 := Lib.hid ha
  have B0 := Lib.hid hb
  clear ha hb
  go_enter Try.func21, Try.ntmps21
  go_wp2_with fail
  go_loopw [5] (fun i wr => ∃ k : Nat, k ≤ rs.length ∧ i = .int .i64 k ∧ Hid (Below w.heap.size w wr)) (fun i _ => rs.length - (RowKit.intOf i).toNat)
  case atStart => exact ⟨0, Nat.zero_le _, rfl, Below.refl _ _⟩
  case round =>
    obtain ⟨k, hk, rfl, hb⟩ := hrel
    by_cases hlt : k < rs.length
    · obtain ⟨p, o, rfl, hp, hcs⟩ := (A0.out.below hb.out).er hlt
      obtain ⟨q, u, rfl, hq, hds⟩ := (B0.out.below hb.out).er hlt
      obtain ⟨hc0, hc1, hc2⟩ := hcs k hlt
      obtain ⟨hd0, hd1, hd2⟩ := hds k hlt
      have hk0 : (0 : Int) ≤ (k : Int) := Int.natCast_nonneg _
      have hk1 : (k : Int) < (rs.length : Int) := by omega
      have hp1 : p < wr.heap.size := Nat.lt_of_lt_of_le hp hb.out.size
      have hq1 : q < wr.heap.size := Nat.lt_of_lt_of_le hq hb.out.size
      clear hcs hds
      go_wp2_with fail
      go_region_held3 (fun w' => (w'.cell? ⟨p, o + k * 3, none⟩ = some (.int .i64 rs[k].ip) ∧ w'.cell? ⟨p, o + k * 3 + 1, none⟩ = some (.int .i64 rs[k].hw) ∧ w'.cell? ⟨p, o + k * 3 + 2, none⟩ = some (.int .i64 rs[k].age)) ∧ w'.cell? ⟨q, u + k * 3, none⟩ = some (.int .i64 rs[k].ip) ∧ w'.cell? ⟨q, u + k * 3 + 1, none⟩ = some (.int .i64 rs[k].hw) ∧ w'.cell? ⟨q, u + k * 3 + 2, none⟩ = some (.int .i64 rs[k].age))
        (first | go_keep | (exact ⟨⟨(hb1.cell (p := ⟨p, o + k * 3, none⟩) (by simpa using hp1)).trans hc0, (hb1.cell (p := ⟨p, o + k * 3 + 1, none⟩) (by simpa using hp1)).trans hc1, (hb1.cell (p := ⟨p, o + k * 3 + 2, none⟩) (by simpa using hp1)).trans hc2⟩, (hb1.cell (p := ⟨q, u + k * 3, none⟩) (by simpa using hq1)).trans hd0, (hb1.cell (p := ⟨q, u + k * 3 + 1, none⟩) (by simpa using hq1)).trans hd1, (hb1.cell (p := ⟨q, u + k * 3 + 2, none⟩) (by simpa using hq1)).trans hd2⟩))
        ((go_at_call 34; refine (eqEntry_self rs[k] _).mono ?_; rintro e w1 ⟨rfl, hb1⟩))
      have B1 := Lib.hid (hb.out.drew.trans (hb1.mono hb.out.size))
      clear hb1 hb hc0 hc1 hc2 hd0 hd1 hd2
      go_wp2_with fail
      go_roundw
      case rel => exact ⟨k + 1, by omega, by go_num, B1⟩
      case measure => simp [RowKit.intOf]; omega
    · go_wp2_with fail
      go_ret
      exact ⟨rfl, hb.out⟩

set_option maxRecDepth 100000 in
theorem eqER (r : ER) (w : World) : (Op.equalIn 10000 51 (.agg #[.int .i64 r.ip, .int .i64 r.hw, .int .i64 r.age]) (.agg #[.int .i64 r.ip, .int .i64 r.hw, .int .i64 r.age])).run Try.prog w = .ok true w := by
  have u3 := Try.underlying3
  have a3 := Try.isAgg3
  have z3 := Try.sizeOf3
  have hS : Try.prog.underlying 51 = some (.struct (Try.prog.fieldsOf 51)) := by kernel_rfl
  have hp : Try.prog.stoodInHeld 51 = false := by kernel_rfl
  rw [show (10000 : Nat) = 9999 + 1 from rfl, run_equalIn_agg w 9999 51 _ _ hS hp]
  simp only [Program.fieldsOf, Try.underlying51]
  go_simp

/-- n marks from number u on. -/
def marksE (u n : Nat) : List ER := (List.range n).map fun i => ⟨(u + 3 * i : Nat), (u + 3 * i + 1 : Nat), (u + 3 * i + 2 : Nat)⟩
theorem marksE_length (u n : Nat) : (marksE u n).length = n := by simp [marksE]
theorem marksE_succ (u n : Nat) : marksE u (n + 1) = marksE u n ++ [⟨(u + 3 * n : Nat), (u + 3 * n + 1 : Nat), (u + 3 * n + 2 : Nat)⟩] := by simp [marksE, List.range_succ]
/-- The first k marks, then the old entries. -/
def markedE (u k : Nat) (rs : List ER) : List ER := marksE u k ++ rs.drop k
theorem markedE_zero (u : Nat) (rs : List ER) : markedE u 0 rs = rs := by simp [markedE, marksE]
theorem markedE_all (u : Nat) (rs : List ER) : markedE u rs.length rs = marksE u rs.length := by simp [markedE]
theorem markedE_length (u k : Nat) (rs : List ER) (h : k ≤ rs.length) : (markedE u k rs).length = rs.length := by simp [markedE, marksE_length]; omega
theorem markedE_set (u k : Nat) (rs : List ER) (h : k < rs.length) : (markedE u k rs).set k ⟨(u + 3 * k : Nat), (u + 3 * k + 1 : Nat), (u + 3 * k + 2 : Nat)⟩ = markedE u (k + 1) rs := by
  unfold markedE
  rw [List.set_append_right _ _ (by rw [marksE_length]; omega), marksE_length, Nat.sub_self, List.drop_eq_getElem_cons h, List.set_cons_zero, marksE_succ, List.append_assoc]
  rfl

end Go.Proofs.Ytkkimgjcefojdaa
