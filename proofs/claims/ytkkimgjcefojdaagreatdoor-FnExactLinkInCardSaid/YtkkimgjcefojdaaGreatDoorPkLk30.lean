/- Texts of a proof that belong together, joined. Nothing here is a claim. -/
import Derived.Test.YtkkimgjcefojdaaGreatDoorPkLk19
namespace Go.Proofs.YtkkimgjcefojdaaGreatDoor
open Go.RowKit Go.Lib

section
variable {α : Type} {f : α → List Value} {k : Nat}
end
theorem flat_made {α : Type} {f : α → List Value} {k : Nat} (hk : ∀ x, (f x).length = k) (h0 : 0 < k) (z : Array Value) (x : α) (hz : z.toList = f x) (n : Nat) : (madeCells z (n * k)).toList = flat f (List.replicate n x) := by
 have hs : z.size = k := by rw [← Array.length_toList, hz, hk]
 apply List.ext_getElem?
 intro p
 rcases Nat.lt_or_ge p (n * k) with h | h
 ·have e1 : p = p / k * k + p % k := by rw [Nat.mul_comm]; exact (Nat.div_add_mod p k).symm
  have hi : p / k < (List.replicate n x).length := by rw [List.length_replicate]; exact (Nat.div_lt_iff_lt_mul h0).2 h
  have hj : p % k < k := Nat.mod_lt _ h0
  have e2 := flat_at hk (List.replicate n x) (p / k) (p % k) hi hj
  rw [← e1] at e2
  rw [e2, List.getElem_replicate, ← hz]
  have hl : p % k < z.size := by rw [hs]; exact hj
  simp [madeCells, h, hs]
  rw [getElem!_pos z (p % k) hl, Array.getElem?_eq_getElem hl]
 ·rw [List.getElem?_eq_none (by simp [madeCells]; exact h), List.getElem?_eq_none (by rw [flat_length hk, List.length_replicate]; exact h)]
end Go.Proofs.YtkkimgjcefojdaaGreatDoor
namespace Go.Proofs.YtkkimgjcefojdaaGreatDoor
open Go.RowKit Go.Lib

theorem toEntry_any (r : ER) (w : World) :
  Calls Tryz.prog 95 #[.agg #[.int .i64 r.ip, .int .i64 r.hw, .int .i64 r.age]] w fun e w' => e = .returned (.agg #[.int .i64 r.ip, .int .i64 r.hw, .int .i64 r.age]) ∧ Below w.heap.size w w' := by
 go_enter Tryz.func95, Tryz.ntmps95
 go_wp2
 exact bodyPost_ret (v := .agg #[.int .i64 r.ip, .int .i64 r.hw, .int .i64 r.age]) (by simp [results, Tryz.results95, go_sem]) rfl ⟨rfl, (((Below.refl _ _).alloc (Nat.le_refl _) _).alloc (by simp) _).alloc (by simp; omega) _⟩
theorem eqEntry_self (r : ER) (w : World) :
  Calls Tryz.prog 96 #[.agg #[.int .i64 r.ip, .int .i64 r.hw, .int .i64 r.age], .agg #[.int .i64 r.ip, .int .i64 r.hw, .int .i64 r.age]] w fun e w' => e = .returned (.bool true) ∧ Below w.heap.size w w' := by
 go_enter Tryz.func96, Tryz.ntmps96
 go_wp2
 go_ret
 exact ⟨rfl, ((Below.refl _ _).alloc (Nat.le_refl _) _).alloc (by simp) _⟩

/-- The first k entries, then empty ones. -/
def fillE (rs : List ER) (k : Nat) : List ER := rs.take k ++ List.replicate (rs.length - k) ⟨0, 0, 0⟩
theorem fillE_length (rs : List ER) (k : Nat) (h : k ≤ rs.length) : (fillE rs k).length = rs.length := by simp [fillE]; omega
theorem fillE_zero (rs : List ER) : fillE rs 0 = List.replicate rs.length ⟨0, 0, 0⟩ := by simp [fillE]
theorem fillE_all (rs : List ER) (k : Nat) (h : rs.length ≤ k) : fillE rs k = rs := by simp [fillE, List.take_of_length_le h, Nat.sub_eq_zero_of_le h]
theorem fillE_set (rs : List ER) (k : Nat) (h : k < rs.length) : (fillE rs k).set k rs[k] = fillE rs (k + 1) := by
 unfold fillE
 rw [List.set_append_right _ _ (by simp; omega)]
 have e : k - (rs.take k).length = 0 := by simp; omega
 rw [e, show rs.length - k = (rs.length - (k + 1)) + 1 by omega, List.replicate_succ, List.set_cons_zero, List.take_succ_eq_append_getElem h, List.append_assoc]
 rfl
theorem madeE (n : Nat) : (madeCells (Value.agg #[.int .i64 0, .int .i64 0, .int .i64 0]).cells (n * 3)).toList = ers (List.replicate n ⟨0, 0, 0⟩) := flat_made ER.three (by decide) #[.int .i64 0, .int .i64 0, .int .i64 0] ⟨0, 0, 0⟩ rfl n

/-- What toEntryS hands back: a new row with the same entries. -/
def ToE (rs : List ER) (w : World) (e : Ending) (w' : World) : Prop :=
 ∃ g, e = .returned (.slice (some ⟨g, 0, none⟩) rs.length rs.length) ∧ w'.ownsRow w.heap.size 71 3 (.slice (some ⟨g, 0, none⟩) rs.length rs.length) rs.length (ers rs) ∧ Below w.heap.size w w'

set_option maxHeartbeats 1000000 in
theorem toEntryS_any (a : Option Addr) (cap : Nat) (rs : List ER) (w : World) (hrow : Row w w.heap.size a (ers rs)) (hl : rs.length ≤ 1048576) :
  Calls Tryz.prog 56 #[.slice a rs.length cap] w (ToE rs w) := by
 obtain ⟨i0, hi, hz0, hz1, hz2⟩ := info_parts Tryz.info71
 go_enter Tryz.func56, Tryz.ntmps56
 go_wp2_with (at_make; refine wpList_make_full _ rfl _ _ 24 rfl w.heap.size 71 i0 (.agg #[.int .i64 0, .int .i64 0, .int .i64 0]) 3 Tryz.underlying24 hi hz0 hz1 .i64 .i64 _ _ rs.length rfl rfl rfl rfl (by rw [hz2]; omega) (by unfold maxLen; omega) (Nat.le_refl _) ?_; intro w0 hown0 hgrow0)
 have hst := Lib.hid (show w0.ownsRow w.heap.size 71 3 (.slice (some ⟨w.heap.size, 0, none⟩) rs.length rs.length) rs.length (ers (fillE rs 0)) by
  rw [fillE_zero, ← madeE]; exact hown0)
 have hbl := Lib.hid (show Below w.heap.size w w0 from (Below.refl _ _).grown hgrow0 (Nat.le_refl _) (fun _ h => by cases h))
 clear hown0 hgrow0
 go_loopw [4] (fun i wr => ∃ k : Nat, k ≤ rs.length ∧ i = .int .i64 k ∧ Hid (wr.ownsRow w.heap.size 71 3 (.slice (some ⟨w.heap.size, 0, none⟩) rs.length rs.length) rs.length (ers (fillE rs k))) ∧ Hid (Below w.heap.size w wr))
  (fun i _ => rs.length - (RowKit.intOf i).toNat)
 case atStart => exact ⟨0, Nat.zero_le _, rfl, hst, hbl⟩
 case round =>
  obtain ⟨k, hk, rfl, hown, hb⟩ := hrel
  clear hst hbl
  by_cases hlt : k < rs.length
  ·obtain ⟨b, off, rfl, hbb, hcs⟩ := (hrow.below hb.out).er hlt
   obtain ⟨hc0, hc1, hc2⟩ := hcs k hlt
   clear hcs hrow
   go_wp2_with fail
   refine (toEntry_any rs[k] _).mono ?_
   rintro e w1 ⟨rfl, hb1⟩
   have O1 := hown.out.kept (below_any (row := none) hb1) (.inr (by simp [Value.ownBlock]))
   have hfl := fillE_length rs k (by omega)
   have hd0 := (O1.cellAt (k * 3) (by omega)).trans (ers_ip (fillE rs k) k (by omega))
   have hd1 := (O1.cellAt (k * 3 + 1) (by omega)).trans (ers_hw (fillE rs k) k (by omega))
   have hd2 := (O1.cellAt (k * 3 + 2) (by omega)).trans (ers_age (fillE rs k) k (by omega))
   have hf0 := O1.frozenAt (k * 3)
   have hf1 := O1.frozenAt (k * 3 + 1)
   have hf2 := O1.frozenAt (k * 3 + 2)
   have S1 := O1.stored (k * 3) (.int .i64 rs[k].ip)
   have S2 := S1.1.stored (k * 3 + 1) (.int .i64 rs[k].hw)
   have S3 := S2.1.stored (k * 3 + 2) (.int .i64 rs[k].age)
   rw [ers_set _ k (by omega), fillE_set rs k hlt] at S3
   have O2 := Lib.hid S3.1
   have B2 := Lib.hid ((((hb.out.trans (hb1.mono hb.out.size)).setCell (p := ⟨w.heap.size, k * 3, none⟩) (Nat.le_refl _) (.int .i64 rs[k].ip)).setCell (p := ⟨w.heap.size, k * 3 + 1, none⟩) (Nat.le_refl _) (.int .i64 rs[k].hw)).setCell (p := ⟨w.heap.size, k * 3 + 2, none⟩) (Nat.le_refl _) (.int .i64 rs[k].age))
   clear S1 S2 S3 O1 hb1 hb hown
   go_wp2_with fail
   go_roundw
   case rel => exact ⟨k + 1, by omega, by go_num, O2, B2⟩
   case measure => simp [RowKit.intOf]; omega
  ·have e1 := fillE_all rs k (by omega)
   rw [e1] at hown
   go_wp2_with fail
   go_ret
   exact ⟨w.heap.size, rfl, hown.out, hb.out⟩

set_option maxHeartbeats 1000000 in
theorem eqEntryS_self (a b : Option Addr) (n c d : Nat) (rs : List ER) (w : World) (hn : rs.length = n) (ha : Row w w.heap.size a (ers rs)) (hb : Row w w.heap.size b (ers rs)) (hl : n ≤ 1048577) :
  Calls Tryz.prog 57 #[.slice a n c, .slice b n d] w fun e w' => e = .returned (.bool true) ∧ Below w.heap.size w w' := by
 subst hn
 have A0 := Lib.hid ha
 have B0 := Lib.hid hb
 clear ha hb
 go_enter Tryz.func57, Tryz.ntmps57
 go_wp2_with fail
 go_loopw [5] (fun i wr => ∃ k : Nat, k ≤ rs.length ∧ i = .int .i64 k ∧ Hid (Below w.heap.size w wr)) (fun i _ => rs.length - (RowKit.intOf i).toNat)
 case atStart => exact ⟨0, Nat.zero_le _, rfl, Below.refl _ _⟩
 case round =>
  obtain ⟨k, hk, rfl, hb⟩ := hrel
  by_cases hlt : k < rs.length
  ·obtain ⟨p, o, rfl, hp, hcs⟩ := (A0.out.below hb.out).er hlt
   obtain ⟨q, u, rfl, hq, hds⟩ := (B0.out.below hb.out).er hlt
   obtain ⟨hc0, hc1, hc2⟩ := hcs k hlt
   obtain ⟨hd0, hd1, hd2⟩ := hds k hlt
   have hk0 : (0 : Int) ≤ (k : Int) := Int.natCast_nonneg _
   have hk1 : (k : Int) < (rs.length : Int) := by omega
   have hp1 : p < wr.heap.size := Nat.lt_of_lt_of_le hp hb.out.size
   have hq1 : q < wr.heap.size := Nat.lt_of_lt_of_le hq hb.out.size
   clear hcs hds
   go_wp2_with fail
   go_region_held3 (fun w' => (w'.cell? ⟨p, o + k * 3, none⟩ = some (.int .i64 rs[k].ip) ∧ w'.cell? ⟨p, o + k * 3 + 1, none⟩ = some (.int .i64 rs[k].hw) ∧ w'.cell? ⟨p, o + k * 3 + 2, none⟩ = some (.int .i64 rs[k].age)) ∧ w'.cell? ⟨q, u + k * 3, none⟩ = some (.int .i64 rs[k].ip) ∧ w'.cell? ⟨q, u + k * 3 + 1, none⟩ = some (.int .i64 rs[k].hw) ∧ w'.cell? ⟨q, u + k * 3 + 2, none⟩ = some (.int .i64 rs[k].age))
    (first | go_keep | (exact ⟨⟨(hb1.cell (p := ⟨p, o + k * 3, none⟩) (by simpa using hp1)).trans hc0, (hb1.cell (p := ⟨p, o + k * 3 + 1, none⟩) (by simpa using hp1)).trans hc1, (hb1.cell (p := ⟨p, o + k * 3 + 2, none⟩) (by simpa using hp1)).trans hc2⟩, (hb1.cell (p := ⟨q, u + k * 3, none⟩) (by simpa using hq1)).trans hd0, (hb1.cell (p := ⟨q, u + k * 3 + 1, none⟩) (by simpa using hq1)).trans hd1, (hb1.cell (p := ⟨q, u + k * 3 + 2, none⟩) (by simpa using hq1)).trans hd2⟩))
    ((go_at_call 96; refine (eqEntry_self rs[k] _).mono ?_; rintro e w1 ⟨rfl, hb1⟩))
   have B1 := Lib.hid (hb.out.drew.trans (hb1.mono hb.out.size))
   clear hb1 hb hc0 hc1 hc2 hd0 hd1 hd2
   go_wp2_with fail
   go_roundw
   case rel => exact ⟨k + 1, by omega, by go_num, B1⟩
   case measure => simp [RowKit.intOf]; omega
  ·go_wp2_with fail
   go_ret
   exact ⟨rfl, hb.out⟩

/-- n marks from number u on. -/
def marksE (u n : Nat) : List ER := (List.range n).map fun i => ⟨(u + 3 * i : Nat), (u + 3 * i + 1 : Nat), (u + 3 * i + 2 : Nat)⟩
theorem marksE_length (u n : Nat) : (marksE u n).length = n := by simp [marksE]
theorem marksE_succ (u n : Nat) : marksE u (n + 1) = marksE u n ++ [⟨(u + 3 * n : Nat), (u + 3 * n + 1 : Nat), (u + 3 * n + 2 : Nat)⟩] := by simp [marksE, List.range_succ]
/-- The first k marks, then the old entries. -/
def markedE (u k : Nat) (rs : List ER) : List ER := marksE u k ++ rs.drop k
theorem markedE_zero (u : Nat) (rs : List ER) : markedE u 0 rs = rs := by simp [markedE, marksE]
theorem markedE_all (u : Nat) (rs : List ER) : markedE u rs.length rs = marksE u rs.length := by simp [markedE]
theorem markedE_length (u k : Nat) (rs : List ER) (h : k ≤ rs.length) : (markedE u k rs).length = rs.length := by simp [markedE, marksE_length]; omega
theorem markedE_set (u k : Nat) (rs : List ER) (h : k < rs.length) : (markedE u k rs).set k ⟨(u + 3 * k : Nat), (u + 3 * k + 1 : Nat), (u + 3 * k + 2 : Nat)⟩ = markedE u (k + 1) rs := by
 unfold markedE
 rw [List.set_append_right _ _ (by rw [marksE_length]; omega), marksE_length, Nat.sub_self, List.drop_eq_getElem_cons h, List.set_cons_zero, marksE_succ, List.append_assoc]
 rfl

set_option maxHeartbeats 2000000 in
/-- markEntryS: only the row has turned. -/
theorem markE_any (B g n cap u : Nat) (rs : List ER) (w : World) (hn : rs.length = n) (hown : w.ownsRow B 71 3 (.slice (some ⟨g, 0, none⟩) n cap) n (ers rs)) (h1 : u ≤ 1000000000) (h2 : n ≤ 1048577) :
  Calls Tryz.prog 58 #[.slice (some ⟨g, 0, none⟩) n cap, .int .i64 u] w fun e w' => e = .returned (.int .i64 (u + 3 * n : Nat)) ∧ w'.ownsRow B 71 3 (.slice (some ⟨g, 0, none⟩) n cap) n (ers (marksE u n)) ∧ w.grownBy w' (some g) := by
 subst hn
 have O := Lib.hid (show w.ownsRow B 71 3 (.slice (some ⟨g, 0, none⟩) rs.length cap) rs.length (ers (markedE u 0 rs)) by rw [markedE_zero]; exact hown)
 clear hown
 go_enter Tryz.func58, Tryz.ntmps58
 go_wp2_with fail
 go_loopw [1, 5] (fun k i wr => ∃ j : Nat, j ≤ rs.length ∧ i = .int .i64 j ∧ k = .int .i64 (u + 3 * j : Nat) ∧ Hid (wr.ownsRow B 71 3 (.slice (some ⟨g, 0, none⟩) rs.length cap) rs.length (ers (markedE u j rs))) ∧ Hid (w.grownBy wr (some g)))
  (fun _ i _ => rs.length - (RowKit.intOf i).toNat)
 case atStart => exact ⟨0, Nat.zero_le _, rfl, rfl, O, World.grownBy.refl _ _⟩
 case round =>
  obtain ⟨j, hj, rfl, rfl, hown, hg⟩ := hrel
  by_cases hlt : j < rs.length
  ·have O1 := hown.out
   have hl := markedE_length u j rs (by omega)
   have hd0 := (O1.cellAt (j * 3) (by omega)).trans (ers_ip _ j (by omega))
   have hd1 := (O1.cellAt (j * 3 + 1) (by omega)).trans (ers_hw _ j (by omega))
   have hd2 := (O1.cellAt (j * 3 + 2) (by omega)).trans (ers_age _ j (by omega))
   have hf0 := O1.frozenAt (j * 3)
   have hf1 := O1.frozenAt (j * 3 + 1)
   have hf2 := O1.frozenAt (j * 3 + 2)
   have S1 := O1.stored (j * 3) (.int .i64 (u + 3 * j : Nat))
   have S2 := S1.1.stored (j * 3 + 1) (.int .i64 (u + 3 * j + 1 : Nat))
   have S3 := S2.1.stored (j * 3 + 2) (.int .i64 (u + 3 * j + 2 : Nat))
   rw [ers_set (markedE u j rs) j (by omega) ⟨(u + 3 * j : Nat), (u + 3 * j + 1 : Nat), (u + 3 * j + 2 : Nat)⟩, markedE_set u j rs hlt] at S3
   have O2 := Lib.hid S3.1
   have G2 := Lib.hid (grown_tr (grown_tr (grown_tr hg.out S1.2) S2.2) S3.2)
   clear S1 S2 S3 O1 hg hown
   go_wp2_with fail
   go_roundw
   case rel => exact ⟨j + 1, by omega, by go_num, by go_num, O2, G2⟩
   case measure => simp [RowKit.intOf]; omega
  ·obtain rfl : j = rs.length := by omega
   rw [markedE_all] at hown
   go_wp2_with fail
   go_ret
   exact ⟨rfl, hown.out, hg.out⟩
theorem markE_none (a : Option Addr) (cap u : Nat) (w : World) :
  Calls Tryz.prog 58 #[.slice a 0 cap, .int .i64 u] w fun e w' => e = .returned (.int .i64 u) ∧ w' = w := by
 go_enter Tryz.func58, Tryz.ntmps58
 go_wp2_with fail
 go_loop [1, 5] (fun k i => i = .int .i64 0 ∧ k = .int .i64 u) (fun _ _ => 0)
 case atStart => exact ⟨rfl, rfl⟩
 case round =>
  obtain ⟨rfl, rfl⟩ := hrel
  go_wp2_with fail
  go_ret
  exact ⟨rfl, rfl⟩

set_option maxHeartbeats 2000000 in
/-- heldEntryS, where the marks stand. -/
theorem heldE_any (a : Option Addr) (n cap u : Nat) (w : World) (hrow : Row w w.heap.size a (ers (marksE u n))) (h1 : u ≤ 1000000000) (h2 : n ≤ 1048577) :
  Calls Tryz.prog 59 #[.slice a n cap, .int .i64 u] w fun e w' => e = .returned (.int .i64 (u + 3 * n : Nat)) ∧ Below w.heap.size w w' := by
 have R := Lib.hid hrow
 clear hrow
 go_enter Tryz.func59, Tryz.ntmps59
 go_wp2_with fail
 go_loopw [1, 5] (fun k i wr => ∃ j : Nat, j ≤ n ∧ i = .int .i64 j ∧ k = .int .i64 (u + 3 * j : Nat) ∧ Hid (Below w.heap.size w wr))
  (fun _ i _ => n - (RowKit.intOf i).toNat)
 case atStart => exact ⟨0, Nat.zero_le _, rfl, rfl, Below.refl _ _⟩
 case round =>
  obtain ⟨j, hj, rfl, rfl, hb⟩ := hrel
  by_cases hlt : j < n
  ·obtain ⟨b, off, rfl, hbb, hcs⟩ := (R.out.below hb.out).er (show j < (marksE u n).length by rw [marksE_length]; exact hlt)
   obtain ⟨hc, hv, hx⟩ := hcs j (by rw [marksE_length]; exact hlt)
   have e1 : (marksE u n)[j]'(by rw [marksE_length]; exact hlt) = ⟨(u + 3 * j : Nat), (u + 3 * j + 1 : Nat), (u + 3 * j + 2 : Nat)⟩ := by simp [marksE]
   rw [e1] at hc hv hx
   have hk0 : (0 : Int) ≤ (j : Int) := Int.natCast_nonneg _
   have hk1 : (j : Int) < (n : Int) := by omega
   clear hcs e1
   go_wp2_with fail
   go_roundw
   case rel => exact ⟨j + 1, by omega, by go_num, by go_num, hb⟩
   case measure => simp [RowKit.intOf]; omega
  ·obtain rfl : j = n := by omega
   go_wp2_with fail
   go_ret
   exact ⟨rfl, hb.out⟩
end Go.Proofs.YtkkimgjcefojdaaGreatDoor
namespace Go.Proofs.YtkkimgjcefojdaaGreatDoor
open Go.RowKit Go.Lib

/-- As NewLk, of full capacity. -/
def ToLk (m ip : Int) (rs : List ER) (w : World) (e : Ending) (w' : World) : Prop :=
 ∃ g, e = .returned (.agg #[.int .i64 m, .int .i64 ip, .slice (some ⟨g, 0, none⟩) rs.length rs.length]) ∧ w'.ownsRow w.heap.size 71 3 (.slice (some ⟨g, 0, none⟩) rs.length rs.length) rs.length (ers rs) ∧ Below w.heap.size w w'
theorem szEntryS_left (a : Option Addr) (n cap left : Nat) (w : World) (hl : n ≤ maxLen) (h2 : left ≤ 1048576) :
  Calls Tryz.prog 55 #[.slice a n cap, .int .i64 left] w fun e w' => e = .returned (.int .i64 (if n ≤ left then (left : Int) - (n : Int) else -1)) ∧ w' = w := by
 unfold maxLen at hl
 have hw : IntKind.i64.wrap ((left : Int) - (n : Int)) = (left : Int) - (n : Int) := IntWalk.i64_in _ (by omega)
 by_cases h : n ≤ left
 ·rw [if_pos h]
  have h3 : ¬ (left : Int) - (n : Int) < 0 := by omega
  go_enter Tryz.func55, Tryz.ntmps55
  go_wp2_with fail
  go_ret
  exact ⟨rfl, rfl⟩
 ·rw [if_neg h]
  have h3 : (left : Int) - (n : Int) < 0 := by omega
  go_enter Tryz.func55, Tryz.ntmps55
  go_wp2_with fail
  go_ret
  exact ⟨rfl, rfl⟩

set_option maxRecDepth 100000 in
set_option maxHeartbeats 2000000 in
theorem szLink_any (m ip : Int) (a : Option Addr) (n cap left : Nat) (w : World) (hl : n ≤ maxLen) (h2 : left ≤ 1048576) :
  Calls Tryz.prog 20 #[.agg #[.int .i64 m, .int .i64 ip, .slice a n cap], .int .i64 left] w (IntE (if n ≤ left then (left : Int) - (n : Int) else -1) w) := by
 have C := Lib.hid (fun w => szEntryS_left a n cap left w hl h2)
 clear hl h2
 by_cases hs : n ≤ left
 ·rw [if_pos hs] at C ⊢
  go_enter Tryz.func20, Tryz.ntmps20
  have B0 := Lib.hid (show Below w.heap.size w (w.alloc (.cells #[.int .i64 m, .int .i64 ip, .slice a n cap] 47)) from ((Below.refl _ w).alloc (by simp) _))
  have Kl0 := Lib.hid (show Blk (w.alloc (.cells #[.int .i64 m, .int .i64 ip, .slice a n cap] 47)) (w.heap.size) [.int .i64 m, .int .i64 ip, .slice a n cap] from Blk.new w [.int .i64 m, .int .i64 ip, .slice a n cap] 47)
  go_wp2_with fail
  change Calls _ _ _ (w.alloc (.cells #[.int .i64 m, .int .i64 ip, .slice a n cap] 47)) _
  generalize w.alloc (.cells #[.int .i64 m, .int .i64 ip, .slice a n cap] 47) = v0 at B0 Kl0 ⊢
  generalize w.heap.size = g_l at Kl0 ⊢
  refine (C.out _).mono ?_
  rintro e w' ⟨rfl, hw'⟩
  rw [hw']
  clear hw' w'
  have h3 : ¬ (left : Int) - (n : Int) < 0 := by omega
  clear hs
  obtain ⟨⟨cl0, cl1, cl2⟩, dl0, dl1, dl2⟩ := Kl0.out.o3
  go_wp2_with fail
  go_ret
  exact ⟨rfl, B0.out⟩
 ·rw [if_neg hs] at C ⊢
  clear hs
  go_enter Tryz.func20, Tryz.ntmps20
  have B0 := Lib.hid (show Below w.heap.size w (w.alloc (.cells #[.int .i64 m, .int .i64 ip, .slice a n cap] 47)) from ((Below.refl _ w).alloc (by simp) _))
  have Kl0 := Lib.hid (show Blk (w.alloc (.cells #[.int .i64 m, .int .i64 ip, .slice a n cap] 47)) (w.heap.size) [.int .i64 m, .int .i64 ip, .slice a n cap] from Blk.new w [.int .i64 m, .int .i64 ip, .slice a n cap] 47)
  go_wp2_with fail
  change Calls _ _ _ (w.alloc (.cells #[.int .i64 m, .int .i64 ip, .slice a n cap] 47)) _
  generalize w.alloc (.cells #[.int .i64 m, .int .i64 ip, .slice a n cap] 47) = v0 at B0 Kl0 ⊢
  generalize w.heap.size = g_l at Kl0 ⊢
  refine (C.out _).mono ?_
  rintro e w' ⟨rfl, hw'⟩
  rw [hw']
  clear hw' w'
  obtain ⟨⟨cl0, cl1, cl2⟩, dl0, dl1, dl2⟩ := Kl0.out.o3
  go_wp2_with fail
  go_ret
  exact ⟨rfl, B0.out⟩

set_option maxRecDepth 100000 in
set_option maxHeartbeats 2000000 in
theorem toLink_any (m ip : Int) (a : Option Addr) (cap : Nat) (rs : List ER) (w : World) (hrow : Row w w.heap.size a (ers rs)) (hl : rs.length ≤ 1048576) :
  Calls Tryz.prog 21 #[.agg #[.int .i64 m, .int .i64 ip, .slice a rs.length cap]] w (ToLk m ip rs w) := by
 have HR := Lib.hid hrow
 clear hrow
 go_enter Tryz.func21, Tryz.ntmps21
 have B0 := Lib.hid (show Below w.heap.size w (((w.alloc (.cells #[.int .i64 m, .int .i64 ip, .slice a rs.length cap] 47)).alloc (.cells #[.int .i64 0, .int .i64 0, .slice none 0 0] 26)).alloc (.cells #[.int .i64 m, .int .i64 ip, .slice none 0 0] 26)) from ((((Below.refl _ w).alloc (by simp) _).alloc (by simp) _).alloc (by simp; omega) _))
 have Kl0 := Lib.hid (show Blk (((w.alloc (.cells #[.int .i64 m, .int .i64 ip, .slice a rs.length cap] 47)).alloc (.cells #[.int .i64 0, .int .i64 0, .slice none 0 0] 26)).alloc (.cells #[.int .i64 m, .int .i64 ip, .slice none 0 0] 26)) (w.heap.size) [.int .i64 m, .int .i64 ip, .slice a rs.length cap] from ((Blk.new w [.int .i64 m, .int .i64 ip, .slice a rs.length cap] 47).alloc (.cells #[.int .i64 0, .int .i64 0, .slice none 0 0] 26)).alloc (.cells #[.int .i64 m, .int .i64 ip, .slice none 0 0] 26))
 have s1 : (w.alloc (.cells #[.int .i64 m, .int .i64 ip, .slice a rs.length cap] 47)).heap.size = w.heap.size + 1 := by simp
 have Kr0 := Lib.hid (show Blk (((w.alloc (.cells #[.int .i64 m, .int .i64 ip, .slice a rs.length cap] 47)).alloc (.cells #[.int .i64 0, .int .i64 0, .slice none 0 0] 26)).alloc (.cells #[.int .i64 m, .int .i64 ip, .slice none 0 0] 26)) (w.heap.size + 1) [.int .i64 0, .int .i64 0, .slice none 0 0] by have h0 := (Blk.new (w.alloc (.cells #[.int .i64 m, .int .i64 ip, .slice a rs.length cap] 47)) [.int .i64 0, .int .i64 0, .slice none 0 0] 26).alloc (.cells #[.int .i64 m, .int .i64 ip, .slice none 0 0] 26); rwa [s1] at h0)
 have n_l_r : w.heap.size ≠ w.heap.size + 1 := by omega
 have s2 : ((w.alloc (.cells #[.int .i64 m, .int .i64 ip, .slice a rs.length cap] 47)).alloc (.cells #[.int .i64 0, .int .i64 0, .slice none 0 0] 26)).heap.size = w.heap.size + 1 + 1 := by simp
 have Ko0 := Lib.hid (show Blk (((w.alloc (.cells #[.int .i64 m, .int .i64 ip, .slice a rs.length cap] 47)).alloc (.cells #[.int .i64 0, .int .i64 0, .slice none 0 0] 26)).alloc (.cells #[.int .i64 m, .int .i64 ip, .slice none 0 0] 26)) (w.heap.size + 1 + 1) [.int .i64 m, .int .i64 ip, .slice none 0 0] by have h0 := Blk.new ((w.alloc (.cells #[.int .i64 m, .int .i64 ip, .slice a rs.length cap] 47)).alloc (.cells #[.int .i64 0, .int .i64 0, .slice none 0 0] 26)) [.int .i64 m, .int .i64 ip, .slice none 0 0] 26; rwa [s2] at h0)
 have n_l_o : w.heap.size ≠ w.heap.size + 1 + 1 := by omega
 have n_r_o : w.heap.size + 1 ≠ w.heap.size + 1 + 1 := by omega
 clear s1 s2
 go_wp2_with fail
 change Calls _ _ _ (((w.alloc (.cells #[.int .i64 m, .int .i64 ip, .slice a rs.length cap] 47)).alloc (.cells #[.int .i64 0, .int .i64 0, .slice none 0 0] 26)).alloc (.cells #[.int .i64 m, .int .i64 ip, .slice none 0 0] 26)) _
 generalize ((w.alloc (.cells #[.int .i64 m, .int .i64 ip, .slice a rs.length cap] 47)).alloc (.cells #[.int .i64 0, .int .i64 0, .slice none 0 0] 26)).alloc (.cells #[.int .i64 m, .int .i64 ip, .slice none 0 0] 26) = v0 at B0 Kl0 Kr0 Ko0 ⊢
 generalize hh_o : w.heap.size + 1 + 1 = g_o at Ko0 n_l_o n_r_o ⊢
 generalize hh_r : w.heap.size + 1 = g_r at Kr0 n_l_r n_r_o ⊢
 generalize hh_l : w.heap.size = g_l at Kl0 n_l_r n_l_o ⊢
 have l_l : w.heap.size ≤ g_l := by omega
 have l_r : w.heap.size ≤ g_r := by omega
 have l_o : w.heap.size ≤ g_o := by omega
 clear hh_l hh_r hh_o
 refine (toEntryS_any a cap rs _ ((HR.out.below B0.out).mono B0.out.size) hl).mono ?_
 rintro e v1 ⟨g_p, rfl, ho_p, hb⟩
 have hown := own_down ho_p B0.out.size
 have n_l_p : g_l ≠ g_p := by have h1 := Kl0.out.lt; have h2 := (ho_p.lt g_p rfl).1; omega
 have n_r_p : g_r ≠ g_p := by have h1 := Kr0.out.lt; have h2 := (ho_p.lt g_p rfl).1; omega
 have n_o_p : g_o ≠ g_p := by have h1 := Ko0.out.lt; have h2 := (ho_p.lt g_p rfl).1; omega
 have l_p : w.heap.size ≤ g_p := Nat.le_trans B0.out.size (ho_p.lt g_p rfl).1
 have B1 := Lib.hid (B0.out.trans (hb.mono B0.out.size))
 have Kl1 := Lib.hid (Kl0.out.below hb)
 have Kr1 := Lib.hid (Kr0.out.below hb)
 have Ko1 := Lib.hid (Ko0.out.below hb)
 have Op1 := Lib.hid (own_down ho_p (Nat.zero_le _))
 clear hb B0 Kl0 Kr0 Ko0 ho_p
 have HO := Lib.hid hown
 clear hown
 obtain ⟨⟨cl0, cl1, cl2⟩, dl0, dl1, dl2⟩ := Kl1.out.o3
 obtain ⟨⟨cr0, cr1, cr2⟩, dr0, dr1, dr2⟩ := Kr1.out.o3
 obtain ⟨⟨co0, co1, co2⟩, do0, do1, do2⟩ := Ko1.out.o3
 go_wp2_with fail
 refine bodyPost_ret (v := .agg #[.int .i64 m, .int .i64 ip, .slice (some ⟨g_p, 0, none⟩) rs.length rs.length]) (by simp [results, Tryz.results21, go_sem, cr0, cr1, cr2]) rfl ⟨g_p, rfl, ?_, ?_⟩
 ·exact own_set' (own_set' (own_set' (own_set' HO.out 2 _ n_o_p) 0 _ n_r_p) 1 _ n_r_p) 2 _ n_r_p
 ·exact ((((B1.out.setCell l_o _).setCell l_r _).setCell l_r _).setCell l_r _)

set_option maxRecDepth 100000 in
set_option maxHeartbeats 2000000 in
theorem eqLink_self (m ip : Int) (a b : Option Addr) (n c d : Nat) (rs : List ER) (w : World) (hn : rs.length = n) (ha : Row w w.heap.size a (ers rs)) (hb : Row w w.heap.size b (ers rs)) (hl : n ≤ 1048577) :
  Calls Tryz.prog 22 #[.agg #[.int .i64 m, .int .i64 ip, .slice a n c], .agg #[.int .i64 m, .int .i64 ip, .slice b n d]] w (BoolE true w) := by
 have HA := Lib.hid ha
 have HB := Lib.hid hb
 clear ha hb
 go_enter Tryz.func22, Tryz.ntmps22
 have B0 := Lib.hid (show Below w.heap.size w ((w.alloc (.cells #[.int .i64 m, .int .i64 ip, .slice a n c] 26)).alloc (.cells #[.int .i64 m, .int .i64 ip, .slice b n d] 26)) from (((Below.refl _ w).alloc (by simp) _).alloc (by simp) _))
 have Kl0 := Lib.hid (show Blk ((w.alloc (.cells #[.int .i64 m, .int .i64 ip, .slice a n c] 26)).alloc (.cells #[.int .i64 m, .int .i64 ip, .slice b n d] 26)) (w.heap.size) [.int .i64 m, .int .i64 ip, .slice a n c] from (Blk.new w [.int .i64 m, .int .i64 ip, .slice a n c] 26).alloc (.cells #[.int .i64 m, .int .i64 ip, .slice b n d] 26))
 have s1 : (w.alloc (.cells #[.int .i64 m, .int .i64 ip, .slice a n c] 26)).heap.size = w.heap.size + 1 := by simp
 have Kr0 := Lib.hid (show Blk ((w.alloc (.cells #[.int .i64 m, .int .i64 ip, .slice a n c] 26)).alloc (.cells #[.int .i64 m, .int .i64 ip, .slice b n d] 26)) (w.heap.size + 1) [.int .i64 m, .int .i64 ip, .slice b n d] by have h0 := Blk.new (w.alloc (.cells #[.int .i64 m, .int .i64 ip, .slice a n c] 26)) [.int .i64 m, .int .i64 ip, .slice b n d] 26; rwa [s1] at h0)
 have n_l_r : w.heap.size ≠ w.heap.size + 1 := by omega
 clear s1
 go_wp2_with fail
 change Calls _ _ _ ((w.alloc (.cells #[.int .i64 m, .int .i64 ip, .slice a n c] 26)).alloc (.cells #[.int .i64 m, .int .i64 ip, .slice b n d] 26)) _
 generalize (w.alloc (.cells #[.int .i64 m, .int .i64 ip, .slice a n c] 26)).alloc (.cells #[.int .i64 m, .int .i64 ip, .slice b n d] 26) = v0 at B0 Kl0 Kr0 ⊢
 generalize w.heap.size + 1 = g_r at Kr0 n_l_r ⊢
 generalize w.heap.size = g_l at Kl0 n_l_r ⊢
 refine (eqEntryS_self a b n c d rs _ hn ((HA.out.below B0.out).mono B0.out.size) ((HB.out.below B0.out).mono B0.out.size) hl).mono ?_
 rintro e v1 ⟨rfl, hb⟩
 have B1 := Lib.hid (B0.out.trans (hb.mono B0.out.size))
 have Kl1 := Lib.hid (Kl0.out.below hb)
 have Kr1 := Lib.hid (Kr0.out.below hb)
 clear hb B0 Kl0 Kr0
 obtain ⟨⟨cl0, cl1, cl2⟩, dl0, dl1, dl2⟩ := Kl1.out.o3
 obtain ⟨⟨cr0, cr1, cr2⟩, dr0, dr1, dr2⟩ := Kr1.out.o3
 go_wp2_with fail
 go_ret
 exact ⟨rfl, B1.out⟩

set_option maxRecDepth 100000 in
set_option maxHeartbeats 2000000 in
theorem heldLink_any (m ip : Int) (a : Option Addr) (n cap u : Nat) (w : World) (hrow : Row w w.heap.size a (ers (marksE u n))) (h1 : u ≤ 1000000000) (h2 : n ≤ 1048577) :
  Calls Tryz.prog 25 #[.agg #[.int .i64 m, .int .i64 ip, .slice a n cap], .int .i64 u] w (IntE ((u + 3 * n : Nat) : Int) w) := by
 have HR := Lib.hid hrow
 clear hrow
 go_enter Tryz.func25, Tryz.ntmps25
 have B0 := Lib.hid (show Below w.heap.size w (w.alloc (.cells #[.int .i64 m, .int .i64 ip, .slice a n cap] 26)) from ((Below.refl _ w).alloc (by simp) _))
 have Kl0 := Lib.hid (show Blk (w.alloc (.cells #[.int .i64 m, .int .i64 ip, .slice a n cap] 26)) (w.heap.size) [.int .i64 m, .int .i64 ip, .slice a n cap] from Blk.new w [.int .i64 m, .int .i64 ip, .slice a n cap] 26)
 go_wp2_with fail
 change Calls _ _ _ (w.alloc (.cells #[.int .i64 m, .int .i64 ip, .slice a n cap] 26)) _
 generalize w.alloc (.cells #[.int .i64 m, .int .i64 ip, .slice a n cap] 26) = v0 at B0 Kl0 ⊢
 generalize w.heap.size = g_l at Kl0 ⊢
 refine (heldE_any a n cap u _ ((HR.out.below B0.out).mono B0.out.size) h1 h2).mono ?_
 rintro e v1 ⟨rfl, hb⟩
 have B1 := Lib.hid (B0.out.trans (hb.mono B0.out.size))
 have Kl1 := Lib.hid (Kl0.out.below hb)
 clear hb B0 Kl0
 have h3 : ¬ ((u + 3 * n : Nat) : Int) < 0 := by omega
 obtain ⟨⟨cl0, cl1, cl2⟩, dl0, dl1, dl2⟩ := Kl1.out.o3
 go_wp2_with fail
 go_ret
 exact ⟨rfl, B1.out⟩

set_option maxRecDepth 100000 in
set_option maxHeartbeats 2000000 in
theorem markLink_any (m ip : Int) (B g n cap u : Nat) (rs : List ER) (w : World) (hn : rs.length = n) (hown : w.ownsRow B 71 3 (.slice (some ⟨g, 0, none⟩) n cap) n (ers rs)) (h1 : u ≤ 1000000000) (h2 : n ≤ 1048577) :
  Calls Tryz.prog 24 #[.agg #[.int .i64 m, .int .i64 ip, .slice (some ⟨g, 0, none⟩) n cap], .int .i64 u] w (fun e w' => e = .returned (.int .i64 (u + 3 * n : Nat)) ∧ w'.ownsRow B 71 3 (.slice (some ⟨g, 0, none⟩) n cap) n (ers (marksE u n)) ∧ w.grownBy w' (some g)) := by
 have O1 := Lib.hid (show (w.alloc (.cells #[.int .i64 m, .int .i64 ip, .slice (some ⟨g, 0, none⟩) n cap] 26)).ownsRow B 71 3 (.slice (some ⟨g, 0, none⟩) n cap) n (ers rs) from hown.alloc _)
 have G1 := Lib.hid (World.grownBy_alloc w (.cells #[.int .i64 m, .int .i64 ip, .slice (some ⟨g, 0, none⟩) n cap] 26) (some g))
 clear hown
 go_enter Tryz.func24, Tryz.ntmps24
 go_wp2_with fail
 refine (markE_any B g n cap u rs _ hn O1.out h1 h2).mono ?_
 rintro e w1 ⟨rfl, ho, hg⟩
 have O2 := Lib.hid ho
 have G2 := Lib.hid (G1.out.trans hg)
 clear ho hg G1 O1
 go_wp2_with fail
 go_ret
 exact ⟨rfl, O2.out, G2.out⟩

set_option maxRecDepth 100000 in
set_option maxHeartbeats 2000000 in
theorem markLink_none (m ip : Int) (a : Option Addr) (cap u : Nat) (w : World) :
  Calls Tryz.prog 24 #[.agg #[.int .i64 m, .int .i64 ip, .slice a 0 cap], .int .i64 u] w (IntE (u : Int) w) := by
 go_enter Tryz.func24, Tryz.ntmps24
 go_wp2_with fail
 refine (markE_none a cap u _).mono ?_
 rintro e w' ⟨rfl, hw'⟩
 rw [hw']
 go_wp2_with fail
 go_ret
 exact ⟨rfl, (Below.refl _ _).alloc (Nat.le_refl _) _⟩
end Go.Proofs.YtkkimgjcefojdaaGreatDoor
namespace Go.Proofs.YtkkimgjcefojdaaGreatDoor
open Go.Joins Go.ChangeShapes Go.WideShapes Go.RowKit Go.Deep Go.Lib

theorem trod_nest {H : Type} {enc : TypeId × Value → H} {P : Program} {w : World} {base : Nat} {spare : Nat → Bool} {held : Bool} {t : TypeId} {fs : Array Field} {k : Nat} {cs : List Value} {x : DataW H × List MemPlace}
  (hs : P.underlying t = some (.struct fs)) (h : DataW.trod enc P w base spare held k t cs = some x) :
  ∃ n : Nat, cs.length = P.cellsOf t ∧ ∀ (j : Nat) (f : Field), fs[j]? = some f → ∃ y, DataW.trod enc P w base spare held n f.type ((cs.drop f.offset).take (P.cellsOf f.type)) = some y := by
 obtain ⟨xs, n, _, rfl, hl, hlen, hf⟩ := DataW.trod_struct hs h
 refine ⟨n, hl, fun j f hj => ?_⟩
 have hjl : j < fs.size := (Array.getElem?_eq_some_iff.1 hj).1
 have hjx : j < xs.length := by omega
 exact ⟨_, (hf j f hj).trans (List.getElem?_eq_getElem hjx)⟩
end Go.Proofs.YtkkimgjcefojdaaGreatDoor
namespace Go.Proofs.YtkkimgjcefojdaaGreatDoor
open Go.Joins Go.ChangeShapes Go.WideShapes Go.RowKit Go.Deep Go.Lib

theorem choose_list {α : Type} {p : Nat → α → Prop} (n : Nat) (h : ∀ i, i < n → ∃ r, p i r) : ∃ rs : List α, ∃ hl : rs.length = n, ∀ i (hi : i < n), p i (rs[i]'(by rw [hl]; exact hi)) := by
 refine ⟨List.ofFn fun i : Fin n => Classical.choose (h i.1 i.2), by simp, fun i hi => ?_⟩
 rw [List.getElem_ofFn]
 exact Classical.choose_spec (h i hi)
/-- What the walk is told of a slice of structs. -/
def IsRow {α : Type} (f : α → List Value) (good : α → Prop) (w : World) (a : Option Addr) (len cap : Nat) (rs : List α) : Prop := (rs.length = len ∧ len ≤ cap ∧ cap ≤ maxLen ∧ ∀ r ∈ rs, good r) ∧ Row w w.heap.size a (flat f rs)
theorem openRow {α H : Type} {f : α → List Value} {k : Nat} (hk : ∀ x, (f x).length = k) (h0 : 0 < k) {good : α → Prop} {enc : TypeId × Value → H} {P : Program} {w : World} {t e : TypeId} {fuel : Nat} {a : Option Addr} {len cap : Nat} {x : DataW H × List MemPlace}
  (ht : P.underlying t = some (.slice e)) (hc : P.cellsOf e = k) (each : ∀ n cs y, DataW.trod enc P w 0 (fun _ => true) true n e cs = some y → ∃ r, cs = f r ∧ good r)
  (h : DataW.trod enc P w 0 (fun _ => true) true fuel t (Value.slice a len cap).cells.toList = some x) : ∃ rs : List α, IsRow f good w a len cap rs := by
 rcases open_slice ht h with ⟨hcs, _⟩ | ⟨ad, l, c, m, n, D, Pl, hcs, _, hl, hm, hmm, _, hx⟩
 ·simp [Value.cells] at hcs
  obtain ⟨rfl, rfl, rfl⟩ := hcs
  exact ⟨[], ⟨rfl, Nat.le_refl _, Nat.zero_le _, fun _ h => by cases h⟩, Row.nil⟩
 ·simp [Value.cells] at hcs
  obtain ⟨rfl, rfl, rfl⟩ := hcs
  simp only [if_true] at hmm
  subst hmm
  obtain ⟨rs, hlr, hrs⟩ := choose_list (p := fun i r => good r ∧ ∀ j, j < k → w.cell? (ad.add (i * k + j)) = (f r)[j]?) len (fun i hi => by
   obtain ⟨cs', h1, h2⟩ := hx i (by omega)
   obtain ⟨r, rfl, hg⟩ := each _ _ _ h2
   rw [hc] at h1
   obtain ⟨_, _, hat⟩ := World.cells?_some h1
   exact ⟨r, hg, fun j hj => by rw [← Go.Deep.add_add]; exact hat j hj⟩)
  refine ⟨rs, ⟨hlr, hl, hm, fun r hr => ?_⟩, fun hne => ?_⟩
  ·obtain ⟨i, hi, rfl⟩ := List.getElem_of_mem hr
   exact (hrs i (by omega)).1
  ·have hpos : 0 < len := by
    rcases Nat.eq_zero_or_pos len with h' | h'
    ·rw [h'] at hlr; rw [List.eq_nil_of_length_eq_zero hlr] at hne; exact absurd rfl hne
    ·exact h'
   obtain ⟨b, off, spot⟩ := ad
   have hc0 := (hrs 0 hpos).2 0 h0
   rw [List.getElem?_eq_getElem (by rw [hk]; exact h0)] at hc0
   have hspot : spot = none := by simpa [Addr.add] using World.cell?_spot hc0
   subst hspot
   refine ⟨b, off, rfl, World.block_lt_of_cell? w ⟨b, off, none⟩ (by simpa [Addr.add] using hc0), fun p u hu => ?_⟩
   have hp : p < rs.length * k := by rw [← flat_length hk]; exact (List.getElem?_eq_some_iff.1 hu).1
   have e1 : p = p / k * k + p % k := by rw [Nat.mul_comm]; exact (Nat.div_add_mod p k).symm
   have hi : p / k < rs.length := (Nat.div_lt_iff_lt_mul h0).2 hp
   have hj : p % k < k := Nat.mod_lt _ h0
   have h3 := (hrs (p / k) (by omega)).2 (p % k) hj
   rw [← flat_at hk rs (p / k) (p % k) hi hj, ← e1, hu] at h3
   rw [← h3, adr_add]
end Go.Proofs.YtkkimgjcefojdaaGreatDoor
namespace Go.Proofs.YtkkimgjcefojdaaGreatDoor
open Go.Joins Go.ChangeShapes Go.WideShapes Go.RowKit Go.Deep Go.Lib

theorem open_flat {H : Type} {enc : TypeId × Value → H} {P : Program} {w : World} {base : Nat} {spare : Nat → Bool} {held : Bool} {r : Reach} {b0 : Nat} {t : TypeId} {fs : Array Field} {v : Value} {d : DataW H} {p : List MemPlace}
  (hs : P.underlying t = some (.struct fs)) (hone : oneCellFields P fs = true) (hC : P.cellsOf t = fs.size) (hv : Value.okWide P w r b0 t v) (h : DataW.Trod enc P w base spare held t v d p) :
  ∃ (cs : List Value) (n : Nat), v = .agg cs.toArray ∧ cs.length = fs.size ∧ ∀ (j : Nat) (f : Field), fs[j]? = some f → ∃ y, DataW.trod enc P w base spare held n f.type [cs.getD j undef] = some y := by
 obtain ⟨cs, rfl, hsz⟩ := okWide_struct hs hv
 obtain ⟨fuel, hf⟩ := h
 obtain ⟨xs, n, _, _, _, hlen, hg⟩ := DataW.trod_struct hs hf
 refine ⟨cs.toList, n, by simp, by rw [Array.length_toList, hsz, hC], fun j f hj => ?_⟩
 obtain ⟨o, k⟩ := hone_of hone j f hj
 have hjl : j < fs.size := (Array.getElem?_eq_some_iff.1 hj).1
 have h1 := hg j f hj
 rw [o, k] at h1
 have hjc : j < cs.toList.length := by rw [Array.length_toList, hsz, hC]; exact hjl
 have e : ((Value.agg cs).cells.toList.drop j).take 1 = [cs.toList.getD j undef] := by
  show (cs.toList.drop j).take 1 = _
  rw [List.drop_eq_getElem_cons hjc, List.getD_eq_getElem?_getD, List.getElem?_eq_getElem hjc]
  rfl
 rw [e] at h1
 have hjx : j < xs.length := by omega
 exact ⟨_, h1.trans (List.getElem?_eq_getElem hjx)⟩
end Go.Proofs.YtkkimgjcefojdaaGreatDoor
namespace Go.Proofs.YtkkimgjcefojdaaGreatDoor
open Go.Joins Go.ChangeShapes Go.WideShapes Go.RowKit Go.Deep Go.Lib

abbrev IsE := IsRow ER.cs goodE
set_option maxRecDepth 100000 in
theorem openEs {H : Type} {enc : TypeId × Value → H} {w : World} {fuel : Nat} {a : Option Addr} {len cap : Nat} {x : DataW H × List MemPlace}
  (h : DataW.trod enc Tryz.prog w 0 (fun _ => true) true fuel 45 (Value.slice a len cap).cells.toList = some x) : ∃ rs, IsE w a len cap rs := by
 refine openRow ER.three (by decide) Tryz.underlying45 (by kernel_rfl) (fun n cs y hy => ?_) h
 obtain ⟨n', hl, hf⟩ := trod_nest Tryz.underlying125 hy
 replace hl : cs.length = 3 := hl
 match cs, hl with
 | [c0, c1, c2], _ =>
  obtain ⟨_, t0⟩ := hf 0 _ rfl
  obtain ⟨_, t1⟩ := hf 1 _ rfl
  obtain ⟨_, t2⟩ := hf 2 _ rfl
  obtain ⟨x0, e0, _, w0⟩ := DataW.trod_int Tryz.underlying3 t0
  obtain ⟨x1, e1, _, w1⟩ := DataW.trod_int Tryz.underlying3 t1
  obtain ⟨x2, e2, _, w2⟩ := DataW.trod_int Tryz.underlying3 t2
  obtain rfl : c0 = .int .i64 x0 := (List.cons.inj e0).1
  obtain rfl : c1 = .int .i64 x1 := (List.cons.inj e1).1
  obtain rfl : c2 = .int .i64 x2 := (List.cons.inj e2).1
  exact ⟨⟨x0, x1, x2⟩, rfl, w0, w1, w2⟩
end Go.Proofs.YtkkimgjcefojdaaGreatDoor
namespace Go.Proofs.YtkkimgjcefojdaaGreatDoor
open Go.Joins Go.ChangeShapes Go.WideShapes Go.RowKit Go.Deep Go.Lib

/-- What is known of a link that came in. -/
def LawL (W : World) (m ip : Int) (a : Option Addr) (len cap : Nat) (rs : List ER) : Prop := (Lit.int .i64 m).wf = true ∧ (Lit.int .i64 ip).wf = true ∧ IsE W a len cap rs
set_option maxRecDepth 100000 in
theorem argLink {H : Type} {enc : TypeId × Value → H} {W : World} {r : Reach} {b0 : Nat} {v : Value} {d : DataW H} {p : List MemPlace}
  (hv : Value.okWide Tryz.prog W r b0 47 v) (h : DataW.Trod enc Tryz.prog W 0 (fun _ => true) true 47 v d p) :
  ∃ m ip a len cap rs, v = .agg #[.int .i64 m, .int .i64 ip, .slice a len cap] ∧ LawL W m ip a len cap rs := by
 obtain ⟨cs, n, rfl, hl, hf⟩ := open_flat Tryz.underlying47 (by kernel_rfl) (by kernel_rfl) hv h
 match cs, hl with
 | [c0, c1, c2], _ =>
  obtain ⟨_, t0⟩ := hf 0 _ rfl
  obtain ⟨_, t1⟩ := hf 1 _ rfl
  obtain ⟨_, t2⟩ := hf 2 _ rfl
  obtain ⟨m, e0, _, w0⟩ := DataW.trod_int Tryz.underlying3 t0
  obtain rfl : c0 = .int .i64 m := (List.cons.inj e0).1
  obtain ⟨ip, e1, _, w1⟩ := DataW.trod_int Tryz.underlying3 t1
  obtain rfl : c1 = .int .i64 ip := (List.cons.inj e1).1
  obtain ⟨a, len, cap, rfl⟩ : ∃ a len cap, c2 = .slice a len cap := by
   rcases open_slice Tryz.underlying45 t2 with ⟨hcs, _⟩ | ⟨ad, l', c, _, _, _, _, hcs, _⟩
   ·exact ⟨_, _, _, (List.cons.inj hcs).1⟩
   ·exact ⟨_, _, _, (List.cons.inj hcs).1⟩
  obtain ⟨rs, hrs⟩ := openEs t2
  exact ⟨m, ip, a, len, cap, rs, rfl, w0, w1, hrs⟩
end Go.Proofs.YtkkimgjcefojdaaGreatDoor
namespace Go.Proofs.YtkkimgjcefojdaaGreatDoor
open Go.RowKit Go.Lib

theorem eqPacket_self (s : Int) (d : Int) (t : Int) (p : Int) (i : Int) (b : ByteArray) (w : World) :
  Calls Tryz.prog 23 #[.agg #[.int .i64 s, .int .i64 d, .int .i64 t, .int .i64 p, .int .i64 i, .string b], .agg #[.int .i64 s, .int .i64 d, .int .i64 t, .int .i64 p, .int .i64 i, .string b]] w fun e w' => e = .returned (.bool true) ∧ Below w.heap.size w w' := by
 go_enter Tryz.func23, Tryz.ntmps23
 go_wp2
 go_ret
 exact ⟨rfl, ((Below.refl _ _).alloc (Nat.le_refl _) _).alloc (by simp) _⟩
end Go.Proofs.YtkkimgjcefojdaaGreatDoor
