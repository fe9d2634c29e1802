/- Texts of a proof that belong together, joined. Nothing here is a claim. -/
import Derived.Deep.RegionHeld3
import Derived.LaidEql
import Derived.Stop.Asserts
import Derived.RowKitTokens
import Derived.Test.YtkkimgjcefojdaaGreatDoorPkLk1
namespace Go.Proofs.YtkkimgjcefojdaaGreatDoor
open Go.RowKit Go.Lib

set_option maxHeartbeats 1000000 in
theorem frameOkS (d s t : Int) (b : ByteArray) (w : World) :
  Calls Tryz.prog 86 #[.agg #[.int .i64 d, .int .i64 s, .int .i64 t, .string b]] w fun e w' => e = .returned (.bool (frameOk d s t b)) ∧ Below w.heap.size w w' := by
 have C1 := Lib.hid (fun w => wordOkS d 48 w)
 have C2 := Lib.hid (fun w => wordOkS s 48 w)
 have C3 := Lib.hid (fun w => l1In_any t 1536 65535 w)
 have D : Hid (frameOk d s t b = (wordOk d 48 && wordOk s 48 && decide (1536 ≤ t ∧ t ≤ 65535) && decide (b.size ≤ 1586))) := rfl
 obtain ⟨p, hp⟩ : ∃ p, wordOk d 48 = p := ⟨_, rfl⟩
 obtain ⟨q, hq⟩ : ∃ q, wordOk s 48 = q := ⟨_, rfl⟩
 obtain ⟨r, hr⟩ : ∃ r, decide (1536 ≤ t ∧ t ≤ 65535) = r := ⟨_, rfl⟩
 rw [hp] at C1 D
 rw [hq] at C2 D
 rw [hr] at C3 D
 rw [D.out]
 clear hp hq hr D
 cases p with
 | false =>
  go_enter Tryz.func86, Tryz.ntmps86
  go_wp2_with fail
  refine (C1.out _).mono ?_
  rintro e w1 ⟨rfl, rfl⟩
  go_wp2_with fail
  go_ret
  exact ⟨rfl, (Below.refl _ _).alloc (Nat.le_refl _) _⟩
 | true =>
  cases q with
  | false =>
   go_enter Tryz.func86, Tryz.ntmps86
   go_wp2_with fail
   refine (C1.out _).mono ?_
   rintro e w1 ⟨rfl, rfl⟩
   go_wp2_with fail
   refine (C2.out _).mono ?_
   rintro e w1 ⟨rfl, rfl⟩
   go_wp2_with fail
   go_ret
   exact ⟨rfl, (Below.refl _ _).alloc (Nat.le_refl _) _⟩
  | true =>
   cases r with
   | false =>
    go_enter Tryz.func86, Tryz.ntmps86
    go_wp2_with fail
    refine (C1.out _).mono ?_
    rintro e w1 ⟨rfl, rfl⟩
    go_wp2_with fail
    refine (C2.out _).mono ?_
    rintro e w1 ⟨rfl, rfl⟩
    go_wp2_with fail
    refine (C3.out _).mono ?_
    rintro e w1 ⟨rfl, rfl⟩
    go_wp2_with fail
    go_ret
    exact ⟨rfl, (Below.refl _ _).alloc (Nat.le_refl _) _⟩
   | true =>
    go_enter Tryz.func86, Tryz.ntmps86
    go_wp2_with fail
    refine (C1.out _).mono ?_
    rintro e w1 ⟨rfl, rfl⟩
    go_wp2_with fail
    refine (C2.out _).mono ?_
    rintro e w1 ⟨rfl, rfl⟩
    go_wp2_with fail
    refine (C3.out _).mono ?_
    rintro e w1 ⟨rfl, rfl⟩
    go_wp2_with fail
    go_ret
    exact ⟨ret_bool (by simp only [Bool.true_and]; rw [decide_eq_decide]; omega), (Below.refl _ _).alloc (Nat.le_refl _) _⟩

set_option maxHeartbeats 1000000 in
theorem frameOkI (d s t : Int) (b : ByteArray) (w : World) :
  Calls Tryz.prog 92 #[.agg #[.int .i64 d, .int .i64 s, .int .i64 t, .string b]] w fun e w' => e = .returned (.bool (frameOk d s t b)) ∧ Below w.heap.size w w' := by
 have C1 := Lib.hid (fun w => wordOkI d 48 w)
 have C2 := Lib.hid (fun w => wordOkI s 48 w)
 have D : Hid (frameOk d s t b = (wordOk d 48 && wordOk s 48 && decide (1536 ≤ t ∧ t ≤ 65535) && decide (b.size ≤ 1586))) := rfl
 obtain ⟨p, hp⟩ : ∃ p, wordOk d 48 = p := ⟨_, rfl⟩
 obtain ⟨q, hq⟩ : ∃ q, wordOk s 48 = q := ⟨_, rfl⟩
 rw [hp] at C1 D
 rw [hq] at C2 D
 rw [D.out]
 clear hp hq D
 cases p with
 | false =>
  go_enter Tryz.func92, Tryz.ntmps92
  go_wp2_with fail
  refine (C1.out _).mono ?_
  rintro e w1 ⟨rfl, rfl⟩
  go_wp2_with fail
  go_ret
  exact ⟨rfl, (Below.refl _ _).alloc (Nat.le_refl _) _⟩
 | true =>
  cases q with
  | false =>
   go_enter Tryz.func92, Tryz.ntmps92
   go_wp2_with fail
   refine (C1.out _).mono ?_
   rintro e w1 ⟨rfl, rfl⟩
   go_wp2_with fail
   refine (C2.out _).mono ?_
   rintro e w1 ⟨rfl, rfl⟩
   go_wp2_with fail
   go_ret
   exact ⟨rfl, (Below.refl _ _).alloc (Nat.le_refl _) _⟩
  | true =>
   by_cases h : 1536 ≤ t
   ·have C3 := Lib.hid (fun w => wordOkI t 16 w)
    rw [type_word t h] at C3
    obtain ⟨r, hr⟩ : ∃ r, decide (1536 ≤ t ∧ t ≤ 65535) = r := ⟨_, rfl⟩
    rw [hr] at C3
    rw [hr]
    clear hr
    cases r with
    | false =>
     go_enter Tryz.func92, Tryz.ntmps92
     go_wp2_with fail
     refine (C1.out _).mono ?_
     rintro e w1 ⟨rfl, rfl⟩
     go_wp2_with fail
     refine (C2.out _).mono ?_
     rintro e w1 ⟨rfl, rfl⟩
     go_wp2_with fail
     refine (C3.out _).mono ?_
     rintro e w1 ⟨rfl, rfl⟩
     go_wp2_with fail
     go_ret
     exact ⟨rfl, (Below.refl _ _).alloc (Nat.le_refl _) _⟩
    | true =>
     go_enter Tryz.func92, Tryz.ntmps92
     go_wp2_with fail
     refine (C1.out _).mono ?_
     rintro e w1 ⟨rfl, rfl⟩
     go_wp2_with fail
     refine (C2.out _).mono ?_
     rintro e w1 ⟨rfl, rfl⟩
     go_wp2_with fail
     refine (C3.out _).mono ?_
     rintro e w1 ⟨rfl, rfl⟩
     go_wp2_with fail
     go_ret
     exact ⟨ret_bool (by simp only [Bool.true_and]; rw [decide_eq_decide]; omega), (Below.refl _ _).alloc (Nat.le_refl _) _⟩
   ·rw [decide_eq_false (show ¬ (1536 ≤ t ∧ t ≤ 65535) by omega)]
    go_enter Tryz.func92, Tryz.ntmps92
    go_wp2_with fail
    refine (C1.out _).mono ?_
    rintro e w1 ⟨rfl, rfl⟩
    go_wp2_with fail
    refine (C2.out _).mono ?_
    rintro e w1 ⟨rfl, rfl⟩
    go_wp2_with fail
    go_ret
    exact ⟨rfl, (Below.refl _ _).alloc (Nat.le_refl _) _⟩
end Go.Proofs.YtkkimgjcefojdaaGreatDoor
namespace Go.Proofs.YtkkimgjcefojdaaGreatDoor
open Go.RowKit Go.Lib

set_option maxHeartbeats 400000 in
theorem putWordI (n s : Int) (w : World) :
  Calls Tryz.prog 90 #[.int .i64 n, .int .i64 s] w fun e w' => e = .returned (.string (putW n s)) ∧ Below w.heap.size w w' := by
 obtain ⟨i0, hi, hz0, hz1, hz2⟩ := info_parts Tryz.info5
 by_cases h : 1 ≤ s ∧ s ≤ 6
 ·have C1 := Lib.hid (fun w => (sizeOkI s w).mono fun _ _ ⟨a, b⟩ => (⟨a.trans (ret_bool (decide_eq_true h)), b⟩ : _ = Ending.returned (.bool true) ∧ w = _))
  obtain ⟨c, hc⟩ : ∃ c, wordOk n (8 * s) = c := ⟨_, rfl⟩
  have C2 := Lib.hid (fun w => wordOkI n (8 * s) w)
  rw [hc] at C2
  cases c with
  | false =>
   rw [putW_ok n s h hc]
   clear hc
   obtain ⟨h1, h2⟩ := h
   go_enter Tryz.func90, Tryz.ntmps90
   go_wp2_with fail
   refine (C1.out _).mono ?_
   rintro e w1 ⟨rfl, rfl⟩
   go_wp2_with fail
   refine (C2.out _).mono ?_
   rintro e w1 ⟨rfl, rfl⟩
   go_wp2_with fail
   go_ret
   exact ⟨rfl, Below.refl _ _⟩
  | true =>
   rw [putW_yes n s h hc]
   have hn : 0 ≤ n := (of_decide_eq_true hc).2.1
   clear hc
   obtain ⟨h1, h2⟩ := h
   obtain ⟨m, rfl⟩ : ∃ m : Nat, n = (m : Int) := ⟨n.toNat, by omega⟩
   obtain ⟨k, rfl⟩ : ∃ k : Nat, s = (k : Int) := ⟨s.toNat, by omega⟩
   simp only [Int.toNat_natCast]
   go_enter Tryz.func90, Tryz.ntmps90
   go_wp2_with fail
   refine (C1.out _).mono ?_
   rintro e w1 ⟨rfl, rfl⟩
   go_wp2_with fail
   refine (C2.out _).mono ?_
   rintro e w1 ⟨rfl, rfl⟩
   go_wp2_with (at_make; refine wpList_make_full _ rfl _ _ _ rfl w.heap.size 5 i0 _ 1 Tryz.underlying22 hi hz0 hz1 _ _ _ _ k rfl rfl rfl rfl (by rw [hz2]; omega) (by unfold maxLen; omega) (Nat.le_refl _) ?_; intro w1 hown hgrow)
   go_loopw [20] (fun i wr => ∃ (j : Nat) (xs : List Value), j ≤ k ∧ i = .int .i64 j ∧ Fill xs m k (· < j) ∧ wr.ownsRow w.heap.size 5 1 (.slice (some ⟨w.heap.size, 0, none⟩) k k) k xs ∧ Below w.heap.size w wr)
    (fun i _ => k - (RowKit.intOf i).toNat)
   case atStart => exact ⟨0, _, Nat.zero_le _, rfl, Fill.made m k _ _ (fun _ _ h => by omega), hown, below_made hgrow⟩
   case round =>
    clear hown hgrow
    obtain ⟨j, xs, hj, rfl, hf, hown, hb⟩ := hrel
    by_cases hlt : j < k
    ·have hfz := hown.frozenAt j
     obtain ⟨v, hv⟩ := hf.at j hlt
     have hcell := (hown.cellAt j (by omega)).trans hv
     have hmin : min (8 * ((k : Int) - 1 - j)).toNat 64 = 8 * (k - 1 - j) := by omega
     have F := Lib.hid hf
     have O := Lib.hid hown
     have B := Lib.hid hb
     clear hf hown hb hv
     go_wp2_with fail
     go_roundw
     case rel => exact ⟨j + 1, _, by omega, by go_num, F.out.set (put_shift' m k j) hlt (fun i hi => by omega), (O.out.stored j _).1, B.out.setCell (p := ⟨w.heap.size, j, none⟩) (Nat.le_refl _) _⟩
     case measure => simp [RowKit.intOf]; omega
    ·obtain rfl := hf.all (fun i hi => by omega)
     have hcv := run_string_own (P := Tryz.prog) Tryz.underlying22 Tryz.underlying5 Tryz.underlying9 hown
     clear hf
     go_wp2_with fail
     go_ret
     exact ⟨rfl, hb⟩
 ·rw [putW_no n s h]
  have C1 := Lib.hid (fun w => (sizeOkI s w).mono fun _ _ ⟨a, b⟩ => (⟨a.trans (ret_bool (decide_eq_false h)), b⟩ : _ = Ending.returned (.bool false) ∧ w = _))
  clear h
  go_enter Tryz.func90, Tryz.ntmps90
  go_wp2_with fail
  refine (C1.out _).mono ?_
  rintro e w1 ⟨rfl, rfl⟩
  go_wp2_with fail
  go_ret
  exact ⟨rfl, Below.refl _ _⟩
end Go.Proofs.YtkkimgjcefojdaaGreatDoor
namespace Go.Proofs.YtkkimgjcefojdaaGreatDoor
open Go.RowKit Go.Lib

set_option maxHeartbeats 400000 in
theorem putWordS (n s : Int) (w : World) :
  Calls Tryz.prog 87 #[.int .i64 n, .int .i64 s] w fun e w' => e = .returned (.string (putW n s)) ∧ Below w.heap.size w w' := by
 obtain ⟨i0, hi, hz0, hz1, hz2⟩ := info_parts Tryz.info5
 by_cases h : 1 ≤ s ∧ s ≤ 6
 ·have C1 := Lib.hid (fun w => (l1In_any s 1 6 w).mono fun _ _ ⟨a, b⟩ => (⟨a.trans (ret_bool (decide_eq_true h)), b⟩ : _ = Ending.returned (.bool true) ∧ w = _))
  obtain ⟨c, hc⟩ : ∃ c, wordOk n (8 * s) = c := ⟨_, rfl⟩
  have C2 := Lib.hid (fun w => wordOkS n (8 * s) w)
  rw [hc] at C2
  cases c with
  | false =>
   rw [putW_ok n s h hc]
   clear hc
   obtain ⟨h1, h2⟩ := h
   go_enter Tryz.func87, Tryz.ntmps87
   go_wp2_with fail
   refine (C1.out _).mono ?_
   rintro e w1 ⟨rfl, rfl⟩
   go_wp2_with fail
   refine (C2.out _).mono ?_
   rintro e w1 ⟨rfl, rfl⟩
   go_wp2_with fail
   go_ret
   exact ⟨rfl, Below.refl _ _⟩
  | true =>
   rw [putW_yes n s h hc]
   obtain ⟨hn, hn2⟩ := wordOk_bd hc
   clear hc
   obtain ⟨h1, h2⟩ := h
   obtain ⟨m, rfl⟩ : ∃ m : Nat, n = (m : Int) := ⟨n.toNat, by omega⟩
   obtain ⟨k, rfl⟩ : ∃ k : Nat, s = (k : Int) := ⟨s.toNat, by omega⟩
   simp only [Int.toNat_natCast]
   go_enter Tryz.func87, Tryz.ntmps87
   go_wp2_with fail
   refine (C1.out _).mono ?_
   rintro e w1 ⟨rfl, rfl⟩
   go_wp2_with fail
   refine (C2.out _).mono ?_
   rintro e w1 ⟨rfl, rfl⟩
   go_wp2_with (at_make; refine wpList_make_full _ rfl _ _ _ rfl w.heap.size 5 i0 _ 1 Tryz.underlying22 hi hz0 hz1 _ _ _ _ k rfl rfl rfl rfl (by rw [hz2]; omega) (by unfold maxLen; omega) (Nat.le_refl _) ?_; intro w1 hown hgrow)
   go_loopw [0, 6] (fun n i wr => ∃ (q : Nat) (xs : List Value), n = .int .i64 q ∧ q ≤ m ∧ wr.ownsRow w.heap.size 5 1 (.slice (some ⟨w.heap.size, 0, none⟩) k k) k xs ∧ Below w.heap.size w wr ∧
     ((∃ j : Nat, j < k ∧ i = .int .i64 j ∧ Hid (q = m / 256 ^ (k - 1 - j)) ∧ Fill xs m k (j < ·)) ∨ (i = .int .i64 (-1) ∧ Fill xs m k (fun _ => True))))
    (fun _ i _ => (RowKit.intOf i + 1).toNat)
   case atStart => exact ⟨m, _, rfl, Nat.le_refl _, hown, below_made hgrow, .inl ⟨k - 1, by omega, by go_num, by show m = _; simp, Fill.made m k _ _ (fun _ _ h => by omega)⟩⟩
   case round =>
    clear hown hgrow
    obtain ⟨q, xs, rfl, hq, hown, hb, (⟨j, hlt, rfl, hqj, hf⟩ | ⟨rfl, hf⟩)⟩ := hrel
    ·have hfz := hown.frozenAt j
     obtain ⟨v, hv⟩ := hf.at j hlt
     have hcell := (hown.cellAt j (by omega)).trans hv
     have F := Lib.hid hf
     have O := Lib.hid hown
     have B := Lib.hid hb
     clear hf hown hb hv
     go_wp2_with fail
     go_roundw
     case rel =>
      refine ⟨q / 256, _, by go_num, by omega, (O.out.stored j _).1, B.out.setCell (p := ⟨w.heap.size, j, none⟩) (Nat.le_refl _) _, ?_⟩
      have hx : (q : Int) % 256 = ((wbAt m k j).toNat : Int) := by rw [hqj.out]; exact put_rem m k j
      cases j with
      | zero => exact .inr ⟨rfl, F.out.set hx hlt (fun i _ => by omega)⟩
      | succ i => exact .inl ⟨i, by omega, by go_num, by show q / 256 = _; rw [hqj.out]; exact put_next m k i hlt, F.out.set hx hlt (fun i hi => by omega)⟩
     case measure => simp [RowKit.intOf]
    ·obtain rfl := hf.all (fun i hi => trivial)
     have hcv := run_string_own (P := Tryz.prog) Tryz.underlying22 Tryz.underlying5 Tryz.underlying9 hown
     clear hf
     go_wp2_with fail
     go_ret
     exact ⟨rfl, hb⟩
 ·rw [putW_no n s h]
  have C1 := Lib.hid (fun w => (l1In_any s 1 6 w).mono fun _ _ ⟨a, b⟩ => (⟨a.trans (ret_bool (decide_eq_false h)), b⟩ : _ = Ending.returned (.bool false) ∧ w = _))
  clear h
  go_enter Tryz.func87, Tryz.ntmps87
  go_wp2_with fail
  refine (C1.out _).mono ?_
  rintro e w1 ⟨rfl, rfl⟩
  go_wp2_with fail
  go_ret
  exact ⟨rfl, Below.refl _ _⟩
end Go.Proofs.YtkkimgjcefojdaaGreatDoor
namespace Go.Proofs.YtkkimgjcefojdaaGreatDoor
open Go.RowKit Go.Lib

set_option maxRecDepth 100000 in
set_option maxHeartbeats 2000000 in
theorem frameTextS (d s t : Int) (b : ByteArray) (w : World) :
  Calls Tryz.prog 44 #[.agg #[.int .i64 d, .int .i64 s, .int .i64 t, .string b]] w fun e w' => e = .returned (.string (frameText d s t b)) ∧ Below w.heap.size w w' := by
 have C1 := Lib.hid (frameOkS d s t b)
 obtain ⟨o, ho⟩ : ∃ o, frameOk d s t b = o := ⟨_, rfl⟩
 rw [ho] at C1
 unfold frameText
 rw [ho]
 cases o with
 | false =>
  clear ho
  go_enter Tryz.func44, Tryz.ntmps44
  go_wp2_with fail
  refine (C1.out _).mono ?_
  rintro e w1 ⟨rfl, hb1⟩
  have B1 := Lib.hid (((Below.refl w.heap.size w).alloc (Nat.le_refl _) _).trans (hb1.mono (by simp)))
  clear hb1
  go_wp2_with fail
  go_ret
  exact ⟨rfl, B1.out⟩
 | true =>
  have hz := frameOk_body ho
  have P1 := Lib.hid (putWordS d 6)
  have P2 := Lib.hid (putWordS s 6)
  have P3 := Lib.hid (putWordS t 2)
  obtain ⟨x, hx⟩ : ∃ x, putW d 6 = x := ⟨_, rfl⟩
  obtain ⟨y, hy⟩ : ∃ y, putW s 6 = y := ⟨_, rfl⟩
  obtain ⟨z, hz'⟩ : ∃ z, putW t 2 = z := ⟨_, rfl⟩
  have zx := putW_le d 6
  have zy := putW_le s 6
  have zz := putW_le t 2
  rw [hx] at P1 zx
  rw [hy] at P2 zy
  rw [hz'] at P3 zz
  rw [hx, hy, hz', if_pos rfl]
  have m1 : ¬ 9223372036854775807 < x.size + y.size := by omega
  have m2 : ¬ 9223372036854775807 < x.size + y.size + z.size := by omega
  have m3 : ¬ 9223372036854775807 < x.size + y.size + z.size + b.size := by omega
  clear ho hx hy hz' zx zy zz hz
  go_enter Tryz.func44, Tryz.ntmps44
  go_wp2_with fail
  refine (C1.out _).mono ?_
  rintro e w1 ⟨rfl, hb1⟩
  have B1 := Lib.hid (((Below.refl w.heap.size w).alloc (Nat.le_refl _) _).trans (hb1.mono (by simp)))
  have K1 := Lib.hid ((HasC.new w #[.int .i64 d, .int .i64 s, .int .i64 t, .string b] 38).keep hb1)
  clear hb1
  obtain ⟨c0, c1, c2, c3⟩ := K1.out.four
  have hg := K1.out.1
  go_wp2_with fail
  go_region_held3 (fun w' => w.heap.size < w'.heap.size ∧ w'.cell? ⟨w.heap.size, 0, none⟩ = some (.int .i64 d) ∧ w'.cell? ⟨w.heap.size, 1, none⟩ = some (.int .i64 s) ∧ w'.cell? ⟨w.heap.size, 2, none⟩ = some (.int .i64 t) ∧ w'.cell? ⟨w.heap.size, 3, none⟩ = some (.string b))
   (first | (exact keep4 (by assumption) hb4) | (exact keep4 (by assumption) hb3) | (exact keep4 (by assumption) hb2) | go_keep)
   ((go_at_call 87; first | ((with_reducible refine (P1.out _).mono ?_); rintro e w2 ⟨rfl, hb2⟩) | ((with_reducible refine (P2.out _).mono ?_); rintro e w3 ⟨rfl, hb3⟩) | ((with_reducible refine (P3.out _).mono ?_); rintro e w4 ⟨rfl, hb4⟩)))
  have B2 := Lib.hid (B1.out.drew.trans (hb2.mono B1.out.size))
  have B3 := Lib.hid (B2.out.trans (hb3.mono B2.out.size))
  have B4 := Lib.hid (B3.out.trans (hb4.mono B3.out.size))
  clear hb2 hb3 hb4 c0 c1 c2 c3
  go_wp2_with fail
  go_ret
  exact ⟨rfl, B4.out⟩

set_option maxRecDepth 100000 in
set_option maxHeartbeats 2000000 in
theorem frameTextI (d s t : Int) (b : ByteArray) (w : World) :
  Calls Tryz.prog 52 #[.agg #[.int .i64 d, .int .i64 s, .int .i64 t, .string b]] w fun e w' => e = .returned (.string (frameText d s t b)) ∧ Below w.heap.size w w' := by
 have C1 := Lib.hid (frameOkI d s t b)
 obtain ⟨o, ho⟩ : ∃ o, frameOk d s t b = o := ⟨_, rfl⟩
 rw [ho] at C1
 unfold frameText
 rw [ho]
 cases o with
 | false =>
  clear ho
  go_enter Tryz.func52, Tryz.ntmps52
  go_wp2_with fail
  refine (C1.out _).mono ?_
  rintro e w1 ⟨rfl, hb1⟩
  have B1 := Lib.hid (((Below.refl w.heap.size w).alloc (Nat.le_refl _) _).trans (hb1.mono (by simp)))
  clear hb1
  go_wp2_with fail
  go_ret
  exact ⟨rfl, B1.out⟩
 | true =>
  have hz := frameOk_body ho
  have P1 := Lib.hid (putWordI d 6)
  have P2 := Lib.hid (putWordI s 6)
  have P3 := Lib.hid (putWordI t 2)
  obtain ⟨x, hx⟩ : ∃ x, putW d 6 = x := ⟨_, rfl⟩
  obtain ⟨y, hy⟩ : ∃ y, putW s 6 = y := ⟨_, rfl⟩
  obtain ⟨z, hz'⟩ : ∃ z, putW t 2 = z := ⟨_, rfl⟩
  have zx := putW_le d 6
  have zy := putW_le s 6
  have zz := putW_le t 2
  rw [hx] at P1 zx
  rw [hy] at P2 zy
  rw [hz'] at P3 zz
  rw [hx, hy, hz', if_pos rfl]
  have m1 : ¬ 9223372036854775807 < x.size + y.size := by omega
  have m2 : ¬ 9223372036854775807 < x.size + y.size + z.size := by omega
  have m3 : ¬ 9223372036854775807 < x.size + y.size + z.size + b.size := by omega
  clear ho hx hy hz' zx zy zz hz
  go_enter Tryz.func52, Tryz.ntmps52
  go_wp2_with fail
  refine (C1.out _).mono ?_
  rintro e w1 ⟨rfl, hb1⟩
  have B1 := Lib.hid (((Below.refl w.heap.size w).alloc (Nat.le_refl _) _).trans (hb1.mono (by simp)))
  have K1 := Lib.hid ((HasC.new w #[.int .i64 d, .int .i64 s, .int .i64 t, .string b] 38).keep hb1)
  clear hb1
  obtain ⟨c0, c1, c2, c3⟩ := K1.out.four
  have hg := K1.out.1
  go_wp2_with fail
  go_region_held3 (fun w' => w.heap.size < w'.heap.size ∧ w'.cell? ⟨w.heap.size, 0, none⟩ = some (.int .i64 d) ∧ w'.cell? ⟨w.heap.size, 1, none⟩ = some (.int .i64 s) ∧ w'.cell? ⟨w.heap.size, 2, none⟩ = some (.int .i64 t) ∧ w'.cell? ⟨w.heap.size, 3, none⟩ = some (.string b))
   (first | (exact keep4 (by assumption) hb4) | (exact keep4 (by assumption) hb3) | (exact keep4 (by assumption) hb2) | go_keep)
   ((go_at_call 90; first | ((with_reducible refine (P1.out _).mono ?_); rintro e w2 ⟨rfl, hb2⟩) | ((with_reducible refine (P2.out _).mono ?_); rintro e w3 ⟨rfl, hb3⟩) | ((with_reducible refine (P3.out _).mono ?_); rintro e w4 ⟨rfl, hb4⟩)))
  have B2 := Lib.hid (B1.out.drew.trans (hb2.mono B1.out.size))
  have B3 := Lib.hid (B2.out.trans (hb3.mono B2.out.size))
  have B4 := Lib.hid (B3.out.trans (hb4.mono B3.out.size))
  clear hb2 hb3 hb4 c0 c1 c2 c3
  go_wp2_with fail
  go_ret
  exact ⟨rfl, B4.out⟩
end Go.Proofs.YtkkimgjcefojdaaGreatDoor
namespace Go.Proofs.YtkkimgjcefojdaaGreatDoor
open Go.RowKit Go.Lib

set_option maxHeartbeats 400000 in
theorem getWordI (s : ByteArray) (a n : Int) (w : World) (hs : s.size ≤ 1048576) (ha : -9223372036854775808 ≤ a ∧ a ≤ 9223372036854775807) :
  Calls Tryz.prog 103 #[.string s, .int .i64 a, .int .i64 n] w fun e w' => e = .returned (.tuple #[.int .i64 (getW s a n).1, .bool (getW s a n).2]) ∧ w = w' := by
 obtain ⟨ha1, ha2⟩ := ha
 by_cases h : 1 ≤ n ∧ n ≤ 6
 ·have C1 := Lib.hid (fun w => (sizeOkI n w).mono fun _ _ ⟨a, b⟩ => (⟨a.trans (ret_bool (decide_eq_true h)), b⟩ : _ = Ending.returned (.bool true) ∧ w = _))
  by_cases h2 : 0 ≤ a
  ·by_cases h3 : a ≤ s.size - n
   ·obtain ⟨hn1, hn2⟩ := h
    obtain ⟨k, rfl⟩ : ∃ k : Nat, n = (k : Int) := ⟨n.toNat, by omega⟩
    obtain ⟨at', rfl⟩ : ∃ k : Nat, a = (k : Int) := ⟨a.toNat, by omega⟩
    rw [getW_yes s at' k (by omega) (by omega)]
    go_enter Tryz.func103, Tryz.ntmps103
    go_wp2_with fail
    refine (C1.out _).mono ?_
    rintro e w1 ⟨rfl, rfl⟩
    go_wp2_with fail
    go_loop [8, 26] (fun x i => ∃ (j q : Nat), j ≤ k ∧ i = .int .i64 j ∧ x = .int .i64 q ∧ Hid (q = gw s at' j))
     (fun _ i => k - (RowKit.intOf i).toNat)
    case atStart => exact ⟨0, 0, Nat.zero_le _, rfl, rfl, rfl⟩
    case round =>
     obtain ⟨j, q, hj, rfl, rfl, hq⟩ := hrel
     by_cases hlt : j < k
     ·have hqb : q ≤ 1099511627775 := by rw [hq.out]; exact gw_bd5 s at' j (by omega)
      have hin : at' + j < s.size := by omega
      have hor := or_byte q s[at' + j].toNat hqb s[at' + j].toNat_lt
      have h8 : s[at' + j].toNat < 256 := s[at' + j].toNat_lt
      have E : Hid (256 * q + s[at' + j].toNat = gw s at' (j + 1)) := by show _ = _; rw [hq.out, at8_eq s (at' + j) hin]; rfl
      go_wp2_with fail
      go_round
      case rel => exact ⟨j + 1, _, by omega, by go_num, by go_num, E⟩
      case measure => simp [RowKit.intOf]; omega
     ·obtain rfl : j = k := by omega
      go_wp2_with fail
      go_ret2
      rw [hq.out]
      exact ⟨rfl, rfl⟩
   ·rw [getW_no2 s a n (fun hh => h3 hh.2)]
    obtain ⟨hn1, hn2⟩ := h
    go_enter Tryz.func103, Tryz.ntmps103
    go_wp2_with fail
    refine (C1.out _).mono ?_
    rintro e w1 ⟨rfl, rfl⟩
    go_wp2_with fail
    go_ret2
    exact ⟨rfl, rfl⟩
  ·rw [getW_no2 s a n (fun hh => h2 hh.1)]
   obtain ⟨hn1, hn2⟩ := h
   go_enter Tryz.func103, Tryz.ntmps103
   go_wp2_with fail
   refine (C1.out _).mono ?_
   rintro e w1 ⟨rfl, rfl⟩
   go_wp2_with fail
   go_ret2
   exact ⟨rfl, rfl⟩
 ·rw [getW_no s a n h]
  have C1 := Lib.hid (fun w => (sizeOkI n w).mono fun _ _ ⟨a, b⟩ => (⟨a.trans (ret_bool (decide_eq_false h)), b⟩ : _ = Ending.returned (.bool false) ∧ w = _))
  clear h
  go_enter Tryz.func103, Tryz.ntmps103
  go_wp2_with fail
  refine (C1.out _).mono ?_
  rintro e w1 ⟨rfl, rfl⟩
  go_wp2_with fail
  go_ret2
  exact ⟨rfl, rfl⟩
theorem get3I (s : ByteArray) (a n : Nat) (w : World) (hs : s.size ≤ 1048576) (hn : 1 ≤ n ∧ n ≤ 6) (h : a + n ≤ s.size) :
  Calls Tryz.prog 103 #[.string s, .int .i64 a, .int .i64 n] w fun e w' => e = .returned (.tuple #[.int .i64 (gw s a n : Nat), .bool true]) ∧ w = w' := by
 have := getWordI s a n w hs (by omega)
 rw [getW_yes s a n hn h] at this; exact this
end Go.Proofs.YtkkimgjcefojdaaGreatDoor
namespace Go.Proofs.YtkkimgjcefojdaaGreatDoor
open Go.RowKit Go.Lib

theorem bcell {W w1 : World} (hb : Below W.heap.size W w1) : (∀ b o, b < W.heap.size → w1.cell? ⟨b, o, none⟩ = W.cell? ⟨b, o, none⟩) ∧ (∀ b o, b < W.heap.size → w1.frozen? ⟨b, o, none⟩ = W.frozen? ⟨b, o, none⟩) :=
 ⟨fun b o h => hb.cell (p := ⟨b, o, none⟩) h, fun b o h => hb.frozen (p := ⟨b, o, none⟩) h⟩



set_option maxRecDepth 100000 in
set_option maxHeartbeats 2000000 in
theorem readFrameI_short (s : ByteArray) (w : World) (h : s.size < 14) :
  Calls Tryz.prog 69 #[.string s] w fun e w' => e = .returned (.tuple #[.agg #[.int .i64 0, .int .i64 0, .int .i64 0, .string ⟨#[]⟩], .bool false]) ∧ Below w.heap.size w w' := by
 go_enter Tryz.func69, Tryz.ntmps69
 go_wp2
 exact bodyPost_ret (v := .tuple #[.agg #[.int .i64 0, .int .i64 0, .int .i64 0, .string ⟨#[]⟩], .bool false]) (by simp [results, Tryz.results69, go_sem]) rfl ⟨rfl, (Below.refl _ _).alloc (Nat.le_refl _) _⟩

set_option maxRecDepth 100000 in
set_option maxHeartbeats 4000000 in
theorem readFrameI_no (s : ByteArray) (w : World) (hs : s.size ≤ 1048576) (h : 14 ≤ s.size) (hr : readOk s = false) :
  Calls Tryz.prog 69 #[.string s] w fun e w' => e = .returned (.tuple #[.agg #[.int .i64 0, .int .i64 0, .int .i64 0, .string ⟨#[]⟩], .bool false]) ∧ Below w.heap.size w w' := by
 have G0 := Lib.hid (fun w => get3I s 0 6 w hs (by omega) (by omega))
 have G1 := Lib.hid (fun w => get3I s 6 6 w hs (by omega) (by omega))
 have G2 := Lib.hid (fun w => get3I s 12 2 w hs (by omega) (by omega))
 have C := Lib.hid (frameOkI (gw s 0 6 : Nat) (gw s 6 6 : Nat) (gw s 12 2 : Nat) (s.extract 14 s.size))
 unfold readOk at hr
 rw [hr] at C
 clear hr
 generalize gw s 0 6 = x at G0 C
 generalize gw s 6 6 = y at G1 C
 generalize gw s 12 2 = z at G2 C
 have h0 : ¬ (s.size : Int) < 14 := by omega
 go_enter Tryz.func69, Tryz.ntmps69
 go_wp2_with fail
 refine (G0.out _).mono ?_
 rintro e w1 ⟨rfl, rfl⟩
 go_wp2_with fail
 refine (G1.out _).mono ?_
 rintro e w1 ⟨rfl, rfl⟩
 go_wp2_with fail
 refine (G2.out _).mono ?_
 rintro e w1 ⟨rfl, rfl⟩
 go_wp2_with fail
 refine (C.out _).mono ?_
 rintro e w1 ⟨rfl, hb⟩
 have B := Lib.hid ((((Below.refl w.heap.size w).alloc (Nat.le_refl _) _).alloc (by simp) _).trans (hb.mono (by simp; omega)))
 have K := Lib.hid (((HasC.new w #[.int .i64 0, .int .i64 0, .int .i64 0, .string ⟨#[]⟩] 38).alloc _).keep hb)
 obtain ⟨hc, hf⟩ := bcell hb
 clear hb
 go_wp2_with fail
 obtain ⟨d0, d1, d2, d3⟩ := K.out.four
 exact bodyPost_ret (v := .tuple #[.agg #[.int .i64 0, .int .i64 0, .int .i64 0, .string ⟨#[]⟩], .bool false]) (by simp [results, Tryz.results69, go_sem, d0, d1, d2, d3]) rfl ⟨rfl, (((B.out.setCell (Nat.le_refl _) _).setCell (Nat.le_refl _) _).setCell (Nat.le_refl _) _).setCell (Nat.le_refl _) _⟩

set_option maxRecDepth 100000 in
set_option maxHeartbeats 4000000 in
theorem readFrameI_yes (s : ByteArray) (w : World) (hs : s.size ≤ 1048576) (h : 14 ≤ s.size) (hr : readOk s = true) :
  Calls Tryz.prog 69 #[.string s] w fun e w' => e = .returned (.tuple #[.agg #[.int .i64 (gw s 0 6 : Nat), .int .i64 (gw s 6 6 : Nat), .int .i64 (gw s 12 2 : Nat), .string (s.extract 14 s.size)], .bool true]) ∧ Below w.heap.size w w' := by
 have G0 := Lib.hid (fun w => get3I s 0 6 w hs (by omega) (by omega))
 have G1 := Lib.hid (fun w => get3I s 6 6 w hs (by omega) (by omega))
 have G2 := Lib.hid (fun w => get3I s 12 2 w hs (by omega) (by omega))
 have C := Lib.hid (frameOkI (gw s 0 6 : Nat) (gw s 6 6 : Nat) (gw s 12 2 : Nat) (s.extract 14 s.size))
 unfold readOk at hr
 rw [hr] at C
 clear hr
 generalize gw s 0 6 = x at G0 C ⊢
 generalize gw s 6 6 = y at G1 C ⊢
 generalize gw s 12 2 = z at G2 C ⊢
 have h0 : ¬ (s.size : Int) < 14 := by omega
 go_enter Tryz.func69, Tryz.ntmps69
 go_wp2_with fail
 refine (G0.out _).mono ?_
 rintro e w1 ⟨rfl, rfl⟩
 go_wp2_with fail
 refine (G1.out _).mono ?_
 rintro e w1 ⟨rfl, rfl⟩
 go_wp2_with fail
 refine (G2.out _).mono ?_
 rintro e w1 ⟨rfl, rfl⟩
 go_wp2_with fail
 refine (C.out _).mono ?_
 rintro e w1 ⟨rfl, hb⟩
 have B := Lib.hid ((((Below.refl w.heap.size w).alloc (Nat.le_refl _) _).alloc (by simp) _).trans (hb.mono (by simp; omega)))
 have K := Lib.hid (((HasC.new w #[.int .i64 0, .int .i64 0, .int .i64 0, .string ⟨#[]⟩] 38).alloc _).keep hb)
 obtain ⟨hc, hf⟩ := bcell hb
 clear hb
 go_wp2_with fail
 obtain ⟨d0, d1, d2, d3⟩ := K.out.four
 exact bodyPost_ret (v := .tuple #[.agg #[.int .i64 x, .int .i64 y, .int .i64 z, .string (s.extract 14 s.size)], .bool true]) (by simp [results, Tryz.results69, go_sem, d0, d1, d2, d3]) rfl ⟨rfl, (((B.out.setCell (Nat.le_refl _) _).setCell (Nat.le_refl _) _).setCell (Nat.le_refl _) _).setCell (Nat.le_refl _) _⟩

end Go.Proofs.YtkkimgjcefojdaaGreatDoor
namespace Go.Proofs.YtkkimgjcefojdaaGreatDoor
open Go.RowKit Go.Lib

/-- What ReadFrame answers: whether there is a frame; its fields. -/
def rfOk (s : ByteArray) : Bool := decide (14 ≤ s.size) && readOk s
def rfD (s : ByteArray) : Int := if rfOk s then (gw s 0 6 : Nat) else 0
def rfS (s : ByteArray) : Int := if rfOk s then (gw s 6 6 : Nat) else 0
def rfT (s : ByteArray) : Int := if rfOk s then (gw s 12 2 : Nat) else 0
def rfB (s : ByteArray) : ByteArray := if rfOk s then s.extract 14 s.size else ⟨#[]⟩
def rfV (s : ByteArray) : Value := .tuple #[.agg #[.int .i64 (rfD s), .int .i64 (rfS s), .int .i64 (rfT s), .string (rfB s)], .bool (rfOk s)]
theorem rfV_yes (s : ByteArray) (h : rfOk s = true) : rfV s = .tuple #[.agg #[.int .i64 (gw s 0 6 : Nat), .int .i64 (gw s 6 6 : Nat), .int .i64 (gw s 12 2 : Nat), .string (s.extract 14 s.size)], .bool true] := by
 unfold rfV rfD rfS rfT rfB; simp only [h, if_true]
theorem rfV_no (s : ByteArray) (h : rfOk s = false) : rfV s = .tuple #[.agg #[.int .i64 0, .int .i64 0, .int .i64 0, .string ⟨#[]⟩], .bool false] := by
 unfold rfV rfD rfS rfT rfB; simp only [h, Bool.false_eq_true, if_false]

theorem readFrameI (s : ByteArray) (w : World) (hs : s.size ≤ 1048576) :
  Calls Tryz.prog 69 #[.string s] w fun e w' => e = .returned (rfV s) ∧ Below w.heap.size w w' := by
 by_cases h : 14 ≤ s.size
 ·cases hr : readOk s with
  | true => rw [rfV_yes s (by simp [rfOk, h, hr])]; exact readFrameI_yes s w hs h hr
  | false => rw [rfV_no s (by simp [rfOk, hr])]; exact readFrameI_no s w hs h hr
 ·rw [rfV_no s (by simp [rfOk, h])]; exact readFrameI_short s w (by omega)
end Go.Proofs.YtkkimgjcefojdaaGreatDoor
namespace Go.Proofs.YtkkimgjcefojdaaGreatDoor
open Go.RowKit Go.Extern.Stop Go.Stop Go.Extern

theorem as_nil (t : Value) (w : World) :
  Calls Tryz.prog 119 #[.nilIface, t] w fun e w' => e = .returned (.bool false) ∧ w = w' := by
 go_enter Tryz.func119, Tryz.ntmps119
 go_wp2
 go_ret
 exact ⟨rfl, rfl⟩

theorem as_valueOfT (t : Addr) (w : World) : (ReflectliteValue.unpack (.iface 150 (.pointer (some t)))).run Tryz.prog w
  = .ok (.agg #[.pointer (some ⟨2, 150, none⟩), .pointer (some ⟨w.heap.size, 0, none⟩), .int .u64 150]) (w.alloc (.cells #[.pointer (some t)] 150)) := by kernel_rfl
theorem as_typeT (a : Addr) (w : World) : (ReflectliteValue.methodAny (ReflectliteValue.valueError "reflectlite.Value.Type" 0) (fun t _ _ _ => ReflectliteType.toType t) #[.agg #[.pointer (some ⟨2, 150, none⟩), .pointer (some a), .int .u64 150]]).run Tryz.prog w
  = .ok (.iface 132 (.agg #[.pointer (some ⟨2, 150, none⟩)])) w := by kernel_rfl
theorem as_methodKind (h : Value) (w : World) : (Go.method 300 132 (.agg #[h]) "Kind").run Tryz.prog w = .ok (144, h) w := by kernel_rfl
theorem as_kindT (w : World) : ((ReflectliteType.abiMethod fun t => (fun a : Nat => Value.int IntKind.u8 (a : Int)) <$> Rtype.kind t) #[.pointer (some ⟨2, 150, none⟩)]).run Tryz.prog w = .ok (.int .u8 22) w := by kernel_rfl
theorem as_kindE (w : World) : ((ReflectliteType.abiMethod fun t => (fun a : Nat => Value.int IntKind.u8 (a : Int)) <$> Rtype.kind t) #[.pointer (some ⟨2, 147, none⟩)]).run Tryz.prog w = .ok (.int .u8 2) w := by kernel_rfl
theorem as_rlm (z : Sem Value) (f : TypeId → Addr → Nat → Nat → Sem Value) (v : Value) :
  ReflectliteValue.method z f #[v] = (do match ← ReflectliteValue.parts v with | none => z | some (t, a, fl) => f t a fl (fl % 32)) := rfl
theorem as_partsT (a : Addr) (w : World) : (ReflectliteValue.parts (.agg #[.pointer (some ⟨2, 150, none⟩), .pointer (some a), .int .u64 150])).run Tryz.prog w = .ok (some (150, a, 150)) w := by kernel_rfl
theorem as_isNilT (a p : Addr) (W : World) (ha : W.cell? a = some (.pointer (some p))) :
  (ReflectliteValue.method (ReflectliteValue.valueError "reflectlite.Value.IsNil" 0) ReflectliteValue.isNil #[.agg #[.pointer (some ⟨2, 150, none⟩), .pointer (some a), .int .u64 150]]).run Tryz.prog W = .ok (.bool false) W := by
 rw [as_rlm]
 simp only [Sem.run_bind, as_partsT, Result.andThen]
 simp [ReflectliteValue.isNil, loadVar, isAgg, underlying, Tryz.underlying150, ha, Result.andThen]
theorem as_methodElem (h : Value) (w : World) : (Go.method 300 132 (.agg #[h]) "Elem").run Tryz.prog w = .ok (152, .agg #[h]) w := by kernel_rfl
theorem as_methodImplements (h : Value) (w : World) : (Go.method 300 132 (.agg #[h]) "Implements").run Tryz.prog w = .ok (153, .agg #[h]) w := by kernel_rfl
theorem as_methodAssignableTo (h : Value) (w : World) : (Go.method 300 132 (.agg #[h]) "AssignableTo").run Tryz.prog w = .ok (150, .agg #[h]) w := by kernel_rfl
theorem as_elemT (w : World) : (ReflectliteType.method ReflectliteType.elem #[.agg #[.pointer (some ⟨2, 150, none⟩)]]).run Tryz.prog w = .ok (.iface 132 (.agg #[.pointer (some ⟨2, 147, none⟩)])) w := by kernel_rfl
theorem as_implementsE (w : World) : (ReflectliteType.relation "Implements" ReflectliteType.implements_ #[.agg #[.pointer (some ⟨2, 147, none⟩)], .iface 132 (.agg #[.pointer (some ⟨2, 60, none⟩)])]).run Tryz.prog w = .ok (.bool true) w := by kernel_rfl
theorem as_typeOfE (v : Value) (w : World) : (ReflectliteType.typeOf #[.iface 147 v]).run Tryz.prog w = .ok (.iface 132 (.agg #[.pointer (some ⟨2, 147, none⟩)])) w := by kernel_rfl
theorem as_assignableE (w : World) : (ReflectliteType.relation "AssignableTo" ReflectliteType.assignableTo #[.agg #[.pointer (some ⟨2, 147, none⟩)], .iface 132 (.agg #[.pointer (some ⟨2, 147, none⟩)])]).run Tryz.prog w = .ok (.bool true) w := by kernel_rfl
theorem as_valueOfE (k : Int) (w : World) : (ReflectliteValue.unpack (.iface 147 (.int .i64 k))).run Tryz.prog w
  = .ok (.agg #[.pointer (some ⟨2, 147, none⟩), .pointer (some ⟨w.heap.size, 0, none⟩), .int .u64 130]) (w.alloc (.cells #[.int .i64 k] 147)) := by kernel_rfl
theorem as_elemOfT (w : World) : (Rtype.elem? 150).run Tryz.prog w = .ok (some 147) w := by kernel_rfl
theorem as_mkE (p : Addr) (w : World) : (ReflectliteValue.mk 147 p ReflectliteValue.flagAddr).run Tryz.prog w = .ok (.agg #[.pointer (some ⟨2, 147, none⟩), .pointer (some p), .int .u64 386]) w := by kernel_rfl
theorem as_elemVT (a p : Addr) (W : World) (ha : W.cell? a = some (.pointer (some p))) :
  (ReflectliteValue.method (ReflectliteValue.valueError "reflectlite.Value.Elem" 0) ReflectliteValue.elem #[.agg #[.pointer (some ⟨2, 150, none⟩), .pointer (some a), .int .u64 150]]).run Tryz.prog W
   = .ok (.agg #[.pointer (some ⟨2, 147, none⟩), .pointer (some p), .int .u64 386]) W := by
 rw [as_rlm]
 simp only [Sem.run_bind, as_partsT, Result.andThen]
 simp [ReflectliteValue.elem, loadVar, isAgg, underlying, Tryz.underlying150, ha, Result.andThen, as_elemOfT, as_mkE]
theorem as_rls (v x : Value) : ReflectliteValue.set #[v, x] = (do
  let (some (dst, a, fl), some (src, b, _)) := (← ReflectliteValue.parts v, ← ReflectliteValue.parts x)
   | unsupported (.noEntry "extern/(internal/reflectlite.Value).Set.zeroValue")
  if fl / ReflectliteValue.flagAddr % 2 == 0 then unsupported (.noEntry "extern/(internal/reflectlite.Value).Set.unaddressable")
  let val ← loadVar src b
  if ← Rtype.directlyAssignable dst src then storeVar dst a val
  else if ← Rtype.implements dst src then
   if (← Rtype.kind src) == 20 then
    match val with
    | .nilIface => unsupported (.noEntry "extern/reflectlite: a nil value of one interface type handed on as a value of another")
    | _ => storeVar dst a val
   else storeVar dst a (.iface src val)
  else panicString ("reflectlite.Set: value of type " ++ (← Rtype.spelt src) ++ " is not assignable to type " ++ (← Rtype.spelt dst))
  pure (.tuple #[])) := rfl
theorem as_partsEa (a : Addr) (w : World) : (ReflectliteValue.parts (.agg #[.pointer (some ⟨2, 147, none⟩), .pointer (some a), .int .u64 386])).run Tryz.prog w = .ok (some (147, a, 386)) w := by kernel_rfl
theorem as_partsE (a : Addr) (w : World) : (ReflectliteValue.parts (.agg #[.pointer (some ⟨2, 147, none⟩), .pointer (some a), .int .u64 130])).run Tryz.prog w = .ok (some (147, a, 130)) w := by kernel_rfl
theorem as_directE (w : World) : (Rtype.directlyAssignable 147 147).run Tryz.prog w = .ok true w := by kernel_rfl
theorem as_setE (ta b : Addr) (k : Int) (old : Value) (W : World) (hb : W.cell? b = some (.int .i64 k)) (ht : W.cell? ta = some old) (hf : W.frozen? ta = false) :
  (ReflectliteValue.set #[.agg #[.pointer (some ⟨2, 147, none⟩), .pointer (some ta), .int .u64 386], .agg #[.pointer (some ⟨2, 147, none⟩), .pointer (some b), .int .u64 130]]).run Tryz.prog W
   = .ok (.tuple #[]) (W.setCell ta (.int .i64 k)) := by
 rw [as_rls]
 simp only [Sem.run_bind, as_partsEa, as_partsE, Result.andThen]
 simp [ReflectliteValue.flagAddr, loadVar, isAgg, underlying, Tryz.underlying147, hb, Result.andThen, as_directE, storeVar, Value.cells, storeCells, Addr.add]
 rw [run_store Tryz.prog W ta _ _ (by rfl)]
 simp [ht, hf]

set_option maxHeartbeats 4000000 in
theorem as_hit (k : Int) (t : Addr) (old : Value) (w : World) (hg : w.cell? ⟨1, 0, none⟩ = some (.iface 132 (.agg #[.pointer (some ⟨2, 60, none⟩)]))) (ht0 : w.cell? t = some old) (hf0 : w.frozen? t = false) :
  Calls Tryz.prog 119 #[.iface 147 (.int .i64 k), .iface 150 (.pointer (some t))] w fun ev w' => ev = .returned (.bool true) ∧ ((((w.alloc (.cells #[.pointer (some t)] 150)).alloc (.cells #[.pointer (some ⟨2, 150, none⟩), .pointer (some ⟨w.heap.size, 0, none⟩), .int .u64 150] 156)).alloc (.cells #[.pointer (some ⟨2, 150, none⟩), .pointer (some ⟨w.heap.size, 0, none⟩), .int .u64 150] 156)).alloc (.cells #[.int .i64 k] 147)).setCell t (.int .i64 k) = w' := by
 have hvo := @run_callFunc_extern Tryz.prog 123 _ (fun args => ReflectliteValue.unpack (args.getD 0 (.tuple #[]))) Tryz.func123 (by kernel_rfl) (by kernel_rfl) (by kernel_rfl) (by kernel_rfl)
 have hty := @run_callFunc_extern Tryz.prog 124 _ (ReflectliteValue.methodAny (ReflectliteValue.valueError "reflectlite.Value.Type" 0) (fun t _ _ _ => ReflectliteType.toType t)) Tryz.func124 (by kernel_rfl) (by kernel_rfl) (by kernel_rfl) (by kernel_rfl)
 have hnil := @run_callFunc_extern Tryz.prog 125 _ (ReflectliteValue.method (ReflectliteValue.valueError "reflectlite.Value.IsNil" 0) ReflectliteValue.isNil) Tryz.func125 (by kernel_rfl) (by kernel_rfl) (by kernel_rfl) (by kernel_rfl)
 have hkind := @run_callFunc_extern Tryz.prog 144 _ (ReflectliteType.abiMethod fun t => do pure (.int .u8 (← Rtype.kind t))) Tryz.func144 (by kernel_rfl) (by kernel_rfl) (by kernel_rfl) (by kernel_rfl)
 have hel := @run_callFunc_extern Tryz.prog 152 _ (ReflectliteType.method ReflectliteType.elem) Tryz.func152 (by kernel_rfl) (by kernel_rfl) (by kernel_rfl) (by kernel_rfl)
 have himp := @run_callFunc_extern Tryz.prog 153 _ (ReflectliteType.relation "Implements" ReflectliteType.implements_) Tryz.func153 (by kernel_rfl) (by kernel_rfl) (by kernel_rfl) (by kernel_rfl)
 have hto := @run_callFunc_extern Tryz.prog 73 _ ReflectliteType.typeOf Tryz.func73 (by kernel_rfl) (by kernel_rfl) (by kernel_rfl) (by kernel_rfl)
 have hasg := @run_callFunc_extern Tryz.prog 150 _ (ReflectliteType.relation "AssignableTo" ReflectliteType.assignableTo) Tryz.func150 (by kernel_rfl) (by kernel_rfl) (by kernel_rfl) (by kernel_rfl)
 have hvel := @run_callFunc_extern Tryz.prog 128 _ (ReflectliteValue.method (ReflectliteValue.valueError "reflectlite.Value.Elem" 0) ReflectliteValue.elem) Tryz.func128 (by kernel_rfl) (by kernel_rfl) (by kernel_rfl) (by kernel_rfl)
 have hset := @run_callFunc_extern Tryz.prog 129 _ ReflectliteValue.set Tryz.func129 (by kernel_rfl) (by kernel_rfl) (by kernel_rfl) (by kernel_rfl)
 have tO := as_typeOfE
 have mA := as_methodAssignableTo
 have aE := as_assignableE
 have vE := as_valueOfE
 have fT := as_valueOfT
 have yT := as_typeT
 have mK := as_methodKind
 have mE := as_methodElem
 have mI := as_methodImplements
 have kT := as_kindT
 have kE := as_kindE
 have eT := as_elemT
 have iE := as_implementsE
 have n8 := as_isNilT ⟨w.heap.size, 0, none⟩ t ((w.alloc (.cells #[.pointer (some t)] 150)).alloc (.cells #[.pointer (some ⟨2, 150, none⟩), .pointer (some ⟨w.heap.size, 0, none⟩), .int .u64 150] 156)) (by simp)
 have hlt : 1 < w.heap.size := World.block_lt_of_cell? w _ hg
 have hg2 : ((w.alloc (.cells #[.pointer (some t)] 150)).alloc (.cells #[.pointer (some ⟨2, 150, none⟩), .pointer (some ⟨w.heap.size, 0, none⟩), .int .u64 150] 156)).cell? ⟨1, 0, none⟩ = some (.iface 132 (.agg #[.pointer (some ⟨2, 60, none⟩)])) := by
  rw [World.cell?_alloc_lt _ _ ⟨1, 0, none⟩ (by first | omega | (simp; done) | (simp; omega)), World.cell?_alloc_lt _ _ ⟨1, 0, none⟩ hlt]; exact hg
 have htl : t.block < w.heap.size := World.block_lt_of_cell? w _ ht0
 have el := as_elemVT ⟨w.heap.size, 0, none⟩ t (((w.alloc (.cells #[.pointer (some t)] 150)).alloc (.cells #[.pointer (some ⟨2, 150, none⟩), .pointer (some ⟨w.heap.size, 0, none⟩), .int .u64 150] 156)).alloc (.cells #[.pointer (some ⟨2, 150, none⟩), .pointer (some ⟨w.heap.size, 0, none⟩), .int .u64 150] 156)) (by rw [World.cell?_alloc_lt _ _ ⟨w.heap.size, 0, none⟩ (by simp; omega)]; simp)
 have st := as_setE t ⟨w.heap.size + 1 + 1 + 1, 0, none⟩ k old ((((w.alloc (.cells #[.pointer (some t)] 150)).alloc (.cells #[.pointer (some ⟨2, 150, none⟩), .pointer (some ⟨w.heap.size, 0, none⟩), .int .u64 150] 156)).alloc (.cells #[.pointer (some ⟨2, 150, none⟩), .pointer (some ⟨w.heap.size, 0, none⟩), .int .u64 150] 156)).alloc (.cells #[.int .i64 k] 147))
  (by rw [World.cell?_alloc_at _ _ _ _ (by simp)]; rfl)
  (by rw [World.cell?_alloc_lt _ _ t (by simp; omega), World.cell?_alloc_lt _ _ t (by simp; omega), World.cell?_alloc_lt _ _ t (by simp; omega), World.cell?_alloc_lt _ _ t htl]; exact ht0)
  (by rw [World.frozen?_alloc_old _ _ t (by simp; omega), World.frozen?_alloc_old _ _ t (by simp; omega), World.frozen?_alloc_old _ _ t (by simp; omega), World.frozen?_alloc_old _ _ t (Nat.ne_of_lt htl)]; exact hf0)
 go_enter Tryz.func119, Tryz.ntmps119
 go_wp2
 refine wp_loop_rounds 1 ?_
 rw [rounds_succ]
 go_wp2
 go_ret
 exact ⟨rfl, rfl⟩
end Go.Proofs.YtkkimgjcefojdaaGreatDoor
