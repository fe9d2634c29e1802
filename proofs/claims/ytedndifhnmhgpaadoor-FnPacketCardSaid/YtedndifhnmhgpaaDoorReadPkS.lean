/- ReadPacket, of the model. Nothing here is a claim. -/
import Derived.Test.YtedndifhnmhgpaaDoorPacketKit
import Derived.Test.YtedndifhnmhgpaaDoorSumR
import Derived.Test.YtedndifhnmhgpaaDoorGetS
import Derived.Test.YtedndifhnmhgpaaDoorBlk
import Derived.Deep.RegionWith
import Derived.Deep.RegionHeld3
namespace Go.Proofs.YtedndifhnmhgpaaDoor
open Go.RowKit Go.Lib

theorem get3S (s : ByteArray) (a n : Nat) (w : World) (hs : s.size ≤ 1048576) (hn : 1 ≤ n ∧ n ≤ 6) (h : a + n ≤ s.size) :
    Calls Tryd.prog 33 #[.string s, .int .i64 a, .int .i64 n] w fun e w' => e = .returned (.tuple #[.int .i64 (gw s a n : Nat), .bool true]) ∧ w = w' := by
  have := getWordS s a n w hs (by omega)
  rw [getW_yes s a n hn h] at this; exact this
theorem l1Min_any (x y : Int) (w : World) :
    Calls Tryd.prog 35 #[.int .i64 x, .int .i64 y] w fun e w' => e = .returned (.int .i64 (if x < y then x else y)) ∧ w = w' := by
  by_cases h : x < y
  · rw [if_pos h]
    go_enter Tryd.func35, Tryd.ntmps35
    go_wp2
    go_ret
    exact ⟨rfl, rfl⟩
  · rw [if_neg h]
    go_enter Tryd.func35, Tryd.ntmps35
    go_wp2
    go_ret
    exact ⟨rfl, rfl⟩

set_option maxRecDepth 100000 in
set_option maxHeartbeats 1000000 in
theorem readPkS_short (s : ByteArray) (w : World) (h : s.size < 20) :
    Calls Tryd.prog 14 #[.string s] w fun e w' => e = .returned (.tuple #[.agg #[.int .i64 0, .int .i64 0, .int .i64 0, .int .i64 0, .int .i64 0, .string ⟨#[]⟩], .int .i64 1]) ∧ Below w.heap.size w w' := by
  have h0 : (s.size : Int) < 20 := by omega
  go_enter Tryd.func14, Tryd.ntmps14
  go_wp2
  exact bodyPost_ret (v := .tuple #[.agg #[.int .i64 0, .int .i64 0, .int .i64 0, .int .i64 0, .int .i64 0, .string ⟨#[]⟩], .int .i64 1]) (by simp [results, Tryd.results14, go_sem]) rfl ⟨rfl, (Below.refl _ _).alloc (Nat.le_refl _) _⟩

set_option maxRecDepth 100000 in
set_option maxHeartbeats 1000000 in
theorem readPkS_version (s : ByteArray) (w : World) (h : 20 ≤ s.size) (hv : ¬ (at8 s 0).toNat = 69) :
    Calls Tryd.prog 14 #[.string s] w fun e w' => e = .returned (.tuple #[.agg #[.int .i64 0, .int .i64 0, .int .i64 0, .int .i64 0, .int .i64 0, .string ⟨#[]⟩], .int .i64 2]) ∧ Below w.heap.size w w' := by
  have h0 : ¬ (s.size : Int) < 20 := by omega
  have h1 : 0 < s.size := by omega
  have hb : ((s[0].toNat : Int) != 69) = true := by rw [at8_eq]; simp; omega
  clear hv
  go_enter Tryd.func14, Tryd.ntmps14
  go_wp2
  exact bodyPost_ret (v := .tuple #[.agg #[.int .i64 0, .int .i64 0, .int .i64 0, .int .i64 0, .int .i64 0, .string ⟨#[]⟩], .int .i64 2]) (by simp [results, Tryd.results14, go_sem]) rfl ⟨rfl, (Below.refl _ _).alloc (Nat.le_refl _) _⟩

set_option maxRecDepth 100000 in
set_option maxHeartbeats 1000000 in
theorem readPkS_sum (s : ByteArray) (w : World) (hs : s.size ≤ 1048576) (h : 20 ≤ s.size) (hv : (at8 s 0).toNat = 69) (hr : sumRight (s.extract 0 20) = false) :
    Calls Tryd.prog 14 #[.string s] w fun e w' => e = .returned (.tuple #[.agg #[.int .i64 0, .int .i64 0, .int .i64 0, .int .i64 0, .int .i64 0, .string ⟨#[]⟩], .int .i64 3]) ∧ Below w.heap.size w w' := by
  have h0 : ¬ (s.size : Int) < 20 := by omega
  have h1 : 0 < s.size := by omega
  have hb : ((s[0].toNat : Int) != 69) = false := by rw [at8_eq]; simp; omega
  clear hv
  have R := Lib.hid (sumRightS (s.extract 0 20) (by rw [ByteArray.size_extract]; omega))
  rw [hr] at R
  clear hr
  go_enter Tryd.func14, Tryd.ntmps14
  go_wp2_with fail
  refine (R.out _).mono ?_
  rintro e w1 ⟨rfl, rfl⟩
  go_wp2
  exact bodyPost_ret (v := .tuple #[.agg #[.int .i64 0, .int .i64 0, .int .i64 0, .int .i64 0, .int .i64 0, .string ⟨#[]⟩], .int .i64 3]) (by simp [results, Tryd.results14, go_sem]) rfl ⟨rfl, (Below.refl _ _).alloc (Nat.le_refl _) _⟩

set_option maxRecDepth 100000 in
set_option maxHeartbeats 1000000 in
theorem readPkS_length (s : ByteArray) (w : World) (hs : s.size ≤ 1048576) (h : 20 ≤ s.size) (hv : (at8 s 0).toNat = 69) (hr : sumRight (s.extract 0 20) = true) (hx : ¬ (20 ≤ gw s 2 2 ∧ gw s 2 2 ≤ s.size ∧ gw s 2 2 ≤ 1500)) :
    Calls Tryd.prog 14 #[.string s] w fun e w' => e = .returned (.tuple #[.agg #[.int .i64 0, .int .i64 0, .int .i64 0, .int .i64 0, .int .i64 0, .string ⟨#[]⟩], .int .i64 4]) ∧ Below w.heap.size w w' := by
  have h0 : ¬ (s.size : Int) < 20 := by omega
  have h1 : 0 < s.size := by omega
  have hb : ((s[0].toNat : Int) != 69) = false := by rw [at8_eq]; simp; omega
  clear hv
  have R := Lib.hid (sumRightS (s.extract 0 20) (by rw [ByteArray.size_extract]; omega))
  rw [hr] at R
  clear hr
  have G2 := Lib.hid (fun w => get3S s 2 2 w hs (by omega) (by omega))
  have M := Lib.hid (l1Min_any (s.size : Int) 1500)
  have I := Lib.hid (l1In_any (gw s 2 2 : Nat) 20 (if (s.size : Int) < 1500 then s.size else 1500))
  rw [decide_eq_false (show ¬ ((20 : Int) ≤ (gw s 2 2 : Nat) ∧ ((gw s 2 2 : Nat) : Int) ≤ (if (s.size : Int) < 1500 then (s.size : Int) else 1500)) by split <;> omega)] at I
  generalize (if (s.size : Int) < 1500 then (s.size : Int) else 1500) = mm at M I
  clear hx
  generalize gw s 2 2 = x at *
  go_enter Tryd.func14, Tryd.ntmps14
  go_wp2_with fail
  refine (R.out _).mono ?_
  rintro e w1 ⟨rfl, rfl⟩
  go_wp2_with fail
  refine (G2.out _).mono ?_
  rintro e w1 ⟨rfl, rfl⟩
  go_wp2_with fail
  refine (M.out _).mono ?_
  rintro e w1 ⟨rfl, rfl⟩
  go_wp2_with fail
  refine (I.out _).mono ?_
  rintro e w1 ⟨rfl, rfl⟩
  go_wp2
  exact bodyPost_ret (v := .tuple #[.agg #[.int .i64 0, .int .i64 0, .int .i64 0, .int .i64 0, .int .i64 0, .string ⟨#[]⟩], .int .i64 4]) (by simp [results, Tryd.results14, go_sem]) rfl ⟨rfl, (Below.refl _ _).alloc (Nat.le_refl _) _⟩

set_option maxRecDepth 100000 in
set_option maxHeartbeats 1000000 in
theorem readPkS_frag6 (s : ByteArray) (w : World) (hs : s.size ≤ 1048576) (h : 20 ≤ s.size) (hv : (at8 s 0).toNat = 69) (hr : sumRight (s.extract 0 20) = true) (hx : 20 ≤ gw s 2 2 ∧ gw s 2 2 ≤ s.size ∧ gw s 2 2 ≤ 1500) (hy : ¬ bits .and .u8 ((at8 s 6).toNat : Int) 191 = 0) :
    Calls Tryd.prog 14 #[.string s] w fun e w' => e = .returned (.tuple #[.agg #[.int .i64 0, .int .i64 0, .int .i64 0, .int .i64 0, .int .i64 0, .string ⟨#[]⟩], .int .i64 5]) ∧ Below w.heap.size w w' := by
  have h0 : ¬ (s.size : Int) < 20 := by omega
  have h1 : 0 < s.size := by omega
  have h6 : 6 < s.size := by omega
  have h7 : 7 < s.size := by omega
  have i6 : (6 : Int) < s.size := by omega
  have i7 : (7 : Int) < s.size := by omega
  have hb : ((s[0].toNat : Int) != 69) = false := by rw [at8_eq]; simp; omega
  clear hv
  have R := Lib.hid (sumRightS (s.extract 0 20) (by rw [ByteArray.size_extract]; omega))
  rw [hr] at R
  clear hr
  have G2 := Lib.hid (fun w => get3S s 2 2 w hs (by omega) (by omega))
  have M := Lib.hid (l1Min_any (s.size : Int) 1500)
  have I := Lib.hid (l1In_any (gw s 2 2 : Nat) 20 (if (s.size : Int) < 1500 then s.size else 1500))
  rw [decide_eq_true (show ((20 : Int) ≤ (gw s 2 2 : Nat) ∧ ((gw s 2 2 : Nat) : Int) ≤ (if (s.size : Int) < 1500 then (s.size : Int) else 1500)) by split <;> omega)] at I
  generalize (if (s.size : Int) < 1500 then (s.size : Int) else 1500) = mm at M I
  obtain ⟨hx0, hx1, _⟩ := hx
  generalize gw s 2 2 = x at *
  have hf : (bits .and .u8 (s[6].toNat : Int) 191 != 0) = true := by rw [at8_eq]; simpa using hy
  clear hy
  go_enter Tryd.func14, Tryd.ntmps14
  go_wp2_with fail
  refine (R.out _).mono ?_
  rintro e w1 ⟨rfl, rfl⟩
  go_wp2_with fail
  refine (G2.out _).mono ?_
  rintro e w1 ⟨rfl, rfl⟩
  go_wp2_with fail
  refine (M.out _).mono ?_
  rintro e w1 ⟨rfl, rfl⟩
  go_wp2_with fail
  refine (I.out _).mono ?_
  rintro e w1 ⟨rfl, rfl⟩
  go_wp2
  exact bodyPost_ret (v := .tuple #[.agg #[.int .i64 0, .int .i64 0, .int .i64 0, .int .i64 0, .int .i64 0, .string ⟨#[]⟩], .int .i64 5]) (by simp [results, Tryd.results14, go_sem]) rfl ⟨rfl, (Below.refl _ _).alloc (Nat.le_refl _) _⟩

set_option maxRecDepth 100000 in
set_option maxHeartbeats 1000000 in
theorem readPkS_frag7 (s : ByteArray) (w : World) (hs : s.size ≤ 1048576) (h : 20 ≤ s.size) (hv : (at8 s 0).toNat = 69) (hr : sumRight (s.extract 0 20) = true) (hx : 20 ≤ gw s 2 2 ∧ gw s 2 2 ≤ s.size ∧ gw s 2 2 ≤ 1500) (hy : bits .and .u8 ((at8 s 6).toNat : Int) 191 = 0) (hy7 : ¬ (at8 s 7).toNat = 0) :
    Calls Tryd.prog 14 #[.string s] w fun e w' => e = .returned (.tuple #[.agg #[.int .i64 0, .int .i64 0, .int .i64 0, .int .i64 0, .int .i64 0, .string ⟨#[]⟩], .int .i64 5]) ∧ Below w.heap.size w w' := by
  have h0 : ¬ (s.size : Int) < 20 := by omega
  have h1 : 0 < s.size := by omega
  have h6 : 6 < s.size := by omega
  have h7 : 7 < s.size := by omega
  have i6 : (6 : Int) < s.size := by omega
  have i7 : (7 : Int) < s.size := by omega
  have hb : ((s[0].toNat : Int) != 69) = false := by rw [at8_eq]; simp; omega
  clear hv
  have R := Lib.hid (sumRightS (s.extract 0 20) (by rw [ByteArray.size_extract]; omega))
  rw [hr] at R
  clear hr
  have G2 := Lib.hid (fun w => get3S s 2 2 w hs (by omega) (by omega))
  have M := Lib.hid (l1Min_any (s.size : Int) 1500)
  have I := Lib.hid (l1In_any (gw s 2 2 : Nat) 20 (if (s.size : Int) < 1500 then s.size else 1500))
  rw [decide_eq_true (show ((20 : Int) ≤ (gw s 2 2 : Nat) ∧ ((gw s 2 2 : Nat) : Int) ≤ (if (s.size : Int) < 1500 then (s.size : Int) else 1500)) by split <;> omega)] at I
  generalize (if (s.size : Int) < 1500 then (s.size : Int) else 1500) = mm at M I
  obtain ⟨hx0, hx1, _⟩ := hx
  generalize gw s 2 2 = x at *
  have hf : (bits .and .u8 (s[6].toNat : Int) 191 != 0) = false := by rw [at8_eq]; simpa using hy
  have hf7 : ((s[7].toNat : Int) != 0) = true := by rw [at8_eq]; simpa using hy7
  clear hy hy7
  go_enter Tryd.func14, Tryd.ntmps14
  go_wp2_with fail
  refine (R.out _).mono ?_
  rintro e w1 ⟨rfl, rfl⟩
  go_wp2_with fail
  refine (G2.out _).mono ?_
  rintro e w1 ⟨rfl, rfl⟩
  go_wp2_with fail
  refine (M.out _).mono ?_
  rintro e w1 ⟨rfl, rfl⟩
  go_wp2_with fail
  refine (I.out _).mono ?_
  rintro e w1 ⟨rfl, rfl⟩
  go_wp2
  exact bodyPost_ret (v := .tuple #[.agg #[.int .i64 0, .int .i64 0, .int .i64 0, .int .i64 0, .int .i64 0, .string ⟨#[]⟩], .int .i64 5]) (by simp [results, Tryd.results14, go_sem]) rfl ⟨rfl, (Below.refl _ _).alloc (Nat.le_refl _) _⟩

set_option maxRecDepth 100000 in
set_option maxHeartbeats 1000000 in
theorem readPkS_ttl (s : ByteArray) (w : World) (hs : s.size ≤ 1048576) (h : 20 ≤ s.size) (hv : (at8 s 0).toNat = 69) (hr : sumRight (s.extract 0 20) = true) (hx : 20 ≤ gw s 2 2 ∧ gw s 2 2 ≤ s.size ∧ gw s 2 2 ≤ 1500) (hy : bits .and .u8 ((at8 s 6).toNat : Int) 191 = 0) (hy7 : (at8 s 7).toNat = 0) (ht : (at8 s 8).toNat = 0) :
    Calls Tryd.prog 14 #[.string s] w fun e w' => e = .returned (.tuple #[.agg #[.int .i64 0, .int .i64 0, .int .i64 0, .int .i64 0, .int .i64 0, .string ⟨#[]⟩], .int .i64 6]) ∧ Below w.heap.size w w' := by
  have h0 : ¬ (s.size : Int) < 20 := by omega
  have h1 : 0 < s.size := by omega
  have h6 : 6 < s.size := by omega
  have h7 : 7 < s.size := by omega
  have i6 : (6 : Int) < s.size := by omega
  have i7 : (7 : Int) < s.size := by omega
  have hb : ((s[0].toNat : Int) != 69) = false := by rw [at8_eq]; simp; omega
  clear hv
  have R := Lib.hid (sumRightS (s.extract 0 20) (by rw [ByteArray.size_extract]; omega))
  rw [hr] at R
  clear hr
  have G2 := Lib.hid (fun w => get3S s 2 2 w hs (by omega) (by omega))
  have M := Lib.hid (l1Min_any (s.size : Int) 1500)
  have I := Lib.hid (l1In_any (gw s 2 2 : Nat) 20 (if (s.size : Int) < 1500 then s.size else 1500))
  rw [decide_eq_true (show ((20 : Int) ≤ (gw s 2 2 : Nat) ∧ ((gw s 2 2 : Nat) : Int) ≤ (if (s.size : Int) < 1500 then (s.size : Int) else 1500)) by split <;> omega)] at I
  generalize (if (s.size : Int) < 1500 then (s.size : Int) else 1500) = mm at M I
  obtain ⟨hx0, hx1, _⟩ := hx
  generalize gw s 2 2 = x at *
  have hf : (bits .and .u8 (s[6].toNat : Int) 191 != 0) = false := by rw [at8_eq]; simpa using hy
  have hf7 : ((s[7].toNat : Int) != 0) = false := by rw [at8_eq]; simpa using hy7
  clear hy hy7
  have h8 : 8 < s.size := by omega
  have h9 : 9 < s.size := by omega
  have i8 : (8 : Int) < s.size := by omega
  have i9 : (9 : Int) < s.size := by omega
  have w8 : IntKind.i64.wrap (s[8].toNat : Int) = s[8].toNat := by have := s[8].toNat_lt; rw [IntKind.wrap_i64]; omega
  have w9 : IntKind.i64.wrap (s[9].toNat : Int) = s[9].toNat := by have := s[9].toNat_lt; rw [IntKind.wrap_i64]; omega
  have q1 : (20 : Int) ≤ x := by omega
  have q2 : (x : Int) ≤ s.size := by omega
  have ht8 : ((s[8].toNat : Int) == 0) = true := by rw [at8_eq]; simp; omega
  clear ht
  go_enter Tryd.func14, Tryd.ntmps14
  go_wp2_with fail
  refine (R.out _).mono ?_
  rintro e w1 ⟨rfl, rfl⟩
  go_wp2_with fail
  refine (G2.out _).mono ?_
  rintro e w1 ⟨rfl, rfl⟩
  go_wp2_with fail
  refine (M.out _).mono ?_
  rintro e w1 ⟨rfl, rfl⟩
  go_wp2_with fail
  refine (I.out _).mono ?_
  rintro e w1 ⟨rfl, rfl⟩
  go_wp2_with fail
  go_region_with fail
  all_goals go_wp2_with fail
  all_goals exact bodyPost_ret (v := .tuple #[.agg #[.int .i64 0, .int .i64 0, .int .i64 0, .int .i64 0, .int .i64 0, .string ⟨#[]⟩], .int .i64 6]) (by simp [results, Tryd.results14, go_sem]) rfl ⟨rfl, (((Below.refl _ _).alloc (Nat.le_refl _) _).alloc (by simp) _).drew⟩

set_option maxRecDepth 100000 in
set_option maxHeartbeats 1000000 in
theorem readPkS_ok (s : ByteArray) (w : World) (hs : s.size ≤ 1048576) (h : 20 ≤ s.size) (hv : (at8 s 0).toNat = 69) (hr : sumRight (s.extract 0 20) = true) (hx : 20 ≤ gw s 2 2 ∧ gw s 2 2 ≤ s.size ∧ gw s 2 2 ≤ 1500) (hy : bits .and .u8 ((at8 s 6).toNat : Int) 191 = 0) (hy7 : (at8 s 7).toNat = 0) (ht : ¬ (at8 s 8).toNat = 0) :
    Calls Tryd.prog 14 #[.string s] w fun e w' => e = .returned (.tuple #[.agg #[.int .i64 (gw s 12 4 : Nat), .int .i64 (gw s 16 4 : Nat), .int .i64 (at8 s 8).toNat, .int .i64 (at8 s 9).toNat, .int .i64 (gw s 4 2 : Nat), .string (s.extract 20 (gw s 2 2))], .int .i64 0]) ∧ Below w.heap.size w w' := by
  have h0 : ¬ (s.size : Int) < 20 := by omega
  have h1 : 0 < s.size := by omega
  have h6 : 6 < s.size := by omega
  have h7 : 7 < s.size := by omega
  have i6 : (6 : Int) < s.size := by omega
  have i7 : (7 : Int) < s.size := by omega
  have hb : ((s[0].toNat : Int) != 69) = false := by rw [at8_eq]; simp; omega
  clear hv
  have R := Lib.hid (sumRightS (s.extract 0 20) (by rw [ByteArray.size_extract]; omega))
  rw [hr] at R
  clear hr
  have G2 := Lib.hid (fun w => get3S s 2 2 w hs (by omega) (by omega))
  have M := Lib.hid (l1Min_any (s.size : Int) 1500)
  have I := Lib.hid (l1In_any (gw s 2 2 : Nat) 20 (if (s.size : Int) < 1500 then s.size else 1500))
  rw [decide_eq_true (show ((20 : Int) ≤ (gw s 2 2 : Nat) ∧ ((gw s 2 2 : Nat) : Int) ≤ (if (s.size : Int) < 1500 then (s.size : Int) else 1500)) by split <;> omega)] at I
  generalize (if (s.size : Int) < 1500 then (s.size : Int) else 1500) = mm at M I
  obtain ⟨hx0, hx1, _⟩ := hx
  generalize gw s 2 2 = x at *
  have G4 := Lib.hid (fun w => get3S s 4 2 w hs (by omega) (by omega))
  have G12 := Lib.hid (fun w => get3S s 12 4 w hs (by omega) (by omega))
  have G16 := Lib.hid (fun w => get3S s 16 4 w hs (by omega) (by omega))
  generalize gw s 4 2 = x4 at *
  generalize gw s 12 4 = x12 at *
  generalize gw s 16 4 = x16 at *
  have hf : (bits .and .u8 (s[6].toNat : Int) 191 != 0) = false := by rw [at8_eq]; simpa using hy
  have hf7 : ((s[7].toNat : Int) != 0) = false := by rw [at8_eq]; simpa using hy7
  clear hy hy7
  have h8 : 8 < s.size := by omega
  have h9 : 9 < s.size := by omega
  have i8 : (8 : Int) < s.size := by omega
  have i9 : (9 : Int) < s.size := by omega
  have w8 : IntKind.i64.wrap (s[8].toNat : Int) = s[8].toNat := by have := s[8].toNat_lt; rw [IntKind.wrap_i64]; omega
  have w9 : IntKind.i64.wrap (s[9].toNat : Int) = s[9].toNat := by have := s[9].toNat_lt; rw [IntKind.wrap_i64]; omega
  have q1 : (20 : Int) ≤ x := by omega
  have q2 : (x : Int) ≤ s.size := by omega
  have ht8 : ((s[8].toNat : Int) == 0) = false := by rw [at8_eq]; simp; omega
  clear ht
  rw [← at8_eq s 8 h8, ← at8_eq s 9 h9]
  go_enter Tryd.func14, Tryd.ntmps14
  go_wp2_with fail
  refine (R.out _).mono ?_
  rintro e w1 ⟨rfl, rfl⟩
  go_wp2_with fail
  refine (G2.out _).mono ?_
  rintro e w1 ⟨rfl, rfl⟩
  go_wp2_with fail
  refine (M.out _).mono ?_
  rintro e w1 ⟨rfl, rfl⟩
  go_wp2_with fail
  refine (I.out _).mono ?_
  rintro e w1 ⟨rfl, rfl⟩
  go_wp2_with fail
  go_region_with fail
  all_goals (go_wp2_with fail; refine (G4.out _).mono ?_; rintro e w1 ⟨rfl, rfl⟩)
  all_goals (go_wp2_with fail; refine (G12.out _).mono ?_; rintro e w1 ⟨rfl, rfl⟩)
  all_goals (go_wp2_with fail; refine (G16.out _).mono ?_; rintro e w1 ⟨rfl, rfl⟩)
  all_goals go_wp2_with fail
  all_goals exact bodyPost_ret (v := .tuple #[.agg #[.int .i64 x12, .int .i64 x16, .int .i64 s[8].toNat, .int .i64 s[9].toNat, .int .i64 x4, .string (s.extract 20 x)], .int .i64 0]) (by simp [results, Tryd.results14, go_sem]) rfl ⟨rfl, (((Below.refl _ _).alloc (Nat.le_refl _) _).alloc (by simp) _).drew⟩

end Go.Proofs.YtedndifhnmhgpaaDoor
