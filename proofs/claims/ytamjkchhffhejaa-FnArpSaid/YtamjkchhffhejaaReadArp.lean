/- ReadArp, of the model and of the program. -/
import Derived.Test.YtamjkchhffhejaaArpTxt
import Derived.Test.YtamjkchhffhejaaArpTxtS
import Derived.Test.YtamjkchhffhejaaGetI
import Derived.Test.YtamjkchhffhejaaGetS
import Derived.Test.YtamjkchhffhejaaBlk5
namespace Go.Proofs.Ytamjkchhffhejaa
open Go.RowKit Go.Lib

theorem get3I (s : ByteArray) (a n : Nat) (w : World) (hs : s.size ≤ 1048576) (hn : 1 ≤ n ∧ n ≤ 6) (h : a + n ≤ s.size) :
    Calls Try.prog 25 #[.string s, .int .i64 a, .int .i64 n] w fun e w' => e = .returned (.tuple #[.int .i64 (gw s a n : Nat), .bool true]) ∧ w = w' := by
  have := getWordI s a n w hs (by omega)
  rw [getW_yes s a n hn h] at this; exact this
theorem get3S (s : ByteArray) (a n : Nat) (w : World) (hs : s.size ≤ 1048576) (hn : 1 ≤ n ∧ n ≤ 6) (h : a + n ≤ s.size) :
    Calls Try.prog 31 #[.string s, .int .i64 a, .int .i64 n] w fun e w' => e = .returned (.tuple #[.int .i64 (gw s a n : Nat), .bool true]) ∧ w = w' := by
  have := getWordS s a n w hs (by omega)
  rw [getW_yes s a n hn h] at this; exact this

set_option maxRecDepth 100000 in
set_option maxHeartbeats 4000000 in
theorem readArpI_short (s : ByteArray) (w : World) (h : s.size < 28) :
    Calls Try.prog 12 #[.string s] w fun e w' => e = .returned (.tuple #[.agg #[.int .i64 0, .int .i64 0, .int .i64 0, .int .i64 0, .int .i64 0], .bool false]) ∧ Below w.heap.size w w' := by
  go_enter Try.func12, Try.ntmps12
  go_wp2
  exact bodyPost_ret (v := .tuple #[.agg #[.int .i64 0, .int .i64 0, .int .i64 0, .int .i64 0, .int .i64 0], .bool false]) (by simp [results, Try.results12, go_sem]) rfl ⟨rfl, (Below.refl _ _).alloc (Nat.le_refl _) _⟩

set_option maxRecDepth 100000 in
set_option maxHeartbeats 4000000 in
theorem readArpS_short (s : ByteArray) (w : World) (h : s.size < 28) :
    Calls Try.prog 18 #[.string s] w fun e w' => e = .returned (.tuple #[.agg #[.int .i64 0, .int .i64 0, .int .i64 0, .int .i64 0, .int .i64 0], .bool false]) ∧ Below w.heap.size w w' := by
  go_enter Try.func18, Try.ntmps18
  go_wp2
  exact bodyPost_ret (v := .tuple #[.agg #[.int .i64 0, .int .i64 0, .int .i64 0, .int .i64 0, .int .i64 0], .bool false]) (by simp [results, Try.results18, go_sem]) rfl ⟨rfl, (Below.refl _ _).alloc (Nat.le_refl _) _⟩

set_option maxRecDepth 100000 in
set_option maxHeartbeats 4000000 in
theorem readArpI_head (s : ByteArray) (w : World) (h : 28 ≤ s.size) (hh : ((s.extract 0 6).toList == [0, 1, 8, 0, 6, 4]) = false) :
    Calls Try.prog 12 #[.string s] w fun e w' => e = .returned (.tuple #[.agg #[.int .i64 0, .int .i64 0, .int .i64 0, .int .i64 0, .int .i64 0], .bool false]) ∧ Below w.heap.size w w' := by
  have h0 : ¬ (s.size : Int) < 28 := by omega
  have h1 : (!(s.extract 0 6).toList == [0, 1, 8, 0, 6, 4]) = true := by rw [hh]; rfl
  clear hh
  go_enter Try.func12, Try.ntmps12
  go_wp2_with fail
  exact bodyPost_ret (v := .tuple #[.agg #[.int .i64 0, .int .i64 0, .int .i64 0, .int .i64 0, .int .i64 0], .bool false]) (by simp [results, Try.results12, go_sem]) rfl ⟨rfl, (Below.refl _ _).alloc (Nat.le_refl _) _⟩

set_option maxRecDepth 100000 in
set_option maxHeartbeats 4000000 in
theorem readArpI_no (s : ByteArray) (w : World) (hs : s.size ≤ 1048576) (h : 28 ≤ s.size) (hh : ((s.extract 0 6).toList == [0, 1, 8, 0, 6, 4]) = true) (hr : arpOk (gw s 6 2 : Nat) (gw s 8 6 : Nat) (gw s 14 4 : Nat) (gw s 18 6 : Nat) (gw s 24 4 : Nat) = false) :
    Calls Try.prog 12 #[.string s] w fun e w' => e = .returned (.tuple #[.agg #[.int .i64 0, .int .i64 0, .int .i64 0, .int .i64 0, .int .i64 0], .bool false]) ∧ Below w.heap.size w w' := by
  have G0 := Lib.hid (fun w => get3I s 6 2 w hs (by omega) (by omega))
  have G1 := Lib.hid (fun w => get3I s 8 6 w hs (by omega) (by omega))
  have G2 := Lib.hid (fun w => get3I s 14 4 w hs (by omega) (by omega))
  have G3 := Lib.hid (fun w => get3I s 18 6 w hs (by omega) (by omega))
  have G4 := Lib.hid (fun w => get3I s 24 4 w hs (by omega) (by omega))
  have C := Lib.hid (arpOkI (gw s 6 2 : Nat) (gw s 8 6 : Nat) (gw s 14 4 : Nat) (gw s 18 6 : Nat) (gw s 24 4 : Nat))
  rw [hr] at C
  clear hr
  generalize gw s 6 2 = x0 at G0 C
  generalize gw s 8 6 = x1 at G1 C
  generalize gw s 14 4 = x2 at G2 C
  generalize gw s 18 6 = x3 at G3 C
  generalize gw s 24 4 = x4 at G4 C
  have h0 : ¬ (s.size : Int) < 28 := by omega
  have h1 : (!(s.extract 0 6).toList == [0, 1, 8, 0, 6, 4]) = false := by rw [hh]; rfl
  clear hh
  go_enter Try.func12, Try.ntmps12
  go_wp2_with fail
  refine (G0.out _).mono ?_
  rintro e w1 ⟨rfl, rfl⟩
  go_wp2_with fail
  refine (G1.out _).mono ?_
  rintro e w1 ⟨rfl, rfl⟩
  go_wp2_with fail
  refine (G2.out _).mono ?_
  rintro e w1 ⟨rfl, rfl⟩
  go_wp2_with fail
  refine (G3.out _).mono ?_
  rintro e w1 ⟨rfl, rfl⟩
  go_wp2_with fail
  refine (G4.out _).mono ?_
  rintro e w1 ⟨rfl, rfl⟩
  go_wp2_with fail
  have R0 := Lib.hid ((Blk.new w [.int .i64 0, .int .i64 0, .int .i64 0, .int .i64 0, .int .i64 0] 25).alloc (.cells #[.int .i64 x0, .int .i64 x1, .int .i64 x2, .int .i64 x3, .int .i64 x4] 25))
  have B1 := Lib.hid (((Below.refl w.heap.size w).alloc (Nat.le_refl _) (.cells #[.int .i64 0, .int .i64 0, .int .i64 0, .int .i64 0, .int .i64 0] 25)).alloc (by simp) (.cells #[.int .i64 x0, .int .i64 x1, .int .i64 x2, .int .i64 x3, .int .i64 x4] 25))
  have A0 : Blk ((w.alloc (.cells #[.int .i64 0, .int .i64 0, .int .i64 0, .int .i64 0, .int .i64 0] 25)).alloc (.cells #[.int .i64 x0, .int .i64 x1, .int .i64 x2, .int .i64 x3, .int .i64 x4] 25)) (w.heap.size + 1) [.int .i64 x0, .int .i64 x1, .int .i64 x2, .int .i64 x3, .int .i64 x4] := by
    have := Blk.new (w.alloc (.cells #[.int .i64 0, .int .i64 0, .int .i64 0, .int .i64 0, .int .i64 0] 25)) [.int .i64 x0, .int .i64 x1, .int .i64 x2, .int .i64 x3, .int .i64 x4] 25
    simpa using this
  generalize (w.alloc (.cells #[.int .i64 0, .int .i64 0, .int .i64 0, .int .i64 0, .int .i64 0] 25)).alloc (.cells #[.int .i64 x0, .int .i64 x1, .int .i64 x2, .int .i64 x3, .int .i64 x4] 25) = w2 at R0 A0 B1 ⊢
  refine (C.out _).mono ?_
  rintro e w3 ⟨rfl, hb⟩
  have B := Lib.hid (B1.out.trans (hb.mono B1.out.size))
  have R := Lib.hid (R0.out.below hb)
  have A := Lib.hid (A0.below hb)
  clear hb R0 A0 B1
  obtain ⟨⟨d0, d1, d2, d3, d4⟩, e0, e1, e2, e3, e4⟩ := R.out.of5
  go_wp2_with fail
  exact bodyPost_ret (v := .tuple #[.agg #[.int .i64 0, .int .i64 0, .int .i64 0, .int .i64 0, .int .i64 0], .bool false]) (by simp [results, Try.results12, go_sem, d0, d1, d2, d3, d4]) rfl ⟨rfl, (((((B.out).setCell (Nat.le_refl _) _).setCell (Nat.le_refl _) _).setCell (Nat.le_refl _) _).setCell (Nat.le_refl _) _).setCell (Nat.le_refl _) _⟩

set_option maxRecDepth 100000 in
set_option maxHeartbeats 4000000 in
theorem readArpS_no (s : ByteArray) (w : World) (hs : s.size ≤ 1048576) (h : 28 ≤ s.size) (hr : ((arpText (gw s 6 2 : Nat) (gw s 8 6 : Nat) (gw s 14 4 : Nat) (gw s 18 6 : Nat) (gw s 24 4 : Nat)).toList == (s.extract 0 28).toList) = false) :
    Calls Try.prog 18 #[.string s] w fun e w' => e = .returned (.tuple #[.agg #[.int .i64 0, .int .i64 0, .int .i64 0, .int .i64 0, .int .i64 0], .bool false]) ∧ Below w.heap.size w w' := by
  have G0 := Lib.hid (fun w => get3S s 6 2 w hs (by omega) (by omega))
  have G1 := Lib.hid (fun w => get3S s 8 6 w hs (by omega) (by omega))
  have G2 := Lib.hid (fun w => get3S s 14 4 w hs (by omega) (by omega))
  have G3 := Lib.hid (fun w => get3S s 18 6 w hs (by omega) (by omega))
  have G4 := Lib.hid (fun w => get3S s 24 4 w hs (by omega) (by omega))
  have C := Lib.hid (arpTextS (gw s 6 2 : Nat) (gw s 8 6 : Nat) (gw s 14 4 : Nat) (gw s 18 6 : Nat) (gw s 24 4 : Nat))
  obtain ⟨t, ht⟩ : ∃ t, arpText (gw s 6 2 : Nat) (gw s 8 6 : Nat) (gw s 14 4 : Nat) (gw s 18 6 : Nat) (gw s 24 4 : Nat) = t := ⟨_, rfl⟩
  rw [ht] at C hr
  clear ht
  generalize gw s 6 2 = x0 at G0 C
  generalize gw s 8 6 = x1 at G1 C
  generalize gw s 14 4 = x2 at G2 C
  generalize gw s 18 6 = x3 at G3 C
  generalize gw s 24 4 = x4 at G4 C
  have h0 : ¬ (s.size : Int) < 28 := by omega
  have h1 : (!t.toList == (s.extract 0 28).toList) = true := by rw [hr]; rfl
  clear hr
  have h28 : (28 : Int) ≤ s.size := by omega
  go_enter Try.func18, Try.ntmps18
  go_wp2_with fail
  refine (G0.out _).mono ?_
  rintro e w1 ⟨rfl, rfl⟩
  go_wp2_with fail
  refine (G1.out _).mono ?_
  rintro e w1 ⟨rfl, rfl⟩
  go_wp2_with fail
  refine (G2.out _).mono ?_
  rintro e w1 ⟨rfl, rfl⟩
  go_wp2_with fail
  refine (G3.out _).mono ?_
  rintro e w1 ⟨rfl, rfl⟩
  go_wp2_with fail
  refine (G4.out _).mono ?_
  rintro e w1 ⟨rfl, rfl⟩
  go_wp2_with fail
  have R0 := Lib.hid ((Blk.new w [.int .i64 0, .int .i64 0, .int .i64 0, .int .i64 0, .int .i64 0] 25).alloc (.cells #[.int .i64 x0, .int .i64 x1, .int .i64 x2, .int .i64 x3, .int .i64 x4] 25))
  have B1 := Lib.hid (((Below.refl w.heap.size w).alloc (Nat.le_refl _) (.cells #[.int .i64 0, .int .i64 0, .int .i64 0, .int .i64 0, .int .i64 0] 25)).alloc (by simp) (.cells #[.int .i64 x0, .int .i64 x1, .int .i64 x2, .int .i64 x3, .int .i64 x4] 25))
  have A0 : Blk ((w.alloc (.cells #[.int .i64 0, .int .i64 0, .int .i64 0, .int .i64 0, .int .i64 0] 25)).alloc (.cells #[.int .i64 x0, .int .i64 x1, .int .i64 x2, .int .i64 x3, .int .i64 x4] 25)) (w.heap.size + 1) [.int .i64 x0, .int .i64 x1, .int .i64 x2, .int .i64 x3, .int .i64 x4] := by
    have := Blk.new (w.alloc (.cells #[.int .i64 0, .int .i64 0, .int .i64 0, .int .i64 0, .int .i64 0] 25)) [.int .i64 x0, .int .i64 x1, .int .i64 x2, .int .i64 x3, .int .i64 x4] 25
    simpa using this
  generalize (w.alloc (.cells #[.int .i64 0, .int .i64 0, .int .i64 0, .int .i64 0, .int .i64 0] 25)).alloc (.cells #[.int .i64 x0, .int .i64 x1, .int .i64 x2, .int .i64 x3, .int .i64 x4] 25) = w2 at R0 A0 B1 ⊢
  obtain ⟨⟨c0, c1, c2, c3, c4⟩, _, _, _, _, _⟩ := A0.of5
  have hg := A0.lt
  go_region_held3 (fun w' => w.heap.size + 1 < w'.heap.size ∧ w'.cell? ⟨w.heap.size + 1, 0, none⟩ = some (.int .i64 x0) ∧ w'.cell? ⟨w.heap.size + 1, 1, none⟩ = some (.int .i64 x1) ∧ w'.cell? ⟨w.heap.size + 1, 2, none⟩ = some (.int .i64 x2) ∧ w'.cell? ⟨w.heap.size + 1, 3, none⟩ = some (.int .i64 x3) ∧ w'.cell? ⟨w.heap.size + 1, 4, none⟩ = some (.int .i64 x4))
    (first | (exact keep5 (by assumption) hb3) | go_keep)
    ((go_at_call 17; ((with_reducible refine (C.out _).mono ?_); rintro e w3 ⟨rfl, hb3⟩)))
  have B := Lib.hid (B1.out.drew.trans (hb3.mono B1.out.size))
  have R := Lib.hid (R0.out.drew.below hb3)
  have A := Lib.hid (A0.drew.below hb3)
  clear hb3 R0 A0 B1 c0 c1 c2 c3 c4
  obtain ⟨⟨d0, d1, d2, d3, d4⟩, e0, e1, e2, e3, e4⟩ := R.out.of5
  go_wp2_with fail
  exact bodyPost_ret (v := .tuple #[.agg #[.int .i64 0, .int .i64 0, .int .i64 0, .int .i64 0, .int .i64 0], .bool false]) (by simp [results, Try.results18, go_sem, d0, d1, d2, d3, d4]) rfl ⟨rfl, (((((B.out).setCell (Nat.le_refl _) _).setCell (Nat.le_refl _) _).setCell (Nat.le_refl _) _).setCell (Nat.le_refl _) _).setCell (Nat.le_refl _) _⟩

set_option maxRecDepth 100000 in
set_option maxHeartbeats 4000000 in
theorem readArpI_yes (s : ByteArray) (w : World) (hs : s.size ≤ 1048576) (h : 28 ≤ s.size) (hh : ((s.extract 0 6).toList == [0, 1, 8, 0, 6, 4]) = true) (hr : arpOk (gw s 6 2 : Nat) (gw s 8 6 : Nat) (gw s 14 4 : Nat) (gw s 18 6 : Nat) (gw s 24 4 : Nat) = true) :
    Calls Try.prog 12 #[.string s] w fun e w' => e = .returned (.tuple #[.agg #[.int .i64 (gw s 6 2 : Nat), .int .i64 (gw s 8 6 : Nat), .int .i64 (gw s 14 4 : Nat), .int .i64 (gw s 18 6 : Nat), .int .i64 (gw s 24 4 : Nat)], .bool true]) ∧ Below w.heap.size w w' := by
  have G0 := Lib.hid (fun w => get3I s 6 2 w hs (by omega) (by omega))
  have G1 := Lib.hid (fun w => get3I s 8 6 w hs (by omega) (by omega))
  have G2 := Lib.hid (fun w => get3I s 14 4 w hs (by omega) (by omega))
  have G3 := Lib.hid (fun w => get3I s 18 6 w hs (by omega) (by omega))
  have G4 := Lib.hid (fun w => get3I s 24 4 w hs (by omega) (by omega))
  have C := Lib.hid (arpOkI (gw s 6 2 : Nat) (gw s 8 6 : Nat) (gw s 14 4 : Nat) (gw s 18 6 : Nat) (gw s 24 4 : Nat))
  rw [hr] at C
  clear hr
  generalize gw s 6 2 = x0 at G0 C ⊢
  generalize gw s 8 6 = x1 at G1 C ⊢
  generalize gw s 14 4 = x2 at G2 C ⊢
  generalize gw s 18 6 = x3 at G3 C ⊢
  generalize gw s 24 4 = x4 at G4 C ⊢
  have h0 : ¬ (s.size : Int) < 28 := by omega
  have h1 : (!(s.extract 0 6).toList == [0, 1, 8, 0, 6, 4]) = false := by rw [hh]; rfl
  clear hh
  go_enter Try.func12, Try.ntmps12
  go_wp2_with fail
  refine (G0.out _).mono ?_
  rintro e w1 ⟨rfl, rfl⟩
  go_wp2_with fail
  refine (G1.out _).mono ?_
  rintro e w1 ⟨rfl, rfl⟩
  go_wp2_with fail
  refine (G2.out _).mono ?_
  rintro e w1 ⟨rfl, rfl⟩
  go_wp2_with fail
  refine (G3.out _).mono ?_
  rintro e w1 ⟨rfl, rfl⟩
  go_wp2_with fail
  refine (G4.out _).mono ?_
  rintro e w1 ⟨rfl, rfl⟩
  go_wp2_with fail
  have R0 := Lib.hid ((Blk.new w [.int .i64 0, .int .i64 0, .int .i64 0, .int .i64 0, .int .i64 0] 25).alloc (.cells #[.int .i64 x0, .int .i64 x1, .int .i64 x2, .int .i64 x3, .int .i64 x4] 25))
  have B1 := Lib.hid (((Below.refl w.heap.size w).alloc (Nat.le_refl _) (.cells #[.int .i64 0, .int .i64 0, .int .i64 0, .int .i64 0, .int .i64 0] 25)).alloc (by simp) (.cells #[.int .i64 x0, .int .i64 x1, .int .i64 x2, .int .i64 x3, .int .i64 x4] 25))
  have A0 : Blk ((w.alloc (.cells #[.int .i64 0, .int .i64 0, .int .i64 0, .int .i64 0, .int .i64 0] 25)).alloc (.cells #[.int .i64 x0, .int .i64 x1, .int .i64 x2, .int .i64 x3, .int .i64 x4] 25)) (w.heap.size + 1) [.int .i64 x0, .int .i64 x1, .int .i64 x2, .int .i64 x3, .int .i64 x4] := by
    have := Blk.new (w.alloc (.cells #[.int .i64 0, .int .i64 0, .int .i64 0, .int .i64 0, .int .i64 0] 25)) [.int .i64 x0, .int .i64 x1, .int .i64 x2, .int .i64 x3, .int .i64 x4] 25
    simpa using this
  generalize (w.alloc (.cells #[.int .i64 0, .int .i64 0, .int .i64 0, .int .i64 0, .int .i64 0] 25)).alloc (.cells #[.int .i64 x0, .int .i64 x1, .int .i64 x2, .int .i64 x3, .int .i64 x4] 25) = w2 at R0 A0 B1 ⊢
  refine (C.out _).mono ?_
  rintro e w3 ⟨rfl, hb⟩
  have B := Lib.hid (B1.out.trans (hb.mono B1.out.size))
  have R := Lib.hid (R0.out.below hb)
  have A := Lib.hid (A0.below hb)
  clear hb R0 A0 B1
  obtain ⟨⟨d0, d1, d2, d3, d4⟩, e0, e1, e2, e3, e4⟩ := R.out.of5
  obtain ⟨⟨a0, a1, a2, a3, a4⟩, f0, f1, f2, f3, f4⟩ := A.out.of5
  go_wp2_with fail
  exact bodyPost_ret (v := .tuple #[.agg #[.int .i64 x0, .int .i64 x1, .int .i64 x2, .int .i64 x3, .int .i64 x4], .bool true]) (by simp [results, Try.results12, go_sem, d0, d1, d2, d3, d4]) rfl ⟨rfl, (((((B.out).setCell (Nat.le_refl _) _).setCell (Nat.le_refl _) _).setCell (Nat.le_refl _) _).setCell (Nat.le_refl _) _).setCell (Nat.le_refl _) _⟩

set_option maxRecDepth 100000 in
set_option maxHeartbeats 4000000 in
theorem readArpS_yes (s : ByteArray) (w : World) (hs : s.size ≤ 1048576) (h : 28 ≤ s.size) (hr : ((arpText (gw s 6 2 : Nat) (gw s 8 6 : Nat) (gw s 14 4 : Nat) (gw s 18 6 : Nat) (gw s 24 4 : Nat)).toList == (s.extract 0 28).toList) = true) :
    Calls Try.prog 18 #[.string s] w fun e w' => e = .returned (.tuple #[.agg #[.int .i64 (gw s 6 2 : Nat), .int .i64 (gw s 8 6 : Nat), .int .i64 (gw s 14 4 : Nat), .int .i64 (gw s 18 6 : Nat), .int .i64 (gw s 24 4 : Nat)], .bool true]) ∧ Below w.heap.size w w' := by
  have G0 := Lib.hid (fun w => get3S s 6 2 w hs (by omega) (by omega))
  have G1 := Lib.hid (fun w => get3S s 8 6 w hs (by omega) (by omega))
  have G2 := Lib.hid (fun w => get3S s 14 4 w hs (by omega) (by omega))
  have G3 := Lib.hid (fun w => get3S s 18 6 w hs (by omega) (by omega))
  have G4 := Lib.hid (fun w => get3S s 24 4 w hs (by omega) (by omega))
  have C := Lib.hid (arpTextS (gw s 6 2 : Nat) (gw s 8 6 : Nat) (gw s 14 4 : Nat) (gw s 18 6 : Nat) (gw s 24 4 : Nat))
  obtain ⟨t, ht⟩ : ∃ t, arpText (gw s 6 2 : Nat) (gw s 8 6 : Nat) (gw s 14 4 : Nat) (gw s 18 6 : Nat) (gw s 24 4 : Nat) = t := ⟨_, rfl⟩
  rw [ht] at C hr
  clear ht
  generalize gw s 6 2 = x0 at G0 C ⊢
  generalize gw s 8 6 = x1 at G1 C ⊢
  generalize gw s 14 4 = x2 at G2 C ⊢
  generalize gw s 18 6 = x3 at G3 C ⊢
  generalize gw s 24 4 = x4 at G4 C ⊢
  have h0 : ¬ (s.size : Int) < 28 := by omega
  have h1 : (!t.toList == (s.extract 0 28).toList) = false := by rw [hr]; rfl
  clear hr
  have h28 : (28 : Int) ≤ s.size := by omega
  go_enter Try.func18, Try.ntmps18
  go_wp2_with fail
  refine (G0.out _).mono ?_
  rintro e w1 ⟨rfl, rfl⟩
  go_wp2_with fail
  refine (G1.out _).mono ?_
  rintro e w1 ⟨rfl, rfl⟩
  go_wp2_with fail
  refine (G2.out _).mono ?_
  rintro e w1 ⟨rfl, rfl⟩
  go_wp2_with fail
  refine (G3.out _).mono ?_
  rintro e w1 ⟨rfl, rfl⟩
  go_wp2_with fail
  refine (G4.out _).mono ?_
  rintro e w1 ⟨rfl, rfl⟩
  go_wp2_with fail
  have R0 := Lib.hid ((Blk.new w [.int .i64 0, .int .i64 0, .int .i64 0, .int .i64 0, .int .i64 0] 25).alloc (.cells #[.int .i64 x0, .int .i64 x1, .int .i64 x2, .int .i64 x3, .int .i64 x4] 25))
  have B1 := Lib.hid (((Below.refl w.heap.size w).alloc (Nat.le_refl _) (.cells #[.int .i64 0, .int .i64 0, .int .i64 0, .int .i64 0, .int .i64 0] 25)).alloc (by simp) (.cells #[.int .i64 x0, .int .i64 x1, .int .i64 x2, .int .i64 x3, .int .i64 x4] 25))
  have A0 : Blk ((w.alloc (.cells #[.int .i64 0, .int .i64 0, .int .i64 0, .int .i64 0, .int .i64 0] 25)).alloc (.cells #[.int .i64 x0, .int .i64 x1, .int .i64 x2, .int .i64 x3, .int .i64 x4] 25)) (w.heap.size + 1) [.int .i64 x0, .int .i64 x1, .int .i64 x2, .int .i64 x3, .int .i64 x4] := by
    have := Blk.new (w.alloc (.cells #[.int .i64 0, .int .i64 0, .int .i64 0, .int .i64 0, .int .i64 0] 25)) [.int .i64 x0, .int .i64 x1, .int .i64 x2, .int .i64 x3, .int .i64 x4] 25
    simpa using this
  generalize (w.alloc (.cells #[.int .i64 0, .int .i64 0, .int .i64 0, .int .i64 0, .int .i64 0] 25)).alloc (.cells #[.int .i64 x0, .int .i64 x1, .int .i64 x2, .int .i64 x3, .int .i64 x4] 25) = w2 at R0 A0 B1 ⊢
  obtain ⟨⟨c0, c1, c2, c3, c4⟩, _, _, _, _, _⟩ := A0.of5
  have hg := A0.lt
  go_region_held3 (fun w' => w.heap.size + 1 < w'.heap.size ∧ w'.cell? ⟨w.heap.size + 1, 0, none⟩ = some (.int .i64 x0) ∧ w'.cell? ⟨w.heap.size + 1, 1, none⟩ = some (.int .i64 x1) ∧ w'.cell? ⟨w.heap.size + 1, 2, none⟩ = some (.int .i64 x2) ∧ w'.cell? ⟨w.heap.size + 1, 3, none⟩ = some (.int .i64 x3) ∧ w'.cell? ⟨w.heap.size + 1, 4, none⟩ = some (.int .i64 x4))
    (first | (exact keep5 (by assumption) hb3) | go_keep)
    ((go_at_call 17; ((with_reducible refine (C.out _).mono ?_); rintro e w3 ⟨rfl, hb3⟩)))
  have B := Lib.hid (B1.out.drew.trans (hb3.mono B1.out.size))
  have R := Lib.hid (R0.out.drew.below hb3)
  have A := Lib.hid (A0.drew.below hb3)
  clear hb3 R0 A0 B1 c0 c1 c2 c3 c4
  obtain ⟨⟨d0, d1, d2, d3, d4⟩, e0, e1, e2, e3, e4⟩ := R.out.of5
  obtain ⟨⟨a0, a1, a2, a3, a4⟩, f0, f1, f2, f3, f4⟩ := A.out.of5
  go_wp2_with fail
  exact bodyPost_ret (v := .tuple #[.agg #[.int .i64 x0, .int .i64 x1, .int .i64 x2, .int .i64 x3, .int .i64 x4], .bool true]) (by simp [results, Try.results18, go_sem, d0, d1, d2, d3, d4]) rfl ⟨rfl, (((((B.out).setCell (Nat.le_refl _) _).setCell (Nat.le_refl _) _).setCell (Nat.le_refl _) _).setCell (Nat.le_refl _) _).setCell (Nat.le_refl _) _⟩
end Go.Proofs.Ytamjkchhffhejaa
