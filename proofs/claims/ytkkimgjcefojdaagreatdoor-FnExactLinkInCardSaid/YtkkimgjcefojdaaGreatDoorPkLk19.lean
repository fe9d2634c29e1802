/- Texts of a proof that belong together, joined. Nothing here is a claim. -/
import Derived.Test.YtkkimgjcefojdaaGreatDoorPkLk18
import Derived.Test.YtkkimgjcefojdaaGreatDoorPkLk13
namespace Go.Proofs.YtkkimgjcefojdaaGreatDoor
open Go.RowKit Go.Lib



set_option maxRecDepth 100000 in
set_option maxHeartbeats 4000000 in
theorem readArpS_short (s : ByteArray) (w : World) (h : s.size < 28) :
  Calls Tryz.prog 78 #[.string s] w fun e w' => e = .returned (.tuple #[.agg #[.int .i64 0, .int .i64 0, .int .i64 0, .int .i64 0, .int .i64 0], .bool false]) ∧ Below w.heap.size w w' := by
 go_enter Tryz.func78, Tryz.ntmps78
 go_wp2
 exact bodyPost_ret (v := .tuple #[.agg #[.int .i64 0, .int .i64 0, .int .i64 0, .int .i64 0, .int .i64 0], .bool false]) (by simp [results, Tryz.results78, go_sem]) rfl ⟨rfl, (Below.refl _ _).alloc (Nat.le_refl _) _⟩

set_option maxRecDepth 100000 in
set_option maxHeartbeats 4000000 in
theorem readArpS_no (s : ByteArray) (w : World) (hs : s.size ≤ 1048576) (h : 28 ≤ s.size) (hr : ((arpText (gw s 6 2 : Nat) (gw s 8 6 : Nat) (gw s 14 4 : Nat) (gw s 18 6 : Nat) (gw s 24 4 : Nat)).toList == (s.extract 0 28).toList) = false) :
  Calls Tryz.prog 78 #[.string s] w fun e w' => e = .returned (.tuple #[.agg #[.int .i64 0, .int .i64 0, .int .i64 0, .int .i64 0, .int .i64 0], .bool false]) ∧ Below w.heap.size w w' := by
 have G0 := Lib.hid (fun w => get3S s 6 2 w hs (by omega) (by omega))
 have G1 := Lib.hid (fun w => get3S s 8 6 w hs (by omega) (by omega))
 have G2 := Lib.hid (fun w => get3S s 14 4 w hs (by omega) (by omega))
 have G3 := Lib.hid (fun w => get3S s 18 6 w hs (by omega) (by omega))
 have G4 := Lib.hid (fun w => get3S s 24 4 w hs (by omega) (by omega))
 have C := Lib.hid (arpTextS (gw s 6 2 : Nat) (gw s 8 6 : Nat) (gw s 14 4 : Nat) (gw s 18 6 : Nat) (gw s 24 4 : Nat))
 obtain ⟨t, ht⟩ : ∃ t, arpText (gw s 6 2 : Nat) (gw s 8 6 : Nat) (gw s 14 4 : Nat) (gw s 18 6 : Nat) (gw s 24 4 : Nat) = t := ⟨_, rfl⟩
 rw [ht] at C hr
 clear ht
 generalize gw s 6 2 = x0 at G0 C
 generalize gw s 8 6 = x1 at G1 C
 generalize gw s 14 4 = x2 at G2 C
 generalize gw s 18 6 = x3 at G3 C
 generalize gw s 24 4 = x4 at G4 C
 have h0 : ¬ (s.size : Int) < 28 := by omega
 have h1 : (!t.toList == (s.extract 0 28).toList) = true := by rw [hr]; rfl
 clear hr
 have h28 : (28 : Int) ≤ s.size := by omega
 go_enter Tryz.func78, Tryz.ntmps78
 go_wp2_with fail
 refine (G0.out _).mono ?_
 rintro e w1 ⟨rfl, rfl⟩
 go_wp2_with fail
 refine (G1.out _).mono ?_
 rintro e w1 ⟨rfl, rfl⟩
 go_wp2_with fail
 refine (G2.out _).mono ?_
 rintro e w1 ⟨rfl, rfl⟩
 go_wp2_with fail
 refine (G3.out _).mono ?_
 rintro e w1 ⟨rfl, rfl⟩
 go_wp2_with fail
 refine (G4.out _).mono ?_
 rintro e w1 ⟨rfl, rfl⟩
 go_wp2_with fail
 have R0 := Lib.hid ((Blk.new w [.int .i64 0, .int .i64 0, .int .i64 0, .int .i64 0, .int .i64 0] 96).alloc (.cells #[.int .i64 x0, .int .i64 x1, .int .i64 x2, .int .i64 x3, .int .i64 x4] 96))
 have B1 := Lib.hid (((Below.refl w.heap.size w).alloc (Nat.le_refl _) (.cells #[.int .i64 0, .int .i64 0, .int .i64 0, .int .i64 0, .int .i64 0] 96)).alloc (by simp) (.cells #[.int .i64 x0, .int .i64 x1, .int .i64 x2, .int .i64 x3, .int .i64 x4] 96))
 have A0 : Blk ((w.alloc (.cells #[.int .i64 0, .int .i64 0, .int .i64 0, .int .i64 0, .int .i64 0] 96)).alloc (.cells #[.int .i64 x0, .int .i64 x1, .int .i64 x2, .int .i64 x3, .int .i64 x4] 96)) (w.heap.size + 1) [.int .i64 x0, .int .i64 x1, .int .i64 x2, .int .i64 x3, .int .i64 x4] := by
  have := Blk.new (w.alloc (.cells #[.int .i64 0, .int .i64 0, .int .i64 0, .int .i64 0, .int .i64 0] 96)) [.int .i64 x0, .int .i64 x1, .int .i64 x2, .int .i64 x3, .int .i64 x4] 96
  simpa using this
 generalize (w.alloc (.cells #[.int .i64 0, .int .i64 0, .int .i64 0, .int .i64 0, .int .i64 0] 96)).alloc (.cells #[.int .i64 x0, .int .i64 x1, .int .i64 x2, .int .i64 x3, .int .i64 x4] 96) = w2 at R0 A0 B1 ⊢
 obtain ⟨⟨c0, c1, c2, c3, c4⟩, _, _, _, _, _⟩ := A0.of5
 have hg := A0.lt
 go_region_held3 (fun w' => w.heap.size + 1 < w'.heap.size ∧ w'.cell? ⟨w.heap.size + 1, 0, none⟩ = some (.int .i64 x0) ∧ w'.cell? ⟨w.heap.size + 1, 1, none⟩ = some (.int .i64 x1) ∧ w'.cell? ⟨w.heap.size + 1, 2, none⟩ = some (.int .i64 x2) ∧ w'.cell? ⟨w.heap.size + 1, 3, none⟩ = some (.int .i64 x3) ∧ w'.cell? ⟨w.heap.size + 1, 4, none⟩ = some (.int .i64 x4))
  (first | (exact keep5 (by assumption) hb3) | go_keep)
  ((go_at_call 65; ((with_reducible refine (C.out _).mono ?_); rintro e w3 ⟨rfl, hb3⟩)))
 have B := Lib.hid (B1.out.drew.trans (hb3.mono B1.out.size))
 have R := Lib.hid (R0.out.drew.below hb3)
 have A := Lib.hid (A0.drew.below hb3)
 clear hb3 R0 A0 B1 c0 c1 c2 c3 c4
 obtain ⟨⟨d0, d1, d2, d3, d4⟩, e0, e1, e2, e3, e4⟩ := R.out.of5
 go_wp2_with fail
 exact bodyPost_ret (v := .tuple #[.agg #[.int .i64 0, .int .i64 0, .int .i64 0, .int .i64 0, .int .i64 0], .bool false]) (by simp [results, Tryz.results78, go_sem, d0, d1, d2, d3, d4]) rfl ⟨rfl, (((((B.out).setCell (Nat.le_refl _) _).setCell (Nat.le_refl _) _).setCell (Nat.le_refl _) _).setCell (Nat.le_refl _) _).setCell (Nat.le_refl _) _⟩

set_option maxRecDepth 100000 in
set_option maxHeartbeats 4000000 in
theorem readArpS_yes (s : ByteArray) (w : World) (hs : s.size ≤ 1048576) (h : 28 ≤ s.size) (hr : ((arpText (gw s 6 2 : Nat) (gw s 8 6 : Nat) (gw s 14 4 : Nat) (gw s 18 6 : Nat) (gw s 24 4 : Nat)).toList == (s.extract 0 28).toList) = true) :
  Calls Tryz.prog 78 #[.string s] w fun e w' => e = .returned (.tuple #[.agg #[.int .i64 (gw s 6 2 : Nat), .int .i64 (gw s 8 6 : Nat), .int .i64 (gw s 14 4 : Nat), .int .i64 (gw s 18 6 : Nat), .int .i64 (gw s 24 4 : Nat)], .bool true]) ∧ Below w.heap.size w w' := by
 have G0 := Lib.hid (fun w => get3S s 6 2 w hs (by omega) (by omega))
 have G1 := Lib.hid (fun w => get3S s 8 6 w hs (by omega) (by omega))
 have G2 := Lib.hid (fun w => get3S s 14 4 w hs (by omega) (by omega))
 have G3 := Lib.hid (fun w => get3S s 18 6 w hs (by omega) (by omega))
 have G4 := Lib.hid (fun w => get3S s 24 4 w hs (by omega) (by omega))
 have C := Lib.hid (arpTextS (gw s 6 2 : Nat) (gw s 8 6 : Nat) (gw s 14 4 : Nat) (gw s 18 6 : Nat) (gw s 24 4 : Nat))
 obtain ⟨t, ht⟩ : ∃ t, arpText (gw s 6 2 : Nat) (gw s 8 6 : Nat) (gw s 14 4 : Nat) (gw s 18 6 : Nat) (gw s 24 4 : Nat) = t := ⟨_, rfl⟩
 rw [ht] at C hr
 clear ht
 generalize gw s 6 2 = x0 at G0 C ⊢
 generalize gw s 8 6 = x1 at G1 C ⊢
 generalize gw s 14 4 = x2 at G2 C ⊢
 generalize gw s 18 6 = x3 at G3 C ⊢
 generalize gw s 24 4 = x4 at G4 C ⊢
 have h0 : ¬ (s.size : Int) < 28 := by omega
 have h1 : (!t.toList == (s.extract 0 28).toList) = false := by rw [hr]; rfl
 clear hr
 have h28 : (28 : Int) ≤ s.size := by omega
 go_enter Tryz.func78, Tryz.ntmps78
 go_wp2_with fail
 refine (G0.out _).mono ?_
 rintro e w1 ⟨rfl, rfl⟩
 go_wp2_with fail
 refine (G1.out _).mono ?_
 rintro e w1 ⟨rfl, rfl⟩
 go_wp2_with fail
 refine (G2.out _).mono ?_
 rintro e w1 ⟨rfl, rfl⟩
 go_wp2_with fail
 refine (G3.out _).mono ?_
 rintro e w1 ⟨rfl, rfl⟩
 go_wp2_with fail
 refine (G4.out _).mono ?_
 rintro e w1 ⟨rfl, rfl⟩
 go_wp2_with fail
 have R0 := Lib.hid ((Blk.new w [.int .i64 0, .int .i64 0, .int .i64 0, .int .i64 0, .int .i64 0] 96).alloc (.cells #[.int .i64 x0, .int .i64 x1, .int .i64 x2, .int .i64 x3, .int .i64 x4] 96))
 have B1 := Lib.hid (((Below.refl w.heap.size w).alloc (Nat.le_refl _) (.cells #[.int .i64 0, .int .i64 0, .int .i64 0, .int .i64 0, .int .i64 0] 96)).alloc (by simp) (.cells #[.int .i64 x0, .int .i64 x1, .int .i64 x2, .int .i64 x3, .int .i64 x4] 96))
 have A0 : Blk ((w.alloc (.cells #[.int .i64 0, .int .i64 0, .int .i64 0, .int .i64 0, .int .i64 0] 96)).alloc (.cells #[.int .i64 x0, .int .i64 x1, .int .i64 x2, .int .i64 x3, .int .i64 x4] 96)) (w.heap.size + 1) [.int .i64 x0, .int .i64 x1, .int .i64 x2, .int .i64 x3, .int .i64 x4] := by
  have := Blk.new (w.alloc (.cells #[.int .i64 0, .int .i64 0, .int .i64 0, .int .i64 0, .int .i64 0] 96)) [.int .i64 x0, .int .i64 x1, .int .i64 x2, .int .i64 x3, .int .i64 x4] 96
  simpa using this
 generalize (w.alloc (.cells #[.int .i64 0, .int .i64 0, .int .i64 0, .int .i64 0, .int .i64 0] 96)).alloc (.cells #[.int .i64 x0, .int .i64 x1, .int .i64 x2, .int .i64 x3, .int .i64 x4] 96) = w2 at R0 A0 B1 ⊢
 obtain ⟨⟨c0, c1, c2, c3, c4⟩, _, _, _, _, _⟩ := A0.of5
 have hg := A0.lt
 go_region_held3 (fun w' => w.heap.size + 1 < w'.heap.size ∧ w'.cell? ⟨w.heap.size + 1, 0, none⟩ = some (.int .i64 x0) ∧ w'.cell? ⟨w.heap.size + 1, 1, none⟩ = some (.int .i64 x1) ∧ w'.cell? ⟨w.heap.size + 1, 2, none⟩ = some (.int .i64 x2) ∧ w'.cell? ⟨w.heap.size + 1, 3, none⟩ = some (.int .i64 x3) ∧ w'.cell? ⟨w.heap.size + 1, 4, none⟩ = some (.int .i64 x4))
  (first | (exact keep5 (by assumption) hb3) | go_keep)
  ((go_at_call 65; ((with_reducible refine (C.out _).mono ?_); rintro e w3 ⟨rfl, hb3⟩)))
 have B := Lib.hid (B1.out.drew.trans (hb3.mono B1.out.size))
 have R := Lib.hid (R0.out.drew.below hb3)
 have A := Lib.hid (A0.drew.below hb3)
 clear hb3 R0 A0 B1 c0 c1 c2 c3 c4
 obtain ⟨⟨d0, d1, d2, d3, d4⟩, e0, e1, e2, e3, e4⟩ := R.out.of5
 obtain ⟨⟨a0, a1, a2, a3, a4⟩, f0, f1, f2, f3, f4⟩ := A.out.of5
 go_wp2_with fail
 exact bodyPost_ret (v := .tuple #[.agg #[.int .i64 x0, .int .i64 x1, .int .i64 x2, .int .i64 x3, .int .i64 x4], .bool true]) (by simp [results, Tryz.results78, go_sem, d0, d1, d2, d3, d4]) rfl ⟨rfl, (((((B.out).setCell (Nat.le_refl _) _).setCell (Nat.le_refl _) _).setCell (Nat.le_refl _) _).setCell (Nat.le_refl _) _).setCell (Nat.le_refl _) _⟩
end Go.Proofs.YtkkimgjcefojdaaGreatDoor
namespace Go.Proofs.YtkkimgjcefojdaaGreatDoor
open Go.RowKit Go.Lib

theorem toList_add (x y : ByteArray) : (x ++ y).toList = x.toList ++ y.toList := by
 rw [ByteArray.toList_eq, ByteArray.toList_eq, ByteArray.toList_eq, ByteArray.data_append, Array.toList_append]
def rdText (s : ByteArray) : ByteArray := arpText (gw s 6 2 : Nat) (gw s 8 6 : Nat) (gw s 14 4 : Nat) (gw s 18 6 : Nat) (gw s 24 4 : Nat)
theorem rdText_yes (s : ByteArray) (h : 28 ≤ s.size) (hr : rdOk s = true) : rdText s = arpHead ++ s.extract 6 28 := by
 unfold rdText arpText
 unfold rdOk at hr
 rw [if_pos hr]
 have e0 := put_get s 6 2 (by omega) (by omega)
 have e1 := put_get s 8 6 (by omega) (by omega)
 have e2 := put_get s 14 4 (by omega) (by omega)
 have e3 := put_get s 18 6 (by omega) (by omega)
 have e4 := put_get s 24 4 (by omega) (by omega)
 rw [cut_extract] at e0 e1 e2 e3 e4
 have f0 : putW (gw s 6 2 : Int) 2 = s.extract 6 8 := e0
 have f1 : putW (gw s 8 6 : Int) 6 = s.extract 8 14 := e1
 have f2 : putW (gw s 14 4 : Int) 4 = s.extract 14 18 := e2
 have f3 : putW (gw s 18 6 : Int) 6 = s.extract 18 24 := e3
 have f4 : putW (gw s 24 4 : Int) 4 = s.extract 24 28 := e4
 rw [f0, f1, f2, f3, f4, ByteArray.append_assoc, ByteArray.append_assoc, ByteArray.append_assoc, ByteArray.append_assoc]
 refine congrArg (arpHead ++ ·) ?_
 rw [← ByteArray.extract_eq_extract_append_extract 24 (by omega) (by omega), ← ByteArray.extract_eq_extract_append_extract 18 (by omega) (by omega), ← ByteArray.extract_eq_extract_append_extract 14 (by omega) (by omega), ← ByteArray.extract_eq_extract_append_extract 8 (by omega) (by omega)]
theorem cut_size (s : ByteArray) (h : 28 ≤ s.size) : (s.extract 0 28).toList.length = 28 := by
 rw [ByteArray.toList_eq, Array.length_toList, ByteArray.size_data, ByteArray.size_extract]; omega
set_option maxRecDepth 10000 in
theorem text_eq (s : ByteArray) (h : 28 ≤ s.size) : ((rdText s).toList == (s.extract 0 28).toList) = ((s.extract 0 6).toList == [0, 1, 8, 0, 6, 4] && rdOk s) := by
 cases hr : rdOk s with
 | false =>
  have e : rdText s = ⟨#[]⟩ := by unfold rdText arpText; unfold rdOk at hr; rw [if_neg (by rw [hr]; decide)]
  rw [e, Bool.and_false, beq_eq_false_iff_ne]
  intro hh
  have := cut_size s h
  rw [← hh, ByteArray.toList_eq] at this
  cases this
 | true =>
  rw [rdText_yes s h hr, Bool.and_true, ByteArray.extract_eq_extract_append_extract (a := s) (i := 0) (k := 28) 6 (by omega) (by omega), toList_add, toList_add]
  rw [Bool.eq_iff_iff, beq_iff_eq, beq_iff_eq, List.append_cancel_right_eq]
  have e : arpHead.toList = [0, 1, 8, 0, 6, 4] := by rw [ByteArray.toList_eq]; rfl
  rw [e]
  exact eq_comm

theorem readArpS (s : ByteArray) (w : World) (hs : s.size ≤ 1048576) :
  Calls Tryz.prog 78 #[.string s] w fun e w' => e = .returned (raV s) ∧ Below w.heap.size w w' := by
 by_cases h : 28 ≤ s.size
 ·have ht := text_eq s h
  cases hh : (s.extract 0 6).toList == [0, 1, 8, 0, 6, 4] && rdOk s with
  | true => rw [hh] at ht; rw [raV_yes s (by simp only [raOk, hh, h, decide_true, Bool.and_true])]; exact readArpS_yes s w hs h ht
  | false => rw [hh] at ht; rw [raV_no s (by simp only [raOk, hh, Bool.and_false])]; exact readArpS_no s w hs h ht
 ·rw [raV_no s (by simp only [raOk, h, decide_false, Bool.false_and])]; exact readArpS_short s w (by omega)
end Go.Proofs.YtkkimgjcefojdaaGreatDoor
namespace Go.Proofs.YtkkimgjcefojdaaGreatDoor
open Go.RowKit Go.Lib

set_option maxRecDepth 100000 in
set_option maxHeartbeats 4000000 in
theorem arpReplyS_kind (k a b c d m ip : Int) (w : World) (h : k ≠ 1) :
  Calls Tryz.prog 79 #[.agg #[.int .i64 k, .int .i64 a, .int .i64 b, .int .i64 c, .int .i64 d], .int .i64 m, .int .i64 ip] w fun e w' => e = .returned (.tuple #[.agg #[.int .i64 0, .int .i64 0, .int .i64 0, .int .i64 0, .int .i64 0], .bool false]) ∧ Below w.heap.size w w' := by
 go_enter Tryz.func79, Tryz.ntmps79
 go_wp2_with fail
 exact bodyPost_ret (v := .tuple #[.agg #[.int .i64 0, .int .i64 0, .int .i64 0, .int .i64 0, .int .i64 0], .bool false]) (by simp [results, Tryz.results79, go_sem]) rfl ⟨rfl, ((((Below.refl w.heap.size w).alloc (Nat.le_refl _) _).alloc (by simp) _).alloc (by simp; omega) _)⟩

set_option maxRecDepth 100000 in
set_option maxHeartbeats 4000000 in
theorem arpReplyS_other (a b c d m ip : Int) (w : World) (h : d ≠ ip) :
  Calls Tryz.prog 79 #[.agg #[.int .i64 1, .int .i64 a, .int .i64 b, .int .i64 c, .int .i64 d], .int .i64 m, .int .i64 ip] w fun e w' => e = .returned (.tuple #[.agg #[.int .i64 0, .int .i64 0, .int .i64 0, .int .i64 0, .int .i64 0], .bool false]) ∧ Below w.heap.size w w' := by
 go_enter Tryz.func79, Tryz.ntmps79
 go_wp2_with fail
 exact bodyPost_ret (v := .tuple #[.agg #[.int .i64 0, .int .i64 0, .int .i64 0, .int .i64 0, .int .i64 0], .bool false]) (by simp [results, Tryz.results79, go_sem]) rfl ⟨rfl, ((((Below.refl w.heap.size w).alloc (Nat.le_refl _) _).alloc (by simp) _).alloc (by simp; omega) _)⟩

set_option maxRecDepth 100000 in
set_option maxHeartbeats 4000000 in
theorem arpReplyS_no (a b c m ip : Int) (w : World) (hr : arpOk 2 m ip a b = false) :
  Calls Tryz.prog 79 #[.agg #[.int .i64 1, .int .i64 a, .int .i64 b, .int .i64 c, .int .i64 ip], .int .i64 m, .int .i64 ip] w fun e w' => e = .returned (.tuple #[.agg #[.int .i64 0, .int .i64 0, .int .i64 0, .int .i64 0, .int .i64 0], .bool false]) ∧ Below w.heap.size w w' := by
 have C := Lib.hid (arpOkS 2 m ip a b)
 rw [hr] at C
 clear hr
 go_enter Tryz.func79, Tryz.ntmps79
 go_wp2_with fail
 have B1 : Below w.heap.size w (((w.alloc (.cells #[.int .i64 1, .int .i64 a, .int .i64 b, .int .i64 c, .int .i64 ip] 96)).alloc (.cells #[.int .i64 0, .int .i64 0, .int .i64 0, .int .i64 0, .int .i64 0] 96)).alloc (.cells #[.int .i64 2, .int .i64 m, .int .i64 ip, .int .i64 a, .int .i64 b] 96)) := ((((Below.refl w.heap.size w).alloc (by simp) (.cells #[.int .i64 1, .int .i64 a, .int .i64 b, .int .i64 c, .int .i64 ip] 96)).alloc (by simp) (.cells #[.int .i64 0, .int .i64 0, .int .i64 0, .int .i64 0, .int .i64 0] 96)).alloc (by simp; omega) (.cells #[.int .i64 2, .int .i64 m, .int .i64 ip, .int .i64 a, .int .i64 b] 96))
 have R0 : Blk (((w.alloc (.cells #[.int .i64 1, .int .i64 a, .int .i64 b, .int .i64 c, .int .i64 ip] 96)).alloc (.cells #[.int .i64 0, .int .i64 0, .int .i64 0, .int .i64 0, .int .i64 0] 96)).alloc (.cells #[.int .i64 2, .int .i64 m, .int .i64 ip, .int .i64 a, .int .i64 b] 96)) (w.heap.size + 1) [.int .i64 0, .int .i64 0, .int .i64 0, .int .i64 0, .int .i64 0] := by
  have := ((Blk.new (w.alloc (.cells #[.int .i64 1, .int .i64 a, .int .i64 b, .int .i64 c, .int .i64 ip] 96)) [.int .i64 0, .int .i64 0, .int .i64 0, .int .i64 0, .int .i64 0] 96).alloc (.cells #[.int .i64 2, .int .i64 m, .int .i64 ip, .int .i64 a, .int .i64 b] 96))
  simpa using this
 have A0 : Blk (((w.alloc (.cells #[.int .i64 1, .int .i64 a, .int .i64 b, .int .i64 c, .int .i64 ip] 96)).alloc (.cells #[.int .i64 0, .int .i64 0, .int .i64 0, .int .i64 0, .int .i64 0] 96)).alloc (.cells #[.int .i64 2, .int .i64 m, .int .i64 ip, .int .i64 a, .int .i64 b] 96)) (w.heap.size + 1 + 1) [.int .i64 2, .int .i64 m, .int .i64 ip, .int .i64 a, .int .i64 b] := by
  have := Blk.new ((w.alloc (.cells #[.int .i64 1, .int .i64 a, .int .i64 b, .int .i64 c, .int .i64 ip] 96)).alloc (.cells #[.int .i64 0, .int .i64 0, .int .i64 0, .int .i64 0, .int .i64 0] 96)) [.int .i64 2, .int .i64 m, .int .i64 ip, .int .i64 a, .int .i64 b] 96
  simpa using this
 generalize (((w.alloc (.cells #[.int .i64 1, .int .i64 a, .int .i64 b, .int .i64 c, .int .i64 ip] 96)).alloc (.cells #[.int .i64 0, .int .i64 0, .int .i64 0, .int .i64 0, .int .i64 0] 96)).alloc (.cells #[.int .i64 2, .int .i64 m, .int .i64 ip, .int .i64 a, .int .i64 b] 96)) = w2 at R0 A0 B1 ⊢
 refine (C.out _).mono ?_
 rintro e w3 ⟨rfl, hb⟩
 have B := Lib.hid (B1.trans (hb.mono B1.size))
 have R := Lib.hid (R0.below hb)
 have A := Lib.hid (A0.below hb)
 clear hb R0 A0 B1
 obtain ⟨⟨d0, d1, d2, d3, d4⟩, e0, e1, e2, e3, e4⟩ := R.out.of5
 go_wp2_with fail
 exact bodyPost_ret (v := .tuple #[.agg #[.int .i64 0, .int .i64 0, .int .i64 0, .int .i64 0, .int .i64 0], .bool false]) (by simp [results, Tryz.results79, go_sem, d0, d1, d2, d3, d4]) rfl ⟨rfl, (((((B.out).setCell (Nat.le_succ _) _).setCell (Nat.le_succ _) _).setCell (Nat.le_succ _) _).setCell (Nat.le_succ _) _).setCell (Nat.le_succ _) _⟩

set_option maxRecDepth 100000 in
set_option maxHeartbeats 4000000 in
theorem arpReplyS_yes (a b c m ip : Int) (w : World) (hr : arpOk 2 m ip a b = true) :
  Calls Tryz.prog 79 #[.agg #[.int .i64 1, .int .i64 a, .int .i64 b, .int .i64 c, .int .i64 ip], .int .i64 m, .int .i64 ip] w fun e w' => e = .returned (.tuple #[.agg #[.int .i64 2, .int .i64 m, .int .i64 ip, .int .i64 a, .int .i64 b], .bool true]) ∧ Below w.heap.size w w' := by
 have C := Lib.hid (arpOkS 2 m ip a b)
 rw [hr] at C
 clear hr
 go_enter Tryz.func79, Tryz.ntmps79
 go_wp2_with fail
 have B1 : Below w.heap.size w (((w.alloc (.cells #[.int .i64 1, .int .i64 a, .int .i64 b, .int .i64 c, .int .i64 ip] 96)).alloc (.cells #[.int .i64 0, .int .i64 0, .int .i64 0, .int .i64 0, .int .i64 0] 96)).alloc (.cells #[.int .i64 2, .int .i64 m, .int .i64 ip, .int .i64 a, .int .i64 b] 96)) := ((((Below.refl w.heap.size w).alloc (by simp) (.cells #[.int .i64 1, .int .i64 a, .int .i64 b, .int .i64 c, .int .i64 ip] 96)).alloc (by simp) (.cells #[.int .i64 0, .int .i64 0, .int .i64 0, .int .i64 0, .int .i64 0] 96)).alloc (by simp; omega) (.cells #[.int .i64 2, .int .i64 m, .int .i64 ip, .int .i64 a, .int .i64 b] 96))
 have R0 : Blk (((w.alloc (.cells #[.int .i64 1, .int .i64 a, .int .i64 b, .int .i64 c, .int .i64 ip] 96)).alloc (.cells #[.int .i64 0, .int .i64 0, .int .i64 0, .int .i64 0, .int .i64 0] 96)).alloc (.cells #[.int .i64 2, .int .i64 m, .int .i64 ip, .int .i64 a, .int .i64 b] 96)) (w.heap.size + 1) [.int .i64 0, .int .i64 0, .int .i64 0, .int .i64 0, .int .i64 0] := by
  have := ((Blk.new (w.alloc (.cells #[.int .i64 1, .int .i64 a, .int .i64 b, .int .i64 c, .int .i64 ip] 96)) [.int .i64 0, .int .i64 0, .int .i64 0, .int .i64 0, .int .i64 0] 96).alloc (.cells #[.int .i64 2, .int .i64 m, .int .i64 ip, .int .i64 a, .int .i64 b] 96))
  simpa using this
 have A0 : Blk (((w.alloc (.cells #[.int .i64 1, .int .i64 a, .int .i64 b, .int .i64 c, .int .i64 ip] 96)).alloc (.cells #[.int .i64 0, .int .i64 0, .int .i64 0, .int .i64 0, .int .i64 0] 96)).alloc (.cells #[.int .i64 2, .int .i64 m, .int .i64 ip, .int .i64 a, .int .i64 b] 96)) (w.heap.size + 1 + 1) [.int .i64 2, .int .i64 m, .int .i64 ip, .int .i64 a, .int .i64 b] := by
  have := Blk.new ((w.alloc (.cells #[.int .i64 1, .int .i64 a, .int .i64 b, .int .i64 c, .int .i64 ip] 96)).alloc (.cells #[.int .i64 0, .int .i64 0, .int .i64 0, .int .i64 0, .int .i64 0] 96)) [.int .i64 2, .int .i64 m, .int .i64 ip, .int .i64 a, .int .i64 b] 96
  simpa using this
 generalize (((w.alloc (.cells #[.int .i64 1, .int .i64 a, .int .i64 b, .int .i64 c, .int .i64 ip] 96)).alloc (.cells #[.int .i64 0, .int .i64 0, .int .i64 0, .int .i64 0, .int .i64 0] 96)).alloc (.cells #[.int .i64 2, .int .i64 m, .int .i64 ip, .int .i64 a, .int .i64 b] 96)) = w2 at R0 A0 B1 ⊢
 refine (C.out _).mono ?_
 rintro e w3 ⟨rfl, hb⟩
 have B := Lib.hid (B1.trans (hb.mono B1.size))
 have R := Lib.hid (R0.below hb)
 have A := Lib.hid (A0.below hb)
 clear hb R0 A0 B1
 obtain ⟨⟨d0, d1, d2, d3, d4⟩, e0, e1, e2, e3, e4⟩ := R.out.of5
 obtain ⟨⟨a0, a1, a2, a3, a4⟩, f0, f1, f2, f3, f4⟩ := A.out.of5
 go_wp2_with fail
 exact bodyPost_ret (v := .tuple #[.agg #[.int .i64 2, .int .i64 m, .int .i64 ip, .int .i64 a, .int .i64 b], .bool true]) (by simp [results, Tryz.results79, go_sem, d0, d1, d2, d3, d4]) rfl ⟨rfl, (((((B.out).setCell (Nat.le_succ _) _).setCell (Nat.le_succ _) _).setCell (Nat.le_succ _) _).setCell (Nat.le_succ _) _).setCell (Nat.le_succ _) _⟩
end Go.Proofs.YtkkimgjcefojdaaGreatDoor
namespace Go.Proofs.YtkkimgjcefojdaaGreatDoor
open Go.RowKit Go.Lib

theorem arpReplyS (k a b c d m ip : Int) (w : World) :
  Calls Tryz.prog 79 #[.agg #[.int .i64 k, .int .i64 a, .int .i64 b, .int .i64 c, .int .i64 d], .int .i64 m, .int .i64 ip] w fun e w' => e = .returned (rpV k a b d m ip) ∧ Below w.heap.size w w' := by
 by_cases hk : k = 1
 ·subst hk
  by_cases hd : d = ip
  ·subst hd
   cases hr : arpOk 2 m d a b with
   | true => rw [rpV_yes _ _ _ _ _ _ (by simp [rpOk, hr])]; exact arpReplyS_yes a b c m d w hr
   | false => rw [rpV_no _ _ _ _ _ _ (by simp [rpOk, hr])]; exact arpReplyS_no a b c m d w hr
  ·rw [rpV_no _ _ _ _ _ _ (by simp [rpOk, hd])]; exact arpReplyS_other a b c d m ip w hd
 ·rw [rpV_no _ _ _ _ _ _ (by simp [rpOk, hk])]; exact arpReplyS_kind k a b c d m ip w hk
end Go.Proofs.YtkkimgjcefojdaaGreatDoor
namespace Go.Proofs.YtkkimgjcefojdaaGreatDoor
open Go.RowKit Go.Lib

set_option maxHeartbeats 1000000 in
theorem forMeS (d s t m : Int) (b : ByteArray) (w : World) :
  Calls Tryz.prog 34 #[.agg #[.int .i64 d, .int .i64 s, .int .i64 t, .string b], .int .i64 m] w fun e w' => e = .returned (.bool (forMe d m)) ∧ Below w.heap.size w w' := by
 by_cases h : d = m
 ·subst h
  have D : Hid (forMe d d = true) := by show _ = _; simp [forMe]
  go_enter Tryz.func34, Tryz.ntmps34
  go_wp2
  go_ret
  exact ⟨ret_bool D.out.symm, (Below.refl _ _).alloc (Nat.le_refl _) _⟩
 ·have hb : (d == m) = false := by simpa using h
  have D : Hid (forMe d m = decide (d = 281474976710655)) := by show _ = _; simp [forMe, h]
  clear h
  go_enter Tryz.func34, Tryz.ntmps34
  go_wp2
  go_ret
  exact ⟨ret_bool (by rw [D.out, Bool.eq_iff_iff]; simp), (Below.refl _ _).alloc (Nat.le_refl _) _⟩

end Go.Proofs.YtkkimgjcefojdaaGreatDoor
namespace Go.Proofs.YtkkimgjcefojdaaGreatDoor
open Go.RowKit Go.Lib

/-- A link in new memory: never nil. -/
def NewLk (m ip : Int) (rs : List ER) (w : World) (e : Ending) (w' : World) : Prop :=
 ∃ g cap, e = .returned (.agg #[.int .i64 m, .int .i64 ip, .slice (some ⟨g, 0, none⟩) rs.length cap]) ∧ w'.ownsRow w.heap.size 71 3 (.slice (some ⟨g, 0, none⟩) rs.length cap) rs.length (ers rs) ∧ Below w.heap.size w w'
end Go.Proofs.YtkkimgjcefojdaaGreatDoor
namespace Go.Proofs.YtkkimgjcefojdaaGreatDoor
open Go.RowKit Go.Lib

set_option maxRecDepth 100000 in
set_option maxHeartbeats 4000000 in
theorem copyS (m ip : Int) (b off cap : Nat) (rs : List ER) (w : World) (hrow : Row w w.heap.size (some ⟨b, off, none⟩) (ers rs)) (hl : rs.length ≤ 1048577) :
  Calls Tryz.prog 33 #[.agg #[.int .i64 m, .int .i64 ip, .slice (some ⟨b, off, none⟩) rs.length cap]] w (NewLk m ip rs w) := by
 obtain ⟨i0, hi, hz0, hz1, hz2⟩ := info_parts Tryz.info71
 have s1 : (w.alloc (.cells #[.int .i64 m, .int .i64 ip, .slice (some ⟨b, off, none⟩) rs.length cap] 26)).heap.size = w.heap.size + 1 := by simp
 have s2 : ((w.alloc (.cells #[.int .i64 m, .int .i64 ip, .slice (some ⟨b, off, none⟩) rs.length cap] 26)).alloc (.cells #[.int .i64 0, .int .i64 0, .slice none 0 0] 26)).heap.size = w.heap.size + 1 + 1 := by simp
 have B3 := Lib.hid (show Below w.heap.size w (((w.alloc (.cells #[.int .i64 m, .int .i64 ip, .slice (some ⟨b, off, none⟩) rs.length cap] 26)).alloc (.cells #[.int .i64 0, .int .i64 0, .slice none 0 0] 26)).alloc (.cells #[] 71)) from (((Below.refl _ w).alloc (Nat.le_refl _) _).alloc (by simp) _).alloc (by simp; omega) _)
 have HS := Lib.hid (row_adr ((hrow.below B3.out).mono B3.out.size))
 have E1 := Lib.hid (show Blk (((w.alloc (.cells #[.int .i64 m, .int .i64 ip, .slice (some ⟨b, off, none⟩) rs.length cap] 26)).alloc (.cells #[.int .i64 0, .int .i64 0, .slice none 0 0] 26)).alloc (.cells #[] 71)) w.heap.size [.int .i64 m, .int .i64 ip, .slice (some ⟨b, off, none⟩) rs.length cap] from ((Blk.new w [.int .i64 m, .int .i64 ip, .slice (some ⟨b, off, none⟩) rs.length cap] 26).alloc _).alloc _)
 have E2 := Lib.hid (show Blk (((w.alloc (.cells #[.int .i64 m, .int .i64 ip, .slice (some ⟨b, off, none⟩) rs.length cap] 26)).alloc (.cells #[.int .i64 0, .int .i64 0, .slice none 0 0] 26)).alloc (.cells #[] 71)) (w.heap.size + 1) [.int .i64 0, .int .i64 0, .slice none 0 0] by
  have := (Blk.new (w.alloc (.cells #[.int .i64 m, .int .i64 ip, .slice (some ⟨b, off, none⟩) rs.length cap] 26)) [.int .i64 0, .int .i64 0, .slice none 0 0] 26).alloc (.cells #[] 71)
  rwa [s1] at this)
 have O0 := Lib.hid (show ((((w.alloc (.cells #[.int .i64 m, .int .i64 ip, .slice (some ⟨b, off, none⟩) rs.length cap] 26)).alloc (.cells #[.int .i64 0, .int .i64 0, .slice none 0 0] 26)).alloc (.cells #[] 71))).ownsRow (w.heap.size + 1 + 1) 71 3 (.slice (some ⟨w.heap.size + 1 + 1, 0, none⟩) 0 0) 0 [] by
  have := World.ownsRow_lit (base := w.heap.size + 1 + 1) (e := 71) (size := 3) ((w.alloc (.cells #[.int .i64 m, .int .i64 ip, .slice (some ⟨b, off, none⟩) rs.length cap] 26)).alloc (.cells #[.int .i64 0, .int .i64 0, .slice none 0 0] 26)) #[] 0 (by rw [s2]; exact Nat.le_refl _) (Nat.zero_le _) rfl
  rwa [s2] at this)
 have hz3 : (((w.alloc (.cells #[.int .i64 m, .int .i64 ip, .slice (some ⟨b, off, none⟩) rs.length cap] 26)).alloc (.cells #[.int .i64 0, .int .i64 0, .slice none 0 0] 26)).alloc (.cells #[] 71)).heap.size = w.heap.size + 1 + 1 + 1 := by simp
 clear hrow s1 s2
 go_enter Tryz.func33, Tryz.ntmps33
 go_wp2_with (at_builtin; refine wpList_append_own _ rfl _ _ 24 rfl (w.heap.size + 1 + 1) 71 i0 (.agg #[.int .i64 0, .int .i64 0, .int .i64 0]) 3 24 Tryz.underlying24 hi hz0 hz1 hz2 rfl (by decide) (.slice (some ⟨w.heap.size + 1 + 1, 0, none⟩) 0 0) 0 [] rfl O0.out ⟨b, off, none⟩ rs.length cap (ers rs) rfl (ers_length rs) HS.out (ers_one rs) (by unfold maxLen; omega) (by omega) (by simp <;> omega) ?_; intro v' v0 hown1 hgrow1 hnil1; simp only [Nat.zero_add, List.nil_append] at hown1; obtain ⟨g_o, cp, rfl⟩ := own_shape hown1 (fun e => by have := (hnil1.1 e).1; cases this); have B0 := Lib.hid (B3.out.grown hgrow1 (by simp <;> omega) (fun j e => by cases e; exact Nat.le_trans (Nat.le_succ _) (Nat.le_succ _))); have O1 := Lib.hid hown1; have K1 := Lib.hid (E1.out.grown (g := w.heap.size + 1 + 1) hgrow1 (by omega)); have K2 := Lib.hid (E2.out.grown (g := w.heap.size + 1 + 1) hgrow1 (by omega)); clear hown1 hgrow1 hnil1 hz3 E1 E2 O0 B3; obtain ⟨⟨c0, c1, c2⟩, d0, d1, d2⟩ := K1.out.o3; obtain ⟨⟨e0, e1, e2⟩, f0, f1, f2⟩ := K2.out.o3)
 refine bodyPost_ret (v := .agg #[.int .i64 m, .int .i64 ip, .slice (some ⟨g_o, 0, none⟩) rs.length cp]) (by simp [results, Tryz.results33, go_sem, e0, e1, e2]) rfl ⟨g_o, cp, rfl, ?_, ?_⟩
 ·exact own_down (own_set (own_set (own_set (own_set O1.out _ _ (by omega) _) _ _ (by omega) _) _ _ (by omega) _) _ _ (by omega) _) (by omega)
 ·exact ((((B0.out.setCell (by simp) _).setCell (by simp) _).setCell (by simp) _).setCell (by simp) _)
end Go.Proofs.YtkkimgjcefojdaaGreatDoor
