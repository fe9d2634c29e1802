/- ReadFrame, of the model and of the program. -/
import Derived.Test.YtjldfmifccjniaaFrameTxt
import Derived.Test.YtjldfmifccjniaaGetI
import Derived.Test.YtjldfmifccjniaaGetS
namespace Go.Proofs.Ytjldfmifccjniaa
open Go.RowKit Go.Lib

theorem bcell {W w1 : World} (hb : Below W.heap.size W w1) : (∀ b o, b < W.heap.size → w1.cell? ⟨b, o, none⟩ = W.cell? ⟨b, o, none⟩) ∧ (∀ b o, b < W.heap.size → w1.frozen? ⟨b, o, none⟩ = W.frozen? ⟨b, o, none⟩) :=
  ⟨fun b o h => hb.cell (p := ⟨b, o, none⟩) h, fun b o h => hb.frozen (p := ⟨b, o, none⟩) h⟩

theorem get3I (s : ByteArray) (a n : Nat) (w : World) (hs : s.size ≤ 1048576) (hn : 1 ≤ n ∧ n ≤ 6) (h : a + n ≤ s.size) :
    Calls Try.prog 26 #[.string s, .int .i64 a, .int .i64 n] w fun e w' => e = .returned (.tuple #[.int .i64 (gw s a n : Nat), .bool true]) ∧ w = w' := by
  have := getWordI s a n w hs (by omega)
  rw [getW_yes s a n hn h] at this; exact this
theorem get3S (s : ByteArray) (a n : Nat) (w : World) (hs : s.size ≤ 1048576) (hn : 1 ≤ n ∧ n ≤ 6) (h : a + n ≤ s.size) :
    Calls Try.prog 28 #[.string s, .int .i64 a, .int .i64 n] w fun e w' => e = .returned (.tuple #[.int .i64 (gw s a n : Nat), .bool true]) ∧ w = w' := by
  have := getWordS s a n w hs (by omega)
  rw [getW_yes s a n hn h] at this; exact this

set_option maxRecDepth 100000 in
set_option maxHeartbeats 2000000 in
theorem readFrameI_short (s : ByteArray) (w : World) (h : s.size < 14) :
    Calls Try.prog 12 #[.string s] w fun e w' => e = .returned (.tuple #[.agg #[.int .i64 0, .int .i64 0, .int .i64 0, .string ⟨#[]⟩], .bool false]) ∧ Below w.heap.size w w' := by
  go_enter Try.func12, Try.ntmps12
  go_wp2
  exact bodyPost_ret (v := .tuple #[.agg #[.int .i64 0, .int .i64 0, .int .i64 0, .string ⟨#[]⟩], .bool false]) (by simp [results, Try.results12, go_sem]) rfl ⟨rfl, (Below.refl _ _).alloc (Nat.le_refl _) _⟩

set_option maxRecDepth 100000 in
set_option maxHeartbeats 4000000 in
theorem readFrameI_no (s : ByteArray) (w : World) (hs : s.size ≤ 1048576) (h : 14 ≤ s.size) (hr : readOk s = false) :
    Calls Try.prog 12 #[.string s] w fun e w' => e = .returned (.tuple #[.agg #[.int .i64 0, .int .i64 0, .int .i64 0, .string ⟨#[]⟩], .bool false]) ∧ Below w.heap.size w w' := by
  have G0 := Lib.hid (fun w => get3I s 0 6 w hs (by omega) (by omega))
  have G1 := Lib.hid (fun w => get3I s 6 6 w hs (by omega) (by omega))
  have G2 := Lib.hid (fun w => get3I s 12 2 w hs (by omega) (by omega))
  have C := Lib.hid (frameOkI (gw s 0 6 : Nat) (gw s 6 6 : Nat) (gw s 12 2 : Nat) (s.extract 14 s.size))
  unfold readOk at hr
  rw [hr] at C
  clear hr
  generalize gw s 0 6 = x at G0 C
  generalize gw s 6 6 = y at G1 C
  generalize gw s 12 2 = z at G2 C
  have h0 : ¬ (s.size : Int) < 14 := by omega
  go_enter Try.func12, Try.ntmps12
  go_wp2_with fail
  refine (G0.out _).mono ?_
  rintro e w1 ⟨rfl, rfl⟩
  go_wp2_with fail
  refine (G1.out _).mono ?_
  rintro e w1 ⟨rfl, rfl⟩
  go_wp2_with fail
  refine (G2.out _).mono ?_
  rintro e w1 ⟨rfl, rfl⟩
  go_wp2_with fail
  refine (C.out _).mono ?_
  rintro e w1 ⟨rfl, hb⟩
  have B := Lib.hid ((((Below.refl w.heap.size w).alloc (Nat.le_refl _) _).alloc (by simp) _).trans (hb.mono (by simp; omega)))
  have K := Lib.hid (((HasC.new w #[.int .i64 0, .int .i64 0, .int .i64 0, .string ⟨#[]⟩] 25).alloc _).keep hb)
  obtain ⟨hc, hf⟩ := bcell hb
  clear hb
  go_wp2_with fail
  obtain ⟨d0, d1, d2, d3⟩ := K.out.four
  exact bodyPost_ret (v := .tuple #[.agg #[.int .i64 0, .int .i64 0, .int .i64 0, .string ⟨#[]⟩], .bool false]) (by simp [results, Try.results12, go_sem, d0, d1, d2, d3]) rfl ⟨rfl, (((B.out.setCell (Nat.le_refl _) _).setCell (Nat.le_refl _) _).setCell (Nat.le_refl _) _).setCell (Nat.le_refl _) _⟩

set_option maxRecDepth 100000 in
set_option maxHeartbeats 4000000 in
theorem readFrameI_yes (s : ByteArray) (w : World) (hs : s.size ≤ 1048576) (h : 14 ≤ s.size) (hr : readOk s = true) :
    Calls Try.prog 12 #[.string s] w fun e w' => e = .returned (.tuple #[.agg #[.int .i64 (gw s 0 6 : Nat), .int .i64 (gw s 6 6 : Nat), .int .i64 (gw s 12 2 : Nat), .string (s.extract 14 s.size)], .bool true]) ∧ Below w.heap.size w w' := by
  have G0 := Lib.hid (fun w => get3I s 0 6 w hs (by omega) (by omega))
  have G1 := Lib.hid (fun w => get3I s 6 6 w hs (by omega) (by omega))
  have G2 := Lib.hid (fun w => get3I s 12 2 w hs (by omega) (by omega))
  have C := Lib.hid (frameOkI (gw s 0 6 : Nat) (gw s 6 6 : Nat) (gw s 12 2 : Nat) (s.extract 14 s.size))
  unfold readOk at hr
  rw [hr] at C
  clear hr
  generalize gw s 0 6 = x at G0 C ⊢
  generalize gw s 6 6 = y at G1 C ⊢
  generalize gw s 12 2 = z at G2 C ⊢
  have h0 : ¬ (s.size : Int) < 14 := by omega
  go_enter Try.func12, Try.ntmps12
  go_wp2_with fail
  refine (G0.out _).mono ?_
  rintro e w1 ⟨rfl, rfl⟩
  go_wp2_with fail
  refine (G1.out _).mono ?_
  rintro e w1 ⟨rfl, rfl⟩
  go_wp2_with fail
  refine (G2.out _).mono ?_
  rintro e w1 ⟨rfl, rfl⟩
  go_wp2_with fail
  refine (C.out _).mono ?_
  rintro e w1 ⟨rfl, hb⟩
  have B := Lib.hid ((((Below.refl w.heap.size w).alloc (Nat.le_refl _) _).alloc (by simp) _).trans (hb.mono (by simp; omega)))
  have K := Lib.hid (((HasC.new w #[.int .i64 0, .int .i64 0, .int .i64 0, .string ⟨#[]⟩] 25).alloc _).keep hb)
  obtain ⟨hc, hf⟩ := bcell hb
  clear hb
  go_wp2_with fail
  obtain ⟨d0, d1, d2, d3⟩ := K.out.four
  exact bodyPost_ret (v := .tuple #[.agg #[.int .i64 x, .int .i64 y, .int .i64 z, .string (s.extract 14 s.size)], .bool true]) (by simp [results, Try.results12, go_sem, d0, d1, d2, d3]) rfl ⟨rfl, (((B.out.setCell (Nat.le_refl _) _).setCell (Nat.le_refl _) _).setCell (Nat.le_refl _) _).setCell (Nat.le_refl _) _⟩

set_option maxRecDepth 100000 in
set_option maxHeartbeats 2000000 in
theorem readFrameS_short (s : ByteArray) (w : World) (h : s.size < 14) :
    Calls Try.prog 14 #[.string s] w fun e w' => e = .returned (.tuple #[.agg #[.int .i64 0, .int .i64 0, .int .i64 0, .string ⟨#[]⟩], .bool false]) ∧ Below w.heap.size w w' := by
  go_enter Try.func14, Try.ntmps14
  go_wp2
  exact bodyPost_ret (v := .tuple #[.agg #[.int .i64 0, .int .i64 0, .int .i64 0, .string ⟨#[]⟩], .bool false]) (by simp [results, Try.results14, go_sem]) rfl ⟨rfl, (Below.refl _ _).alloc (Nat.le_refl _) _⟩

set_option maxRecDepth 100000 in
set_option maxHeartbeats 4000000 in
theorem readFrameS_no (s : ByteArray) (w : World) (hs : s.size ≤ 1048576) (h : 14 ≤ s.size) (hr : readOk s = false) :
    Calls Try.prog 14 #[.string s] w fun e w' => e = .returned (.tuple #[.agg #[.int .i64 0, .int .i64 0, .int .i64 0, .string ⟨#[]⟩], .bool false]) ∧ Below w.heap.size w w' := by
  have G0 := Lib.hid (fun w => get3S s 0 6 w hs (by omega) (by omega))
  have G1 := Lib.hid (fun w => get3S s 6 6 w hs (by omega) (by omega))
  have G2 := Lib.hid (fun w => get3S s 12 2 w hs (by omega) (by omega))
  have C := Lib.hid (frameTextS (gw s 0 6 : Nat) (gw s 6 6 : Nat) (gw s 12 2 : Nat) (s.extract 14 s.size))
  have e : frameText (gw s 0 6 : Nat) (gw s 6 6 : Nat) (gw s 12 2 : Nat) (s.extract 14 s.size) = ⟨#[]⟩ := by
    unfold frameText; rw [if_neg (by unfold readOk at hr; rw [hr]; decide)]
  rw [e] at C
  clear hr e
  have hl := notEmpty s (by omega)
  generalize gw s 0 6 = x at G0 C
  generalize gw s 6 6 = y at G1 C
  generalize gw s 12 2 = z at G2 C
  have h0 : ¬ (s.size : Int) < 14 := by omega
  go_enter Try.func14, Try.ntmps14
  go_wp2_with fail
  refine (G0.out _).mono ?_
  rintro e w1 ⟨rfl, rfl⟩
  go_wp2_with fail
  refine (G1.out _).mono ?_
  rintro e w1 ⟨rfl, rfl⟩
  go_wp2_with fail
  refine (G2.out _).mono ?_
  rintro e w1 ⟨rfl, rfl⟩
  go_wp2_with fail
  refine (C.out _).mono ?_
  rintro e w1 ⟨rfl, hb⟩
  have B := Lib.hid ((((Below.refl w.heap.size w).alloc (Nat.le_refl _) _).alloc (by simp) _).trans (hb.mono (by simp; omega)))
  have K := Lib.hid (((HasC.new w #[.int .i64 0, .int .i64 0, .int .i64 0, .string ⟨#[]⟩] 25).alloc _).keep hb)
  obtain ⟨hc, hf⟩ := bcell hb
  clear hb
  go_wp2_with fail
  obtain ⟨d0, d1, d2, d3⟩ := K.out.four
  exact bodyPost_ret (v := .tuple #[.agg #[.int .i64 0, .int .i64 0, .int .i64 0, .string ⟨#[]⟩], .bool false]) (by simp [results, Try.results14, go_sem, d0, d1, d2, d3]) rfl ⟨rfl, (((B.out.setCell (Nat.le_refl _) _).setCell (Nat.le_refl _) _).setCell (Nat.le_refl _) _).setCell (Nat.le_refl _) _⟩

set_option maxRecDepth 100000 in
set_option maxHeartbeats 4000000 in
theorem readFrameS_yes (s : ByteArray) (w : World) (hs : s.size ≤ 1048576) (h : 14 ≤ s.size) (hr : readOk s = true) :
    Calls Try.prog 14 #[.string s] w fun e w' => e = .returned (.tuple #[.agg #[.int .i64 (gw s 0 6 : Nat), .int .i64 (gw s 6 6 : Nat), .int .i64 (gw s 12 2 : Nat), .string (s.extract 14 s.size)], .bool true]) ∧ Below w.heap.size w w' := by
  have G0 := Lib.hid (fun w => get3S s 0 6 w hs (by omega) (by omega))
  have G1 := Lib.hid (fun w => get3S s 6 6 w hs (by omega) (by omega))
  have G2 := Lib.hid (fun w => get3S s 12 2 w hs (by omega) (by omega))
  have C := Lib.hid (frameTextS (gw s 0 6 : Nat) (gw s 6 6 : Nat) (gw s 12 2 : Nat) (s.extract 14 s.size))
  rw [text_read s h hr] at C
  clear hr
  generalize gw s 0 6 = x at G0 C ⊢
  generalize gw s 6 6 = y at G1 C ⊢
  generalize gw s 12 2 = z at G2 C ⊢
  have h0 : ¬ (s.size : Int) < 14 := by omega
  go_enter Try.func14, Try.ntmps14
  go_wp2_with fail
  refine (G0.out _).mono ?_
  rintro e w1 ⟨rfl, rfl⟩
  go_wp2_with fail
  refine (G1.out _).mono ?_
  rintro e w1 ⟨rfl, rfl⟩
  go_wp2_with fail
  refine (G2.out _).mono ?_
  rintro e w1 ⟨rfl, rfl⟩
  go_wp2_with fail
  refine (C.out _).mono ?_
  rintro e w1 ⟨rfl, hb⟩
  have B := Lib.hid ((((Below.refl w.heap.size w).alloc (Nat.le_refl _) _).alloc (by simp) _).trans (hb.mono (by simp; omega)))
  have K := Lib.hid (((HasC.new w #[.int .i64 0, .int .i64 0, .int .i64 0, .string ⟨#[]⟩] 25).alloc _).keep hb)
  obtain ⟨hc, hf⟩ := bcell hb
  clear hb
  go_wp2_with fail
  obtain ⟨d0, d1, d2, d3⟩ := K.out.four
  exact bodyPost_ret (v := .tuple #[.agg #[.int .i64 x, .int .i64 y, .int .i64 z, .string (s.extract 14 s.size)], .bool true]) (by simp [results, Try.results14, go_sem, d0, d1, d2, d3]) rfl ⟨rfl, (((B.out.setCell (Nat.le_refl _) _).setCell (Nat.le_refl _) _).setCell (Nat.le_refl _) _).setCell (Nat.le_refl _) _⟩

end Go.Proofs.Ytjldfmifccjniaa
