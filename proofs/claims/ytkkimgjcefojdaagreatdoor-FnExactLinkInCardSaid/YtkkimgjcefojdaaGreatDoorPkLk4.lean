/- Texts of a proof that belong together, joined. Nothing here is a claim. -/
import Derived.DeepKeys
import Derived.Test.YtkkimgjcefojdaaGreatDoorPkLk3
namespace Go.Proofs.YtkkimgjcefojdaaGreatDoor
open Go.RowKit Go.Lib


set_option maxHeartbeats 1000000 in
theorem arpOkI (k a b c d : Int) (w : World) :
  Calls Tryz.prog 118 #[.agg #[.int .i64 k, .int .i64 a, .int .i64 b, .int .i64 c, .int .i64 d]] w fun e w' => e = .returned (.bool (arpOk k a b c d)) ∧ Below w.heap.size w w' := by
 have Cp := Lib.hid (fun w => wordOkI a 48 w)
 obtain ⟨p, hp⟩ : ∃ p, wordOk a 48 = p := ⟨_, rfl⟩
 rw [hp] at Cp
 have Cq := Lib.hid (fun w => wordOkI c 48 w)
 obtain ⟨q, hq⟩ : ∃ q, wordOk c 48 = q := ⟨_, rfl⟩
 rw [hq] at Cq
 have Cr := Lib.hid (fun w => wordOkI b 32 w)
 obtain ⟨r, hr⟩ : ∃ r, wordOk b 32 = r := ⟨_, rfl⟩
 rw [hr] at Cr
 have Cs := Lib.hid (fun w => wordOkI d 32 w)
 obtain ⟨s, hs⟩ : ∃ s, wordOk d 32 = s := ⟨_, rfl⟩
 rw [hs] at Cs
 unfold arpOk
 rw [hp, hq, hr, hs]
 clear hp hq hr hs
 have hk : k = 1 ∨ k = 2 ∨ (k ≠ 1 ∧ k ≠ 2) := by omega
 rcases hk with rfl | rfl | ⟨k1, k2⟩
 ·rw [decide_eq_true (show (1 : Int) ≤ 1 ∧ (1 : Int) ≤ 2 by omega)]
  cases p with
  | false =>
   go_enter Tryz.func118, Tryz.ntmps118
   go_wp2_with fail
   refine (Cp.out _).mono ?_
   rintro e w1 ⟨rfl, rfl⟩
   go_wp2_with fail
   go_ret
   exact ⟨rfl, (Below.refl _ _).alloc (Nat.le_refl _) _⟩
  | true =>
   cases q with
   | false =>
    go_enter Tryz.func118, Tryz.ntmps118
    go_wp2_with fail
    refine (Cp.out _).mono ?_
    rintro e w1 ⟨rfl, rfl⟩
    go_wp2_with fail
    refine (Cq.out _).mono ?_
    rintro e w1 ⟨rfl, rfl⟩
    go_wp2_with fail
    go_ret
    exact ⟨rfl, (Below.refl _ _).alloc (Nat.le_refl _) _⟩
   | true =>
    cases r with
    | false =>
     go_enter Tryz.func118, Tryz.ntmps118
     go_wp2_with fail
     refine (Cp.out _).mono ?_
     rintro e w1 ⟨rfl, rfl⟩
     go_wp2_with fail
     refine (Cq.out _).mono ?_
     rintro e w1 ⟨rfl, rfl⟩
     go_wp2_with fail
     refine (Cr.out _).mono ?_
     rintro e w1 ⟨rfl, rfl⟩
     go_wp2_with fail
     go_ret
     exact ⟨rfl, (Below.refl _ _).alloc (Nat.le_refl _) _⟩
    | true =>
     cases s with
     | false =>
      go_enter Tryz.func118, Tryz.ntmps118
      go_wp2_with fail
      refine (Cp.out _).mono ?_
      rintro e w1 ⟨rfl, rfl⟩
      go_wp2_with fail
      refine (Cq.out _).mono ?_
      rintro e w1 ⟨rfl, rfl⟩
      go_wp2_with fail
      refine (Cr.out _).mono ?_
      rintro e w1 ⟨rfl, rfl⟩
      go_wp2_with fail
      refine (Cs.out _).mono ?_
      rintro e w1 ⟨rfl, rfl⟩
      go_wp2_with fail
      go_ret
      exact ⟨rfl, (Below.refl _ _).alloc (Nat.le_refl _) _⟩
     | true =>
      go_enter Tryz.func118, Tryz.ntmps118
      go_wp2_with fail
      refine (Cp.out _).mono ?_
      rintro e w1 ⟨rfl, rfl⟩
      go_wp2_with fail
      refine (Cq.out _).mono ?_
      rintro e w1 ⟨rfl, rfl⟩
      go_wp2_with fail
      refine (Cr.out _).mono ?_
      rintro e w1 ⟨rfl, rfl⟩
      go_wp2_with fail
      refine (Cs.out _).mono ?_
      rintro e w1 ⟨rfl, rfl⟩
      go_wp2_with fail
      go_ret
      exact ⟨rfl, (Below.refl _ _).alloc (Nat.le_refl _) _⟩
 ·rw [decide_eq_true (show (1 : Int) ≤ 2 ∧ (2 : Int) ≤ 2 by omega)]
  cases p with
  | false =>
   go_enter Tryz.func118, Tryz.ntmps118
   go_wp2_with fail
   refine (Cp.out _).mono ?_
   rintro e w1 ⟨rfl, rfl⟩
   go_wp2_with fail
   go_ret
   exact ⟨rfl, (Below.refl _ _).alloc (Nat.le_refl _) _⟩
  | true =>
   cases q with
   | false =>
    go_enter Tryz.func118, Tryz.ntmps118
    go_wp2_with fail
    refine (Cp.out _).mono ?_
    rintro e w1 ⟨rfl, rfl⟩
    go_wp2_with fail
    refine (Cq.out _).mono ?_
    rintro e w1 ⟨rfl, rfl⟩
    go_wp2_with fail
    go_ret
    exact ⟨rfl, (Below.refl _ _).alloc (Nat.le_refl _) _⟩
   | true =>
    cases r with
    | false =>
     go_enter Tryz.func118, Tryz.ntmps118
     go_wp2_with fail
     refine (Cp.out _).mono ?_
     rintro e w1 ⟨rfl, rfl⟩
     go_wp2_with fail
     refine (Cq.out _).mono ?_
     rintro e w1 ⟨rfl, rfl⟩
     go_wp2_with fail
     refine (Cr.out _).mono ?_
     rintro e w1 ⟨rfl, rfl⟩
     go_wp2_with fail
     go_ret
     exact ⟨rfl, (Below.refl _ _).alloc (Nat.le_refl _) _⟩
    | true =>
     cases s with
     | false =>
      go_enter Tryz.func118, Tryz.ntmps118
      go_wp2_with fail
      refine (Cp.out _).mono ?_
      rintro e w1 ⟨rfl, rfl⟩
      go_wp2_with fail
      refine (Cq.out _).mono ?_
      rintro e w1 ⟨rfl, rfl⟩
      go_wp2_with fail
      refine (Cr.out _).mono ?_
      rintro e w1 ⟨rfl, rfl⟩
      go_wp2_with fail
      refine (Cs.out _).mono ?_
      rintro e w1 ⟨rfl, rfl⟩
      go_wp2_with fail
      go_ret
      exact ⟨rfl, (Below.refl _ _).alloc (Nat.le_refl _) _⟩
     | true =>
      go_enter Tryz.func118, Tryz.ntmps118
      go_wp2_with fail
      refine (Cp.out _).mono ?_
      rintro e w1 ⟨rfl, rfl⟩
      go_wp2_with fail
      refine (Cq.out _).mono ?_
      rintro e w1 ⟨rfl, rfl⟩
      go_wp2_with fail
      refine (Cr.out _).mono ?_
      rintro e w1 ⟨rfl, rfl⟩
      go_wp2_with fail
      refine (Cs.out _).mono ?_
      rintro e w1 ⟨rfl, rfl⟩
      go_wp2_with fail
      go_ret
      exact ⟨rfl, (Below.refl _ _).alloc (Nat.le_refl _) _⟩
 ·rw [decide_eq_false (show ¬ (1 ≤ k ∧ k ≤ 2) by omega)]
  clear Cp Cq Cr Cs
  have b1 : (k != 1) = true := by simpa using k1
  have b2 : (k != 2) = true := by simpa using k2
  go_enter Tryz.func118, Tryz.ntmps118
  go_wp2
  go_ret
  exact ⟨rfl, (Below.refl _ _).alloc (Nat.le_refl _) _⟩
end Go.Proofs.YtkkimgjcefojdaaGreatDoor
namespace Go.Proofs.YtkkimgjcefojdaaGreatDoor
open Go.RowKit Go.Lib


set_option maxRecDepth 100000 in
set_option maxHeartbeats 4000000 in
theorem arpTextI (k a b c d : Int) (w : World) :
  Calls Tryz.prog 107 #[.agg #[.int .i64 k, .int .i64 a, .int .i64 b, .int .i64 c, .int .i64 d]] w fun e w' => e = .returned (.string (arpText k a b c d)) ∧ Below w.heap.size w w' := by
 have C1 := Lib.hid (arpOkI k a b c d)
 obtain ⟨o, ho⟩ : ∃ o, arpOk k a b c d = o := ⟨_, rfl⟩
 rw [ho] at C1
 unfold arpText
 rw [ho]
 cases o with
 | false =>
  clear ho
  go_enter Tryz.func107, Tryz.ntmps107
  go_wp2_with fail
  refine (C1.out _).mono ?_
  rintro e w1 ⟨rfl, hb1⟩
  have B1 := Lib.hid (((Below.refl w.heap.size w).alloc (Nat.le_refl _) _).trans (hb1.mono (by simp)))
  clear hb1
  go_wp2_with fail
  go_ret
  exact ⟨rfl, B1.out⟩
 | true =>
  have P0 := Lib.hid (putWordI k 2)
  obtain ⟨x0, e0⟩ : ∃ x, putW k 2 = x := ⟨_, rfl⟩
  have z0 := putW_le k 2
  rw [e0] at P0 z0
  have P1 := Lib.hid (putWordI a 6)
  obtain ⟨x1, e1⟩ : ∃ x, putW a 6 = x := ⟨_, rfl⟩
  have z1 := putW_le a 6
  rw [e1] at P1 z1
  have P2 := Lib.hid (putWordI b 4)
  obtain ⟨x2, e2⟩ : ∃ x, putW b 4 = x := ⟨_, rfl⟩
  have z2 := putW_le b 4
  rw [e2] at P2 z2
  have P3 := Lib.hid (putWordI c 6)
  obtain ⟨x3, e3⟩ : ∃ x, putW c 6 = x := ⟨_, rfl⟩
  have z3 := putW_le c 6
  rw [e3] at P3 z3
  have P4 := Lib.hid (putWordI d 4)
  obtain ⟨x4, e4⟩ : ∃ x, putW d 4 = x := ⟨_, rfl⟩
  have z4 := putW_le d 4
  rw [e4] at P4 z4
  rw [e0, e1, e2, e3, e4, if_pos rfl]
  have m0 : ¬ 9223372036854775807 < x1.size + x2.size := by omega
  have m1 : ¬ 9223372036854775807 < x3.size + x4.size := by omega
  have m2 : ¬ 9223372036854775807 < 6 + x0.size := by omega
  have m3 : ¬ 9223372036854775807 < 6 + x0.size + (x1.size + x2.size) := by omega
  have m4 : ¬ 9223372036854775807 < 6 + x0.size + (x1.size + x2.size) + (x3.size + x4.size) := by omega
  clear ho e0 e1 e2 e3 e4 z0 z1 z2 z3 z4
  go_enter Tryz.func107, Tryz.ntmps107
  go_wp2_with fail
  refine (C1.out _).mono ?_
  rintro e w1 ⟨rfl, hb1⟩
  have B1 := Lib.hid (((Below.refl w.heap.size w).alloc (Nat.le_refl _) _).trans (hb1.mono (by simp)))
  have K1 := Lib.hid ((HasC.new w #[.int .i64 k, .int .i64 a, .int .i64 b, .int .i64 c, .int .i64 d] 96).keep hb1)
  clear hb1
  obtain ⟨c0, c1, c2, c3, c4⟩ := K1.out.of5
  have hg := K1.out.1
  go_wp2_with fail
  go_region_held3 (fun w' => w.heap.size < w'.heap.size ∧ w'.cell? ⟨w.heap.size, 0, none⟩ = some (.int .i64 k) ∧ w'.cell? ⟨w.heap.size, 1, none⟩ = some (.int .i64 a) ∧ w'.cell? ⟨w.heap.size, 2, none⟩ = some (.int .i64 b) ∧ w'.cell? ⟨w.heap.size, 3, none⟩ = some (.int .i64 c) ∧ w'.cell? ⟨w.heap.size, 4, none⟩ = some (.int .i64 d))
   (first | (exact keep5 (by assumption) hb3) | (exact keep5 (by assumption) hb2) | go_keep)
   ((go_at_call 90; first | ((with_reducible refine (P1.out _).mono ?_); rintro e w2 ⟨rfl, hb2⟩) | ((with_reducible refine (P2.out _).mono ?_); rintro e w3 ⟨rfl, hb3⟩)))
  have B2 := Lib.hid (B1.out.drew.trans (hb2.mono B1.out.size))
  have B3 := Lib.hid (B2.out.trans (hb3.mono B2.out.size))
  have K3 := Lib.hid ((K1.out.drew.keep hb2).keep hb3)
  clear hb2 hb3 B1 B2 K1 c0 c1 c2 c3 c4 hg
  obtain ⟨c0, c1, c2, c3, c4⟩ := K3.out.of5
  have hg := K3.out.1
  go_wp2_with fail
  go_region_held3 (fun w' => w.heap.size < w'.heap.size ∧ w'.cell? ⟨w.heap.size, 0, none⟩ = some (.int .i64 k) ∧ w'.cell? ⟨w.heap.size, 1, none⟩ = some (.int .i64 a) ∧ w'.cell? ⟨w.heap.size, 2, none⟩ = some (.int .i64 b) ∧ w'.cell? ⟨w.heap.size, 3, none⟩ = some (.int .i64 c) ∧ w'.cell? ⟨w.heap.size, 4, none⟩ = some (.int .i64 d))
   (first | (exact keep5 (by assumption) hb5) | (exact keep5 (by assumption) hb4) | go_keep)
   ((go_at_call 90; first | ((with_reducible refine (P3.out _).mono ?_); rintro e w4 ⟨rfl, hb4⟩) | ((with_reducible refine (P4.out _).mono ?_); rintro e w5 ⟨rfl, hb5⟩)))
  have B4 := Lib.hid (B3.out.drew.trans (hb4.mono B3.out.size))
  have B5 := Lib.hid (B4.out.trans (hb5.mono B4.out.size))
  have K5 := Lib.hid ((K3.out.drew.keep hb4).keep hb5)
  clear hb4 hb5 B3 B4 K3 c0 c1 c2 c3 c4 hg
  obtain ⟨c0, c1, c2, c3, c4⟩ := K5.out.of5
  have hg := K5.out.1
  go_wp2_with fail
  refine (P0.out _).mono ?_
  rintro e w6 ⟨rfl, hb6⟩
  have B6 := Lib.hid (B5.out.trans (hb6.mono B5.out.size))
  clear hb6 c0 c1 c2 c3 c4
  go_wp2_with fail
  go_ret
  exact ⟨congrArg (fun x => Ending.returned (Value.string x)) (by simp only [ByteArray.append_assoc]; rfl), B6.out⟩
end Go.Proofs.YtkkimgjcefojdaaGreatDoor
namespace Go.Proofs.YtkkimgjcefojdaaGreatDoor
open Go.RowKit Go.Lib



set_option maxRecDepth 100000 in
set_option maxHeartbeats 4000000 in
theorem readArpI_short (s : ByteArray) (w : World) (h : s.size < 28) :
  Calls Tryz.prog 105 #[.string s] w fun e w' => e = .returned (.tuple #[.agg #[.int .i64 0, .int .i64 0, .int .i64 0, .int .i64 0, .int .i64 0], .bool false]) ∧ Below w.heap.size w w' := by
 go_enter Tryz.func105, Tryz.ntmps105
 go_wp2
 exact bodyPost_ret (v := .tuple #[.agg #[.int .i64 0, .int .i64 0, .int .i64 0, .int .i64 0, .int .i64 0], .bool false]) (by simp [results, Tryz.results105, go_sem]) rfl ⟨rfl, (Below.refl _ _).alloc (Nat.le_refl _) _⟩

set_option maxRecDepth 100000 in
set_option maxHeartbeats 4000000 in
theorem readArpI_head (s : ByteArray) (w : World) (h : 28 ≤ s.size) (hh : ((s.extract 0 6).toList == [0, 1, 8, 0, 6, 4]) = false) :
  Calls Tryz.prog 105 #[.string s] w fun e w' => e = .returned (.tuple #[.agg #[.int .i64 0, .int .i64 0, .int .i64 0, .int .i64 0, .int .i64 0], .bool false]) ∧ Below w.heap.size w w' := by
 have h0 : ¬ (s.size : Int) < 28 := by omega
 have h1 : (!(s.extract 0 6).toList == [0, 1, 8, 0, 6, 4]) = true := by rw [hh]; rfl
 clear hh
 go_enter Tryz.func105, Tryz.ntmps105
 go_wp2_with fail
 exact bodyPost_ret (v := .tuple #[.agg #[.int .i64 0, .int .i64 0, .int .i64 0, .int .i64 0, .int .i64 0], .bool false]) (by simp [results, Tryz.results105, go_sem]) rfl ⟨rfl, (Below.refl _ _).alloc (Nat.le_refl _) _⟩

set_option maxRecDepth 100000 in
set_option maxHeartbeats 4000000 in
theorem readArpI_no (s : ByteArray) (w : World) (hs : s.size ≤ 1048576) (h : 28 ≤ s.size) (hh : ((s.extract 0 6).toList == [0, 1, 8, 0, 6, 4]) = true) (hr : arpOk (gw s 6 2 : Nat) (gw s 8 6 : Nat) (gw s 14 4 : Nat) (gw s 18 6 : Nat) (gw s 24 4 : Nat) = false) :
  Calls Tryz.prog 105 #[.string s] w fun e w' => e = .returned (.tuple #[.agg #[.int .i64 0, .int .i64 0, .int .i64 0, .int .i64 0, .int .i64 0], .bool false]) ∧ Below w.heap.size w w' := by
 have G0 := Lib.hid (fun w => get3I s 6 2 w hs (by omega) (by omega))
 have G1 := Lib.hid (fun w => get3I s 8 6 w hs (by omega) (by omega))
 have G2 := Lib.hid (fun w => get3I s 14 4 w hs (by omega) (by omega))
 have G3 := Lib.hid (fun w => get3I s 18 6 w hs (by omega) (by omega))
 have G4 := Lib.hid (fun w => get3I s 24 4 w hs (by omega) (by omega))
 have C := Lib.hid (arpOkI (gw s 6 2 : Nat) (gw s 8 6 : Nat) (gw s 14 4 : Nat) (gw s 18 6 : Nat) (gw s 24 4 : Nat))
 rw [hr] at C
 clear hr
 generalize gw s 6 2 = x0 at G0 C
 generalize gw s 8 6 = x1 at G1 C
 generalize gw s 14 4 = x2 at G2 C
 generalize gw s 18 6 = x3 at G3 C
 generalize gw s 24 4 = x4 at G4 C
 have h0 : ¬ (s.size : Int) < 28 := by omega
 have h1 : (!(s.extract 0 6).toList == [0, 1, 8, 0, 6, 4]) = false := by rw [hh]; rfl
 clear hh
 go_enter Tryz.func105, Tryz.ntmps105
 go_wp2_with fail
 refine (G0.out _).mono ?_
 rintro e w1 ⟨rfl, rfl⟩
 go_wp2_with fail
 refine (G1.out _).mono ?_
 rintro e w1 ⟨rfl, rfl⟩
 go_wp2_with fail
 refine (G2.out _).mono ?_
 rintro e w1 ⟨rfl, rfl⟩
 go_wp2_with fail
 refine (G3.out _).mono ?_
 rintro e w1 ⟨rfl, rfl⟩
 go_wp2_with fail
 refine (G4.out _).mono ?_
 rintro e w1 ⟨rfl, rfl⟩
 go_wp2_with fail
 have R0 := Lib.hid ((Blk.new w [.int .i64 0, .int .i64 0, .int .i64 0, .int .i64 0, .int .i64 0] 96).alloc (.cells #[.int .i64 x0, .int .i64 x1, .int .i64 x2, .int .i64 x3, .int .i64 x4] 96))
 have B1 := Lib.hid (((Below.refl w.heap.size w).alloc (Nat.le_refl _) (.cells #[.int .i64 0, .int .i64 0, .int .i64 0, .int .i64 0, .int .i64 0] 96)).alloc (by simp) (.cells #[.int .i64 x0, .int .i64 x1, .int .i64 x2, .int .i64 x3, .int .i64 x4] 96))
 have A0 : Blk ((w.alloc (.cells #[.int .i64 0, .int .i64 0, .int .i64 0, .int .i64 0, .int .i64 0] 96)).alloc (.cells #[.int .i64 x0, .int .i64 x1, .int .i64 x2, .int .i64 x3, .int .i64 x4] 96)) (w.heap.size + 1) [.int .i64 x0, .int .i64 x1, .int .i64 x2, .int .i64 x3, .int .i64 x4] := by
  have := Blk.new (w.alloc (.cells #[.int .i64 0, .int .i64 0, .int .i64 0, .int .i64 0, .int .i64 0] 96)) [.int .i64 x0, .int .i64 x1, .int .i64 x2, .int .i64 x3, .int .i64 x4] 96
  simpa using this
 generalize (w.alloc (.cells #[.int .i64 0, .int .i64 0, .int .i64 0, .int .i64 0, .int .i64 0] 96)).alloc (.cells #[.int .i64 x0, .int .i64 x1, .int .i64 x2, .int .i64 x3, .int .i64 x4] 96) = w2 at R0 A0 B1 ⊢
 refine (C.out _).mono ?_
 rintro e w3 ⟨rfl, hb⟩
 have B := Lib.hid (B1.out.trans (hb.mono B1.out.size))
 have R := Lib.hid (R0.out.below hb)
 have A := Lib.hid (A0.below hb)
 clear hb R0 A0 B1
 obtain ⟨⟨d0, d1, d2, d3, d4⟩, e0, e1, e2, e3, e4⟩ := R.out.of5
 go_wp2_with fail
 exact bodyPost_ret (v := .tuple #[.agg #[.int .i64 0, .int .i64 0, .int .i64 0, .int .i64 0, .int .i64 0], .bool false]) (by simp [results, Tryz.results105, go_sem, d0, d1, d2, d3, d4]) rfl ⟨rfl, (((((B.out).setCell (Nat.le_refl _) _).setCell (Nat.le_refl _) _).setCell (Nat.le_refl _) _).setCell (Nat.le_refl _) _).setCell (Nat.le_refl _) _⟩

set_option maxRecDepth 100000 in
set_option maxHeartbeats 4000000 in
theorem readArpI_yes (s : ByteArray) (w : World) (hs : s.size ≤ 1048576) (h : 28 ≤ s.size) (hh : ((s.extract 0 6).toList == [0, 1, 8, 0, 6, 4]) = true) (hr : arpOk (gw s 6 2 : Nat) (gw s 8 6 : Nat) (gw s 14 4 : Nat) (gw s 18 6 : Nat) (gw s 24 4 : Nat) = true) :
  Calls Tryz.prog 105 #[.string s] w fun e w' => e = .returned (.tuple #[.agg #[.int .i64 (gw s 6 2 : Nat), .int .i64 (gw s 8 6 : Nat), .int .i64 (gw s 14 4 : Nat), .int .i64 (gw s 18 6 : Nat), .int .i64 (gw s 24 4 : Nat)], .bool true]) ∧ Below w.heap.size w w' := by
 have G0 := Lib.hid (fun w => get3I s 6 2 w hs (by omega) (by omega))
 have G1 := Lib.hid (fun w => get3I s 8 6 w hs (by omega) (by omega))
 have G2 := Lib.hid (fun w => get3I s 14 4 w hs (by omega) (by omega))
 have G3 := Lib.hid (fun w => get3I s 18 6 w hs (by omega) (by omega))
 have G4 := Lib.hid (fun w => get3I s 24 4 w hs (by omega) (by omega))
 have C := Lib.hid (arpOkI (gw s 6 2 : Nat) (gw s 8 6 : Nat) (gw s 14 4 : Nat) (gw s 18 6 : Nat) (gw s 24 4 : Nat))
 rw [hr] at C
 clear hr
 generalize gw s 6 2 = x0 at G0 C ⊢
 generalize gw s 8 6 = x1 at G1 C ⊢
 generalize gw s 14 4 = x2 at G2 C ⊢
 generalize gw s 18 6 = x3 at G3 C ⊢
 generalize gw s 24 4 = x4 at G4 C ⊢
 have h0 : ¬ (s.size : Int) < 28 := by omega
 have h1 : (!(s.extract 0 6).toList == [0, 1, 8, 0, 6, 4]) = false := by rw [hh]; rfl
 clear hh
 go_enter Tryz.func105, Tryz.ntmps105
 go_wp2_with fail
 refine (G0.out _).mono ?_
 rintro e w1 ⟨rfl, rfl⟩
 go_wp2_with fail
 refine (G1.out _).mono ?_
 rintro e w1 ⟨rfl, rfl⟩
 go_wp2_with fail
 refine (G2.out _).mono ?_
 rintro e w1 ⟨rfl, rfl⟩
 go_wp2_with fail
 refine (G3.out _).mono ?_
 rintro e w1 ⟨rfl, rfl⟩
 go_wp2_with fail
 refine (G4.out _).mono ?_
 rintro e w1 ⟨rfl, rfl⟩
 go_wp2_with fail
 have R0 := Lib.hid ((Blk.new w [.int .i64 0, .int .i64 0, .int .i64 0, .int .i64 0, .int .i64 0] 96).alloc (.cells #[.int .i64 x0, .int .i64 x1, .int .i64 x2, .int .i64 x3, .int .i64 x4] 96))
 have B1 := Lib.hid (((Below.refl w.heap.size w).alloc (Nat.le_refl _) (.cells #[.int .i64 0, .int .i64 0, .int .i64 0, .int .i64 0, .int .i64 0] 96)).alloc (by simp) (.cells #[.int .i64 x0, .int .i64 x1, .int .i64 x2, .int .i64 x3, .int .i64 x4] 96))
 have A0 : Blk ((w.alloc (.cells #[.int .i64 0, .int .i64 0, .int .i64 0, .int .i64 0, .int .i64 0] 96)).alloc (.cells #[.int .i64 x0, .int .i64 x1, .int .i64 x2, .int .i64 x3, .int .i64 x4] 96)) (w.heap.size + 1) [.int .i64 x0, .int .i64 x1, .int .i64 x2, .int .i64 x3, .int .i64 x4] := by
  have := Blk.new (w.alloc (.cells #[.int .i64 0, .int .i64 0, .int .i64 0, .int .i64 0, .int .i64 0] 96)) [.int .i64 x0, .int .i64 x1, .int .i64 x2, .int .i64 x3, .int .i64 x4] 96
  simpa using this
 generalize (w.alloc (.cells #[.int .i64 0, .int .i64 0, .int .i64 0, .int .i64 0, .int .i64 0] 96)).alloc (.cells #[.int .i64 x0, .int .i64 x1, .int .i64 x2, .int .i64 x3, .int .i64 x4] 96) = w2 at R0 A0 B1 ⊢
 refine (C.out _).mono ?_
 rintro e w3 ⟨rfl, hb⟩
 have B := Lib.hid (B1.out.trans (hb.mono B1.out.size))
 have R := Lib.hid (R0.out.below hb)
 have A := Lib.hid (A0.below hb)
 clear hb R0 A0 B1
 obtain ⟨⟨d0, d1, d2, d3, d4⟩, e0, e1, e2, e3, e4⟩ := R.out.of5
 obtain ⟨⟨a0, a1, a2, a3, a4⟩, f0, f1, f2, f3, f4⟩ := A.out.of5
 go_wp2_with fail
 exact bodyPost_ret (v := .tuple #[.agg #[.int .i64 x0, .int .i64 x1, .int .i64 x2, .int .i64 x3, .int .i64 x4], .bool true]) (by simp [results, Tryz.results105, go_sem, d0, d1, d2, d3, d4]) rfl ⟨rfl, (((((B.out).setCell (Nat.le_refl _) _).setCell (Nat.le_refl _) _).setCell (Nat.le_refl _) _).setCell (Nat.le_refl _) _).setCell (Nat.le_refl _) _⟩

end Go.Proofs.YtkkimgjcefojdaaGreatDoor
namespace Go.Proofs.YtkkimgjcefojdaaGreatDoor
open Go.RowKit Go.Lib

def rdOk (s : ByteArray) : Bool := arpOk (gw s 6 2 : Nat) (gw s 8 6 : Nat) (gw s 14 4 : Nat) (gw s 18 6 : Nat) (gw s 24 4 : Nat)
/-- What ReadArp answers: whether there is a message; its fields. -/
def raOk (s : ByteArray) : Bool := decide (28 ≤ s.size) && ((s.extract 0 6).toList == [0, 1, 8, 0, 6, 4] && rdOk s)
def raF (s : ByteArray) (i n : Nat) : Int := if raOk s then (gw s i n : Nat) else 0
def raV (s : ByteArray) : Value := .tuple #[.agg #[.int .i64 (raF s 6 2), .int .i64 (raF s 8 6), .int .i64 (raF s 14 4), .int .i64 (raF s 18 6), .int .i64 (raF s 24 4)], .bool (raOk s)]
theorem raV_yes (s : ByteArray) (h : raOk s = true) : raV s = .tuple #[.agg #[.int .i64 (gw s 6 2 : Nat), .int .i64 (gw s 8 6 : Nat), .int .i64 (gw s 14 4 : Nat), .int .i64 (gw s 18 6 : Nat), .int .i64 (gw s 24 4 : Nat)], .bool true] := by
 unfold raV raF; simp only [h, if_true]
theorem raV_no (s : ByteArray) (h : raOk s = false) : raV s = .tuple #[.agg #[.int .i64 0, .int .i64 0, .int .i64 0, .int .i64 0, .int .i64 0], .bool false] := by
 unfold raV raF; simp only [h, Bool.false_eq_true, if_false]

theorem readArpI (s : ByteArray) (w : World) (hs : s.size ≤ 1048576) :
  Calls Tryz.prog 105 #[.string s] w fun e w' => e = .returned (raV s) ∧ Below w.heap.size w w' := by
 by_cases h : 28 ≤ s.size
 ·cases hh : (s.extract 0 6).toList == [0, 1, 8, 0, 6, 4] with
  | false => rw [raV_no s (by simp only [raOk, hh, Bool.false_and, Bool.and_false])]; exact readArpI_head s w h hh
  | true =>
   cases hr : rdOk s with
   | true => rw [raV_yes s (by simp only [raOk, hh, hr, h, decide_true, Bool.and_true])]; exact readArpI_yes s w hs h hh hr
   | false => rw [raV_no s (by simp only [raOk, hr, Bool.and_false])]; exact readArpI_no s w hs h hh hr
 ·rw [raV_no s (by simp only [raOk, h, decide_false, Bool.false_and])]; exact readArpI_short s w (by omega)
end Go.Proofs.YtkkimgjcefojdaaGreatDoor
namespace Go.Proofs.YtkkimgjcefojdaaGreatDoor
open Go.RowKit Go.Lib

/-- Whether there is an answer. -/
def rpOk (k a b d m ip : Int) : Bool := decide (k = 1) && (decide (d = ip) && arpOk 2 m ip a b)

set_option maxRecDepth 100000 in
set_option maxHeartbeats 4000000 in
theorem arpReplyI_kind (k a b c d m ip : Int) (w : World) (h : k ≠ 1) :
  Calls Tryz.prog 106 #[.agg #[.int .i64 k, .int .i64 a, .int .i64 b, .int .i64 c, .int .i64 d], .int .i64 m, .int .i64 ip] w fun e w' => e = .returned (.tuple #[.agg #[.int .i64 0, .int .i64 0, .int .i64 0, .int .i64 0, .int .i64 0], .bool false]) ∧ Below w.heap.size w w' := by
 go_enter Tryz.func106, Tryz.ntmps106
 go_wp2_with fail
 exact bodyPost_ret (v := .tuple #[.agg #[.int .i64 0, .int .i64 0, .int .i64 0, .int .i64 0, .int .i64 0], .bool false]) (by simp [results, Tryz.results106, go_sem]) rfl ⟨rfl, ((((Below.refl w.heap.size w).alloc (Nat.le_refl _) _).alloc (by simp) _).alloc (by simp; omega) _)⟩

set_option maxRecDepth 100000 in
set_option maxHeartbeats 4000000 in
theorem arpReplyI_other (a b c d m ip : Int) (w : World) (h : d ≠ ip) :
  Calls Tryz.prog 106 #[.agg #[.int .i64 1, .int .i64 a, .int .i64 b, .int .i64 c, .int .i64 d], .int .i64 m, .int .i64 ip] w fun e w' => e = .returned (.tuple #[.agg #[.int .i64 0, .int .i64 0, .int .i64 0, .int .i64 0, .int .i64 0], .bool false]) ∧ Below w.heap.size w w' := by
 go_enter Tryz.func106, Tryz.ntmps106
 go_wp2_with fail
 exact bodyPost_ret (v := .tuple #[.agg #[.int .i64 0, .int .i64 0, .int .i64 0, .int .i64 0, .int .i64 0], .bool false]) (by simp [results, Tryz.results106, go_sem]) rfl ⟨rfl, ((((Below.refl w.heap.size w).alloc (Nat.le_refl _) _).alloc (by simp) _).alloc (by simp; omega) _)⟩

set_option maxRecDepth 100000 in
set_option maxHeartbeats 4000000 in
theorem arpReplyI_no (a b c m ip : Int) (w : World) (hr : arpOk 2 m ip a b = false) :
  Calls Tryz.prog 106 #[.agg #[.int .i64 1, .int .i64 a, .int .i64 b, .int .i64 c, .int .i64 ip], .int .i64 m, .int .i64 ip] w fun e w' => e = .returned (.tuple #[.agg #[.int .i64 0, .int .i64 0, .int .i64 0, .int .i64 0, .int .i64 0], .bool false]) ∧ Below w.heap.size w w' := by
 have C := Lib.hid (arpOkI 2 m ip a b)
 rw [hr] at C
 clear hr
 go_enter Tryz.func106, Tryz.ntmps106
 go_wp2_with fail
 have B1 : Below w.heap.size w ((((w.alloc (.cells #[.int .i64 1, .int .i64 a, .int .i64 b, .int .i64 c, .int .i64 ip] 96)).alloc (.cells #[.int .i64 0, .int .i64 0, .int .i64 0, .int .i64 0, .int .i64 0] 96)).alloc (.cells #[.int .i64 1, .int .i64 ip] 146)).alloc (.cells #[.int .i64 2, .int .i64 m, .int .i64 ip, .int .i64 a, .int .i64 b] 96)) := (((((Below.refl w.heap.size w).alloc (by simp) (.cells #[.int .i64 1, .int .i64 a, .int .i64 b, .int .i64 c, .int .i64 ip] 96)).alloc (by simp) (.cells #[.int .i64 0, .int .i64 0, .int .i64 0, .int .i64 0, .int .i64 0] 96)).alloc (by simp; omega) (.cells #[.int .i64 1, .int .i64 ip] 146)).alloc (by simp; omega) (.cells #[.int .i64 2, .int .i64 m, .int .i64 ip, .int .i64 a, .int .i64 b] 96))
 have R0 : Blk ((((w.alloc (.cells #[.int .i64 1, .int .i64 a, .int .i64 b, .int .i64 c, .int .i64 ip] 96)).alloc (.cells #[.int .i64 0, .int .i64 0, .int .i64 0, .int .i64 0, .int .i64 0] 96)).alloc (.cells #[.int .i64 1, .int .i64 ip] 146)).alloc (.cells #[.int .i64 2, .int .i64 m, .int .i64 ip, .int .i64 a, .int .i64 b] 96)) (w.heap.size + 1) [.int .i64 0, .int .i64 0, .int .i64 0, .int .i64 0, .int .i64 0] := by
  have := (((Blk.new (w.alloc (.cells #[.int .i64 1, .int .i64 a, .int .i64 b, .int .i64 c, .int .i64 ip] 96)) [.int .i64 0, .int .i64 0, .int .i64 0, .int .i64 0, .int .i64 0] 96).alloc (.cells #[.int .i64 1, .int .i64 ip] 146)).alloc (.cells #[.int .i64 2, .int .i64 m, .int .i64 ip, .int .i64 a, .int .i64 b] 96))
  simpa using this
 have A0 : Blk ((((w.alloc (.cells #[.int .i64 1, .int .i64 a, .int .i64 b, .int .i64 c, .int .i64 ip] 96)).alloc (.cells #[.int .i64 0, .int .i64 0, .int .i64 0, .int .i64 0, .int .i64 0] 96)).alloc (.cells #[.int .i64 1, .int .i64 ip] 146)).alloc (.cells #[.int .i64 2, .int .i64 m, .int .i64 ip, .int .i64 a, .int .i64 b] 96)) (w.heap.size + 1 + 1 + 1) [.int .i64 2, .int .i64 m, .int .i64 ip, .int .i64 a, .int .i64 b] := by
  have := Blk.new (((w.alloc (.cells #[.int .i64 1, .int .i64 a, .int .i64 b, .int .i64 c, .int .i64 ip] 96)).alloc (.cells #[.int .i64 0, .int .i64 0, .int .i64 0, .int .i64 0, .int .i64 0] 96)).alloc (.cells #[.int .i64 1, .int .i64 ip] 146)) [.int .i64 2, .int .i64 m, .int .i64 ip, .int .i64 a, .int .i64 b] 96
  simpa using this
 generalize ((((w.alloc (.cells #[.int .i64 1, .int .i64 a, .int .i64 b, .int .i64 c, .int .i64 ip] 96)).alloc (.cells #[.int .i64 0, .int .i64 0, .int .i64 0, .int .i64 0, .int .i64 0] 96)).alloc (.cells #[.int .i64 1, .int .i64 ip] 146)).alloc (.cells #[.int .i64 2, .int .i64 m, .int .i64 ip, .int .i64 a, .int .i64 b] 96)) = w2 at R0 A0 B1 ⊢
 refine (C.out _).mono ?_
 rintro e w3 ⟨rfl, hb⟩
 have B := Lib.hid (B1.trans (hb.mono B1.size))
 have R := Lib.hid (R0.below hb)
 have A := Lib.hid (A0.below hb)
 clear hb R0 A0 B1
 obtain ⟨⟨d0, d1, d2, d3, d4⟩, e0, e1, e2, e3, e4⟩ := R.out.of5
 go_wp2_with fail
 exact bodyPost_ret (v := .tuple #[.agg #[.int .i64 0, .int .i64 0, .int .i64 0, .int .i64 0, .int .i64 0], .bool false]) (by simp [results, Tryz.results106, go_sem, d0, d1, d2, d3, d4]) rfl ⟨rfl, (((((B.out).setCell (Nat.le_succ _) _).setCell (Nat.le_succ _) _).setCell (Nat.le_succ _) _).setCell (Nat.le_succ _) _).setCell (Nat.le_succ _) _⟩

set_option maxRecDepth 100000 in
set_option maxHeartbeats 4000000 in
theorem arpReplyI_yes (a b c m ip : Int) (w : World) (hr : arpOk 2 m ip a b = true) :
  Calls Tryz.prog 106 #[.agg #[.int .i64 1, .int .i64 a, .int .i64 b, .int .i64 c, .int .i64 ip], .int .i64 m, .int .i64 ip] w fun e w' => e = .returned (.tuple #[.agg #[.int .i64 2, .int .i64 m, .int .i64 ip, .int .i64 a, .int .i64 b], .bool true]) ∧ Below w.heap.size w w' := by
 have C := Lib.hid (arpOkI 2 m ip a b)
 rw [hr] at C
 clear hr
 go_enter Tryz.func106, Tryz.ntmps106
 go_wp2_with fail
 have B1 : Below w.heap.size w ((((w.alloc (.cells #[.int .i64 1, .int .i64 a, .int .i64 b, .int .i64 c, .int .i64 ip] 96)).alloc (.cells #[.int .i64 0, .int .i64 0, .int .i64 0, .int .i64 0, .int .i64 0] 96)).alloc (.cells #[.int .i64 1, .int .i64 ip] 146)).alloc (.cells #[.int .i64 2, .int .i64 m, .int .i64 ip, .int .i64 a, .int .i64 b] 96)) := (((((Below.refl w.heap.size w).alloc (by simp) (.cells #[.int .i64 1, .int .i64 a, .int .i64 b, .int .i64 c, .int .i64 ip] 96)).alloc (by simp) (.cells #[.int .i64 0, .int .i64 0, .int .i64 0, .int .i64 0, .int .i64 0] 96)).alloc (by simp; omega) (.cells #[.int .i64 1, .int .i64 ip] 146)).alloc (by simp; omega) (.cells #[.int .i64 2, .int .i64 m, .int .i64 ip, .int .i64 a, .int .i64 b] 96))
 have R0 : Blk ((((w.alloc (.cells #[.int .i64 1, .int .i64 a, .int .i64 b, .int .i64 c, .int .i64 ip] 96)).alloc (.cells #[.int .i64 0, .int .i64 0, .int .i64 0, .int .i64 0, .int .i64 0] 96)).alloc (.cells #[.int .i64 1, .int .i64 ip] 146)).alloc (.cells #[.int .i64 2, .int .i64 m, .int .i64 ip, .int .i64 a, .int .i64 b] 96)) (w.heap.size + 1) [.int .i64 0, .int .i64 0, .int .i64 0, .int .i64 0, .int .i64 0] := by
  have := (((Blk.new (w.alloc (.cells #[.int .i64 1, .int .i64 a, .int .i64 b, .int .i64 c, .int .i64 ip] 96)) [.int .i64 0, .int .i64 0, .int .i64 0, .int .i64 0, .int .i64 0] 96).alloc (.cells #[.int .i64 1, .int .i64 ip] 146)).alloc (.cells #[.int .i64 2, .int .i64 m, .int .i64 ip, .int .i64 a, .int .i64 b] 96))
  simpa using this
 have A0 : Blk ((((w.alloc (.cells #[.int .i64 1, .int .i64 a, .int .i64 b, .int .i64 c, .int .i64 ip] 96)).alloc (.cells #[.int .i64 0, .int .i64 0, .int .i64 0, .int .i64 0, .int .i64 0] 96)).alloc (.cells #[.int .i64 1, .int .i64 ip] 146)).alloc (.cells #[.int .i64 2, .int .i64 m, .int .i64 ip, .int .i64 a, .int .i64 b] 96)) (w.heap.size + 1 + 1 + 1) [.int .i64 2, .int .i64 m, .int .i64 ip, .int .i64 a, .int .i64 b] := by
  have := Blk.new (((w.alloc (.cells #[.int .i64 1, .int .i64 a, .int .i64 b, .int .i64 c, .int .i64 ip] 96)).alloc (.cells #[.int .i64 0, .int .i64 0, .int .i64 0, .int .i64 0, .int .i64 0] 96)).alloc (.cells #[.int .i64 1, .int .i64 ip] 146)) [.int .i64 2, .int .i64 m, .int .i64 ip, .int .i64 a, .int .i64 b] 96
  simpa using this
 generalize ((((w.alloc (.cells #[.int .i64 1, .int .i64 a, .int .i64 b, .int .i64 c, .int .i64 ip] 96)).alloc (.cells #[.int .i64 0, .int .i64 0, .int .i64 0, .int .i64 0, .int .i64 0] 96)).alloc (.cells #[.int .i64 1, .int .i64 ip] 146)).alloc (.cells #[.int .i64 2, .int .i64 m, .int .i64 ip, .int .i64 a, .int .i64 b] 96)) = w2 at R0 A0 B1 ⊢
 refine (C.out _).mono ?_
 rintro e w3 ⟨rfl, hb⟩
 have B := Lib.hid (B1.trans (hb.mono B1.size))
 have R := Lib.hid (R0.below hb)
 have A := Lib.hid (A0.below hb)
 clear hb R0 A0 B1
 obtain ⟨⟨d0, d1, d2, d3, d4⟩, e0, e1, e2, e3, e4⟩ := R.out.of5
 obtain ⟨⟨a0, a1, a2, a3, a4⟩, f0, f1, f2, f3, f4⟩ := A.out.of5
 go_wp2_with fail
 exact bodyPost_ret (v := .tuple #[.agg #[.int .i64 2, .int .i64 m, .int .i64 ip, .int .i64 a, .int .i64 b], .bool true]) (by simp [results, Tryz.results106, go_sem, d0, d1, d2, d3, d4]) rfl ⟨rfl, (((((B.out).setCell (Nat.le_succ _) _).setCell (Nat.le_succ _) _).setCell (Nat.le_succ _) _).setCell (Nat.le_succ _) _).setCell (Nat.le_succ _) _⟩

end Go.Proofs.YtkkimgjcefojdaaGreatDoor
namespace Go.Proofs.YtkkimgjcefojdaaGreatDoor
open Go.RowKit Go.Lib

def rpF (k a b d m ip x : Int) : Int := if rpOk k a b d m ip then x else 0
def rpV (k a b d m ip : Int) : Value := .tuple #[.agg #[.int .i64 (rpF k a b d m ip 2), .int .i64 (rpF k a b d m ip m), .int .i64 (rpF k a b d m ip ip), .int .i64 (rpF k a b d m ip a), .int .i64 (rpF k a b d m ip b)], .bool (rpOk k a b d m ip)]
theorem rpV_yes (k a b d m ip : Int) (h : rpOk k a b d m ip = true) : rpV k a b d m ip = .tuple #[.agg #[.int .i64 2, .int .i64 m, .int .i64 ip, .int .i64 a, .int .i64 b], .bool true] := by
 unfold rpV rpF; simp only [h, if_true]
theorem rpV_no (k a b d m ip : Int) (h : rpOk k a b d m ip = false) : rpV k a b d m ip = .tuple #[.agg #[.int .i64 0, .int .i64 0, .int .i64 0, .int .i64 0, .int .i64 0], .bool false] := by
 unfold rpV rpF; simp only [h, Bool.false_eq_true, if_false]

theorem arpReplyI (k a b c d m ip : Int) (w : World) :
  Calls Tryz.prog 106 #[.agg #[.int .i64 k, .int .i64 a, .int .i64 b, .int .i64 c, .int .i64 d], .int .i64 m, .int .i64 ip] w fun e w' => e = .returned (rpV k a b d m ip) ∧ Below w.heap.size w w' := by
 by_cases hk : k = 1
 ·subst hk
  by_cases hd : d = ip
  ·subst hd
   cases hr : arpOk 2 m d a b with
   | true => rw [rpV_yes _ _ _ _ _ _ (by simp [rpOk, hr])]; exact arpReplyI_yes a b c m d w hr
   | false => rw [rpV_no _ _ _ _ _ _ (by simp [rpOk, hr])]; exact arpReplyI_no a b c m d w hr
  ·rw [rpV_no _ _ _ _ _ _ (by simp [rpOk, hd])]; exact arpReplyI_other a b c d m ip w hd
 ·rw [rpV_no _ _ _ _ _ _ (by simp [rpOk, hk])]; exact arpReplyI_kind k a b c d m ip w hk
end Go.Proofs.YtkkimgjcefojdaaGreatDoor
namespace Go.Proofs.YtkkimgjcefojdaaGreatDoor
open Go.RowKit Go.Lib

/-- The cells of the array behind round number j. -/
def hwC (n : Int) : Nat → Array Value
 | 0 => #[.int .u8 0, .int .u8 0, .int .u8 0, .int .u8 0, .int .u8 0, .int .u8 0, .int .u8 0, .int .u8 0]
 | 1 => #[.int .u8 (n / 72057594037927936 % 256), .int .u8 0, .int .u8 0, .int .u8 0, .int .u8 0, .int .u8 0, .int .u8 0, .int .u8 0]
 | 2 => #[.int .u8 (n / 72057594037927936 % 256), .int .u8 (n / 281474976710656 % 256), .int .u8 0, .int .u8 0, .int .u8 0, .int .u8 0, .int .u8 0, .int .u8 0]
 | 3 => #[.int .u8 (n / 72057594037927936 % 256), .int .u8 (n / 281474976710656 % 256), .int .u8 (n / 1099511627776 % 256), .int .u8 0, .int .u8 0, .int .u8 0, .int .u8 0, .int .u8 0]
 | 4 => #[.int .u8 (n / 72057594037927936 % 256), .int .u8 (n / 281474976710656 % 256), .int .u8 (n / 1099511627776 % 256), .int .u8 (n / 4294967296 % 256), .int .u8 0, .int .u8 0, .int .u8 0, .int .u8 0]
 | 5 => #[.int .u8 (n / 72057594037927936 % 256), .int .u8 (n / 281474976710656 % 256), .int .u8 (n / 1099511627776 % 256), .int .u8 (n / 4294967296 % 256), .int .u8 (n / 16777216 % 256), .int .u8 0, .int .u8 0, .int .u8 0]
 | 6 => #[.int .u8 (n / 72057594037927936 % 256), .int .u8 (n / 281474976710656 % 256), .int .u8 (n / 1099511627776 % 256), .int .u8 (n / 4294967296 % 256), .int .u8 (n / 16777216 % 256), .int .u8 (n / 65536 % 256), .int .u8 0, .int .u8 0]
 | 7 => #[.int .u8 (n / 72057594037927936 % 256), .int .u8 (n / 281474976710656 % 256), .int .u8 (n / 1099511627776 % 256), .int .u8 (n / 4294967296 % 256), .int .u8 (n / 16777216 % 256), .int .u8 (n / 65536 % 256), .int .u8 (n / 256 % 256), .int .u8 0]
 | _ => #[.int .u8 (n / 72057594037927936 % 256), .int .u8 (n / 281474976710656 % 256), .int .u8 (n / 1099511627776 % 256), .int .u8 (n / 4294967296 % 256), .int .u8 (n / 16777216 % 256), .int .u8 (n / 65536 % 256), .int .u8 (n / 256 % 256), .int .u8 (n % 256)]
/-- What hardwareOf answers. -/
def hw (n : Int) : Array Value := #[.int .u8 (n / 72057594037927936 % 256), .int .u8 (n / 281474976710656 % 256), .int .u8 (n / 1099511627776 % 256), .int .u8 (n / 4294967296 % 256), .int .u8 (n / 16777216 % 256), .int .u8 (n / 65536 % 256), .int .u8 (n / 256 % 256), .int .u8 (n % 256)]

set_option maxRecDepth 100000 in
set_option maxHeartbeats 2000000 in
theorem hardwareOf_any (n : Int) (w : World) :
  Calls Tryz.prog 104 #[.int .i64 n] w fun e w' => e = .returned (.agg (hw n)) ∧ Below w.heap.size w w' := by
 go_enter Tryz.func104, Tryz.ntmps104
 go_wp2
 go_loopw [5] (fun i wr => ∃ j : Nat, j ≤ 8 ∧ i = .int .i64 j ∧ wr = (w.alloc (.cells (hwC n 0) 129)).alloc (.cells (hwC n j) 129))
  (fun i _ => 8 - (RowKit.intOf i).toNat)
 case atStart => exact ⟨0, Nat.zero_le _, rfl, rfl⟩
 case round =>
  obtain ⟨j, hj, rfl, rfl⟩ := hrel
  have h9 : j = 0 ∨ j = 1 ∨ j = 2 ∨ j = 3 ∨ j = 4 ∨ j = 5 ∨ j = 6 ∨ j = 7 ∨ j = 8 := by omega
  clear hj
  rcases h9 with rfl | rfl | rfl | rfl | rfl | rfl | rfl | rfl | rfl
  ·simp only [hwC]
   go_wp2
   go_roundw
   case rel => exact ⟨1, by omega, rfl, rfl⟩
   case measure => simp [RowKit.intOf]
  ·simp only [hwC]
   go_wp2
   go_roundw
   case rel => exact ⟨2, by omega, rfl, rfl⟩
   case measure => simp [RowKit.intOf]
  ·simp only [hwC]
   go_wp2
   go_roundw
   case rel => exact ⟨3, by omega, rfl, rfl⟩
   case measure => simp [RowKit.intOf]
  ·simp only [hwC]
   go_wp2
   go_roundw
   case rel => exact ⟨4, by omega, rfl, rfl⟩
   case measure => simp [RowKit.intOf]
  ·simp only [hwC]
   go_wp2
   go_roundw
   case rel => exact ⟨5, by omega, rfl, rfl⟩
   case measure => simp [RowKit.intOf]
  ·simp only [hwC]
   go_wp2
   go_roundw
   case rel => exact ⟨6, by omega, rfl, rfl⟩
   case measure => simp [RowKit.intOf]
  ·simp only [hwC]
   go_wp2
   go_roundw
   case rel => exact ⟨7, by omega, rfl, rfl⟩
   case measure => simp [RowKit.intOf]
  ·simp only [hwC]
   go_wp2
   go_roundw
   case rel => exact ⟨8, by omega, rfl, rfl⟩
   case measure => simp [RowKit.intOf]
  ·simp only [hwC]
   go_wp2
   exact bodyPost_ret (v := .agg (hw n)) (by simp [results, Tryz.results104, go_sem, hw]) rfl ⟨rfl, ((Below.refl _ _).alloc (Nat.le_refl _) _).alloc (by simp) _⟩
end Go.Proofs.YtkkimgjcefojdaaGreatDoor
namespace Go.Proofs.YtkkimgjcefojdaaGreatDoor
open Go.RowKit Go.Lib

theorem cells51 : Tryz.prog.cellsOf 129 = 8 := by kernel_rfl
theorem cells5 : Tryz.prog.cellsOf 5 = 1 := by kernel_rfl

theorem keys8 (x0 x1 x2 x3 x4 x5 x6 x7 : Int) (h0 : (Lit.int .u8 x0).wf = true) (h1 : (Lit.int .u8 x1).wf = true) (h2 : (Lit.int .u8 x2).wf = true) (h3 : (Lit.int .u8 x3).wf = true) (h4 : (Lit.int .u8 x4).wf = true) (h5 : (Lit.int .u8 x5).wf = true) (h6 : (Lit.int .u8 x6).wf = true) (h7 : (Lit.int .u8 x7).wf = true) :
  Tryz.prog.keyLits 2 129 [.int .u8 x0, .int .u8 x1, .int .u8 x2, .int .u8 x3, .int .u8 x4, .int .u8 x5, .int .u8 x6, .int .u8 x7] = some [.int .u8 x0, .int .u8 x1, .int .u8 x2, .int .u8 x3, .int .u8 x4, .int .u8 x5, .int .u8 x6, .int .u8 x7] := by
 simp [Program.keyLits, Tryz.underlying129, Tryz.underlying5, cells51, cells5, List.range, List.range.loop, h0, h1, h2, h3, h4, h5, h6, h7]

theorem wf_u8 (n : Int) : (Lit.int .u8 (n % 256)).wf = true := by
 have h1 := Int.emod_nonneg n (show (256 : Int) ≠ 0 by decide)
 have h2 := Int.emod_lt_of_pos n (show (0 : Int) < 256 by decide)
 have e1 : IntKind.u8.min = 0 := by decide
 have e2 : IntKind.u8.max = 255 := by decide
 simp only [Lit.wf, e1, e2, Bool.and_eq_true, decide_eq_true_eq]
 omega

theorem hw_inj (a b : Int) (ha : -9223372036854775808 ≤ a ∧ a ≤ 9223372036854775807) (hb : -9223372036854775808 ≤ b ∧ b ≤ 9223372036854775807)
  (h0 : a / 72057594037927936 % 256 = b / 72057594037927936 % 256) (h1 : a / 281474976710656 % 256 = b / 281474976710656 % 256) (h2 : a / 1099511627776 % 256 = b / 1099511627776 % 256) (h3 : a / 4294967296 % 256 = b / 4294967296 % 256)
  (h4 : a / 16777216 % 256 = b / 16777216 % 256) (h5 : a / 65536 % 256 = b / 65536 % 256) (h6 : a / 256 % 256 = b / 256 % 256) (h7 : a % 256 = b % 256) : a = b := by
 have e6 : a % 65536 = b % 65536 := by omega
 have e5 : a % 16777216 = b % 16777216 := by omega
 have e4 : a % 4294967296 = b % 4294967296 := by omega
 have e3 : a % 1099511627776 = b % 1099511627776 := by omega
 have e2 : a % 281474976710656 = b % 281474976710656 := by omega
 have e1 : a % 72057594037927936 = b % 72057594037927936 := by omega
 omega

set_option maxRecDepth 100000 in
/-- Two arrays are equal exactly where the two ints are. -/
theorem hw_eq (a b : Int) (ha : -9223372036854775808 ≤ a ∧ a ≤ 9223372036854775807) (hb : -9223372036854775808 ≤ b ∧ b ≤ 9223372036854775807) (w : World) :
  (Op.equalIn 10000 129 (.agg (hw a)) (.agg (hw b))).run Tryz.prog w = .ok (decide (a = b)) w := by
 obtain ⟨r, hr, hi⟩ := run_equalIn_deep (P := Tryz.prog) 9998 2 129 (by kernel_rfl) w 2 2 (.agg (hw a)) (.agg (hw b)) _ _
  (by simp [Value.formed, Tryz.underlying129, cells51, hw]) (by simp [Value.formed, Tryz.underlying129, cells51, hw])
  (keys8 _ _ _ _ _ _ _ _ (wf_u8 _) (wf_u8 _) (wf_u8 _) (wf_u8 _) (wf_u8 _) (wf_u8 _) (wf_u8 _) (wf_u8 _)) (keys8 _ _ _ _ _ _ _ _ (wf_u8 _) (wf_u8 _) (wf_u8 _) (wf_u8 _) (wf_u8 _) (wf_u8 _) (wf_u8 _) (wf_u8 _))
 rw [hr]
 congr 1
 rw [Bool.eq_iff_iff, hi, decide_eq_true_iff]
 simp only [List.cons.injEq, Lit.int.injEq, true_and, and_true]
 constructor
 ·rintro ⟨h0, h1, h2, h3, h4, h5, h6, h7⟩
  exact hw_inj a b ha hb h0 h1 h2 h3 h4 h5 h6 h7
 ·rintro rfl
  simp
end Go.Proofs.YtkkimgjcefojdaaGreatDoor
