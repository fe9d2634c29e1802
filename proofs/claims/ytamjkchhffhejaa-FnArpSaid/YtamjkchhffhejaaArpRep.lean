/- ArpReply, of the model and of the program. -/
import Derived.Test.YtamjkchhffhejaaArpOk
import Derived.Test.YtamjkchhffhejaaBlk5
namespace Go.Proofs.Ytamjkchhffhejaa
open Go.RowKit Go.Lib

/-- Whether there is an answer. -/
def rpOk (k a b d m ip : Int) : Bool := decide (k = 1) && (decide (d = ip) && arpOk 2 m ip a b)

set_option maxRecDepth 100000 in
set_option maxHeartbeats 4000000 in
theorem arpReplyI_kind (k a b c d m ip : Int) (w : World) (h : k ≠ 1) :
    Calls Try.prog 10 #[.agg #[.int .i64 k, .int .i64 a, .int .i64 b, .int .i64 c, .int .i64 d], .int .i64 m, .int .i64 ip] w fun e w' => e = .returned (.tuple #[.agg #[.int .i64 0, .int .i64 0, .int .i64 0, .int .i64 0, .int .i64 0], .bool false]) ∧ Below w.heap.size w w' := by
  go_enter Try.func10, Try.ntmps10
  go_wp2_with fail
  exact bodyPost_ret (v := .tuple #[.agg #[.int .i64 0, .int .i64 0, .int .i64 0, .int .i64 0, .int .i64 0], .bool false]) (by simp [results, Try.results10, go_sem]) rfl ⟨rfl, ((((Below.refl w.heap.size w).alloc (Nat.le_refl _) _).alloc (by simp) _).alloc (by simp; omega) _)⟩

set_option maxRecDepth 100000 in
set_option maxHeartbeats 4000000 in
theorem arpReplyI_other (a b c d m ip : Int) (w : World) (h : d ≠ ip) :
    Calls Try.prog 10 #[.agg #[.int .i64 1, .int .i64 a, .int .i64 b, .int .i64 c, .int .i64 d], .int .i64 m, .int .i64 ip] w fun e w' => e = .returned (.tuple #[.agg #[.int .i64 0, .int .i64 0, .int .i64 0, .int .i64 0, .int .i64 0], .bool false]) ∧ Below w.heap.size w w' := by
  go_enter Try.func10, Try.ntmps10
  go_wp2_with fail
  exact bodyPost_ret (v := .tuple #[.agg #[.int .i64 0, .int .i64 0, .int .i64 0, .int .i64 0, .int .i64 0], .bool false]) (by simp [results, Try.results10, go_sem]) rfl ⟨rfl, ((((Below.refl w.heap.size w).alloc (Nat.le_refl _) _).alloc (by simp) _).alloc (by simp; omega) _)⟩

set_option maxRecDepth 100000 in
set_option maxHeartbeats 4000000 in
theorem arpReplyI_no (a b c m ip : Int) (w : World) (hr : arpOk 2 m ip a b = false) :
    Calls Try.prog 10 #[.agg #[.int .i64 1, .int .i64 a, .int .i64 b, .int .i64 c, .int .i64 ip], .int .i64 m, .int .i64 ip] w fun e w' => e = .returned (.tuple #[.agg #[.int .i64 0, .int .i64 0, .int .i64 0, .int .i64 0, .int .i64 0], .bool false]) ∧ Below w.heap.size w w' := by
  have C := Lib.hid (arpOkI 2 m ip a b)
  rw [hr] at C
  clear hr
  go_enter Try.func10, Try.ntmps10
  go_wp2_with fail
  have B1 : Below w.heap.size w ((((w.alloc (.cells #[.int .i64 1, .int .i64 a, .int .i64 b, .int .i64 c, .int .i64 ip] 25)).alloc (.cells #[.int .i64 0, .int .i64 0, .int .i64 0, .int .i64 0, .int .i64 0] 25)).alloc (.cells #[.int .i64 1, .int .i64 ip] 45)).alloc (.cells #[.int .i64 2, .int .i64 m, .int .i64 ip, .int .i64 a, .int .i64 b] 25)) := (((((Below.refl w.heap.size w).alloc (by simp) (.cells #[.int .i64 1, .int .i64 a, .int .i64 b, .int .i64 c, .int .i64 ip] 25)).alloc (by simp) (.cells #[.int .i64 0, .int .i64 0, .int .i64 0, .int .i64 0, .int .i64 0] 25)).alloc (by simp; omega) (.cells #[.int .i64 1, .int .i64 ip] 45)).alloc (by simp; omega) (.cells #[.int .i64 2, .int .i64 m, .int .i64 ip, .int .i64 a, .int .i64 b] 25))
  have R0 : Blk ((((w.alloc (.cells #[.int .i64 1, .int .i64 a, .int .i64 b, .int .i64 c, .int .i64 ip] 25)).alloc (.cells #[.int .i64 0, .int .i64 0, .int .i64 0, .int .i64 0, .int .i64 0] 25)).alloc (.cells #[.int .i64 1, .int .i64 ip] 45)).alloc (.cells #[.int .i64 2, .int .i64 m, .int .i64 ip, .int .i64 a, .int .i64 b] 25)) (w.heap.size + 1) [.int .i64 0, .int .i64 0, .int .i64 0, .int .i64 0, .int .i64 0] := by
    have := (((Blk.new (w.alloc (.cells #[.int .i64 1, .int .i64 a, .int .i64 b, .int .i64 c, .int .i64 ip] 25)) [.int .i64 0, .int .i64 0, .int .i64 0, .int .i64 0, .int .i64 0] 25).alloc (.cells #[.int .i64 1, .int .i64 ip] 45)).alloc (.cells #[.int .i64 2, .int .i64 m, .int .i64 ip, .int .i64 a, .int .i64 b] 25))
    simpa using this
  have A0 : Blk ((((w.alloc (.cells #[.int .i64 1, .int .i64 a, .int .i64 b, .int .i64 c, .int .i64 ip] 25)).alloc (.cells #[.int .i64 0, .int .i64 0, .int .i64 0, .int .i64 0, .int .i64 0] 25)).alloc (.cells #[.int .i64 1, .int .i64 ip] 45)).alloc (.cells #[.int .i64 2, .int .i64 m, .int .i64 ip, .int .i64 a, .int .i64 b] 25)) (w.heap.size + 1 + 1 + 1) [.int .i64 2, .int .i64 m, .int .i64 ip, .int .i64 a, .int .i64 b] := by
    have := Blk.new (((w.alloc (.cells #[.int .i64 1, .int .i64 a, .int .i64 b, .int .i64 c, .int .i64 ip] 25)).alloc (.cells #[.int .i64 0, .int .i64 0, .int .i64 0, .int .i64 0, .int .i64 0] 25)).alloc (.cells #[.int .i64 1, .int .i64 ip] 45)) [.int .i64 2, .int .i64 m, .int .i64 ip, .int .i64 a, .int .i64 b] 25
    simpa using this
  generalize ((((w.alloc (.cells #[.int .i64 1, .int .i64 a, .int .i64 b, .int .i64 c, .int .i64 ip] 25)).alloc (.cells #[.int .i64 0, .int .i64 0, .int .i64 0, .int .i64 0, .int .i64 0] 25)).alloc (.cells #[.int .i64 1, .int .i64 ip] 45)).alloc (.cells #[.int .i64 2, .int .i64 m, .int .i64 ip, .int .i64 a, .int .i64 b] 25)) = w2 at R0 A0 B1 ⊢
  refine (C.out _).mono ?_
  rintro e w3 ⟨rfl, hb⟩
  have B := Lib.hid (B1.trans (hb.mono B1.size))
  have R := Lib.hid (R0.below hb)
  have A := Lib.hid (A0.below hb)
  clear hb R0 A0 B1
  obtain ⟨⟨d0, d1, d2, d3, d4⟩, e0, e1, e2, e3, e4⟩ := R.out.of5
  go_wp2_with fail
  exact bodyPost_ret (v := .tuple #[.agg #[.int .i64 0, .int .i64 0, .int .i64 0, .int .i64 0, .int .i64 0], .bool false]) (by simp [results, Try.results10, go_sem, d0, d1, d2, d3, d4]) rfl ⟨rfl, (((((B.out).setCell (Nat.le_succ _) _).setCell (Nat.le_succ _) _).setCell (Nat.le_succ _) _).setCell (Nat.le_succ _) _).setCell (Nat.le_succ _) _⟩

set_option maxRecDepth 100000 in
set_option maxHeartbeats 4000000 in
theorem arpReplyI_yes (a b c m ip : Int) (w : World) (hr : arpOk 2 m ip a b = true) :
    Calls Try.prog 10 #[.agg #[.int .i64 1, .int .i64 a, .int .i64 b, .int .i64 c, .int .i64 ip], .int .i64 m, .int .i64 ip] w fun e w' => e = .returned (.tuple #[.agg #[.int .i64 2, .int .i64 m, .int .i64 ip, .int .i64 a, .int .i64 b], .bool true]) ∧ Below w.heap.size w w' := by
  have C := Lib.hid (arpOkI 2 m ip a b)
  rw [hr] at C
  clear hr
  go_enter Try.func10, Try.ntmps10
  go_wp2_with fail
  have B1 : Below w.heap.size w ((((w.alloc (.cells #[.int .i64 1, .int .i64 a, .int .i64 b, .int .i64 c, .int .i64 ip] 25)).alloc (.cells #[.int .i64 0, .int .i64 0, .int .i64 0, .int .i64 0, .int .i64 0] 25)).alloc (.cells #[.int .i64 1, .int .i64 ip] 45)).alloc (.cells #[.int .i64 2, .int .i64 m, .int .i64 ip, .int .i64 a, .int .i64 b] 25)) := (((((Below.refl w.heap.size w).alloc (by simp) (.cells #[.int .i64 1, .int .i64 a, .int .i64 b, .int .i64 c, .int .i64 ip] 25)).alloc (by simp) (.cells #[.int .i64 0, .int .i64 0, .int .i64 0, .int .i64 0, .int .i64 0] 25)).alloc (by simp; omega) (.cells #[.int .i64 1, .int .i64 ip] 45)).alloc (by simp; omega) (.cells #[.int .i64 2, .int .i64 m, .int .i64 ip, .int .i64 a, .int .i64 b] 25))
  have R0 : Blk ((((w.alloc (.cells #[.int .i64 1, .int .i64 a, .int .i64 b, .int .i64 c, .int .i64 ip] 25)).alloc (.cells #[.int .i64 0, .int .i64 0, .int .i64 0, .int .i64 0, .int .i64 0] 25)).alloc (.cells #[.int .i64 1, .int .i64 ip] 45)).alloc (.cells #[.int .i64 2, .int .i64 m, .int .i64 ip, .int .i64 a, .int .i64 b] 25)) (w.heap.size + 1) [.int .i64 0, .int .i64 0, .int .i64 0, .int .i64 0, .int .i64 0] := by
    have := (((Blk.new (w.alloc (.cells #[.int .i64 1, .int .i64 a, .int .i64 b, .int .i64 c, .int .i64 ip] 25)) [.int .i64 0, .int .i64 0, .int .i64 0, .int .i64 0, .int .i64 0] 25).alloc (.cells #[.int .i64 1, .int .i64 ip] 45)).alloc (.cells #[.int .i64 2, .int .i64 m, .int .i64 ip, .int .i64 a, .int .i64 b] 25))
    simpa using this
  have A0 : Blk ((((w.alloc (.cells #[.int .i64 1, .int .i64 a, .int .i64 b, .int .i64 c, .int .i64 ip] 25)).alloc (.cells #[.int .i64 0, .int .i64 0, .int .i64 0, .int .i64 0, .int .i64 0] 25)).alloc (.cells #[.int .i64 1, .int .i64 ip] 45)).alloc (.cells #[.int .i64 2, .int .i64 m, .int .i64 ip, .int .i64 a, .int .i64 b] 25)) (w.heap.size + 1 + 1 + 1) [.int .i64 2, .int .i64 m, .int .i64 ip, .int .i64 a, .int .i64 b] := by
    have := Blk.new (((w.alloc (.cells #[.int .i64 1, .int .i64 a, .int .i64 b, .int .i64 c, .int .i64 ip] 25)).alloc (.cells #[.int .i64 0, .int .i64 0, .int .i64 0, .int .i64 0, .int .i64 0] 25)).alloc (.cells #[.int .i64 1, .int .i64 ip] 45)) [.int .i64 2, .int .i64 m, .int .i64 ip, .int .i64 a, .int .i64 b] 25
    simpa using this
  generalize ((((w.alloc (.cells #[.int .i64 1, .int .i64 a, .int .i64 b, .int .i64 c, .int .i64 ip] 25)).alloc (.cells #[.int .i64 0, .int .i64 0, .int .i64 0, .int .i64 0, .int .i64 0] 25)).alloc (.cells #[.int .i64 1, .int .i64 ip] 45)).alloc (.cells #[.int .i64 2, .int .i64 m, .int .i64 ip, .int .i64 a, .int .i64 b] 25)) = w2 at R0 A0 B1 ⊢
  refine (C.out _).mono ?_
  rintro e w3 ⟨rfl, hb⟩
  have B := Lib.hid (B1.trans (hb.mono B1.size))
  have R := Lib.hid (R0.below hb)
  have A := Lib.hid (A0.below hb)
  clear hb R0 A0 B1
  obtain ⟨⟨d0, d1, d2, d3, d4⟩, e0, e1, e2, e3, e4⟩ := R.out.of5
  obtain ⟨⟨a0, a1, a2, a3, a4⟩, f0, f1, f2, f3, f4⟩ := A.out.of5
  go_wp2_with fail
  exact bodyPost_ret (v := .tuple #[.agg #[.int .i64 2, .int .i64 m, .int .i64 ip, .int .i64 a, .int .i64 b], .bool true]) (by simp [results, Try.results10, go_sem, d0, d1, d2, d3, d4]) rfl ⟨rfl, (((((B.out).setCell (Nat.le_succ _) _).setCell (Nat.le_succ _) _).setCell (Nat.le_succ _) _).setCell (Nat.le_succ _) _).setCell (Nat.le_succ _) _⟩

set_option maxRecDepth 100000 in
set_option maxHeartbeats 4000000 in
theorem arpReplyS_kind (k a b c d m ip : Int) (w : World) (h : k ≠ 1) :
    Calls Try.prog 11 #[.agg #[.int .i64 k, .int .i64 a, .int .i64 b, .int .i64 c, .int .i64 d], .int .i64 m, .int .i64 ip] w fun e w' => e = .returned (.tuple #[.agg #[.int .i64 0, .int .i64 0, .int .i64 0, .int .i64 0, .int .i64 0], .bool false]) ∧ Below w.heap.size w w' := by
  go_enter Try.func11, Try.ntmps11
  go_wp2_with fail
  exact bodyPost_ret (v := .tuple #[.agg #[.int .i64 0, .int .i64 0, .int .i64 0, .int .i64 0, .int .i64 0], .bool false]) (by simp [results, Try.results11, go_sem]) rfl ⟨rfl, ((((Below.refl w.heap.size w).alloc (Nat.le_refl _) _).alloc (by simp) _).alloc (by simp; omega) _)⟩

set_option maxRecDepth 100000 in
set_option maxHeartbeats 4000000 in
theorem arpReplyS_other (a b c d m ip : Int) (w : World) (h : d ≠ ip) :
    Calls Try.prog 11 #[.agg #[.int .i64 1, .int .i64 a, .int .i64 b, .int .i64 c, .int .i64 d], .int .i64 m, .int .i64 ip] w fun e w' => e = .returned (.tuple #[.agg #[.int .i64 0, .int .i64 0, .int .i64 0, .int .i64 0, .int .i64 0], .bool false]) ∧ Below w.heap.size w w' := by
  go_enter Try.func11, Try.ntmps11
  go_wp2_with fail
  exact bodyPost_ret (v := .tuple #[.agg #[.int .i64 0, .int .i64 0, .int .i64 0, .int .i64 0, .int .i64 0], .bool false]) (by simp [results, Try.results11, go_sem]) rfl ⟨rfl, ((((Below.refl w.heap.size w).alloc (Nat.le_refl _) _).alloc (by simp) _).alloc (by simp; omega) _)⟩

set_option maxRecDepth 100000 in
set_option maxHeartbeats 4000000 in
theorem arpReplyS_no (a b c m ip : Int) (w : World) (hr : arpOk 2 m ip a b = false) :
    Calls Try.prog 11 #[.agg #[.int .i64 1, .int .i64 a, .int .i64 b, .int .i64 c, .int .i64 ip], .int .i64 m, .int .i64 ip] w fun e w' => e = .returned (.tuple #[.agg #[.int .i64 0, .int .i64 0, .int .i64 0, .int .i64 0, .int .i64 0], .bool false]) ∧ Below w.heap.size w w' := by
  have C := Lib.hid (arpOkS 2 m ip a b)
  rw [hr] at C
  clear hr
  go_enter Try.func11, Try.ntmps11
  go_wp2_with fail
  have B1 : Below w.heap.size w (((w.alloc (.cells #[.int .i64 1, .int .i64 a, .int .i64 b, .int .i64 c, .int .i64 ip] 25)).alloc (.cells #[.int .i64 0, .int .i64 0, .int .i64 0, .int .i64 0, .int .i64 0] 25)).alloc (.cells #[.int .i64 2, .int .i64 m, .int .i64 ip, .int .i64 a, .int .i64 b] 25)) := ((((Below.refl w.heap.size w).alloc (by simp) (.cells #[.int .i64 1, .int .i64 a, .int .i64 b, .int .i64 c, .int .i64 ip] 25)).alloc (by simp) (.cells #[.int .i64 0, .int .i64 0, .int .i64 0, .int .i64 0, .int .i64 0] 25)).alloc (by simp; omega) (.cells #[.int .i64 2, .int .i64 m, .int .i64 ip, .int .i64 a, .int .i64 b] 25))
  have R0 : Blk (((w.alloc (.cells #[.int .i64 1, .int .i64 a, .int .i64 b, .int .i64 c, .int .i64 ip] 25)).alloc (.cells #[.int .i64 0, .int .i64 0, .int .i64 0, .int .i64 0, .int .i64 0] 25)).alloc (.cells #[.int .i64 2, .int .i64 m, .int .i64 ip, .int .i64 a, .int .i64 b] 25)) (w.heap.size + 1) [.int .i64 0, .int .i64 0, .int .i64 0, .int .i64 0, .int .i64 0] := by
    have := ((Blk.new (w.alloc (.cells #[.int .i64 1, .int .i64 a, .int .i64 b, .int .i64 c, .int .i64 ip] 25)) [.int .i64 0, .int .i64 0, .int .i64 0, .int .i64 0, .int .i64 0] 25).alloc (.cells #[.int .i64 2, .int .i64 m, .int .i64 ip, .int .i64 a, .int .i64 b] 25))
    simpa using this
  have A0 : Blk (((w.alloc (.cells #[.int .i64 1, .int .i64 a, .int .i64 b, .int .i64 c, .int .i64 ip] 25)).alloc (.cells #[.int .i64 0, .int .i64 0, .int .i64 0, .int .i64 0, .int .i64 0] 25)).alloc (.cells #[.int .i64 2, .int .i64 m, .int .i64 ip, .int .i64 a, .int .i64 b] 25)) (w.heap.size + 1 + 1) [.int .i64 2, .int .i64 m, .int .i64 ip, .int .i64 a, .int .i64 b] := by
    have := Blk.new ((w.alloc (.cells #[.int .i64 1, .int .i64 a, .int .i64 b, .int .i64 c, .int .i64 ip] 25)).alloc (.cells #[.int .i64 0, .int .i64 0, .int .i64 0, .int .i64 0, .int .i64 0] 25)) [.int .i64 2, .int .i64 m, .int .i64 ip, .int .i64 a, .int .i64 b] 25
    simpa using this
  generalize (((w.alloc (.cells #[.int .i64 1, .int .i64 a, .int .i64 b, .int .i64 c, .int .i64 ip] 25)).alloc (.cells #[.int .i64 0, .int .i64 0, .int .i64 0, .int .i64 0, .int .i64 0] 25)).alloc (.cells #[.int .i64 2, .int .i64 m, .int .i64 ip, .int .i64 a, .int .i64 b] 25)) = w2 at R0 A0 B1 ⊢
  refine (C.out _).mono ?_
  rintro e w3 ⟨rfl, hb⟩
  have B := Lib.hid (B1.trans (hb.mono B1.size))
  have R := Lib.hid (R0.below hb)
  have A := Lib.hid (A0.below hb)
  clear hb R0 A0 B1
  obtain ⟨⟨d0, d1, d2, d3, d4⟩, e0, e1, e2, e3, e4⟩ := R.out.of5
  go_wp2_with fail
  exact bodyPost_ret (v := .tuple #[.agg #[.int .i64 0, .int .i64 0, .int .i64 0, .int .i64 0, .int .i64 0], .bool false]) (by simp [results, Try.results11, go_sem, d0, d1, d2, d3, d4]) rfl ⟨rfl, (((((B.out).setCell (Nat.le_succ _) _).setCell (Nat.le_succ _) _).setCell (Nat.le_succ _) _).setCell (Nat.le_succ _) _).setCell (Nat.le_succ _) _⟩

set_option maxRecDepth 100000 in
set_option maxHeartbeats 4000000 in
theorem arpReplyS_yes (a b c m ip : Int) (w : World) (hr : arpOk 2 m ip a b = true) :
    Calls Try.prog 11 #[.agg #[.int .i64 1, .int .i64 a, .int .i64 b, .int .i64 c, .int .i64 ip], .int .i64 m, .int .i64 ip] w fun e w' => e = .returned (.tuple #[.agg #[.int .i64 2, .int .i64 m, .int .i64 ip, .int .i64 a, .int .i64 b], .bool true]) ∧ Below w.heap.size w w' := by
  have C := Lib.hid (arpOkS 2 m ip a b)
  rw [hr] at C
  clear hr
  go_enter Try.func11, Try.ntmps11
  go_wp2_with fail
  have B1 : Below w.heap.size w (((w.alloc (.cells #[.int .i64 1, .int .i64 a, .int .i64 b, .int .i64 c, .int .i64 ip] 25)).alloc (.cells #[.int .i64 0, .int .i64 0, .int .i64 0, .int .i64 0, .int .i64 0] 25)).alloc (.cells #[.int .i64 2, .int .i64 m, .int .i64 ip, .int .i64 a, .int .i64 b] 25)) := ((((Below.refl w.heap.size w).alloc (by simp) (.cells #[.int .i64 1, .int .i64 a, .int .i64 b, .int .i64 c, .int .i64 ip] 25)).alloc (by simp) (.cells #[.int .i64 0, .int .i64 0, .int .i64 0, .int .i64 0, .int .i64 0] 25)).alloc (by simp; omega) (.cells #[.int .i64 2, .int .i64 m, .int .i64 ip, .int .i64 a, .int .i64 b] 25))
  have R0 : Blk (((w.alloc (.cells #[.int .i64 1, .int .i64 a, .int .i64 b, .int .i64 c, .int .i64 ip] 25)).alloc (.cells #[.int .i64 0, .int .i64 0, .int .i64 0, .int .i64 0, .int .i64 0] 25)).alloc (.cells #[.int .i64 2, .int .i64 m, .int .i64 ip, .int .i64 a, .int .i64 b] 25)) (w.heap.size + 1) [.int .i64 0, .int .i64 0, .int .i64 0, .int .i64 0, .int .i64 0] := by
    have := ((Blk.new (w.alloc (.cells #[.int .i64 1, .int .i64 a, .int .i64 b, .int .i64 c, .int .i64 ip] 25)) [.int .i64 0, .int .i64 0, .int .i64 0, .int .i64 0, .int .i64 0] 25).alloc (.cells #[.int .i64 2, .int .i64 m, .int .i64 ip, .int .i64 a, .int .i64 b] 25))
    simpa using this
  have A0 : Blk (((w.alloc (.cells #[.int .i64 1, .int .i64 a, .int .i64 b, .int .i64 c, .int .i64 ip] 25)).alloc (.cells #[.int .i64 0, .int .i64 0, .int .i64 0, .int .i64 0, .int .i64 0] 25)).alloc (.cells #[.int .i64 2, .int .i64 m, .int .i64 ip, .int .i64 a, .int .i64 b] 25)) (w.heap.size + 1 + 1) [.int .i64 2, .int .i64 m, .int .i64 ip, .int .i64 a, .int .i64 b] := by
    have := Blk.new ((w.alloc (.cells #[.int .i64 1, .int .i64 a, .int .i64 b, .int .i64 c, .int .i64 ip] 25)).alloc (.cells #[.int .i64 0, .int .i64 0, .int .i64 0, .int .i64 0, .int .i64 0] 25)) [.int .i64 2, .int .i64 m, .int .i64 ip, .int .i64 a, .int .i64 b] 25
    simpa using this
  generalize (((w.alloc (.cells #[.int .i64 1, .int .i64 a, .int .i64 b, .int .i64 c, .int .i64 ip] 25)).alloc (.cells #[.int .i64 0, .int .i64 0, .int .i64 0, .int .i64 0, .int .i64 0] 25)).alloc (.cells #[.int .i64 2, .int .i64 m, .int .i64 ip, .int .i64 a, .int .i64 b] 25)) = w2 at R0 A0 B1 ⊢
  refine (C.out _).mono ?_
  rintro e w3 ⟨rfl, hb⟩
  have B := Lib.hid (B1.trans (hb.mono B1.size))
  have R := Lib.hid (R0.below hb)
  have A := Lib.hid (A0.below hb)
  clear hb R0 A0 B1
  obtain ⟨⟨d0, d1, d2, d3, d4⟩, e0, e1, e2, e3, e4⟩ := R.out.of5
  obtain ⟨⟨a0, a1, a2, a3, a4⟩, f0, f1, f2, f3, f4⟩ := A.out.of5
  go_wp2_with fail
  exact bodyPost_ret (v := .tuple #[.agg #[.int .i64 2, .int .i64 m, .int .i64 ip, .int .i64 a, .int .i64 b], .bool true]) (by simp [results, Try.results11, go_sem, d0, d1, d2, d3, d4]) rfl ⟨rfl, (((((B.out).setCell (Nat.le_succ _) _).setCell (Nat.le_succ _) _).setCell (Nat.le_succ _) _).setCell (Nat.le_succ _) _).setCell (Nat.le_succ _) _⟩
end Go.Proofs.Ytamjkchhffhejaa
