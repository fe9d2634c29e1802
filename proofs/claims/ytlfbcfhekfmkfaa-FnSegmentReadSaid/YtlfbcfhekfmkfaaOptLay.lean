/- spec.l1Min, spec.l8Lay -/
import Derived.Test.YtlfbcfhekfmkfaaGetS
import Derived.Test.YtlfbcfhekfmkfaaKit
import Derived.Test.YtlfbcfhekfmkfaaCurA
namespace Go.Proofs.Ytlfbcfhekfmkfaa
open Go.RowKit Go.Lib

theorem l1Min_any (a b : Int) (w : World) : Calls Try.prog 80 #[.int .i64 a, .int .i64 b] w fun e w' => e = .returned (.int .i64 (min a b)) ∧ w = w' := by
  by_cases h : a < b
  · have e : min a b = a := by omega
    rw [e]
    clear e
    go_enter Try.func80, Try.ntmps80
    go_wp2
    go_ret
    exact ⟨rfl, rfl⟩
  · have e : min a b = b := by omega
    rw [e]
    clear e
    go_enter Try.func80, Try.ntmps80
    go_wp2
    go_ret
    exact ⟨rfl, rfl⟩

set_option maxRecDepth 100000 in
set_option maxHeartbeats 4000000 in
theorem lay_mss (m c : Int) (k t : Bool) (v e : Int) (x : ByteArray) (w : World) (hx : 0 < x.size) (hs : x.size ≤ 1048576) (h0 : (x[0]'hx).toNat = 2) (hn : x.size = 4) :
    Calls Try.prog 78 #[.agg #[.int .i64 m, .int .i64 c, .bool k, .bool t, .int .i64 v, .int .i64 e], .string x] w fun e' w' => e' = .returned (.agg #[.int .i64 (gw x 2 2 : Nat), .int .i64 c, .bool k, .bool t, .int .i64 v, .int .i64 e]) ∧ Below w.heap.size w w' := by
  have b0 : (((x[0]'hx).toNat : Int) == 2) = true := by rw [beq_iff_eq]; omega
  have n0 : ((x.size : Int) == 4) = true := by rw [beq_iff_eq]; omega
  have b1 : (((x[0]'hx).toNat : Int) == 3) = false := by rw [beq_eq_false_iff_ne]; omega
  have b2 : (((x[0]'hx).toNat : Int) == 4) = false := by rw [beq_eq_false_iff_ne]; omega
  have b3 : (((x[0]'hx).toNat : Int) == 8) = false := by rw [beq_eq_false_iff_ne]; omega
  have G2 := Lib.hid (fun w => get3S x 2 2 w (by omega) (by omega) (by omega))
  generalize gw x 2 2 = y2 at G2 ⊢
  clear h0 hn
  go_enter Try.func78, Try.ntmps78
  go_wp2_with fail
  refine (G2.out _).mono ?_
  rintro e' w1 ⟨rfl, rfl⟩
  go_wp2_with fail
  exact bodyPost_ret (v := .agg #[.int .i64 (y2 : Nat), .int .i64 c, .bool k, .bool t, .int .i64 v, .int .i64 e]) (by simp [results, Try.results78, go_sem]) rfl ⟨rfl, ((Below.refl _ _).alloc (Nat.le_refl _) _).alloc (by simp) _⟩

set_option maxRecDepth 100000 in
set_option maxHeartbeats 4000000 in
theorem lay_scale (m c : Int) (k t : Bool) (v e : Int) (x : ByteArray) (w : World) (hx : 0 < x.size) (h0 : (x[0]'hx).toNat = 3) (hn : x.size = 3) :
    Calls Try.prog 78 #[.agg #[.int .i64 m, .int .i64 c, .bool k, .bool t, .int .i64 v, .int .i64 e], .string x] w fun e' w' => e' = .returned (.agg #[.int .i64 m, .int .i64 (min (at8 x 2).toNat 14 : Nat), .bool k, .bool t, .int .i64 v, .int .i64 e]) ∧ Below w.heap.size w w' := by
  have b0 : (((x[0]'hx).toNat : Int) == 2) = false := by rw [beq_eq_false_iff_ne]; omega
  have b1 : (((x[0]'hx).toNat : Int) == 3) = true := by rw [beq_iff_eq]; omega
  have n1 : ((x.size : Int) == 3) = true := by rw [beq_iff_eq]; omega
  have b2 : (((x[0]'hx).toNat : Int) == 4) = false := by rw [beq_eq_false_iff_ne]; omega
  have b3 : (((x[0]'hx).toNat : Int) == 8) = false := by rw [beq_eq_false_iff_ne]; omega
  have h3 : 2 < x.size := by omega
  have hb8 : (x[2]'h3).toNat < 256 := (x[2]'h3).toNat_lt
  have G := l1Min_any 14 ((x[2]'h3).toNat : Int)
  have ez : min (14 : Int) ((x[2]'h3).toNat : Int) = ((min (at8 x 2).toNat 14 : Nat) : Int) := by rw [← at8_eq x 2 h3]; omega
  rw [ez] at G
  have G2 := Lib.hid G
  generalize ((min (at8 x 2).toNat 14 : Nat) : Int) = z at G2 ⊢
  clear G ez
  clear h0 hn
  go_enter Try.func78, Try.ntmps78
  go_wp2_with fail
  refine (G2.out _).mono ?_
  rintro e' w1 ⟨rfl, rfl⟩
  go_wp2_with fail
  exact bodyPost_ret (v := .agg #[.int .i64 m, .int .i64 z, .bool k, .bool t, .int .i64 v, .int .i64 e]) (by simp [results, Try.results78, go_sem]) rfl ⟨rfl, ((Below.refl _ _).alloc (Nat.le_refl _) _).alloc (by simp) _⟩

set_option maxRecDepth 100000 in
set_option maxHeartbeats 4000000 in
theorem lay_sack (m c : Int) (k t : Bool) (v e : Int) (x : ByteArray) (w : World) (hx : 0 < x.size) (h0 : (x[0]'hx).toNat = 4) (hn : x.size = 2) :
    Calls Try.prog 78 #[.agg #[.int .i64 m, .int .i64 c, .bool k, .bool t, .int .i64 v, .int .i64 e], .string x] w fun e' w' => e' = .returned (.agg #[.int .i64 m, .int .i64 c, .bool true, .bool t, .int .i64 v, .int .i64 e]) ∧ Below w.heap.size w w' := by
  have b0 : (((x[0]'hx).toNat : Int) == 2) = false := by rw [beq_eq_false_iff_ne]; omega
  have b1 : (((x[0]'hx).toNat : Int) == 3) = false := by rw [beq_eq_false_iff_ne]; omega
  have b2 : (((x[0]'hx).toNat : Int) == 4) = true := by rw [beq_iff_eq]; omega
  have n2 : ((x.size : Int) == 2) = true := by rw [beq_iff_eq]; omega
  have b3 : (((x[0]'hx).toNat : Int) == 8) = false := by rw [beq_eq_false_iff_ne]; omega
  clear h0 hn
  go_enter Try.func78, Try.ntmps78
  go_wp2_with fail
  exact bodyPost_ret (v := .agg #[.int .i64 m, .int .i64 c, .bool true, .bool t, .int .i64 v, .int .i64 e]) (by simp [results, Try.results78, go_sem]) rfl ⟨rfl, ((Below.refl _ _).alloc (Nat.le_refl _) _).alloc (by simp) _⟩

set_option maxRecDepth 100000 in
set_option maxHeartbeats 4000000 in
theorem lay_stamp (m c : Int) (k t : Bool) (v e : Int) (x : ByteArray) (w : World) (hx : 0 < x.size) (hs : x.size ≤ 1048576) (h0 : (x[0]'hx).toNat = 8) (hn : x.size = 10) :
    Calls Try.prog 78 #[.agg #[.int .i64 m, .int .i64 c, .bool k, .bool t, .int .i64 v, .int .i64 e], .string x] w fun e' w' => e' = .returned (.agg #[.int .i64 m, .int .i64 c, .bool k, .bool true, .int .i64 (gw x 2 4 : Nat), .int .i64 (gw x 6 4 : Nat)]) ∧ Below w.heap.size w w' := by
  have b0 : (((x[0]'hx).toNat : Int) == 2) = false := by rw [beq_eq_false_iff_ne]; omega
  have b1 : (((x[0]'hx).toNat : Int) == 3) = false := by rw [beq_eq_false_iff_ne]; omega
  have b2 : (((x[0]'hx).toNat : Int) == 4) = false := by rw [beq_eq_false_iff_ne]; omega
  have b3 : (((x[0]'hx).toNat : Int) == 8) = true := by rw [beq_iff_eq]; omega
  have n3 : ((x.size : Int) == 10) = true := by rw [beq_iff_eq]; omega
  have G2 := Lib.hid (fun w => get3S x 2 4 w (by omega) (by omega) (by omega))
  generalize gw x 2 4 = y2 at G2 ⊢
  have G6 := Lib.hid (fun w => get3S x 6 4 w (by omega) (by omega) (by omega))
  generalize gw x 6 4 = y6 at G6 ⊢
  clear h0 hn
  go_enter Try.func78, Try.ntmps78
  go_wp2_with fail
  refine (G2.out _).mono ?_
  rintro e' w1 ⟨rfl, rfl⟩
  go_wp2_with fail
  refine (G6.out _).mono ?_
  rintro e' w1 ⟨rfl, rfl⟩
  go_wp2_with fail
  exact bodyPost_ret (v := .agg #[.int .i64 m, .int .i64 c, .bool k, .bool true, .int .i64 (y2 : Nat), .int .i64 (y6 : Nat)]) (by simp [results, Try.results78, go_sem]) rfl ⟨rfl, ((Below.refl _ _).alloc (Nat.le_refl _) _).alloc (by simp) _⟩

set_option maxRecDepth 100000 in
set_option maxHeartbeats 4000000 in
theorem lay_not0 (m c : Int) (k t : Bool) (v e : Int) (x : ByteArray) (w : World) (hx : 0 < x.size) (h0 : (x[0]'hx).toNat = 2) (hn : ¬ x.size = 4) :
    Calls Try.prog 78 #[.agg #[.int .i64 m, .int .i64 c, .bool k, .bool t, .int .i64 v, .int .i64 e], .string x] w fun e' w' => e' = .returned (.agg #[.int .i64 m, .int .i64 c, .bool k, .bool t, .int .i64 v, .int .i64 e]) ∧ Below w.heap.size w w' := by
  have b0 : (((x[0]'hx).toNat : Int) == 2) = true := by rw [beq_iff_eq]; omega
  have n0 : ((x.size : Int) == 4) = false := by rw [beq_eq_false_iff_ne]; omega
  have b1 : (((x[0]'hx).toNat : Int) == 3) = false := by rw [beq_eq_false_iff_ne]; omega
  have b2 : (((x[0]'hx).toNat : Int) == 4) = false := by rw [beq_eq_false_iff_ne]; omega
  have b3 : (((x[0]'hx).toNat : Int) == 8) = false := by rw [beq_eq_false_iff_ne]; omega
  clear h0 hn
  go_enter Try.func78, Try.ntmps78
  go_wp2_with fail
  exact bodyPost_ret (v := .agg #[.int .i64 m, .int .i64 c, .bool k, .bool t, .int .i64 v, .int .i64 e]) (by simp [results, Try.results78, go_sem]) rfl ⟨rfl, ((Below.refl _ _).alloc (Nat.le_refl _) _).alloc (by simp) _⟩

set_option maxRecDepth 100000 in
set_option maxHeartbeats 4000000 in
theorem lay_not1 (m c : Int) (k t : Bool) (v e : Int) (x : ByteArray) (w : World) (hx : 0 < x.size) (h0 : (x[0]'hx).toNat = 3) (hn : ¬ x.size = 3) :
    Calls Try.prog 78 #[.agg #[.int .i64 m, .int .i64 c, .bool k, .bool t, .int .i64 v, .int .i64 e], .string x] w fun e' w' => e' = .returned (.agg #[.int .i64 m, .int .i64 c, .bool k, .bool t, .int .i64 v, .int .i64 e]) ∧ Below w.heap.size w w' := by
  have b0 : (((x[0]'hx).toNat : Int) == 2) = false := by rw [beq_eq_false_iff_ne]; omega
  have b1 : (((x[0]'hx).toNat : Int) == 3) = true := by rw [beq_iff_eq]; omega
  have n1 : ((x.size : Int) == 3) = false := by rw [beq_eq_false_iff_ne]; omega
  have b2 : (((x[0]'hx).toNat : Int) == 4) = false := by rw [beq_eq_false_iff_ne]; omega
  have b3 : (((x[0]'hx).toNat : Int) == 8) = false := by rw [beq_eq_false_iff_ne]; omega
  clear h0 hn
  go_enter Try.func78, Try.ntmps78
  go_wp2_with fail
  exact bodyPost_ret (v := .agg #[.int .i64 m, .int .i64 c, .bool k, .bool t, .int .i64 v, .int .i64 e]) (by simp [results, Try.results78, go_sem]) rfl ⟨rfl, ((Below.refl _ _).alloc (Nat.le_refl _) _).alloc (by simp) _⟩

set_option maxRecDepth 100000 in
set_option maxHeartbeats 4000000 in
theorem lay_not2 (m c : Int) (k t : Bool) (v e : Int) (x : ByteArray) (w : World) (hx : 0 < x.size) (h0 : (x[0]'hx).toNat = 4) (hn : ¬ x.size = 2) :
    Calls Try.prog 78 #[.agg #[.int .i64 m, .int .i64 c, .bool k, .bool t, .int .i64 v, .int .i64 e], .string x] w fun e' w' => e' = .returned (.agg #[.int .i64 m, .int .i64 c, .bool k, .bool t, .int .i64 v, .int .i64 e]) ∧ Below w.heap.size w w' := by
  have b0 : (((x[0]'hx).toNat : Int) == 2) = false := by rw [beq_eq_false_iff_ne]; omega
  have b1 : (((x[0]'hx).toNat : Int) == 3) = false := by rw [beq_eq_false_iff_ne]; omega
  have b2 : (((x[0]'hx).toNat : Int) == 4) = true := by rw [beq_iff_eq]; omega
  have n2 : ((x.size : Int) == 2) = false := by rw [beq_eq_false_iff_ne]; omega
  have b3 : (((x[0]'hx).toNat : Int) == 8) = false := by rw [beq_eq_false_iff_ne]; omega
  clear h0 hn
  go_enter Try.func78, Try.ntmps78
  go_wp2_with fail
  exact bodyPost_ret (v := .agg #[.int .i64 m, .int .i64 c, .bool k, .bool t, .int .i64 v, .int .i64 e]) (by simp [results, Try.results78, go_sem]) rfl ⟨rfl, ((Below.refl _ _).alloc (Nat.le_refl _) _).alloc (by simp) _⟩

set_option maxRecDepth 100000 in
set_option maxHeartbeats 4000000 in
theorem lay_not3 (m c : Int) (k t : Bool) (v e : Int) (x : ByteArray) (w : World) (hx : 0 < x.size) (h0 : (x[0]'hx).toNat = 8) (hn : ¬ x.size = 10) :
    Calls Try.prog 78 #[.agg #[.int .i64 m, .int .i64 c, .bool k, .bool t, .int .i64 v, .int .i64 e], .string x] w fun e' w' => e' = .returned (.agg #[.int .i64 m, .int .i64 c, .bool k, .bool t, .int .i64 v, .int .i64 e]) ∧ Below w.heap.size w w' := by
  have b0 : (((x[0]'hx).toNat : Int) == 2) = false := by rw [beq_eq_false_iff_ne]; omega
  have b1 : (((x[0]'hx).toNat : Int) == 3) = false := by rw [beq_eq_false_iff_ne]; omega
  have b2 : (((x[0]'hx).toNat : Int) == 4) = false := by rw [beq_eq_false_iff_ne]; omega
  have b3 : (((x[0]'hx).toNat : Int) == 8) = true := by rw [beq_iff_eq]; omega
  have n3 : ((x.size : Int) == 10) = false := by rw [beq_eq_false_iff_ne]; omega
  clear h0 hn
  go_enter Try.func78, Try.ntmps78
  go_wp2_with fail
  exact bodyPost_ret (v := .agg #[.int .i64 m, .int .i64 c, .bool k, .bool t, .int .i64 v, .int .i64 e]) (by simp [results, Try.results78, go_sem]) rfl ⟨rfl, ((Below.refl _ _).alloc (Nat.le_refl _) _).alloc (by simp) _⟩

set_option maxRecDepth 100000 in
set_option maxHeartbeats 4000000 in
theorem lay_none (m c : Int) (k t : Bool) (v e : Int) (x : ByteArray) (w : World) (hx : 0 < x.size) (h0 : ¬ (x[0]'hx).toNat = 2) (h1 : ¬ (x[0]'hx).toNat = 3) (h2 : ¬ (x[0]'hx).toNat = 4) (h3 : ¬ (x[0]'hx).toNat = 8) :
    Calls Try.prog 78 #[.agg #[.int .i64 m, .int .i64 c, .bool k, .bool t, .int .i64 v, .int .i64 e], .string x] w fun e' w' => e' = .returned (.agg #[.int .i64 m, .int .i64 c, .bool k, .bool t, .int .i64 v, .int .i64 e]) ∧ Below w.heap.size w w' := by
  have b0 : (((x[0]'hx).toNat : Int) == 2) = false := by rw [beq_eq_false_iff_ne]; omega
  have b1 : (((x[0]'hx).toNat : Int) == 3) = false := by rw [beq_eq_false_iff_ne]; omega
  have b2 : (((x[0]'hx).toNat : Int) == 4) = false := by rw [beq_eq_false_iff_ne]; omega
  have b3 : (((x[0]'hx).toNat : Int) == 8) = false := by rw [beq_eq_false_iff_ne]; omega
  clear h0 h1 h2 h3
  go_enter Try.func78, Try.ntmps78
  go_wp2_with fail
  exact bodyPost_ret (v := .agg #[.int .i64 m, .int .i64 c, .bool k, .bool t, .int .i64 v, .int .i64 e]) (by simp [results, Try.results78, go_sem]) rfl ⟨rfl, ((Below.refl _ _).alloc (Nat.le_refl _) _).alloc (by simp) _⟩

theorem layS (m c : Int) (k t : Bool) (v e : Int) (x : ByteArray) (w : World) (h2 : 2 ≤ x.size) (hs : x.size ≤ 1048576) :
    Calls Try.prog 78 #[.agg #[.int .i64 m, .int .i64 c, .bool k, .bool t, .int .i64 v, .int .i64 e], .string x] w fun e' w' => e' = .returned (.agg (optLay ⟨m, c, k, t, v, e⟩ x).cs) ∧ Below w.heap.size w w' := by
  have hx : 0 < x.size := by omega
  have h8 : (x[0]'hx).toNat = (at8 x 0).toNat := by rw [at8_eq x 0 (by omega)]
  by_cases a0 : (at8 x 0).toNat = 2 ∧ x.size = 4
  · refine (lay_mss m c k t v e x w hx hs (h8.trans a0.1) a0.2).mono ?_
    rintro e' w' ⟨rfl, hb⟩
    exact ⟨by unfold optLay; rw [if_pos a0]; rfl, hb⟩
  by_cases a1 : (at8 x 0).toNat = 3 ∧ x.size = 3
  · refine (lay_scale m c k t v e x w hx (h8.trans a1.1) a1.2).mono ?_
    rintro e' w' ⟨rfl, hb⟩
    exact ⟨by unfold optLay; rw [if_neg a0, if_pos a1]; rfl, hb⟩
  by_cases a2 : (at8 x 0).toNat = 4 ∧ x.size = 2
  · refine (lay_sack m c k t v e x w hx (h8.trans a2.1) a2.2).mono ?_
    rintro e' w' ⟨rfl, hb⟩
    exact ⟨by unfold optLay; rw [if_neg a0, if_neg a1, if_pos a2]; rfl, hb⟩
  by_cases a3 : (at8 x 0).toNat = 8 ∧ x.size = 10
  · refine (lay_stamp m c k t v e x w hx hs (h8.trans a3.1) a3.2).mono ?_
    rintro e' w' ⟨rfl, hb⟩
    exact ⟨by unfold optLay; rw [if_neg a0, if_neg a1, if_neg a2, if_pos a3]; rfl, hb⟩
  have E : optLay ⟨m, c, k, t, v, e⟩ x = ⟨m, c, k, t, v, e⟩ := by unfold optLay; rw [if_neg a0, if_neg a1, if_neg a2, if_neg a3]
  rw [E]
  by_cases q0 : (at8 x 0).toNat = 2
  · exact lay_not0 m c k t v e x w hx (h8.trans q0) (fun hn => a0 ⟨q0, hn⟩)
  by_cases q1 : (at8 x 0).toNat = 3
  · exact lay_not1 m c k t v e x w hx (h8.trans q1) (fun hn => a1 ⟨q1, hn⟩)
  by_cases q2 : (at8 x 0).toNat = 4
  · exact lay_not2 m c k t v e x w hx (h8.trans q2) (fun hn => a2 ⟨q2, hn⟩)
  by_cases q3 : (at8 x 0).toNat = 8
  · exact lay_not3 m c k t v e x w hx (h8.trans q3) (fun hn => a3 ⟨q3, hn⟩)
  · exact lay_none m c k t v e x w hx (by rw [h8]; exact q0) (by rw [h8]; exact q1) (by rw [h8]; exact q2) (by rw [h8]; exact q3)
end Go.Proofs.Ytlfbcfhekfmkfaa
