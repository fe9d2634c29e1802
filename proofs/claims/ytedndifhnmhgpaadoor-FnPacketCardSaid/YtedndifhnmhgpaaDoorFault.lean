/- packetFault, of the program. Nothing here is a claim. -/
import Derived.Test.YtedndifhnmhgpaaDoorPacketKit
import Derived.Test.YtedndifhnmhgpaaDoorSumR
import Derived.Test.YtedndifhnmhgpaaDoorGetI
import Derived.Below
namespace Go.Proofs.YtedndifhnmhgpaaDoor
open Go.RowKit Go.Lib

theorem get3I (s : ByteArray) (a n : Nat) (w : World) (hs : s.size ≤ 1048576) (hn : 1 ≤ n ∧ n ≤ 6) (h : a + n ≤ s.size) :
    Calls Tryd.prog 28 #[.string s, .int .i64 a, .int .i64 n] w fun e w' => e = .returned (.tuple #[.int .i64 (gw s a n : Nat), .bool true]) ∧ w = w' := by
  have := getWordI s a n w hs (by omega)
  rw [getW_yes s a n hn h] at this; exact this
/-- What packetFault answers. -/
def faultV (k : Nat) : Value := if k = 0 then .nilIface else .iface 42 (.int .i64 k)

set_option maxRecDepth 100000 in
set_option maxHeartbeats 4000000 in
theorem fault_short (s : ByteArray) (w : World) (h : s.size < 20) :
    Calls Tryd.prog 27 #[.string s] w fun e w' => e = .returned (.iface 42 (.int .i64 1)) ∧ Below w.heap.size w w' := by
  have h0 : (s.size : Int) < 20 := by omega
  go_enter Tryd.func27, Tryd.ntmps27
  go_wp2
  go_ret
  exact ⟨rfl, Below.refl _ _⟩

set_option maxRecDepth 100000 in
set_option maxHeartbeats 4000000 in
theorem fault_version (s : ByteArray) (w : World) (h : 20 ≤ s.size) (hv : ¬ (at8 s 0).toNat = 69) :
    Calls Tryd.prog 27 #[.string s] w fun e w' => e = .returned (.iface 42 (.int .i64 2)) ∧ Below w.heap.size w w' := by
  have h0 : ¬ (s.size : Int) < 20 := by omega
  have h1 : 0 < s.size := by omega
  have hb : ((s[0].toNat : Int) != 69) = true := by rw [at8_eq]; simp; omega
  clear hv
  go_enter Tryd.func27, Tryd.ntmps27
  go_wp2
  go_ret
  exact ⟨rfl, Below.refl _ _⟩

set_option maxRecDepth 100000 in
set_option maxHeartbeats 4000000 in
theorem fault_sum (s : ByteArray) (w : World) (hs : s.size ≤ 1048576) (h : 20 ≤ s.size) (hv : (at8 s 0).toNat = 69) (hr : sumRight (s.extract 0 20) = false) :
    Calls Tryd.prog 27 #[.string s] w fun e w' => e = .returned (.iface 42 (.int .i64 3)) ∧ Below w.heap.size w w' := by
  have h0 : ¬ (s.size : Int) < 20 := by omega
  have h1 : 0 < s.size := by omega
  have hb : ((s[0].toNat : Int) != 69) = false := by rw [at8_eq]; simp; omega
  clear hv
  have R := Lib.hid (sumRightI (s.extract 0 20) (by rw [ByteArray.size_extract]; omega))
  rw [hr] at R
  clear hr
  go_enter Tryd.func27, Tryd.ntmps27
  go_wp2_with fail
  refine (R.out _).mono ?_
  rintro e w1 ⟨rfl, hb1⟩
  have B1 := Lib.hid hb1
  clear hb1
  go_wp2
  go_ret
  exact ⟨rfl, B1.out⟩

set_option maxRecDepth 100000 in
set_option maxHeartbeats 4000000 in
theorem fault_low (s : ByteArray) (w : World) (hs : s.size ≤ 1048576) (h : 20 ≤ s.size) (hv : (at8 s 0).toNat = 69) (hr : sumRight (s.extract 0 20) = true) (hx : gw s 2 2 < 20) :
    Calls Tryd.prog 27 #[.string s] w fun e w' => e = .returned (.iface 42 (.int .i64 4)) ∧ Below w.heap.size w w' := by
  have h0 : ¬ (s.size : Int) < 20 := by omega
  have h1 : 0 < s.size := by omega
  have hb : ((s[0].toNat : Int) != 69) = false := by rw [at8_eq]; simp; omega
  clear hv
  have R := Lib.hid (sumRightI (s.extract 0 20) (by rw [ByteArray.size_extract]; omega))
  rw [hr] at R
  clear hr
  have G2 := Lib.hid (fun w => get3I s 2 2 w hs (by omega) (by omega))
  generalize gw s 2 2 = x at *
  go_enter Tryd.func27, Tryd.ntmps27
  go_wp2_with fail
  refine (R.out _).mono ?_
  rintro e w1 ⟨rfl, hb1⟩
  have B1 := Lib.hid hb1
  clear hb1
  go_wp2_with fail
  refine (G2.out _).mono ?_
  rintro e w2 ⟨rfl, rfl⟩
  go_wp2
  go_ret
  exact ⟨rfl, B1.out⟩

set_option maxRecDepth 100000 in
set_option maxHeartbeats 4000000 in
theorem fault_long (s : ByteArray) (w : World) (hs : s.size ≤ 1048576) (h : 20 ≤ s.size) (hv : (at8 s 0).toNat = 69) (hr : sumRight (s.extract 0 20) = true) (_ : 20 ≤ gw s 2 2) (hx : s.size < gw s 2 2) :
    Calls Tryd.prog 27 #[.string s] w fun e w' => e = .returned (.iface 42 (.int .i64 4)) ∧ Below w.heap.size w w' := by
  have h0 : ¬ (s.size : Int) < 20 := by omega
  have h1 : 0 < s.size := by omega
  have hb : ((s[0].toNat : Int) != 69) = false := by rw [at8_eq]; simp; omega
  clear hv
  have R := Lib.hid (sumRightI (s.extract 0 20) (by rw [ByteArray.size_extract]; omega))
  rw [hr] at R
  clear hr
  have G2 := Lib.hid (fun w => get3I s 2 2 w hs (by omega) (by omega))
  generalize gw s 2 2 = x at *
  go_enter Tryd.func27, Tryd.ntmps27
  go_wp2_with fail
  refine (R.out _).mono ?_
  rintro e w1 ⟨rfl, hb1⟩
  have B1 := Lib.hid hb1
  clear hb1
  go_wp2_with fail
  refine (G2.out _).mono ?_
  rintro e w2 ⟨rfl, rfl⟩
  go_wp2
  go_ret
  exact ⟨rfl, B1.out⟩

set_option maxRecDepth 100000 in
set_option maxHeartbeats 4000000 in
theorem fault_most (s : ByteArray) (w : World) (hs : s.size ≤ 1048576) (h : 20 ≤ s.size) (hv : (at8 s 0).toNat = 69) (hr : sumRight (s.extract 0 20) = true) (_ : 20 ≤ gw s 2 2) (hx1 : gw s 2 2 ≤ s.size) (hx : 1500 < gw s 2 2) :
    Calls Tryd.prog 27 #[.string s] w fun e w' => e = .returned (.iface 42 (.int .i64 4)) ∧ Below w.heap.size w w' := by
  have h0 : ¬ (s.size : Int) < 20 := by omega
  have h1 : 0 < s.size := by omega
  have hb : ((s[0].toNat : Int) != 69) = false := by rw [at8_eq]; simp; omega
  clear hv
  have R := Lib.hid (sumRightI (s.extract 0 20) (by rw [ByteArray.size_extract]; omega))
  rw [hr] at R
  clear hr
  have G2 := Lib.hid (fun w => get3I s 2 2 w hs (by omega) (by omega))
  generalize gw s 2 2 = x at *
  go_enter Tryd.func27, Tryd.ntmps27
  go_wp2_with fail
  refine (R.out _).mono ?_
  rintro e w1 ⟨rfl, hb1⟩
  have B1 := Lib.hid hb1
  clear hb1
  go_wp2_with fail
  refine (G2.out _).mono ?_
  rintro e w2 ⟨rfl, rfl⟩
  go_wp2
  go_ret
  exact ⟨rfl, B1.out⟩

set_option maxRecDepth 100000 in
set_option maxHeartbeats 4000000 in
theorem fault_frag (s : ByteArray) (w : World) (hs : s.size ≤ 1048576) (h : 20 ≤ s.size) (hv : (at8 s 0).toNat = 69) (hr : sumRight (s.extract 0 20) = true) (hx0 : 20 ≤ gw s 2 2) (hx1 : gw s 2 2 ≤ s.size) (hx2 : gw s 2 2 ≤ 1500) (hy : ¬ gw s 6 2 = 0) (hy2 : ¬ gw s 6 2 = 16384) :
    Calls Tryd.prog 27 #[.string s] w fun e w' => e = .returned (.iface 42 (.int .i64 5)) ∧ Below w.heap.size w w' := by
  have h0 : ¬ (s.size : Int) < 20 := by omega
  have h1 : 0 < s.size := by omega
  have hb : ((s[0].toNat : Int) != 69) = false := by rw [at8_eq]; simp; omega
  clear hv
  have R := Lib.hid (sumRightI (s.extract 0 20) (by rw [ByteArray.size_extract]; omega))
  rw [hr] at R
  clear hr
  have G2 := Lib.hid (fun w => get3I s 2 2 w hs (by omega) (by omega))
  generalize gw s 2 2 = x at *
  have G6 := Lib.hid (fun w => get3I s 6 2 w hs (by omega) (by omega))
  generalize gw s 6 2 = y at *
  have hy' : ((y : Int) != 0) = true := by simp; omega
  have hy2' : ((y : Int) != 16384) = true := by simp; omega
  clear hy hy2
  go_enter Tryd.func27, Tryd.ntmps27
  go_wp2_with fail
  refine (R.out _).mono ?_
  rintro e w1 ⟨rfl, hb1⟩
  have B1 := Lib.hid hb1
  clear hb1
  go_wp2_with fail
  refine (G2.out _).mono ?_
  rintro e w2 ⟨rfl, rfl⟩
  go_wp2_with fail
  refine (G6.out _).mono ?_
  rintro e w2 ⟨rfl, rfl⟩
  go_wp2
  go_ret
  exact ⟨rfl, B1.out⟩

set_option maxRecDepth 100000 in
set_option maxHeartbeats 4000000 in
theorem fault_ttl (s : ByteArray) (w : World) (hs : s.size ≤ 1048576) (h : 20 ≤ s.size) (hv : (at8 s 0).toNat = 69) (hr : sumRight (s.extract 0 20) = true) (hx0 : 20 ≤ gw s 2 2) (hx1 : gw s 2 2 ≤ s.size) (hx2 : gw s 2 2 ≤ 1500) (hy : gw s 6 2 = 0 ∨ gw s 6 2 = 16384) (ht : (at8 s 8).toNat = 0) :
    Calls Tryd.prog 27 #[.string s] w fun e w' => e = .returned (.iface 42 (.int .i64 6)) ∧ Below w.heap.size w w' := by
  have h0 : ¬ (s.size : Int) < 20 := by omega
  have h1 : 0 < s.size := by omega
  have h8 : 8 < s.size := by omega
  have hb : ((s[0].toNat : Int) != 69) = false := by rw [at8_eq]; simp; omega
  clear hv
  have R := Lib.hid (sumRightI (s.extract 0 20) (by rw [ByteArray.size_extract]; omega))
  rw [hr] at R
  clear hr
  have G2 := Lib.hid (fun w => get3I s 2 2 w hs (by omega) (by omega))
  generalize gw s 2 2 = x at *
  have G6 := Lib.hid (fun w => get3I s 6 2 w hs (by omega) (by omega))
  generalize gw s 6 2 = y at *
  have ht8 : ((s[8].toNat : Int) == 0) = true := by rw [at8_eq]; simp; omega
  clear ht
  rcases hy with rfl | rfl
  all_goals
    go_enter Tryd.func27, Tryd.ntmps27
    go_wp2_with fail
    refine (R.out _).mono ?_
    rintro e w1 ⟨rfl, hb1⟩
    have B1 := Lib.hid hb1
    clear hb1
    go_wp2_with fail
    refine (G2.out _).mono ?_
    rintro e w2 ⟨rfl, rfl⟩
    go_wp2_with fail
    refine (G6.out _).mono ?_
    rintro e w2 ⟨rfl, rfl⟩
    go_wp2
    go_ret
    exact ⟨rfl, B1.out⟩

set_option maxRecDepth 100000 in
set_option maxHeartbeats 4000000 in
theorem fault_ok (s : ByteArray) (w : World) (hs : s.size ≤ 1048576) (h : 20 ≤ s.size) (hv : (at8 s 0).toNat = 69) (hr : sumRight (s.extract 0 20) = true) (hx0 : 20 ≤ gw s 2 2) (hx1 : gw s 2 2 ≤ s.size) (hx2 : gw s 2 2 ≤ 1500) (hy : gw s 6 2 = 0 ∨ gw s 6 2 = 16384) (ht : ¬ (at8 s 8).toNat = 0) :
    Calls Tryd.prog 27 #[.string s] w fun e w' => e = .returned (.nilIface) ∧ Below w.heap.size w w' := by
  have h0 : ¬ (s.size : Int) < 20 := by omega
  have h1 : 0 < s.size := by omega
  have h8 : 8 < s.size := by omega
  have hb : ((s[0].toNat : Int) != 69) = false := by rw [at8_eq]; simp; omega
  clear hv
  have R := Lib.hid (sumRightI (s.extract 0 20) (by rw [ByteArray.size_extract]; omega))
  rw [hr] at R
  clear hr
  have G2 := Lib.hid (fun w => get3I s 2 2 w hs (by omega) (by omega))
  generalize gw s 2 2 = x at *
  have G6 := Lib.hid (fun w => get3I s 6 2 w hs (by omega) (by omega))
  generalize gw s 6 2 = y at *
  have ht8 : ((s[8].toNat : Int) == 0) = false := by rw [at8_eq]; simp; omega
  clear ht
  rcases hy with rfl | rfl
  all_goals
    go_enter Tryd.func27, Tryd.ntmps27
    go_wp2_with fail
    refine (R.out _).mono ?_
    rintro e w1 ⟨rfl, hb1⟩
    have B1 := Lib.hid hb1
    clear hb1
    go_wp2_with fail
    refine (G2.out _).mono ?_
    rintro e w2 ⟨rfl, rfl⟩
    go_wp2_with fail
    refine (G6.out _).mono ?_
    rintro e w2 ⟨rfl, rfl⟩
    go_wp2
    go_ret
    exact ⟨rfl, B1.out⟩

theorem faultI (s : ByteArray) (hs : s.size ≤ 1048576) (w : World) :
    Calls Tryd.prog 27 #[.string s] w fun e w' => e = .returned (faultV (pkWhy s)) ∧ Below w.heap.size w w' := by
  unfold pkWhy
  split
  · exact fault_short s w (by assumption)
  split
  · exact fault_version s w (by omega) (by assumption)
  rename_i h hv
  have h : 20 ≤ s.size := by omega
  have hv : (at8 s 0).toNat = 69 := by omega
  split
  · exact fault_sum s w hs h hv (by assumption)
  rename_i hr
  have hr : sumRight (s.extract 0 20) = true := by simpa using hr
  split
  · by_cases hx0 : 20 ≤ gw s 2 2
    · by_cases hx1 : gw s 2 2 ≤ s.size
      · exact fault_most s w hs h hv hr hx0 hx1 (by omega)
      · exact fault_long s w hs h hv hr hx0 (by omega)
    · exact fault_low s w hs h hv hr (by omega)
  rename_i hx
  have hx : 20 ≤ gw s 2 2 ∧ gw s 2 2 ≤ s.size ∧ gw s 2 2 ≤ 1500 := by omega
  split
  · exact fault_frag s w hs h hv hr hx.1 hx.2.1 hx.2.2 (by omega) (by omega)
  rename_i hy
  have hy : gw s 6 2 = 0 ∨ gw s 6 2 = 16384 := by omega
  split
  · exact fault_ttl s w hs h hv hr hx.1 hx.2.1 hx.2.2 hy (by assumption)
  · exact fault_ok s w hs h hv hr hx.1 hx.2.1 hx.2.2 hy (by assumption)
end Go.Proofs.YtedndifhnmhgpaaDoor
