/- impl.optionAt, impl.withOption -/
import Derived.Test.YtlfbcfhekfmkfaaGetI
import Derived.Test.YtlfbcfhekfmkfaaKit
import Derived.Test.YtlfbcfhekfmkfaaCurA
namespace Go.Proofs.Ytlfbcfhekfmkfaa
open Go.RowKit Go.Lib

theorem ba_ne {a b : ByteArray} (h : ¬ a = b) : (a.toList == b.toList) = false := by
  rw [beq_eq_false_iff_ne]
  intro e
  rw [ByteArray.toList_eq, ByteArray.toList_eq] at e
  exact h (ByteArray.ext (Array.toList_inj.1 e))


set_option maxHeartbeats 2000000 in
theorem optionAt_bad (s : ByteArray) (a : Nat) (w : World) (hs : s.size ≤ 1048576) (ha : a < s.size) (hb : optBad s a) :
    Calls Try.prog 70 #[.string s, .int .i64 a] w fun e w' => e = .returned (.tuple #[.string ⟨#[]⟩, .bool false]) ∧ w = w' := by
  have G := getWordI s ((a : Int) + 1) 1 w hs (by omega)
  by_cases h1 : a + 1 < s.size
  · have e := getW_yes s (a + 1) 1 (by omega) (by omega)
    have e1 : (((a + 1 : Nat) : Int)) = (a : Int) + 1 := by omega
    rw [e1] at e
    have e2 : ((1 : Nat) : Int) = 1 := rfl
    rw [e2] at e
    rw [e, gw1] at G
    have H := Lib.hid G
    unfold optBad at hb
    generalize (at8 s (a + 1)).toNat = n at H hb
    clear G e e1 e2
    by_cases h2 : n < 2
    · clear hb
      go_enter Try.func70, Try.ntmps70
      go_wp2_with fail
      refine H.out.mono ?_
      rintro e w1 ⟨rfl, rfl⟩
      go_wp2_with fail
      go_ret2
      exact ⟨rfl, rfl⟩
    · have h3 : (s.size : Int) - a < n := by omega
      have h4 : ¬ (n : Int) < 2 := by omega
      clear hb h2
      go_enter Try.func70, Try.ntmps70
      go_wp2_with fail
      refine H.out.mono ?_
      rintro e w1 ⟨rfl, rfl⟩
      go_wp2_with fail
      go_ret2
      exact ⟨rfl, rfl⟩
  · have e := getW_no2 s ((a : Int) + 1) 1 (by omega)
    rw [e] at G
    have H := Lib.hid G
    clear G e hb
    go_enter Try.func70, Try.ntmps70
    go_wp2_with fail
    refine H.out.mono ?_
    rintro e w1 ⟨rfl, rfl⟩
    go_wp2_with fail
    go_ret2
    exact ⟨rfl, rfl⟩

set_option maxHeartbeats 2000000 in
theorem optionAt_yes (s : ByteArray) (a : Nat) (w : World) (hs : s.size ≤ 1048576) (ha : a < s.size) (hb : ¬ optBad s a) :
    Calls Try.prog 70 #[.string s, .int .i64 a] w fun e w' => e = .returned (.tuple #[.string (s.extract a (a + (at8 s (a + 1)).toNat)), .bool true]) ∧ w = w' := by
  have G := getWordI s ((a : Int) + 1) 1 w hs (by omega)
  unfold optBad at hb
  have e := getW_yes s (a + 1) 1 (by omega) (by omega)
  have e1 : (((a + 1 : Nat) : Int)) = (a : Int) + 1 := by omega
  rw [e1] at e
  have e2 : ((1 : Nat) : Int) = 1 := rfl
  rw [e2] at e
  rw [e, gw1] at G
  have H := Lib.hid G
  generalize (at8 s (a + 1)).toNat = n at H hb ⊢
  clear G e e1 e2
  have h3 : ¬ (s.size : Int) - a < n := by omega
  have h4 : ¬ (n : Int) < 2 := by omega
  have h5 : a + n ≤ s.size := by omega
  clear hb
  go_enter Try.func70, Try.ntmps70
  go_wp2_with fail
  refine H.out.mono ?_
  rintro e w1 ⟨rfl, rfl⟩
  go_wp2_with fail
  go_ret2
  exact ⟨rfl, rfl⟩





set_option maxRecDepth 100000 in
set_option maxHeartbeats 4000000 in
theorem withOption_mss (m c : Int) (k t : Bool) (v e : Int) (x : ByteArray) (w : World) (hs : x.size = 4) (h0 : x.extract 0 2 = ⟨#[2, 4]⟩) :
    Calls Try.prog 71 #[.agg #[.int .i64 m, .int .i64 c, .bool k, .bool t, .int .i64 v, .int .i64 e], .string x] w fun e' w' => e' = .returned (.agg #[.int .i64 (gw x 2 2 : Nat), .int .i64 c, .bool k, .bool t, .int .i64 v, .int .i64 e]) ∧ Below w.heap.size w w' := by
  have h2 : 2 ≤ x.size := by omega
  have G2 := Lib.hid (fun w => get3I x 2 2 w (by omega) (by omega) (by omega))
  generalize gw x 2 2 = y at G2 ⊢
  clear hs
  go_enter Try.func71, Try.ntmps71
  go_wp2_with fail
  refine (G2.out _).mono ?_
  rintro e' w1 ⟨rfl, rfl⟩
  go_wp2_with fail
  exact bodyPost_ret (v := .agg #[.int .i64 (y : Nat), .int .i64 c, .bool k, .bool t, .int .i64 v, .int .i64 e]) (by simp [results, Try.results71, go_sem]) rfl ⟨rfl, ((Below.refl _ _).alloc (Nat.le_refl _) _).alloc (by simp) _⟩

set_option maxRecDepth 100000 in
set_option maxHeartbeats 4000000 in
theorem withOption_scale (m c : Int) (k t : Bool) (v e : Int) (x : ByteArray) (w : World) (hs : x.size = 3) (h0 : x.extract 0 2 = ⟨#[3, 3]⟩) :
    Calls Try.prog 71 #[.agg #[.int .i64 m, .int .i64 c, .bool k, .bool t, .int .i64 v, .int .i64 e], .string x] w fun e' w' => e' = .returned (.agg #[.int .i64 m, .int .i64 (min (at8 x 2).toNat 14 : Nat), .bool k, .bool t, .int .i64 v, .int .i64 e]) ∧ Below w.heap.size w w' := by
  have h2 : 2 ≤ x.size := by omega
  have G2 := Lib.hid (fun w => get3I x 2 1 w (by omega) (by omega) (by omega))
  rw [gw1] at G2
  generalize (at8 x 2).toNat = y at G2 ⊢
  clear hs
  obtain ⟨z, hz⟩ : ∃ z : Nat, min y 14 = z := ⟨_, rfl⟩
  rw [hz]
  have Z := Lib.hid hz
  by_cases hm : y ≤ 14
  · obtain rfl : y = z := by omega
    have hmin : min (y : Int) 14 = y := by omega
    clear hz Z
    have H := Lib.hid hmin
    clear hmin
    go_enter Try.func71, Try.ntmps71
    go_wp2_with fail
    refine (G2.out _).mono ?_
    rintro e' w1 ⟨rfl, rfl⟩
    go_wp2_with fail
    exact bodyPost_ret (v := .agg #[.int .i64 m, .int .i64 (y : Nat), .bool k, .bool t, .int .i64 v, .int .i64 e]) (by simp [results, Try.results71, go_sem, H.out]) rfl ⟨rfl, ((Below.refl _ _).alloc (Nat.le_refl _) _).alloc (by simp) _⟩
  · obtain rfl : z = 14 := by omega
    have hmin : min (y : Int) 14 = 14 := by omega
    clear hz Z
    have H := Lib.hid hmin
    clear hmin
    go_enter Try.func71, Try.ntmps71
    go_wp2_with fail
    refine (G2.out _).mono ?_
    rintro e' w1 ⟨rfl, rfl⟩
    go_wp2_with fail
    exact bodyPost_ret (v := .agg #[.int .i64 m, .int .i64 14, .bool k, .bool t, .int .i64 v, .int .i64 e]) (by simp [results, Try.results71, go_sem, H.out]) rfl ⟨rfl, ((Below.refl _ _).alloc (Nat.le_refl _) _).alloc (by simp) _⟩

set_option maxRecDepth 100000 in
set_option maxHeartbeats 4000000 in
theorem withOption_sack (m c : Int) (k t : Bool) (v e : Int) (x : ByteArray) (w : World) (hs : 2 ≤ x.size) (h0 : x.extract 0 2 = ⟨#[4, 2]⟩) :
    Calls Try.prog 71 #[.agg #[.int .i64 m, .int .i64 c, .bool k, .bool t, .int .i64 v, .int .i64 e], .string x] w fun e' w' => e' = .returned (.agg #[.int .i64 m, .int .i64 c, .bool true, .bool t, .int .i64 v, .int .i64 e]) ∧ Below w.heap.size w w' := by
  go_enter Try.func71, Try.ntmps71
  go_wp2_with fail
  exact bodyPost_ret (v := .agg #[.int .i64 m, .int .i64 c, .bool true, .bool t, .int .i64 v, .int .i64 e]) (by simp [results, Try.results71, go_sem]) rfl ⟨rfl, ((Below.refl _ _).alloc (Nat.le_refl _) _).alloc (by simp) _⟩

set_option maxRecDepth 100000 in
set_option maxHeartbeats 4000000 in
theorem withOption_stamp (m c : Int) (k t : Bool) (v e : Int) (x : ByteArray) (w : World) (hs : x.size = 10) (h0 : x.extract 0 2 = ⟨#[8, 10]⟩) :
    Calls Try.prog 71 #[.agg #[.int .i64 m, .int .i64 c, .bool k, .bool t, .int .i64 v, .int .i64 e], .string x] w fun e' w' => e' = .returned (.agg #[.int .i64 m, .int .i64 c, .bool k, .bool true, .int .i64 (gw x 2 4 : Nat), .int .i64 (gw x 6 4 : Nat)]) ∧ Below w.heap.size w w' := by
  have h2 : 2 ≤ x.size := by omega
  have G2 := Lib.hid (fun w => get3I x 2 4 w (by omega) (by omega) (by omega))
  have G6 := Lib.hid (fun w => get3I x 6 4 w (by omega) (by omega) (by omega))
  generalize gw x 2 4 = y at G2 ⊢
  generalize gw x 6 4 = z at G6 ⊢
  clear hs
  go_enter Try.func71, Try.ntmps71
  go_wp2_with fail
  refine (G2.out _).mono ?_
  rintro e' w1 ⟨rfl, rfl⟩
  go_wp2_with fail
  refine (G6.out _).mono ?_
  rintro e' w1 ⟨rfl, rfl⟩
  go_wp2_with fail
  exact bodyPost_ret (v := .agg #[.int .i64 m, .int .i64 c, .bool k, .bool true, .int .i64 (y : Nat), .int .i64 (z : Nat)]) (by simp [results, Try.results71, go_sem]) rfl ⟨rfl, ((Below.refl _ _).alloc (Nat.le_refl _) _).alloc (by simp) _⟩

set_option maxRecDepth 100000 in
set_option maxHeartbeats 4000000 in
theorem withOption_none (m c : Int) (k t : Bool) (v e : Int) (x : ByteArray) (w : World) (hs : 2 ≤ x.size) (h1 : ¬ x.extract 0 2 = ⟨#[2, 4]⟩) (h2 : ¬ x.extract 0 2 = ⟨#[3, 3]⟩) (h3 : ¬ x.extract 0 2 = ⟨#[4, 2]⟩) (h4 : ¬ x.extract 0 2 = ⟨#[8, 10]⟩) :
    Calls Try.prog 71 #[.agg #[.int .i64 m, .int .i64 c, .bool k, .bool t, .int .i64 v, .int .i64 e], .string x] w fun e' w' => e' = .returned (.agg #[.int .i64 m, .int .i64 c, .bool k, .bool t, .int .i64 v, .int .i64 e]) ∧ Below w.heap.size w w' := by
  have e1 := ba_ne h1
  have e2 := ba_ne h2
  have e3 := ba_ne h3
  have e4 := ba_ne h4
  have sp : ∀ a b : UInt8, (⟨#[a, b]⟩ : ByteArray).toList = [a, b] := fun a b => by rw [ByteArray.toList_eq]
  rw [sp] at e1 e2 e3 e4
  clear sp h1 h2 h3 h4
  go_enter Try.func71, Try.ntmps71
  go_wp2_with fail
  exact bodyPost_ret (v := .agg #[.int .i64 m, .int .i64 c, .bool k, .bool t, .int .i64 v, .int .i64 e]) (by simp [results, Try.results71, go_sem]) rfl ⟨rfl, ((Below.refl _ _).alloc (Nat.le_refl _) _).alloc (by simp) _⟩
theorem withOptionI (m c : Int) (k t : Bool) (v e : Int) (x : ByteArray) (w : World) (h2 : 2 ≤ x.size) (hx : (at8 x 1).toNat = x.size) :
    Calls Try.prog 71 #[.agg #[.int .i64 m, .int .i64 c, .bool k, .bool t, .int .i64 v, .int .i64 e], .string x] w fun e' w' => e' = .returned (.agg (optLay ⟨m, c, k, t, v, e⟩ x).cs) ∧ Below w.heap.size w w' := by
  have hh := head2 x h2
  by_cases a1 : (at8 x 0).toNat = 2 ∧ x.size = 4
  · refine (withOption_mss m c k t v e x w a1.2 (head_is hh a1.1 (hx.trans a1.2))).mono ?_
    rintro e' w' ⟨rfl, hb⟩
    exact ⟨by unfold optLay; rw [if_pos a1]; rfl, hb⟩
  by_cases a2 : (at8 x 0).toNat = 3 ∧ x.size = 3
  · refine (withOption_scale m c k t v e x w a2.2 (head_is hh a2.1 (hx.trans a2.2))).mono ?_
    rintro e' w' ⟨rfl, hb⟩
    exact ⟨by unfold optLay; rw [if_neg a1, if_pos a2]; rfl, hb⟩
  by_cases a3 : (at8 x 0).toNat = 4 ∧ x.size = 2
  · refine (withOption_sack m c k t v e x w h2 (head_is hh a3.1 (hx.trans a3.2))).mono ?_
    rintro e' w' ⟨rfl, hb⟩
    exact ⟨by unfold optLay; rw [if_neg a1, if_neg a2, if_pos a3]; rfl, hb⟩
  by_cases a4 : (at8 x 0).toNat = 8 ∧ x.size = 10
  · refine (withOption_stamp m c k t v e x w a4.2 (head_is hh a4.1 (hx.trans a4.2))).mono ?_
    rintro e' w' ⟨rfl, hb⟩
    exact ⟨by unfold optLay; rw [if_neg a1, if_neg a2, if_neg a3, if_pos a4]; rfl, hb⟩
  · refine (withOption_none m c k t v e x w h2 (head_not hh hx a1) (head_not hh hx a2) (head_not hh hx a3) (head_not hh hx a4)).mono ?_
    rintro e' w' ⟨rfl, hb⟩
    exact ⟨by unfold optLay; rw [if_neg a1, if_neg a2, if_neg a3, if_neg a4]; rfl, hb⟩
end Go.Proofs.Ytlfbcfhekfmkfaa
