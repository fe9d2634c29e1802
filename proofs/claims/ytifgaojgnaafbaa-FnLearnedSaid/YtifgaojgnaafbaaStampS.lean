/- spec.StampOf and spec.StampIn. Nothing here is a claim. -/
import Derived.Test.YtifgaojgnaafbaaStampR
import Derived.Test.YtifgaojgnaafbaaSeqA
import Derived.Test.YtifgaojgnaafbaaL1In
namespace Go.Proofs.Ytifgaojgnaafbaa
open Go.RowKit Go.Lib

/-- A call that hands back v and leaves what lay before it. -/
def EndV (v : Value) (w : World) (e : Ending) (w' : World) : Prop := e = .returned v ∧ Below w.heap.size w w'
theorem same_below {w w' : World} (h : w = w') : Below w.heap.size w w' := h ▸ Below.refl _ _
theorem hasScaleB (c : Int) (w : World) : Calls Try.prog 32 #[.int .i64 c] w fun e w' => e = .returned (.bool (decide (0 ≤ c ∧ c ≤ 14))) ∧ Below w.heap.size w w' :=
  (hasScaleI c w).mono fun _ _ ⟨a, b⟩ => ⟨a, same_below b⟩
theorem l1In_B (x lo hi : Int) (w : World) : Calls Try.prog 34 #[.int .i64 x, .int .i64 lo, .int .i64 hi] w fun e w' => e = .returned (.bool (decide (lo ≤ x ∧ x ≤ hi))) ∧ Below w.heap.size w w' :=
  (l1In_any x lo hi w).mono fun _ _ ⟨a, b⟩ => ⟨a, same_below b⟩

set_option maxHeartbeats 2000000 in
theorem stampOfS (clock scale : Int) (sack : Bool) (w : World) : Calls Try.prog 12 #[.int .i64 clock, .int .i64 scale, .bool sack] w fun e w' => e = .returned (.int .i64 (stampOf clock scale sack)) ∧ Below w.heap.size w w' := by
  have C := Lib.hid (l1In_any scale 0 14)
  have hp := pl_bd clock
  have hP := Lib.hid (show pl clock = clock % 4294967296 from rfl)
  have R := Lib.hid (restS clock)
  generalize pl clock = p at hp hP R
  obtain ⟨p0, p1⟩ := hp
  by_cases h : 0 ≤ scale ∧ scale ≤ 14
  · rw [decide_eq_true h] at C
    obtain ⟨h0, h1⟩ := h
    cases sack with
    | true =>
      have D := Lib.hid (show ∀ n : Int, n = p * 64 + (32 + 16 + scale) → pl n = stampOf clock scale true by intro n hn; unfold pl stampOf; rw [if_pos rfl, if_pos (show 0 ≤ scale ∧ scale ≤ 14 from ⟨h0, h1⟩)]; have := hP.out; omega)
      generalize stampOf clock scale true = z at D ⊢
      go_enter Try.func12, Try.ntmps12
      go_wp2_with fail
      refine (C.out _).mono ?_
      rintro e w1 ⟨rfl, rfl⟩
      go_wp2_with fail
      refine (R.out _).mono ?_
      rintro e w1 ⟨rfl, rfl⟩
      go_wp2_with fail
      refine (restS _ _).mono ?_
      rintro e w1 ⟨rfl, rfl⟩
      go_wp2_with fail
      go_ret
      exact ⟨ret_int (D.out _ (by omega)), Below.refl _ _⟩
    | false =>
      have D := Lib.hid (show ∀ n : Int, n = p * 64 + (32 + scale) → pl n = stampOf clock scale false by intro n hn; unfold pl stampOf; rw [if_neg Bool.false_ne_true, if_pos (show 0 ≤ scale ∧ scale ≤ 14 from ⟨h0, h1⟩)]; have := hP.out; omega)
      generalize stampOf clock scale false = z at D ⊢
      go_enter Try.func12, Try.ntmps12
      go_wp2_with fail
      refine (C.out _).mono ?_
      rintro e w1 ⟨rfl, rfl⟩
      go_wp2_with fail
      refine (R.out _).mono ?_
      rintro e w1 ⟨rfl, rfl⟩
      go_wp2_with fail
      refine (restS _ _).mono ?_
      rintro e w1 ⟨rfl, rfl⟩
      go_wp2_with fail
      go_ret
      exact ⟨ret_int (D.out _ (by omega)), Below.refl _ _⟩
  · rw [decide_eq_false h] at C
    cases sack with
    | true =>
      have D := Lib.hid (show ∀ n : Int, n = p * 64 + (32 + 16 + 15) → pl n = stampOf clock scale true by intro n hn; unfold pl stampOf; rw [if_pos rfl, if_neg h]; have := hP.out; omega)
      clear h
      generalize stampOf clock scale true = z at D ⊢
      go_enter Try.func12, Try.ntmps12
      go_wp2_with fail
      refine (C.out _).mono ?_
      rintro e w1 ⟨rfl, rfl⟩
      go_wp2_with fail
      refine (R.out _).mono ?_
      rintro e w1 ⟨rfl, rfl⟩
      go_wp2_with fail
      refine (restS _ _).mono ?_
      rintro e w1 ⟨rfl, rfl⟩
      go_wp2_with fail
      go_ret
      exact ⟨ret_int (D.out _ (by omega)), Below.refl _ _⟩
    | false =>
      have D := Lib.hid (show ∀ n : Int, n = p * 64 + (32 + 15) → pl n = stampOf clock scale false by intro n hn; unfold pl stampOf; rw [if_neg Bool.false_ne_true, if_neg h]; have := hP.out; omega)
      clear h
      generalize stampOf clock scale false = z at D ⊢
      go_enter Try.func12, Try.ntmps12
      go_wp2_with fail
      refine (C.out _).mono ?_
      rintro e w1 ⟨rfl, rfl⟩
      go_wp2_with fail
      refine (R.out _).mono ?_
      rintro e w1 ⟨rfl, rfl⟩
      go_wp2_with fail
      refine (restS _ _).mono ?_
      rintro e w1 ⟨rfl, rfl⟩
      go_wp2_with fail
      go_ret
      exact ⟨ret_int (D.out _ (by omega)), Below.refl _ _⟩

set_option maxHeartbeats 2000000 in
theorem stampInS (v : Int) (w : World) : Calls Try.prog 16 #[.int .i64 v] w fun e w' => e = .returned (stampAns v) ∧ Below w.heap.size w w' := by
  have C := Lib.hid (wordOkS v 32)
  obtain ⟨z, hz⟩ : ∃ z : Value, stampAns v = z := ⟨_, rfl⟩
  rw [hz]
  cases hk : wordOk v 32 with
  | false =>
    rw [hk] at C
    have hz := Lib.hid (hz.symm.trans (stampAns_no (by unfold stampIs; rw [hk]; rfl)))
    clear hk
    go_enter Try.func16, Try.ntmps16
    go_wp2_with fail
    refine (C.out _).mono ?_
    rintro e w1 ⟨rfl, rfl⟩
    go_wp2_with fail
    exact bodyPost_ret (v := .tuple #[.int .i64 (-1), .bool false, .bool false]) (by simp [results, Try.results16, go_sem]) rfl ⟨(congrArg Ending.returned hz.out).symm, Below.refl _ _⟩
  | true =>
    rw [hk] at C
    have hb : 0 ≤ v ∧ v ≤ 4294967295 := by
      have h2 := hk
      unfold wordOk at h2
      rw [decide_eq_true_iff] at h2
      simp at h2
      omega
    obtain ⟨v0, v1⟩ := hb
    have A5 := and_bit32 v v0 v1
    have A4 := and_bit16 v v0 v1
    have hm : v.tmod 16 = v % 16 := Int.tmod_eq_emod_of_nonneg v0
    have ht2 : v / 32 % 2 = 0 ∨ v / 32 % 2 = 1 := by omega
    have hs2 : v / 16 % 2 = 0 ∨ v / 16 % 2 = 1 := by omega
    rcases ht2 with ht | ht
    · have hz := Lib.hid (hz.symm.trans (stampAns_no (by unfold stampIs; rw [hk, decide_eq_false (by omega)]; rfl)))
      rw [ht] at A5
      clear hk hs2 A4 ht hm
      go_enter Try.func16, Try.ntmps16
      go_wp2_with fail
      refine (C.out _).mono ?_
      rintro e w1 ⟨rfl, rfl⟩
      go_wp2_with fail
      exact bodyPost_ret (v := .tuple #[.int .i64 (-1), .bool false, .bool false]) (by simp [results, Try.results16, go_sem]) rfl ⟨(congrArg Ending.returned hz.out).symm, Below.refl _ _⟩
    · have hz := hz.symm.trans (stampAns_yes (by unfold stampIs; rw [hk, decide_eq_true ht]; rfl))
      rw [ht] at A5
      clear hk ht
      rcases hs2 with hs | hs
      all_goals rw [hs] at A4
      all_goals rw [show stampSack v = _ from by unfold stampSack; rw [hs]] at hz
      all_goals clear hs
      all_goals by_cases h15 : v % 16 = 15
      · have hz := Lib.hid (hz.trans (by rw [show stampScale v = -1 from if_pos h15]))
        rw [h15] at hm
        clear h15
        go_enter Try.func16, Try.ntmps16
        go_wp2_with fail
        refine (C.out _).mono ?_
        rintro e w1 ⟨rfl, rfl⟩
        go_wp2_with fail
        exact bodyPost_ret (v := .tuple #[.int .i64 (-1), .bool false, .bool true]) (by simp [results, Try.results16, go_sem]) rfl ⟨(congrArg Ending.returned hz.out).symm, Below.refl _ _⟩
      · have hz := Lib.hid (hz.trans (by rw [show stampScale v = v % 16 from if_neg h15]))
        generalize v % 16 = a at hm hz h15
        have h15' : (a == 15) = false := by simp [h15]
        clear h15
        go_enter Try.func16, Try.ntmps16
        go_wp2_with fail
        refine (C.out _).mono ?_
        rintro e w1 ⟨rfl, rfl⟩
        go_wp2_with fail
        exact bodyPost_ret (v := .tuple #[.int .i64 a, .bool false, .bool true]) (by simp [results, Try.results16, go_sem]) rfl ⟨(congrArg Ending.returned hz.out).symm, Below.refl _ _⟩
      · have hz := Lib.hid (hz.trans (by rw [show stampScale v = -1 from if_pos h15]))
        rw [h15] at hm
        clear h15
        go_enter Try.func16, Try.ntmps16
        go_wp2_with fail
        refine (C.out _).mono ?_
        rintro e w1 ⟨rfl, rfl⟩
        go_wp2_with fail
        exact bodyPost_ret (v := .tuple #[.int .i64 (-1), .bool true, .bool true]) (by simp [results, Try.results16, go_sem]) rfl ⟨(congrArg Ending.returned hz.out).symm, Below.refl _ _⟩
      · have hz := Lib.hid (hz.trans (by rw [show stampScale v = v % 16 from if_neg h15]))
        generalize v % 16 = a at hm hz h15
        have h15' : (a == 15) = false := by simp [h15]
        clear h15
        go_enter Try.func16, Try.ntmps16
        go_wp2_with fail
        refine (C.out _).mono ?_
        rintro e w1 ⟨rfl, rfl⟩
        go_wp2_with fail
        exact bodyPost_ret (v := .tuple #[.int .i64 a, .bool true, .bool true]) (by simp [results, Try.results16, go_sem]) rfl ⟨(congrArg Ending.returned hz.out).symm, Below.refl _ _⟩
end Go.Proofs.Ytifgaojgnaafbaa
