/- impl.PutWord -/
import Derived.Test.YtkkimgjcefojdaaWordA
import Derived.Test.YtkkimgjcefojdaaKit
namespace Go.Proofs.Ytkkimgjcefojdaa
open Go.RowKit Go.Lib

set_option maxHeartbeats 400000 in
theorem putWordI (n s : Int) (w : World) :
    Calls Try.prog 41 #[.int .i64 n, .int .i64 s] w fun e w' => e = .returned (.string (putW n s)) ∧ Below w.heap.size w w' := by
  obtain ⟨i0, hi, hz0, hz1, hz2⟩ := info_parts Try.info5
  by_cases h : 1 ≤ s ∧ s ≤ 6
  · have C1 := Lib.hid (fun w => (sizeOkI s w).mono fun _ _ ⟨a, b⟩ => (⟨a.trans (ret_bool (decide_eq_true h)), b⟩ : _ = Ending.returned (.bool true) ∧ w = _))
    obtain ⟨c, hc⟩ : ∃ c, wordOk n (8 * s) = c := ⟨_, rfl⟩
    have C2 := Lib.hid (fun w => wordOkI n (8 * s) w)
    rw [hc] at C2
    cases c with
    | false =>
      rw [putW_ok n s h hc]
      clear hc
      obtain ⟨h1, h2⟩ := h
      go_enter Try.func41, Try.ntmps41
      go_wp2_with fail
      refine (C1.out _).mono ?_
      rintro e w1 ⟨rfl, rfl⟩
      go_wp2_with fail
      refine (C2.out _).mono ?_
      rintro e w1 ⟨rfl, rfl⟩
      go_wp2_with fail
      go_ret
      exact ⟨rfl, Below.refl _ _⟩
    | true =>
      rw [putW_yes n s h hc]
      have hn : 0 ≤ n := (of_decide_eq_true hc).2.1
      clear hc
      obtain ⟨h1, h2⟩ := h
      obtain ⟨m, rfl⟩ : ∃ m : Nat, n = (m : Int) := ⟨n.toNat, by omega⟩
      obtain ⟨k, rfl⟩ : ∃ k : Nat, s = (k : Int) := ⟨s.toNat, by omega⟩
      simp only [Int.toNat_natCast]
      go_enter Try.func41, Try.ntmps41
      go_wp2_with fail
      refine (C1.out _).mono ?_
      rintro e w1 ⟨rfl, rfl⟩
      go_wp2_with fail
      refine (C2.out _).mono ?_
      rintro e w1 ⟨rfl, rfl⟩
      go_wp2_with (at_make; refine wpList_make_full _ rfl _ _ _ rfl w.heap.size 5 i0 _ 1 Try.underlying68 hi hz0 hz1 _ _ _ _ k rfl rfl rfl rfl (by rw [hz2]; omega) (by unfold maxLen; omega) (Nat.le_refl _) ?_; intro w1 hown hgrow)
      go_loopw [20] (fun i wr => ∃ (j : Nat) (xs : List Value), j ≤ k ∧ i = .int .i64 j ∧ Fill xs m k (· < j) ∧ wr.ownsRow w.heap.size 5 1 (.slice (some ⟨w.heap.size, 0, none⟩) k k) k xs ∧ Below w.heap.size w wr)
        (fun i _ => k - (RowKit.intOf i).toNat)
      case atStart => exact ⟨0, _, Nat.zero_le _, rfl, Fill.made m k _ _ (fun _ _ h => by omega), hown, below_made hgrow⟩
      case round =>
        clear hown hgrow
        obtain ⟨j, xs, hj, rfl, hf, hown, hb⟩ := hrel
        by_cases hlt : j < k
        · have hfz := hown.frozenAt j
          obtain ⟨v, hv⟩ := hf.at j hlt
          have hcell := (hown.cellAt j (by omega)).trans hv
          have hmin : min (8 * ((k : Int) - 1 - j)).toNat 64 = 8 * (k - 1 - j) := by omega
          have F := Lib.hid hf
          have O := Lib.hid hown
          have B := Lib.hid hb
          clear hf hown hb hv
          go_wp2_with fail
          go_roundw
          case rel => exact ⟨j + 1, _, by omega, by go_num, F.out.set (put_shift' m k j) hlt (fun i hi => by omega), (O.out.stored j _).1, B.out.setCell (p := ⟨w.heap.size, j, none⟩) (Nat.le_refl _) _⟩
          case measure => simp [RowKit.intOf]; omega
        · obtain rfl := hf.all (fun i hi => by omega)
          have hcv := run_string_own (P := Try.prog) Try.underlying68 Try.underlying5 Try.underlying9 hown
          clear hf
          go_wp2_with fail
          go_ret
          exact ⟨rfl, hb⟩
  · rw [putW_no n s h]
    have C1 := Lib.hid (fun w => (sizeOkI s w).mono fun _ _ ⟨a, b⟩ => (⟨a.trans (ret_bool (decide_eq_false h)), b⟩ : _ = Ending.returned (.bool false) ∧ w = _))
    clear h
    go_enter Try.func41, Try.ntmps41
    go_wp2_with fail
    refine (C1.out _).mono ?_
    rintro e w1 ⟨rfl, rfl⟩
    go_wp2_with fail
    go_ret
    exact ⟨rfl, Below.refl _ _⟩
end Go.Proofs.Ytkkimgjcefojdaa
