/- spec.PutWord -/
import Derived.Test.YtkkimgjcefojdaaWordA
import Derived.Test.YtkkimgjcefojdaaKit
namespace Go.Proofs.Ytkkimgjcefojdaa
open Go.RowKit Go.Lib

set_option maxHeartbeats 400000 in
theorem putWordS (n s : Int) (w : World) :
    Calls Try.prog 36 #[.int .i64 n, .int .i64 s] w fun e w' => e = .returned (.string (putW n s)) ∧ Below w.heap.size w w' := by
  obtain ⟨i0, hi, hz0, hz1, hz2⟩ := info_parts Try.info5
  by_cases h : 1 ≤ s ∧ s ≤ 6
  · have C1 := Lib.hid (fun w => (l1In_any s 1 6 w).mono fun _ _ ⟨a, b⟩ => (⟨a.trans (ret_bool (decide_eq_true h)), b⟩ : _ = Ending.returned (.bool true) ∧ w = _))
    obtain ⟨c, hc⟩ : ∃ c, wordOk n (8 * s) = c := ⟨_, rfl⟩
    have C2 := Lib.hid (fun w => wordOkS n (8 * s) w)
    rw [hc] at C2
    cases c with
    | false =>
      rw [putW_ok n s h hc]
      clear hc
      obtain ⟨h1, h2⟩ := h
      go_enter Try.func36, Try.ntmps36
      go_wp2_with fail
      refine (C1.out _).mono ?_
      rintro e w1 ⟨rfl, rfl⟩
      go_wp2_with fail
      refine (C2.out _).mono ?_
      rintro e w1 ⟨rfl, rfl⟩
      go_wp2_with fail
      go_ret
      exact ⟨rfl, Below.refl _ _⟩
    | true =>
      rw [putW_yes n s h hc]
      obtain ⟨hn, hn2⟩ := wordOk_bd hc
      clear hc
      obtain ⟨h1, h2⟩ := h
      obtain ⟨m, rfl⟩ : ∃ m : Nat, n = (m : Int) := ⟨n.toNat, by omega⟩
      obtain ⟨k, rfl⟩ : ∃ k : Nat, s = (k : Int) := ⟨s.toNat, by omega⟩
      simp only [Int.toNat_natCast]
      go_enter Try.func36, Try.ntmps36
      go_wp2_with fail
      refine (C1.out _).mono ?_
      rintro e w1 ⟨rfl, rfl⟩
      go_wp2_with fail
      refine (C2.out _).mono ?_
      rintro e w1 ⟨rfl, rfl⟩
      go_wp2_with (at_make; refine wpList_make_full _ rfl _ _ _ rfl w.heap.size 5 i0 _ 1 Try.underlying68 hi hz0 hz1 _ _ _ _ k rfl rfl rfl rfl (by rw [hz2]; omega) (by unfold maxLen; omega) (Nat.le_refl _) ?_; intro w1 hown hgrow)
      go_loopw [0, 6] (fun n i wr => ∃ (q : Nat) (xs : List Value), n = .int .i64 q ∧ q ≤ m ∧ wr.ownsRow w.heap.size 5 1 (.slice (some ⟨w.heap.size, 0, none⟩) k k) k xs ∧ Below w.heap.size w wr ∧
          ((∃ j : Nat, j < k ∧ i = .int .i64 j ∧ Hid (q = m / 256 ^ (k - 1 - j)) ∧ Fill xs m k (j < ·)) ∨ (i = .int .i64 (-1) ∧ Fill xs m k (fun _ => True))))
        (fun _ i _ => (RowKit.intOf i + 1).toNat)
      case atStart => exact ⟨m, _, rfl, Nat.le_refl _, hown, below_made hgrow, .inl ⟨k - 1, by omega, by go_num, by show m = _; simp, Fill.made m k _ _ (fun _ _ h => by omega)⟩⟩
      case round =>
        clear hown hgrow
        obtain ⟨q, xs, rfl, hq, hown, hb, (⟨j, hlt, rfl, hqj, hf⟩ | ⟨rfl, hf⟩)⟩ := hrel
        · have hfz := hown.frozenAt j
          obtain ⟨v, hv⟩ := hf.at j hlt
          have hcell := (hown.cellAt j (by omega)).trans hv
          have F := Lib.hid hf
          have O := Lib.hid hown
          have B := Lib.hid hb
          clear hf hown hb hv
          go_wp2_with fail
          go_roundw
          case rel =>
            refine ⟨q / 256, _, by go_num, by omega, (O.out.stored j _).1, B.out.setCell (p := ⟨w.heap.size, j, none⟩) (Nat.le_refl _) _, ?_⟩
            have hx : (q : Int) % 256 = ((wbAt m k j).toNat : Int) := by rw [hqj.out]; exact put_rem m k j
            cases j with
            | zero => exact .inr ⟨rfl, F.out.set hx hlt (fun i _ => by omega)⟩
            | succ i => exact .inl ⟨i, by omega, by go_num, by show q / 256 = _; rw [hqj.out]; exact put_next m k i hlt, F.out.set hx hlt (fun i hi => by omega)⟩
          case measure => simp [RowKit.intOf]
        · obtain rfl := hf.all (fun i hi => trivial)
          have hcv := run_string_own (P := Try.prog) Try.underlying68 Try.underlying5 Try.underlying9 hown
          clear hf
          go_wp2_with fail
          go_ret
          exact ⟨rfl, hb⟩
  · rw [putW_no n s h]
    have C1 := Lib.hid (fun w => (l1In_any s 1 6 w).mono fun _ _ ⟨a, b⟩ => (⟨a.trans (ret_bool (decide_eq_false h)), b⟩ : _ = Ending.returned (.bool false) ∧ w = _))
    clear h
    go_enter Try.func36, Try.ntmps36
    go_wp2_with fail
    refine (C1.out _).mono ?_
    rintro e w1 ⟨rfl, rfl⟩
    go_wp2_with fail
    go_ret
    exact ⟨rfl, Below.refl _ _⟩
end Go.Proofs.Ytkkimgjcefojdaa
