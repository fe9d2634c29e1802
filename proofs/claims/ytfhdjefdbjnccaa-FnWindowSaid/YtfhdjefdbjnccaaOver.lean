/- Chapter 4, both Overlaps. -/
import Derived.Test.YtfhdjefdbjnccaaSeq
namespace Go.Proofs.Ytfhdjefdbjnccaa
open Go.RowKit Go.Lib

/-- What Overlaps answers. -/
def ov (x n f s : Int) : Bool := decide (1 ≤ n ∧ 1 ≤ s) && (inW x f s || inW f x (min n 65536))
theorem inW_iff (x f s : Int) : inW x f s = true ↔ (x - f) % 4294967296 < s := by unfold inW pl; exact decide_eq_true_iff
theorem inW_not (x f s : Int) : inW x f s = false ↔ ¬ (x - f) % 4294967296 < s := by unfold inW pl; exact decide_eq_false_iff_not
theorem inW_pl (x f s : Int) : inW (pl x) f s = inW x f s := by
  unfold inW pl; rw [show (x % 4294967296 - f) % 4294967296 = (x - f) % 4294967296 by omega]
theorem ov_true (x n f s i : Int) (h0 : 0 ≤ i) (h1 : i < n) (h2 : i < 65536) (h : inW (pl (x + i)) f s = true) : ov x n f s = true := by
  rw [inW_pl] at h
  unfold ov
  rw [inW_iff] at h
  simp only [inW_iff, Bool.and_eq_true, Bool.or_eq_true, decide_eq_true_eq]
  omega
theorem ov_false (x n f s : Int) (h : ∀ i, 0 ≤ i → i < n → i < 65536 → inW (pl (x + i)) f s = false) : ov x n f s = false := by
  cases e : ov x n f s with
  | false => rfl
  | true =>
    exfalso
    unfold ov at e
    simp only [inW_iff, Bool.and_eq_true, Bool.or_eq_true, decide_eq_true_eq] at e
    obtain ⟨⟨hn, hs⟩, e⟩ := e
    rcases e with e | e
    · have h := h 0 (by omega) (by omega) (by omega)
      rw [inW_pl] at h
      rw [inW_not] at h
      rw [show x + 0 - f = x - f by omega] at h
      omega
    · have h := h ((f - x) % 4294967296) (by omega) (by omega) (by omega)
      rw [inW_pl] at h
      rw [inW_not] at h
      omega
theorem ov_next (x f s k : Int) (h0 : 0 ≤ k) (h1 : k < 65536) : ov x (k + 1) f s = (ov x k f s || inW (pl (x + k)) f s) := by
  cases e : ov x k f s with
  | true =>
    cases e2 : ov x (k + 1) f s with
    | true => rfl
    | false =>
      exfalso
      have : ov x k f s = false := ov_false x k f s fun i i0 i1 i2 => by
        cases e3 : inW (pl (x + i)) f s with
        | false => rfl
        | true => rw [ov_true x (k + 1) f s i i0 (by omega) i2 e3] at e2; cases e2
      rw [this] at e; cases e
  | false =>
    cases e2 : inW (pl (x + k)) f s with
    | true => exact ov_true x (k + 1) f s k h0 (by omega) h1 e2
    | false =>
      refine ov_false x (k + 1) f s fun i i0 i1 i2 => ?_
      by_cases hi : i = k
      · subst hi; exact e2
      · cases e3 : inW (pl (x + i)) f s with
        | false => rfl
        | true => rw [ov_true x k f s i i0 (by omega) i2 e3] at e; cases e
theorem ov_none (x n f s : Int) (h : n ≤ 0) : ov x n f s = false := by unfold ov; rw [decide_eq_false (by omega)]; rfl

set_option maxHeartbeats 400000 in
theorem overI (x n f s : Int) (w : World) : Calls Try.prog 24 #[.int .i64 x, .int .i64 n, .int .i64 f, .int .i64 s] w fun e w' => e = .returned (.bool (ov x n f s)) ∧ w = w' := by
  by_cases hn : n < 1
  · rw [ov_none x n f s (by omega)]
    go_enter Try.func24, Try.ntmps24
    go_wp2_with fail
    go_ret
    exact ⟨rfl, rfl⟩
  by_cases hs : s < 1
  · rw [show ov x n f s = false by unfold ov; rw [decide_eq_false (by omega)]; rfl]
    go_enter Try.func24, Try.ntmps24
    go_wp2_with fail
    go_ret
    exact ⟨rfl, rfl⟩
  rw [show ov x n f s = (inW x f s || inW f x (min n 65536)) by unfold ov; rw [decide_eq_true (by omega), Bool.true_and]]
  have C := Lib.hid (inWindowI x f s)
  cases hx : inW x f s with
  | true =>
    rw [hx] at C
    rw [Bool.true_or]
    clear hx
    go_enter Try.func24, Try.ntmps24
    go_wp2_with fail
    refine (C.out w).mono ?_
    rintro e w1 ⟨rfl, rfl⟩
    go_wp2_with fail
    go_ret
    exact ⟨rfl, rfl⟩
  | false =>
    rw [hx] at C
    rw [Bool.false_or]
    clear hx
    go_enter Try.func24, Try.ntmps24
    go_wp2_with fail
    refine (C.out w).mono ?_
    rintro e w1 ⟨rfl, rfl⟩
    go_wp2_with fail
    refine (inWindowI _ _ _ w).mono ?_
    rintro e w1 ⟨rfl, rfl⟩
    go_wp2_with fail
    go_ret
    exact ⟨rfl, rfl⟩

set_option maxRecDepth 100000 in
set_option maxHeartbeats 400000 in
theorem overS (x n f s : Int) (w : World) : Calls Try.prog 25 #[.int .i64 x, .int .i64 n, .int .i64 f, .int .i64 s] w fun e w' => e = .returned (.bool (ov x n f s)) ∧ w = w' := by
  go_enter Try.func25, Try.ntmps25
  go_wp2_with fail
  go_loop [9] (fun i => ∃ k : Nat, (k : Int) ≤ 65536 ∧ i = .int .i64 k ∧ Hid (∀ i : Int, 0 ≤ i → i < k → inW (pl (x + i)) f s = false)) (fun i => 65536 - (RowKit.intOf i).toNat)
  case atStart => exact ⟨0, by decide, rfl, Lib.hid fun i h0 h1 => by omega⟩
  case round =>
    obtain ⟨k, hk, rfl, hq⟩ := hrel
    by_cases hlt : (k : Int) < n ∧ (k : Int) < 65536
    · obtain ⟨h1, h2⟩ := hlt
      go_wp2_with fail
      refine (seqAddS _ _ _).mono ?_
      rintro e w1 ⟨rfl, rfl⟩
      have C := Lib.hid (inWindowS (pl (x + k)) f s)
      go_wp2_with fail
      cases hx : inW (pl (x + k)) f s with
      | true =>
        have E := Lib.hid (ov_true x n f s k (by omega) h1 (by omega) hx)
        rw [hx] at C
        clear hx
        refine (C.out _).mono ?_
        rintro e w1 ⟨rfl, rfl⟩
        go_wp2_with fail
        go_ret
        rw [E.out]
        exact ⟨rfl, rfl⟩
      | false =>
        rw [hx] at C
        have Q : Hid (∀ i : Int, 0 ≤ i → i < ((k + 1 : Nat) : Int) → inW (pl (x + i)) f s = false) := Lib.hid fun i h0 h1 => by
          by_cases hi : i = k
          · subst hi; exact hx
          · exact hq.out i h0 (by omega)
        clear hx hq
        refine (C.out _).mono ?_
        rintro e w1 ⟨rfl, rfl⟩
        go_wp2_with fail
        go_round
        case rel => exact ⟨k + 1, by omega, by go_num, Q⟩
        case measure => simp [RowKit.intOf]; omega
    · have E : Hid (ov x n f s = false) := Lib.hid (ov_false x n f s fun i h0 h1 h2 => hq.out i h0 (by omega))
      clear hq
      by_cases h1 : (k : Int) < n
      · have h2 : ¬ (k : Int) < 65536 := fun h => hlt ⟨h1, h⟩
        clear hlt
        go_wp2_with fail
        go_ret
        rw [E.out]
        exact ⟨rfl, rfl⟩
      · clear hlt
        go_wp2_with fail
        go_ret
        rw [E.out]
        exact ⟨rfl, rfl⟩
end Go.Proofs.Ytfhdjefdbjnccaa
